import PyProof.Rows.All
import Wide.All
import OpenK.AllK
import Wide.FinOn
import HandS.ForMost
import HandS.Flow
import HandS.OwnEq
import HandS.More
import HandS.DictComp
import HandS.List
import KE.KEqDict
import KE.KDictKeyed
import KE.KRevSl
import PyProof.InstNe
import HandS.IsInst
import HandS.SortRule
import HandS.Property
import HandS.ClsMeth
import HandS.Star
import HandS.Codes
import HandS.Strs
import HandS.SetFor
import HandS.RaiseMore
import HandS.Wide
import HandS.Style
import HandS.Walk
import HandS.Zip
import HandS.TupAny
import HandS.Conv
import PySem.Challenge.RW_wearswings_k08_whole_changes_decide_cycl
set_option Elab.async false
set_option linter.all false
set_option maxRecDepth 100000
set_option maxHeartbeats 16000000
/-! set(xs) of a list of ints, with the order's ledger kept (for sorted behind it) -/
namespace KS
open PySem PySem.Spec PyProof.Rows L2
abbrev leer (w : World) : Obj := { cls := .type "set", dict := none, data := .set #[] 0 (.fresh 0 0 (!w.params.followText "set-order")) }
section
variable {P : Program} {w : World} {A : Around} {E : Value → Shared → Prop} {s : Shared}
/-- what stands behind set's own __init__ -/
abbrev Made (w : World) (s : Shared) (ns : List Int) (Q : Shared → Prop) : Prop :=
  ∀ (g : Heap) (tk c : Nat), SetR w g s.heap.objs.size (fun j => decide (j ∈ ns)) c → c ≤ ns.length → (∀ b o, s.heap.get? b = some o → g.get? b = some o) → Q { s with heap := g, toks := tk }
set_option maxHeartbeats 6400000 in
theorem set_lst {l : Addr} {its : Array Value} (ns : List Int) {Q : Value → Shared → Prop} (hh : A.handled = none) (hl : s.heap.IsList l its) (hit : IntsAre its.toList ns) (hb : ns.length + 1 < scanBound)
    (h : Made w s ns (Q (.ref s.heap.objs.size))) : wpAny (model P w) A (call (.type "set") [.ref l]) Q E s := by
  have hn : its.size = ns.length := by
    rw [← Array.length_toList]; exact IntsAre.length hit
  obtain ⟨c0, t0, hm⟩ := F.called_set.mro
  have k1 := F.called_set.made; have k2 := F.called_set.sub; have k3 := F.called_set.notType; have k4 := F.called_set.canCreate; have k5 := F.typeCall_set_1 (.ref l)
  refine wpAny_call (codeAny_of_tree (show wpAny _ _ (callAny (.type "set") _) _ _ _ from ?_))
  have uu : A.under (.builtin "type.__call__" ⟨[.type "set", .ref l], []⟩) = A.in1 := Around.under_plain (weight_type_call_type "set" [.ref l] []) rfl
  refine wpAny_pure ⟨Code.quiet_builtin _ (by decide +kernel), codeAny_builtin F.entry_type_call ?_⟩
  rw [show A.under (.builtin "type.__call__" { ({ pos := [Value.ref l] } : Args) with pos := .type "set" :: [Value.ref l] }) = A.in1 from uu]
  repeat (any_goals (first | assumption | wp_step))
  have hs0 : (s.heap.push (leer w)).get? s.heap.objs.size = some (leer w) := Heap.get?_push_size _ rfl
  refine codeAny_mono (code_set_led1 (.ref l) (E := E) (Q₁ := fun x s1 => x = .ref s.heap.objs.size ∧ s1 = { s with heap := s.heap.push (leer w) }) ⟨rfl, rfl⟩) fun r1 s1 e1 => ?_
  match r1, e1 with
  | .error _, e1 => exact e1
  | .ok (.next), e1 => exact e1.elim
  | .ok (.brk), e1 => exact e1.elim
  | .ok (.cont), e1 => exact e1.elim
  | .ok (.ret x), e1 =>
    obtain ⟨rfl, rfl⟩ := e1
    have hT : Shared.TypeIs { s with heap := s.heap.push (leer w) } (.ref s.heap.objs.size) "set" := ⟨_, hs0, rfl⟩
    have j1 := F.called_set.init.lookup; have j2 := F.called_set.init.bind (.ref s.heap.objs.size)
    repeat (any_goals (first | assumption | wp_step))
    refine codeAny_mono (codeAny_call_builtin (R := wants (fun v s2 => v = .none ∧ ∃ g tk c, s2 = { s with heap := g, toks := tk } ∧ SetR w g s.heap.objs.size (fun j => decide (j ∈ ns)) c ∧ c ≤ ns.length ∧ ∀ b o, s.heap.get? b = some o → g.get? b = some o) E)
      F.called_set.init.plain F.entry_set_init (check_set_init_1 hT ?_)) fun r2 s2 e2 => ?_
    · obtain ⟨ol, a1, a2, nl, a3⟩ := hl
      obtain ⟨xc, xd, xt, xs⟩ := ol
      simp only at a2 a3
      subst a2 a3
      have a4 : (s.heap.push (leer w)).get? l = some { cls := .type "list", dict := xd, data := .seq its nl, slots := xs } := Heap.get?_push_of_some _ a1
      have b1 := F.sub_list_set; have b2 := F.sub_list_frozenset; have b3 : (Value.type "list" == Value.type "dict") = false := by decide
      have a5 : (s.heap.push (leer w)).IsList l its := ⟨_, a4, rfl, nl, rfl⟩
      unfold Builtin.«set.__init__» noKeywords Builtin.Frozenset.updateFrom
      generalize hPI : pyIter = PI
      wp_walk
      subst hPI
      refine wpAny_pyIter_list a5 (wpAny_bind (wpAny_runValue ?_))
      have lt := Heap.lt_size a1
      have sz : (s.heap.push (leer w)).objs.size = s.heap.objs.size + 1 := Heap.size_push ..
      have d1 : l ≠ (s.heap.push (leer w)).objs.size := by rw [sz]; exact Nat.ne_of_lt (Nat.lt_succ_of_lt lt)
      have d2 : s.heap.objs.size ∉ [(s.heap.push (leer w)).objs.size, l] := by
        rw [sz]; intro z; rcases List.mem_cons.mp z with z | z
        · exact absurd z (Nat.ne_of_lt (Nat.lt_succ_self _))
        · exact absurd (List.mem_singleton.mp z) (Nat.ne_of_gt lt)
      have vl : ∀ i v, its[i]? = some v → ∃ (k : Int) (t : Tok), ns[i]? = some k ∧ v = Value.int k t := fun i v e => by
        have hi : i < ns.length := by rw [← hn]; exact (Array.getElem?_eq_some_iff.mp e).1
        obtain ⟨t, et⟩ := IntsAre.int_at hit i v (by rw [Array.getElem?_toList]; exact e)
        exact ⟨ns[i], t, List.getElem?_eq_getElem hi, by rw [et, List.getD_eq_getElem?_getD, List.getElem?_eq_getElem hi]; rfl⟩
      have hq : A.in1.in1.in1.handled = none := by simp [hh]
      refine set_update_ints ((Walks.list hq _ l d1 its).toS) s.heap.objs.size d2 ns hn hb vl (its.size - 0) 0 _ (by omega) (Nat.zero_le _) ⟨⟨_, Heap.get?_push_size _ rfl, rfl, rfl⟩, a5.push _⟩
        ⟨0, Nat.le_refl 0, setR_new_at (Heap.get?_push_of_some _ hs0)⟩ fun s3 c3 mv hc3 R3 => ?_
      obtain ⟨g3, gg, dd, tk3, oo⟩ := s3
      obtain rfl : gg = s.gens := mv.gens
      obtain rfl : dd = s.drawn := mv.drawn
      obtain rfl : oo = s.os := mv.os
      refine (show wpAny _ _ _ _ _ _ from wpAny_pure (show wpAny _ _ (ret Value.none) _ _ _ from wpAny_pure ⟨rfl, g3, tk3, c3, rfl, R3, by omega, fun b o e => ?_⟩))
      have hb0 := Heap.lt_size e
      exact mv.heap b o (by rw [sz]; intro z; rcases List.mem_cons.mp z with z | z
                            · exact absurd z (Nat.ne_of_lt hb0)
                            · exact absurd (List.mem_singleton.mp z) (Nat.ne_of_lt (Nat.lt_succ_of_lt hb0))) (Heap.get?_push_of_some _ (Heap.get?_push_of_some _ e))
    · match r2, e2 with
      | .error _, e2 => exact e2
      | .ok (.next), e2 => exact e2.elim
      | .ok (.brk), e2 => exact e2.elim
      | .ok (.cont), e2 => exact e2.elim
      | .ok (.ret y), e2 =>
        obtain ⟨rfl, g, tk, c, rfl, R2, hc, hk⟩ := e2
        repeat (any_goals (first | assumption | wp_step))
        exact h _ _ _ R2 hc hk
end
section
variable {X : Cx}
/-- set(xs) of a list of ints -/
def rSetL (w : World) (K : PySem.W.Frag) : List V → Hp → VK → Prop := fun vs H Q => ∃ (a : Addr) (ns : List Int), vs = [V.ref a] ∧ SqL K H a (ns.map V.int) ∧ ns.length ≤ 1000 ∧
  ∀ (p : Addr) (c : Nat), H p = none → c ≤ ns.length → Q (.ref p) (upd H p (SetO w p (fun j => decide (j ∈ ns)) c))
theorem cr_setL (hc : X.calm = true) : CallR X (.type "set") (rSetL X.w X.K) := by
  intro pins s σ H vs us Q I r h
  obtain ⟨a, ns, rfl, hS, hlen, q⟩ := h
  rw [Vals.ref1 r]
  obtain ⟨its, rv, pl, hz⟩ := I.list hS
  refine set_lst ns (I.ok.hd hc) pl.isList (by simpa using ints_of_vals rv) (by unfold scanBound; omega) fun g tk c R hcn k => ?_
  exact ⟨.ref _, _, I.laid (t' := tk) k (Nat.le_refl _) (setO_new R), rfl, q _ c (I.hok.fresh (Nat.le_refl _)) hcn⟩
end
end KS

/-! repr(xs) of a list of ints; a law's def whose body knows that no repr is under way -/
namespace KG
open PySem PySem.Spec PyProof.Rows L2
/-! ### the text of a list of ints -/
def datL (ns : List Int) : PyData := .list (ns.map PyData.int)
def reprL (ns : List Int) : Str := (datL ns).shown
theorem small_log {i : Int} {k : Nat} (h0 : 0 < k) (h : i.natAbs < 2 ^ k) : i.natAbs.log2 < k := PySem.Flt.log2_lt_of h0 h
theorem show_all : ∀ (ns : List Int), (∀ n ∈ ns, n.natAbs < 2 ^ 40) → PyData.showableAll (ns.map PyData.int) = true
  | [], _ => rfl
  | a :: r, h => by
    have h1 : a.natAbs.log2 < 1920 := Nat.lt_of_lt_of_le (small_log (by decide) (h a List.mem_cons_self)) (by decide)
    have h2 := show_all r fun n hn => h n (List.mem_cons_of_mem _ hn)
    simp only [List.map_cons, PyData.showableAll, PyData.showable, h2, h1, decide_true, Bool.and_self]
theorem nodict_all : ∀ (ns : List Int), PyData.hasDictAll (ns.map PyData.int) = false
  | [] => rfl
  | a :: r => by simp only [List.map_cons, PyData.hasDictAll, PyData.hasDict, nodict_all r, Bool.or_self]
theorem depth_all : ∀ (ns : List Int), PyData.depthAll (ns.map PyData.int) ≤ 1
  | [] => Nat.zero_le _
  | a :: r => by
    have := depth_all r
    simp only [List.map_cons, PyData.depthAll, PyData.depth]
    omega
theorem leaves_all : ∀ (ns : List Int), (∀ n ∈ ns, n.natAbs < 10 ^ 12) → PyData.leavesShortAll 13 (ns.map PyData.int) = true
  | [], _ => rfl
  | a :: r, h => by
    have h2 := leaves_all r fun n hn => h n (List.mem_cons_of_mem _ hn)
    have h1 : (PyData.shown (.int a)).length ≤ 13 := by
      have := PySem.int_text_length_le10 (a := a) (k := 12) (by decide) (h a List.mem_cons_self)
      have e : (PyData.shown (.int a)).length = (toString a).length := by
        simp only [PyData.shown]
        exact PySem.ofString_length _
      omega
    simp only [List.map_cons, PyData.leavesShortAll, PyData.leavesShort, h2, Bool.and_true, decide_eq_true_eq]
    exact h1
theorem weight_all : ∀ (ns : List Int), (∀ n ∈ ns, n.natAbs < 2 ^ 39) → PyData.weightAll (ns.map PyData.int) ≤ 60 * ns.length
  | [], _ => Nat.le_refl _
  | a :: r, h => by
    have h1 := weight_all r fun n hn => h n (List.mem_cons_of_mem _ hn)
    have h2 : a.natAbs.log2 < 39 := small_log (by decide) (h a List.mem_cons_self)
    simp only [List.map_cons, PyData.weightAll, PyData.weight, List.length_cons]
    split <;> omega
theorem repr_fits {ns : List Int} (h : ∀ n ∈ ns, n.natAbs < 2 ^ 39) (hl : ns.length ≤ 2000) : (reprL ns).length ≤ sizeLine := by
  refine PyData.shown_fits (B := 13) (by decide) (by decide) ?_ ?_
  · show PyData.leavesShort 13 (.list _) = true
    simp only [PyData.leavesShort, leaves_all ns fun n hn => Nat.lt_trans (h n hn) (by decide)]
  · show PyData.weight (.list _) ≤ _
    have := weight_all ns h
    simp only [PyData.weight]
    omega
theorem reads_all {h : Heap} : ∀ {us : List Value} {ns : List Int}, IntsAre us ns → ReadsAll h us (ns.map PyData.int) []
  | _, _, .nil => .nil
  | _, _, .cons n t r => by
    have z := ReadsAll.cons (Reads.int (h := h) n t) (reads_all r)
    exact z
section
variable {X : Cx}
/-- repr(xs) of a list of ints, while no repr is under way -/
def rReprL (K : PySem.W.Frag) : List V → Hp → VK → Prop := fun vs H Q => ∃ (a : Addr) (ns : List Int), vs = [V.ref a] ∧ SqL K H a (ns.map V.int) ∧ (∀ n ∈ ns, n.natAbs < 2 ^ 39) ∧ ns.length ≤ 2000 ∧ Q (.str (reprL ns)) H
theorem cr_reprL (hg : X.A.guards = some []) (hu : X.A.units + 100 < cLine) : CallR X (.builtin "repr") (rReprL X.K) := by
  intro pins s σ H vs us Q I r h
  obtain ⟨a, ns, rfl, hS, hb, hl, q⟩ := h
  rw [Vals.ref1 r]
  obtain ⟨its, rv, ⟨o, n, ho, hc, hdn, hd⟩, hz⟩ := I.list hS
  have rd : Reads s.heap (.ref a) (datL ns) [a] := .list ho hc hd (reads_all (by simpa using ints_of_vals rv))
  refine repr_of_reads' rd (by show PyData.showable (.list _) = true; simp only [PyData.showable]; exact show_all ns fun m hm => Nat.lt_trans (hb m hm) (by decide)) (PyData.noDict_hsm (by show PyData.hasDict (.list _) = false; simp only [PyData.hasDict]; exact nodict_all ns)) hg
    (by have := depth_all ns; show X.A.units + (PyData.depth (.list _) + 1) < cLine; simp only [PyData.depth]; omega) (fun _ _ e => e) (fun g u tk k => ?_) (repr_fits hb hl)
  exact ⟨.str (reprL ns), H, I.kept k, ⟨u, rfl⟩, q⟩
end
end KG

/-! the def of the law itself, called where no repr is under way -/
namespace KW
open PySem PySem.Spec PyProof.Rows L2
/-- the def at f keeps sp where it is called with no repr under way -/
def Kept (P : Program) (w : World) (K : PySem.W.Frag) (mg : Str → Option Value) (base : Heap) (k : Nat) (f : Addr) (fd : FuncData) (ps : List Str) (sp : Sp) : Prop :=
  ∀ (A : Around) (outer : List Env) (s : Shared) (H : Hp) (args : Args) (us : List Value) (vs : List V) (Q : VK) (E : XK), A.guards = some [] → Room k A → Env0 P w K mg base A outer s H →
    BindsTo s fd args (ps.zip us) → Vals vs us → sp vs H Q E → codeAny (model P w) A (.call (.ref f) args) (CR CX0 outer P w H s Q E) s
section
variable {P : Program} {w : World} {K : PySem.W.Frag} {mg : Str → Option Value} {base : Heap}
theorem kept_of {x qual : Str} {st : Stmt} {f : Addr} {fd : FuncData} {N ps : List Str} {k : Nat} {sp : Sp} (F : Fun K x qual st f fd) (S : FnScope N ps (defScope st)) (len : ∀ vs H Q E, sp vs H Q E → vs.length = ps.length)
    (hb : ∀ (cdv : Value) (A : Around) (outer : List Env) (s : Shared) (H : Hp) (vs : List V) (Q : VK) (E : XK), A.guards = some [] → Room k (A.deeper (envOfC qual (defScope st) s.heap.objs.size f cdv)) → sp vs H Q E →
      ∃ t, PSs (cxOf CX0 P w K mg base N qual (defScope st) f cdv A outer s H E).nox (defBody st) t ∧ t { nx := fun _ H' => Q .non H', rt := Q } (start N vs) H) : Kept P w K mg base (k + 1) f fd ps sp := by
  obtain ⟨oc, od, kV, doc, pm, an, cdv, ct, osl, e1, lk, hcd⟩ := F.ex
  subst e1
  intro A outer s H args us vs Q E hg hr e0 bnd r hsp
  obtain ⟨t, d, q⟩ := hb cdv A outer s H vs Q E hg (hr.deeper _) hsp
  have lv := len _ _ _ _ hsp
  have kin : K.In s.heap := e0.mod.kin.keeps fun b o e => (e0.bs b o e).1
  have kd : ∀ y ∈ ps.zip us, (defScope st).names.lookup y.1 = some .local ∨ ((defScope st).names.lookup y.1 = some .cell ∧ ((cellsFrom (s.heap.objs.size + 1) (defScope st).names []).lookup y.1).isSome = true) := by
    rintro ⟨n, v⟩ hy
    exact (S.par n (List.of_mem_zip hy).1).imp id fun z => ⟨z, PySem.W.cellsFrom_some _ _ _ (.inl z)⟩
  refine codeAny_call_function hr.depth (kin _ _ lk) rfl S.co S.gen rfl (PySem.W.codeRec_of kin hcd) (bnd _ _ _ _ (wpAny_newFunctionEnv_cells S.kind kd fun env he s1 x1 => ?_))
  subst he
  refine ⟨(e0.mod.nolimit.keeps fun b o e => (e0.bs b o e).1).keeps x1.toInCall.keep, codeAny_func (wpAny_mono (d.nox.run [] s1 (start N vs) H _ (inv_start S hr.hd e0 lv r x1) q) (fun fl s2 z => ?_) fun _ _ z => z)⟩
  match fl, z with
  | .ret u, ⟨v, σ2, H2, J, rv, q2⟩ => exact ⟨v, H2, J.os, J.bare, J.base, J.hok, rv, q2⟩
  | .next, ⟨σ2, H2, J, q2⟩ => exact ⟨V.non, H2, J.os, J.bare, J.base, J.hok, rfl, q2⟩
  | .brk, ⟨_, _, _, q2⟩ => exact q2.elim
  | .cont, ⟨_, _, _, q2⟩ => exact q2.elim
/-- the heap that tracks the script alone, or nothing where it is the text's own -/
def hpOf (K : PySem.W.Frag) (a : Addr) (o : Obj) (xs : List V) : Hp := fun b => if b = a ∧ K.lookup a = none then some (.frz o (.lst xs)) else none
theorem hpOf_some {K : PySem.W.Frag} {a b : Addr} {o : Obj} {xs : List V} {u : HO} (e : hpOf K a o xs b = some u) : b = a ∧ K.lookup a = none ∧ u = .frz o (.lst xs) := by
  unfold hpOf at e
  split at e
  · rename_i z
    exact ⟨z.1, z.2, (Option.some.inj e).symm⟩
  · cases e
theorem run_law {mb : Str → Option Value} {k : Nat} {fa a : Addr} {fd : FuncData} {x : Str} {sp : Sp} {s1 : Shared} {vs : List Value} {ns : List Int}
    (kin : K.In s1.heap) (h1 : s1.heap.Ns mainGlobals mg) (h2 : s1.heap.Ns builtinsNs mb) (h3 : ∀ y : Str, y ≠ "__name__" → mb y = bootBuiltins y) (h4 : s1.heap.NoLimit) (h5 : s1.gens = #[])
    (ha : s1.heap.get? a = some { cls := .type "list", data := .seq vs.toArray }) (hi : IntsAre vs ns) (hl : ns.length ≤ sizeLine) (hr : Room k callerA)
    (F : ∀ bs : Heap, K.In bs → bs.Ns mainGlobals mg → Kept P w K mg bs k fa fd [x] sp) (hbd : ∀ (s : Shared) (u : Value), BindsTo s fd ⟨[u], []⟩ [(x, u)])
    (hsp : ∀ H : Hp, Only H → SqL K H a (ns.map V.int) → sp [.ref a] H (fun v _ => v = .bl true) fun _ _ _ => False) :
    codeAny (model P w) callerA (.call (.ref fa) ⟨[.ref a], []⟩) (fun r s' => r = .ok (.ret (.bool true)) ∧ OldK s1.heap s'.heap ∧ s'.os = s1.os ∧ AllBare s'.gens) s1 := by
  have rv := vals_ints hi
  let ob : Obj := { cls := .type "list", data := .seq vs.toArray }
  generalize hH : hpOf K a ob (ns.map V.int) = H
  have hsome : ∀ {b u}, H b = some u → b = a ∧ K.lookup a = none ∧ u = .frz ob (.lst (ns.map V.int)) := fun {b u} e => hpOf_some (by rw [hH]; exact e)
  have hO : Only H := fun b => by
    cases e : H b with
    | none => exact .inl rfl
    | some u => exact .inr ⟨_, _, by rw [(hsome e).2.2]⟩
  have hS : SqL K H a (ns.map V.int) := by
    cases e : K.lookup a with
    | none => exact .inl (.inr ⟨ob, by rw [← hH]; exact if_pos ⟨rfl, e⟩⟩)
    | some o =>
      have e2 := kin a o e
      rw [ha] at e2
      cases e2
      exact .inr ⟨_, vs.toArray, _, e, rfl, rfl, rfl, by rw [List.size_toArray, hi.length]; exact hl, by simpa using rv⟩
  have hok : HOk P w H s1.heap := fun b u e => by
    obtain ⟨rfl, _, rfl⟩ := hsome e
    exact ⟨ha, by rw [List.length_map]; exact hl, vs, _, rv, ha⟩
  have free : ∀ {b : Addr} {o : Obj} {es : Array DictEntry} {ep : Nat}, s1.heap.get? b = some o → o.data = .dict es ep → H b = none := fun {b o es ep} e d => by
    cases z : H b with
    | none => rfl
    | some u =>
      obtain ⟨rfl, _, _⟩ := hsome z
      rw [ha] at e
      cases e
      cases d
  have toB : ∀ {b : Addr} {m : Str → Option Value}, s1.heap.Ns b m → (hidT s1.heap H).Ns b m := fun {b m} ⟨o, es, ep, e, d, r⟩ => ⟨o, es, ep, hidT_get e (free e d), d, r⟩
  have kB : K.In (hidT s1.heap H) := fun b o e => hidT_get (kin b o e) (by
    cases z : H b with
    | none => rfl
    | some u =>
      obtain ⟨rfl, z2, _⟩ := hsome z
      rw [z2] at e
      cases e)
  obtain ⟨mc, m1, m2⟩ := h4
  have e0 : Env0 P w K mg (hidT s1.heap H) callerA [] s1 H := ⟨rfl, ⟨kB, toB h1, ⟨mb, toB h2, h3⟩, ⟨mc, toB m1, m2⟩⟩, fun b o e => of_hidT e, Nat.le_of_eq (hidT_size _ _), trivial, fun b hb => (List.not_mem_nil (show b ∈ ([] : List Addr) from hb)).elim, hok, .of_eq h5⟩
  refine codeAny_mono (F _ kB (toB h1) callerA [] s1 H ⟨[.ref a], []⟩ [.ref a] [.ref a] _ _ rfl hr e0 (hbd s1 (.ref a)) (.cons rfl .nil) (hsp H hO hS)) fun r s2 z => ?_
  match r, z with
  | .error _, z => exact z.elim
  | .ok .next, z => exact z.elim
  | .ok .brk, z => exact z.elim
  | .ok .cont, z => exact z.elim
  | .ok (.ret u), ⟨v, H2, os, bare, un, hok2, rr, q⟩ =>
    have q2 : v = .bl true := q
    subst q2
    obtain rfl : u = Value.bool true := rr
    refine ⟨rfl, OldK.of_keep fun b o e => ?_, os, bare⟩
    cases z : H b with
    | none => exact un.keep b o e z (fun m => (List.not_mem_nil (show b ∈ ([] : List Addr) from m)).elim) (by simp)
    | some u =>
      obtain ⟨_, _, rfl⟩ := hsome z
      have t1 := (hok b _ z).1
      have t2 := (hok2 b _ (un.frzs b ob _ z)).1
      rw [e] at t1
      rw [t2, ← t1]
/-- the end: the law's promise over the written part alone -/
theorem walk_kept {l : PySem.W.OpenLaw} {n k : Nat} {q : Program} {loose : List Str} {XP : (Str → Option Value) → Heap → Prop} {YP : World → Heap → Prop} {d : DefRec} {KK : Params → PySem.W.Frag} {sp : PySem.W.Frag → Sp} {x : Str}
    (hn : l.most = some n) (hn2 : n ≤ sizeLine) (hdf : d.params.defaults = []) (hr : Room k callerA) (hY : ∀ (w : World) (h : Heap), YP w h → (KK w.params).In h)
    (F : ∀ (w : World) (mg : Str → Option Value) (fa : Addr) (h : Heap), (KK w.params).In h → h.Ns mainGlobals mg → mg d.name = some (.ref fa) →
      ∃ fd : FuncData, (∀ (s : Shared) (u : Value), BindsTo s fd ⟨[u], []⟩ [(x, u)]) ∧ ∀ bs : Heap, (KK w.params).In bs → bs.Ns mainGlobals mg → Kept l.prog w (KK w.params) mg bs k fa fd [x] (sp (KK w.params)))
    (hsp : ∀ (K : PySem.W.Frag) (H : Hp) (a : Addr) (ns : List Int), ns.length ≤ n → Only H → SqL K H a (ns.map V.int) → sp K [.ref a] H (fun v _ => v = .bl true) fun _ _ _ => False) :
    PySem.W.WalkO q loose XP YP l.row.toRowW d [] (fun f vs => PySem.call f vs) := by
  refine Att.attach_call hn hdf fun w s0 s1 mg mb fa o pm cd doc a vs ns G Y ho hd hcd hmg hobj hints hlen hg => ?_
  obtain ⟨fd, hb, hF⟩ := F w mg fa _ (hY w _ Y) G.T.g hmg
  exact run_law (hY w _ Y) G.T.g G.T.b G.T.builtins G.T.nolimit hg hobj hints (Nat.le_trans hlen hn2) hr hF hb fun H hO hS => hsp (KK w.params) H a ns hlen hO hS
end
end KW

/-! changes of a load, as mathematics -/
namespace KM
/-- how often a letter differs from the one before, the first of all being a -/
def cf : Bool → List Bool → Nat
  | _, [] => 0
  | a, b :: r => (if a = b then 0 else 1) + cf b r
def cnt : List Bool → Nat
  | [] => 0
  | a :: r => cf a r
def cfO : Option Bool → List Bool → Nat
  | none, l => cnt l
  | some a, l => cf a l
/-- the letter of a reading: true for L -/
def lett (lo hi : Int) (r : Int) : Option Bool := if r ≤ lo then some true else if hi ≤ r then some false else none
def lets (lo hi : Int) (ns : List Int) : List Bool := ns.filterMap (lett lo hi)
def chg (ns : List Int) (lo hi : Int) : Nat := cnt (lets lo hi ns)
theorem cf_tri (a b : Bool) : ∀ l : List Bool, cf a l ≤ (if a = b then 0 else 1) + cf b l
  | [] => Nat.zero_le _
  | c :: r => by
    simp only [cf]
    cases a <;> cases b <;> cases c <;> simp <;> omega
theorem cf_mono : ∀ {l m : List Bool}, l.Sublist m → ∀ a, cf a l ≤ cf a m := by
  intro l m h
  induction h with
  | slnil => intro a; exact Nat.le_refl _
  | @cons l m b h ih =>
    intro a
    have h1 := cf_tri a b l
    have h2 := ih b
    simp only [cf]
    omega
  | @cons_cons l m b h ih =>
    intro a
    have h2 := ih b
    simp only [cf]
    omega
theorem cnt_mono : ∀ {l m : List Bool}, l.Sublist m → cnt l ≤ cnt m := by
  intro l m h
  induction h with
  | slnil => exact Nat.le_refl _
  | @cons l m b h ih =>
    cases m with
    | nil =>
      cases h
      exact Nat.le_refl _
    | cons d r =>
      show cnt l ≤ (if b = d then 0 else 1) + cf d r
      have : cnt (d :: r) = cf d r := rfl
      omega
  | @cons_cons l m b h ih => exact cf_mono h b
theorem lets_sub {lo hi lo2 hi2 : Int} (h1 : lo ≤ lo2) (h2 : hi2 ≤ hi) (h3 : lo2 < hi2) : ∀ ns : List Int, (lets lo hi ns).Sublist (lets lo2 hi2 ns)
  | [] => .slnil
  | r :: t => by
    have ih := lets_sub h1 h2 h3 t
    have key : lett lo hi r = none ∨ lett lo hi r = lett lo2 hi2 r := by
      unfold lett
      by_cases a : r ≤ lo
      · right
        rw [if_pos a, if_pos (by omega)]
      · rw [if_neg a]
        by_cases b : hi ≤ r
        · right
          rw [if_pos b, if_neg (by omega), if_pos (by omega)]
        · left
          rw [if_neg b]
    show ((r :: t).filterMap (lett lo hi)).Sublist ((r :: t).filterMap (lett lo2 hi2))
    rw [List.filterMap_cons, List.filterMap_cons]
    rcases key with e | e
    · rw [e]
      dsimp only
      cases lett lo2 hi2 r with
      | none => exact ih
      | some b => exact .cons _ ih
    · rw [← e]
      cases lett lo hi r with
      | none => exact ih
      | some b => exact .cons_cons _ ih
theorem chg_range {lo hi lo2 hi2 : Int} (h1 : lo ≤ lo2) (h2 : hi2 ≤ hi) (h3 : lo2 < hi2) (ns : List Int) : chg ns lo hi ≤ chg ns lo2 hi2 := cnt_mono (lets_sub h1 h2 h3 ns)
theorem chg_sub {l m : List Int} (h : l.Sublist m) (lo hi : Int) : chg l lo hi ≤ chg m lo hi := cnt_mono (h.filterMap _)
theorem chg_put (ns : List Int) (k : Nat) (v lo hi : Int) : chg ns lo hi ≤ chg (ns.take k ++ [v] ++ ns.drop k) lo hi := by
  refine chg_sub ?_ lo hi
  have e : ns = ns.take k ++ ns.drop k := (List.take_append_drop k ns).symm
  have h1 : (ns.take k).Sublist (ns.take k ++ [v]) := List.sublist_append_left _ _
  have h2 := h1.append (List.Sublist.refl (ns.drop k))
  rw [List.take_append_drop] at h2
  exact h2
theorem lets_drop {lo hi : Int} {ns : List Int} {i : Nat} {r : Int} (h : ns[i]? = some r) : lets lo hi (ns.drop i) = (match lett lo hi r with | none => lets lo hi (ns.drop (i + 1)) | some b => b :: lets lo hi (ns.drop (i + 1))) := by
  obtain ⟨h1, h2⟩ := List.getElem?_eq_some_iff.mp h
  rw [List.drop_eq_getElem_cons h1, h2]
  unfold lets
  rw [List.filterMap_cons]
  cases lett lo hi r <;> rfl
theorem lets_take {lo hi : Int} {ns : List Int} {i : Nat} {r : Int} (h : ns[i]? = some r) : lets lo hi (ns.take (i + 1)) = (match lett lo hi r with | none => lets lo hi (ns.take i) | some b => lets lo hi (ns.take i) ++ [b]) := by
  rw [List.take_add_one, h]
  unfold lets
  rw [List.filterMap_append]
  show _ ++ List.filterMap _ [r] = _
  rw [List.filterMap_cons]
  cases lett lo hi r with
  | none => simp
  | some b => rfl
theorem lets_len (lo hi : Int) (ns : List Int) : (lets lo hi ns).length ≤ ns.length := List.length_filterMap_le _ _
/-- the number of turns of a zip with itself, one on, whose two differ -/
theorem cnt_drop {l : List Bool} {i : Nat} {a b : Bool} (h1 : l[i]? = some a) (h2 : l[i + 1]? = some b) : cnt (l.drop i) = (if a = b then 0 else 1) + cnt (l.drop (i + 1)) := by
  obtain ⟨k1, e1⟩ := List.getElem?_eq_some_iff.mp h1
  obtain ⟨k2, e2⟩ := List.getElem?_eq_some_iff.mp h2
  rw [List.drop_eq_getElem_cons k1, e1, List.drop_eq_getElem_cons k2, e2]
  rfl
theorem cnt_end {l : List Bool} {i : Nat} (h : l.length ≤ i + 1) : cnt (l.drop i) = 0 := by
  have : (l.drop i).length ≤ 1 := by rw [List.length_drop]; omega
  match l.drop i, this with
  | [], _ => rfl
  | [_], _ => rfl
end KM

/-! turning points, as mathematics: the stack's way and the law's way -/
namespace PM
/-- r lies between its neighbours b and a -/
abbrev Btw (r b a : Int) : Prop := (b < r ∧ r < a) ∨ (a < r ∧ r < b)
/-- the stack's way from b, a (a on top) on -/
def tq : Int → Int → List Int → List Int
  | _, a, [] => [a]
  | b, a, r :: l => if a = r then tq b a l else if Btw a b r then tq b r l else a :: tq a r l
def ts : Int → List Int → List Int
  | a, [] => [a]
  | a, r :: l => if a = r then ts a l else a :: tq a r l
def tp : List Int → List Int
  | [] => []
  | x :: l => ts x l
/-- repeated readings once -/
def ddf : Int → List Int → List Int
  | _, [] => []
  | p, x :: l => if x = p then ddf p l else x :: ddf x l
def dd : List Int → List Int
  | [] => []
  | x :: l => x :: ddf x l
/-- the law's way, over readings that differ from their neighbours -/
def lq : Int → Int → List Int → List Int
  | _, c, [] => [c]
  | p, c, d :: l => if (decide (c > p) = decide (c > d)) then c :: lq c d l else lq c d l
def lp : List Int → List Int
  | [] => []
  | [x] => [x]
  | x :: y :: l => x :: lq x y l
theorem tq_lq : ∀ (l : List Int) (b p a : Int), a ≠ b → a ≠ p → (a > b ↔ a > p) → tq b a l = lq p a (ddf a l)
  | [], _, _, _, _, _, _ => rfl
  | r :: l, b, p, a, h1, h2, h3 => by
    simp only [tq, ddf]
    by_cases e : a = r
    · rw [if_pos e, if_pos e.symm]
      exact tq_lq l b p a h1 h2 h3
    · rw [if_neg e, if_neg (show ¬ r = a from fun z => e z.symm)]
      simp only [lq]
      by_cases bt : Btw a b r
      · rw [if_pos bt]
        have hk : ¬ (decide (a > p) = decide (a > r)) := by
          intro z
          rw [decide_eq_decide] at z
          omega
        rw [if_neg hk]
        exact tq_lq l b a r (by omega) (fun z => e z.symm) (by omega)
      · rw [if_neg bt]
        have hk : decide (a > p) = decide (a > r) := by
          rw [decide_eq_decide]
          omega
        rw [if_pos hk]
        rw [tq_lq l a a r (fun z => e z.symm) (fun z => e z.symm) Iff.rfl]
theorem ts_lp : ∀ (l : List Int) (a : Int), ts a l = lp (a :: ddf a l)
  | [], _ => rfl
  | r :: l, a => by
    simp only [ts, ddf]
    by_cases e : a = r
    · rw [if_pos e, if_pos e.symm]
      exact ts_lp l a
    · rw [if_neg e, if_neg (show ¬ r = a from fun z => e z.symm)]
      rw [tq_lq l a a r (fun z => e z.symm) (fun z => e z.symm) Iff.rfl]
      rfl
theorem tp_lp (ns : List Int) : tp ns = lp (dd ns) := by
  cases ns with
  | nil => rfl
  | cons a l => exact ts_lp l a
/-- what the stack leaves, goes through the stack as it is -/
theorem tq_again : ∀ (l : List Int) (b a : Int), a ≠ b → ∃ x s, tq b a l = x :: s ∧ x ≠ b ∧ (x > b ↔ a > b) ∧ tq b x s = x :: s
  | [], b, a, h => ⟨a, [], rfl, h, Iff.rfl, rfl⟩
  | r :: l, b, a, h => by
    simp only [tq]
    by_cases e : a = r
    · rw [if_pos e]
      exact tq_again l b a h
    · rw [if_neg e]
      by_cases bt : Btw a b r
      · rw [if_pos bt]
        obtain ⟨x, s, h1, h2, h3, h4⟩ := tq_again l b r (by omega)
        exact ⟨x, s, h1, h2, by omega, h4⟩
      · rw [if_neg bt]
        obtain ⟨y, s, h1, h2, h3, h4⟩ := tq_again l a r (fun z => e z.symm)
        refine ⟨a, y :: s, by rw [h1], h, Iff.rfl, ?_⟩
        simp only [tq]
        have n1 : ¬ Btw a b y := by
          intro z
          have h6 : r > a ↔ y > a := h3.symm
          omega
        rw [if_neg (fun z : a = y => h2 z.symm), if_neg n1, h4]
theorem ts_again : ∀ (l : List Int) (a : Int), tp (ts a l) = ts a l
  | [], _ => rfl
  | r :: l, a => by
    simp only [ts]
    by_cases e : a = r
    · rw [if_pos e]
      exact ts_again l a
    · rw [if_neg e]
      obtain ⟨x, s, h1, h2, _, h4⟩ := tq_again l a r (fun z => e z.symm)
      rw [h1]
      show ts a (x :: s) = a :: x :: s
      simp only [ts]
      rw [if_neg (fun z : a = x => h2 z.symm), h4]
theorem tp_again (ns : List Int) : tp (tp ns) = tp ns := by
  cases ns with
  | nil => rfl
  | cons a l => exact ts_again l a
theorem tq_last : ∀ (l : List Int) (b a z : Int), (a :: l).getLast? = some z → tq b a (l ++ [z]) = tq b a l
  | [], b, a, z, h => by
    have e : a = z := Option.some.inj h
    subst e
    show tq b a [a] = [a]
    simp only [tq, if_true]
  | r :: l, b, a, z, h => by
    have h2 : (r :: l).getLast? = some z := by rw [List.getLast?_cons_cons] at h; exact h
    show tq b a (r :: (l ++ [z])) = tq b a (r :: l)
    simp only [tq]
    by_cases e : a = r
    · rw [if_pos e, if_pos e]
      subst e
      exact tq_last l b a z h2
    · rw [if_neg e, if_neg e, tq_last l b r z h2, tq_last l a r z h2]
theorem ts_last : ∀ (l : List Int) (a z : Int), (a :: l).getLast? = some z → ts a (l ++ [z]) = ts a l
  | [], a, z, h => by
    have e : a = z := Option.some.inj h
    subst e
    show ts a [a] = [a]
    simp only [ts, if_true]
  | r :: l, a, z, h => by
    have h2 : (r :: l).getLast? = some z := by rw [List.getLast?_cons_cons] at h; exact h
    show ts a (r :: (l ++ [z])) = ts a (r :: l)
    simp only [ts]
    by_cases e : a = r
    · rw [if_pos e, if_pos e]
      subst e
      exact ts_last l a z h2
    · rw [if_neg e, if_neg e, tq_last l a r z h2]
theorem tp_last (ns : List Int) (z : Int) (h : ns.getLast? = some z) : tp (ns ++ [z]) = tp ns := by
  cases ns with
  | nil => simp at h
  | cons a l => exact ts_last l a z h
/-- sizes and bounds -/
theorem tq_mem : ∀ (l : List Int) (b a x : Int), x ∈ tq b a l → x = a ∨ x ∈ l
  | [], _, _, x, h => .inl (List.mem_singleton.mp h)
  | r :: l, b, a, x, h => by
    simp only [tq] at h
    split at h
    · rcases tq_mem l b a x h with z | z
      · exact .inl z
      · exact .inr (List.mem_cons_of_mem _ z)
    · split at h
      · rcases tq_mem l b r x h with z | z
        · rw [z]; exact .inr List.mem_cons_self
        · exact .inr (List.mem_cons_of_mem _ z)
      · rcases List.mem_cons.mp h with z | z
        · exact .inl z
        · rcases tq_mem l a r x z with z | z
          · rw [z]; exact .inr List.mem_cons_self
          · exact .inr (List.mem_cons_of_mem _ z)
theorem tq_len : ∀ (l : List Int) (b a : Int), (tq b a l).length ≤ l.length + 1
  | [], _, _ => Nat.le_refl _
  | r :: l, b, a => by
    have h1 := tq_len l b a
    have h2 := tq_len l b r
    have h3 := tq_len l a r
    simp only [tq, List.length_cons]
    split
    · omega
    · split
      · omega
      · rw [List.length_cons]; omega
theorem ts_mem : ∀ (l : List Int) (a x : Int), x ∈ ts a l → x = a ∨ x ∈ l
  | [], _, x, h => .inl (List.mem_singleton.mp h)
  | r :: l, a, x, h => by
    simp only [ts] at h
    split at h
    · rcases ts_mem l a x h with z | z
      · exact .inl z
      · exact .inr (List.mem_cons_of_mem _ z)
    · rcases List.mem_cons.mp h with z | z
      · exact .inl z
      · rcases tq_mem l a r x z with z | z
        · rw [z]; exact .inr List.mem_cons_self
        · exact .inr (List.mem_cons_of_mem _ z)
theorem ts_len : ∀ (l : List Int) (a : Int), (ts a l).length ≤ l.length + 1
  | [], _ => Nat.le_refl _
  | r :: l, a => by
    have h1 := ts_len l a
    have h2 := tq_len l a r
    simp only [ts, List.length_cons]
    split
    · omega
    · rw [List.length_cons]; omega
theorem tp_mem {ns : List Int} {x : Int} (h : x ∈ tp ns) : x ∈ ns := by
  cases ns with
  | nil => exact h
  | cons a l =>
    rcases ts_mem l a x h with z | z
    · rw [z]; exact List.mem_cons_self
    · exact List.mem_cons_of_mem _ z
theorem tp_len (ns : List Int) : (tp ns).length ≤ ns.length := by
  cases ns with
  | nil => exact Nat.le_refl _
  | cons a l => exact ts_len l a
/-- the swings of turning points -/
def rg (a b : Int) : Int × Int := (if b < a then b else a, if b > a then b else a)
def sw : List Int → List (Int × Int)
  | x :: y :: l => rg x y :: sw (y :: l)
  | _ => []
theorem sw_len : ∀ ps : List Int, (sw ps).length = ps.length - 1
  | [] => rfl
  | [_] => rfl
  | x :: y :: l => by
    have := sw_len (y :: l)
    simp only [sw, List.length_cons] at this ⊢
    omega
theorem sw_take : ∀ (ps : List Int) (i : Nat) (x y : Int), ps[i]? = some x → ps[i + 1]? = some y → (sw ps).take (i + 1) = (sw ps).take i ++ [rg x y]
  | [], _, _, _, h, _ => by simp at h
  | [_], 0, _, _, _, h => by simp at h
  | [_], i + 1, _, _, h, _ => by simp at h
  | a :: b :: l, 0, x, y, h, h2 => by
    have e1 : a = x := Option.some.inj h
    have e2 : b = y := Option.some.inj h2
    subst e1 e2
    rfl
  | a :: b :: l, i + 1, x, y, h, h2 => by
    have ih := sw_take (b :: l) i x y h h2
    show rg a b :: (sw (b :: l)).take (i + 1) = rg a b :: (sw (b :: l)).take i ++ [rg x y]
    rw [ih]
    rfl
theorem sw_mem : ∀ (ps : List Int) (B : Nat), (∀ x ∈ ps, x.natAbs < B) → ∀ r ∈ sw ps, r.1.natAbs < B ∧ r.2.natAbs < B
  | [], _, _, r, h => by simp [sw] at h
  | [_], _, _, r, h => by simp [sw] at h
  | x :: y :: l, B, hb, r, h => by
    rcases List.mem_cons.mp (show r ∈ rg x y :: sw (y :: l) from h) with z | z
    · have h1 := hb x List.mem_cons_self
      have h2 := hb y (List.mem_cons_of_mem _ List.mem_cons_self)
      rw [z]
      unfold rg
      constructor <;> (dsimp only; split <;> assumption)
    · exact sw_mem (y :: l) B (fun x hx => hb x (List.mem_cons_of_mem _ hx)) r z
end PM

/-! heaps; the texts of data; a walk over two tuples -/
namespace KA
open PySem PySem.Spec PyProof.Rows L2
theorem same_new {H : Hp} {p : Addr} {o : HO} (h : H p = none) : Same H (upd H p o) := fun b x e => by
  rw [upd_ne (ne_of_none e h)]
  exact e
theorem same_again {H0 H : Hp} {p : Addr} {o : HO} (h : H0 p = none) (s : Same H0 H) : Same H0 (upd H p o) := fun b x e => by
  rw [upd_ne (ne_of_none e h)]
  exact s b x e
theorem SqT_same {K : PySem.W.Frag} {H H' : Hp} {a : Addr} {xs : List V} (e : Same H H') (h : SqT K H a xs) : SqT K H' a xs := by
  rcases h with (h | ⟨o, h⟩) | h
  · exact .inl (.inl (e _ _ h))
  · exact .inl (.inr ⟨o, e _ _ h⟩)
  · exact .inr h
theorem int_at {ns : List Int} {i : Nat} {x : V} (h : (ns.map V.int)[i]? = some x) : ∃ r, ns[i]? = some r ∧ x = .int r := by
  rw [List.getElem?_map] at h
  cases e : ns[i]? with
  | none => rw [e] at h; cases h
  | some r => rw [e] at h; exact ⟨r, rfl, (Option.some.inj h).symm⟩
theorem small3000 {n : Nat} (h : n ≤ 3000) : n < sizeLine := Nat.lt_of_le_of_lt h (by decide)
theorem at_int {ns : List Int} {i : Nat} {r : Int} (h : ns[i]? = some r) : (ns.map V.int)[i]? = some (.int r) := by
  rw [List.getElem?_map, h]
  rfl
end KA
namespace KB
end KB
namespace PH
open PySem PySem.Spec PyProof.Rows L2 KA
/-- a list or a tuple of xs stands at a -/
def Sq (K : PySem.W.Frag) (H : Hp) (a : Addr) (xs : List V) : Prop := SqL K H a xs ∨ SqT K H a xs
theorem Sq.same {K : PySem.W.Frag} {H H' : Hp} {a : Addr} {xs : List V} (h : Sq K H a xs) (e : Same H H') : Sq K H' a xs := h.elim (fun z => .inl (e.seq z)) (fun z => .inr (SqT_same e z))
/-- pairs of ints stand at the refs of xs -/
def PairsAt (H : Hp) : List V → List (Int × Int) → Prop
  | [], [] => True
  | x :: xs, r :: rs => (∃ p, x = .ref p ∧ H p = some (.tup [.int r.1, .int r.2])) ∧ PairsAt H xs rs
  | _, _ => False
theorem PairsAt.same {H H' : Hp} (e : Same H H') : ∀ {xs : List V} {rs : List (Int × Int)}, PairsAt H xs rs → PairsAt H' xs rs
  | [], [], _ => trivial
  | x :: xs, r :: rs, ⟨⟨p, h1, h2⟩, h3⟩ => ⟨⟨p, h1, e _ _ h2⟩, PairsAt.same e h3⟩
  | [], _ :: _, h => h.elim
  | _ :: _, [], h => h.elim
theorem PairsAt.length {H : Hp} : ∀ {xs : List V} {rs : List (Int × Int)}, PairsAt H xs rs → xs.length = rs.length
  | [], [], _ => rfl
  | x :: xs, r :: rs, ⟨_, h3⟩ => by rw [List.length_cons, List.length_cons, PairsAt.length h3]
  | [], _ :: _, h => h.elim
  | _ :: _, [], h => h.elim
theorem PairsAt.append {H : Hp} : ∀ {xs ys : List V} {rs ss : List (Int × Int)}, PairsAt H xs rs → PairsAt H ys ss → PairsAt H (xs ++ ys) (rs ++ ss)
  | [], _, [], _, _, h => h
  | x :: xs, _, r :: rs, _, ⟨h1, h2⟩, h => ⟨h1, PairsAt.append h2 h⟩
  | [], _, _ :: _, _, h, _ => h.elim
  | _ :: _, _, [], _, h, _ => h.elim
theorem PairsAt.take {H : Hp} : ∀ {xs : List V} {rs : List (Int × Int)} (n : Nat), PairsAt H xs rs → PairsAt H (xs.take n) (rs.take n)
  | [], [], n, _ => by simp [PairsAt]
  | x :: xs, r :: rs, 0, _ => trivial
  | x :: xs, r :: rs, n + 1, ⟨h1, h2⟩ => ⟨h1, PairsAt.take n h2⟩
  | [], _ :: _, _, h => h.elim
  | _ :: _, [], _, h => h.elim
theorem PairsAt.get {H : Hp} : ∀ {xs : List V} {rs : List (Int × Int)} {i : Nat} {x : V}, PairsAt H xs rs → xs[i]? = some x → ∃ p a b, x = .ref p ∧ H p = some (.tup [.int a, .int b])
  | x :: xs, r :: rs, 0, y, ⟨⟨p, h1, h2⟩, _⟩, e => ⟨p, r.1, r.2, by rw [← h1]; exact (Option.some.inj e).symm, h2⟩
  | x :: xs, r :: rs, i + 1, y, ⟨_, h⟩, e => PairsAt.get h e
  | [], [], i, y, _, e => by simp at e
  | [], _ :: _, _, _, h, _ => h.elim
  | _ :: _, [], _, _, h, _ => h.elim
/-! ### data -/
def dInts (ns : List Int) : List PyData := ns.map PyData.int
def dPairs (rs : List (Int × Int)) : List PyData := rs.map fun r => .tuple [.int r.1, .int r.2]
theorem dp_ints {K : PySem.W.Frag} {H : Hp} : ∀ ns : List Int, DpAll K H (ns.map V.int) (dInts ns)
  | [] => .nil
  | n :: ns => .cons (.int n) (dp_ints ns)
theorem dp_pairs {K : PySem.W.Frag} {H : Hp} : ∀ {xs : List V} {rs : List (Int × Int)}, PairsAt H xs rs → DpAll K H xs (dPairs rs)
  | [], [], _ => .nil
  | x :: xs, r :: rs, ⟨⟨p, h1, h2⟩, h3⟩ => by
    subst h1
    exact .cons (.tup (SqT.of h2) (.cons (.int _) (.cons (.int _) .nil))) (dp_pairs h3)
  | [], _ :: _, h => h.elim
  | _ :: _, [], h => h.elim
theorem lay_ints : ∀ ns : List Int, PyData.canLayAll0 (dInts ns) = true
  | [] => rfl
  | n :: ns => by
    show (PyData.canLay0 (.int n) && PyData.canLayAll0 (dInts ns)) = true
    rw [lay_ints ns]
    simp only [PyData.canLay0, Bool.and_true]
theorem lay_pairs : ∀ rs : List (Int × Int), PyData.canLayAll0 (dPairs rs) = true
  | [] => rfl
  | r :: rs => by
    show (PyData.canLay0 (.tuple [.int r.1, .int r.2]) && PyData.canLayAll0 (dPairs rs)) = true
    rw [lay_pairs rs]
    simp only [PyData.canLay0, PyData.canLayAll0, Bool.and_true]
theorem depth_pairs : ∀ rs : List (Int × Int), PyData.depthAll (dPairs rs) ≤ 3
  | [] => Nat.zero_le _
  | r :: rs => by
    have h := depth_pairs rs
    show max (PyData.depth (.tuple [.int r.1, .int r.2])) (PyData.depthAll (dPairs rs)) ≤ 3
    simp only [PyData.depth, PyData.depthAll]
    omega
theorem shaped_of {d : PyData} (h1 : d.canLay0 = true) (h2 : d.depth ≤ 64) : SeqAt.shaped d = true := by
  unfold SeqAt.shaped
  rw [h1, decide_eq_true h2]
  rfl
theorem shaped_lst (ns : List Int) : SeqAt.shaped (.list (dInts ns)) = true :=
  shaped_of (by simp only [PyData.canLay0, lay_ints]) (by have := KG.depth_all ns; show PyData.depth (.list (ns.map PyData.int)) ≤ 64; simp only [PyData.depth]; omega)
theorem shaped_tup (ns : List Int) : SeqAt.shaped (.tuple (dInts ns)) = true :=
  shaped_of (by simp only [PyData.canLay0, lay_ints]) (by have := KG.depth_all ns; show PyData.depth (.tuple (ns.map PyData.int)) ≤ 64; simp only [PyData.depth]; omega)
theorem shaped_prs (rs : List (Int × Int)) : SeqAt.shaped (.list (dPairs rs)) = true :=
  shaped_of (by simp only [PyData.canLay0, lay_pairs]) (by have := depth_pairs rs; simp only [PyData.depth]; omega)
theorem eqv_same {d : PyData} (h : SeqAt.shaped d = true) : PyData.eqv d d = true := by
  refine SeqAt.eqv_refl d ?_
  unfold SeqAt.shaped at h
  rw [Bool.and_eq_true] at h
  exact h.1
/-- what repr asks of data -/
structure Nice (d : PyData) : Prop where
  show' : d.showable = true
  dict : d.hasDict = false
  depth : d.depth ≤ 10
  fits : d.shown.length ≤ sizeLine
theorem nice_lst {ns : List Int} (h : ∀ n ∈ ns, n.natAbs < 2 ^ 39) (hl : ns.length ≤ 2000) : Nice (.list (dInts ns)) :=
  ⟨by simp only [PyData.showable]; exact KG.show_all ns fun m hm => Nat.lt_trans (h m hm) (by decide), by simp only [PyData.hasDict]; exact KG.nodict_all ns,
    by have := KG.depth_all ns; show PyData.depth (.list (ns.map PyData.int)) ≤ 10; simp only [PyData.depth]; omega, KG.repr_fits h hl⟩
theorem nice_tup {ns : List Int} (h : ∀ n ∈ ns, n.natAbs < 2 ^ 39) (hl : ns.length ≤ 2000) : Nice (.tuple (dInts ns)) :=
  ⟨by simp only [PyData.showable]; exact KG.show_all ns fun m hm => Nat.lt_trans (h m hm) (by decide), by simp only [PyData.hasDict]; exact KG.nodict_all ns,
    by have := KG.depth_all ns; show PyData.depth (.tuple (ns.map PyData.int)) ≤ 10; simp only [PyData.depth]; omega, by
      refine PyData.shown_fits (B := 13) (by decide) (by decide) ?_ ?_
      · simp only [PyData.leavesShort]
        exact KG.leaves_all ns fun n hn => Nat.lt_trans (h n hn) (by decide)
      · have := KG.weight_all ns h
        show PyData.weight (.tuple (ns.map PyData.int)) ≤ _
        simp only [PyData.weight]
        omega⟩
theorem leaf_int {a : Int} (h : a.natAbs < 2 ^ 39) : PyData.leavesShort 13 (.int a) = true := by
  have := KG.leaves_all [a] fun n hn => by rw [List.mem_singleton.mp hn]; exact Nat.lt_trans h (by decide)
  simpa only [List.map_cons, List.map_nil, PyData.leavesShortAll, Bool.and_true] using this
theorem show_int {a : Int} (h : a.natAbs < 2 ^ 39) : PyData.showable (.int a) = true := by
  have := KG.show_all [a] fun n hn => by rw [List.mem_singleton.mp hn]; exact Nat.lt_trans h (by decide)
  simpa only [List.map_cons, List.map_nil, PyData.showableAll, Bool.and_true] using this
theorem weight_int {a : Int} (h : a.natAbs < 2 ^ 39) : PyData.weight (.int a) + 1 ≤ 60 := by
  have := KG.weight_all [a] fun n hn => by rw [List.mem_singleton.mp hn]; exact h
  simp only [List.map_cons, List.map_nil, PyData.weightAll, List.length_singleton] at this
  omega
theorem pairs_show : ∀ rs : List (Int × Int), (∀ r ∈ rs, r.1.natAbs < 2 ^ 39 ∧ r.2.natAbs < 2 ^ 39) → PyData.showableAll (dPairs rs) = true
  | [], _ => rfl
  | r :: rs, h => by
    have h1 := h r List.mem_cons_self
    show (PyData.showable (.tuple [.int r.1, .int r.2]) && PyData.showableAll (dPairs rs)) = true
    rw [pairs_show rs fun x hx => h x (List.mem_cons_of_mem _ hx)]
    have e1 := show_int h1.1
    have e2 := show_int h1.2
    simp only [PyData.showable, PyData.showableAll] at e1 e2 ⊢
    rw [e1, e2]
    rfl
theorem pairs_dict : ∀ rs : List (Int × Int), PyData.hasDictAll (dPairs rs) = false
  | [] => rfl
  | r :: rs => by
    show (PyData.hasDict (.tuple [.int r.1, .int r.2]) || PyData.hasDictAll (dPairs rs)) = false
    rw [pairs_dict rs]
    simp only [PyData.hasDict, PyData.hasDictAll, Bool.or_self]
theorem pairs_leaves : ∀ rs : List (Int × Int), (∀ r ∈ rs, r.1.natAbs < 2 ^ 39 ∧ r.2.natAbs < 2 ^ 39) → PyData.leavesShortAll 13 (dPairs rs) = true
  | [], _ => rfl
  | r :: rs, h => by
    have h1 := h r List.mem_cons_self
    show (PyData.leavesShort 13 (.tuple [.int r.1, .int r.2]) && PyData.leavesShortAll 13 (dPairs rs)) = true
    rw [pairs_leaves rs fun x hx => h x (List.mem_cons_of_mem _ hx)]
    have e : PyData.leavesShort 13 (.tuple [.int r.1, .int r.2]) = PyData.leavesShortAll 13 [.int r.1, .int r.2] := by simp only [PyData.leavesShort]
    have e' : PyData.leavesShortAll 13 [.int r.1, .int r.2] = (PyData.leavesShort 13 (.int r.1) && (PyData.leavesShort 13 (.int r.2) && true)) := by simp only [PyData.leavesShortAll]
    rw [e, e', leaf_int h1.1, leaf_int h1.2]
    rfl
theorem pairs_weight : ∀ rs : List (Int × Int), (∀ r ∈ rs, r.1.natAbs < 2 ^ 39 ∧ r.2.natAbs < 2 ^ 39) → PyData.weightAll (dPairs rs) ≤ 130 * rs.length
  | [], _ => Nat.le_refl _
  | r :: rs, h => by
    have h1 := h r List.mem_cons_self
    have h2 := pairs_weight rs fun x hx => h x (List.mem_cons_of_mem _ hx)
    have w1 := weight_int h1.1
    have w2 := weight_int h1.2
    have e : PyData.weightAll (dPairs (r :: rs)) = PyData.weight (.tuple [.int r.1, .int r.2]) + 1 + PyData.weightAll (dPairs rs) := by
      show PyData.weightAll (_ :: _) = _
      simp only [PyData.weightAll]
      rfl
    have e2 : PyData.weight (.tuple [.int r.1, .int r.2]) = PyData.weight (.int r.1) + 1 + (PyData.weight (.int r.2) + 1 + 0) := by simp only [PyData.weight, PyData.weightAll]
    rw [e, e2, List.length_cons]
    omega
theorem nice_prs {rs : List (Int × Int)} (h : ∀ r ∈ rs, r.1.natAbs < 2 ^ 39 ∧ r.2.natAbs < 2 ^ 39) (hl : rs.length ≤ 2000) : Nice (.list (dPairs rs)) :=
  ⟨by simp only [PyData.showable]; exact pairs_show rs h, by simp only [PyData.hasDict]; exact pairs_dict rs, by have := depth_pairs rs; simp only [PyData.depth]; omega, by
    refine PyData.shown_fits (B := 13) (by decide) (by decide) ?_ ?_
    · simp only [PyData.leavesShort]
      exact pairs_leaves rs h
    · have := pairs_weight rs h
      simp only [PyData.weight]
      omega⟩
section
variable {X : Cx}
/-- repr of data at an address, while no repr is under way -/
def rReprD (K : PySem.W.Frag) : List V → Hp → VK → Prop := fun vs H Q => ∃ (a : Addr) (d : PyData), vs = [V.ref a] ∧ Dp K H (.ref a) d ∧ Nice d ∧ Q (.str d.shown) H
theorem cr_reprD (hg : X.A.guards = some []) (hu : X.A.units + 100 < cLine) : CallR X (.builtin "repr") (rReprD X.K) := by
  intro pins s σ H vs us Q I r h
  obtain ⟨a, d, rfl, hd, nc, q⟩ := h
  rw [Vals.ref1 r]
  obtain ⟨as, rd⟩ := Dp.reads I d (.ref a) (.ref a) hd rfl
  refine repr_of_reads' rd nc.show' (PyData.noDict_hsm nc.dict) hg (by have := nc.depth; omega) (fun _ _ e => e) (fun g u tk k => ?_) nc.fits
  exact ⟨.str d.shown, H, I.kept k, ⟨u, rfl⟩, q⟩
theorem cr_reprB : CallR X (.builtin "repr") (fun vs H Q => ∃ b : Bool, vs = [V.bl b] ∧ Q (.str (if b = true then "True" else "False")) H) := by
  intro pins s σ H vs us Q I r h
  obtain ⟨b, rfl, q⟩ := h
  obtain ⟨u, rfl, ru⟩ := vals1 r
  cases ru
  exact PySem.P.repr_of_bool ⟨.str _, H, I.tok _, ⟨_, rfl⟩, q⟩
end
section
variable {K : PySem.W.Frag} {a b : Addr} {xs ys : List V}
theorem walk_tups {n : Nat} (hn : n = min xs.length ys.length) : Walk (RZ.ItzT K a b) n (fun H => SqT K H a xs ∧ SqT K H b ys) (YPair (fun i => xs[i]?) (fun i => ys[i]?)) := by
  refine ⟨fun i H hi q => ⟨xs, ys, xs[i]'(by omega), ys[i]'(by omega), q.1, q.2, List.getElem?_eq_getElem (by omega), List.getElem?_eq_getElem (by omega)⟩, fun H q => ⟨xs, ys, q.1, q.2, by omega⟩, fun i H v H' _ q y => ?_⟩
  obtain ⟨T, x, z, h1, h2, h3, h4, h5⟩ := y
  exact ⟨T, x, z, h1, h2, h3, h4 xs q.1, h5 ys q.2⟩
end
/-- two promises of one def -/
theorem both {P : Program} {w : World} {K : PySem.W.Frag} {mg : Str → Option Value} {base : Heap} {CX : CXT} {k : Nat} {f : Addr} {fd : FuncData} {ps : List Str} {sp sp' : Sp}
    (F : FnOk P w K mg base CX k f fd ps sp) (G : FnOk P w K mg base CX k f fd ps sp') : FnOk P w K mg base CX k f fd ps (fun vs H Q E => sp vs H Q E ∨ sp' vs H Q E) :=
  ⟨fun vs H Q E h => h.elim (F.len vs H Q E) (G.len vs H Q E), fun A outer s H args us vs Q E hr e0 hb r h => h.elim (F.run A outer s H args us vs Q E hr e0 hb r) (G.run A outer s H args us vs Q E hr e0 hb r)⟩
end PH

/-! points taken out, in any order: one count -/
namespace RM
open PM
/-- of four points in a row, the middle two may be taken out -/
abbrev Taken (a b c d : Int) : Prop := ((rg a b).1 ≤ (rg b c).1 ∧ (rg b c).2 ≤ (rg a b).2) ∧ ((rg c d).1 ≤ (rg b c).1 ∧ (rg b c).2 ≤ (rg c d).2)
/-- up and down by turns -/
def ZZ : List Int → Prop
  | x :: y :: z :: r => ((x < y ∧ z < y) ∨ (y < x ∧ y < z)) ∧ ZZ (y :: z :: r)
  | [x, y] => x ≠ y
  | _ => True
inductive Step : List Int → Int × Int → List Int → Prop
  | here {a b c d : Int} {post : List Int} : Taken a b c d → Step (a :: b :: c :: d :: post) (rg b c) (a :: d :: post)
  | there {x : Int} {p q : List Int} {cy : Int × Int} : Step p cy q → Step (x :: p) cy (x :: q)
theorem ZZ.tail {x : Int} : ∀ {p : List Int}, ZZ (x :: p) → ZZ p
  | [], _ => trivial
  | [_], _ => trivial
  | [y, z], h => by
    have h1 := h.1
    show y ≠ z
    omega
  | y :: z :: u :: r, h => h.2
theorem Step.head {x : Int} {p q : List Int} {cy : Int × Int} (h : Step (x :: p) cy q) : ∃ q', q = x :: q' := by
  cases h with
  | here _ => exact ⟨_, rfl⟩
  | there _ => exact ⟨_, rfl⟩
theorem Step.len {p q : List Int} {cy : Int × Int} (h : Step p cy q) : p.length = q.length + 2 := by
  induction h with
  | here _ => simp only [List.length_cons]
  | there _ ih => simp only [List.length_cons]; omega
theorem rg_up {a b : Int} (h : a < b) : rg a b = (a, b) := by unfold rg; rw [if_neg (by omega), if_pos (by omega)]
theorem rg_down {a b : Int} (h : b < a) : rg a b = (b, a) := by unfold rg; rw [if_pos h, if_neg (by omega)]
/-- among points that go up and down -/
theorem taken_iff {a b c d : Int} (h : ZZ (a :: b :: c :: d :: [])) : Taken a b c d ↔ (a < b ∧ c < b ∧ c < d ∧ a ≤ c ∧ b ≤ d) ∨ (b < a ∧ b < c ∧ d < c ∧ c ≤ a ∧ d ≤ b) := by
  have h1 := h.1
  have h2 := h.2.1
  unfold Taken
  rcases h1 with ⟨x, y⟩ | ⟨x, y⟩
  · have z : c < d := by omega
    rw [rg_up x, rg_down y, rg_up z]
    dsimp only
    omega
  · have z : d < c := by omega
    rw [rg_down x, rg_up y, rg_down z]
    dsimp only
    omega
theorem ZZ.four {a b c d : Int} {r : List Int} (h : ZZ (a :: b :: c :: d :: r)) : ZZ (a :: b :: c :: d :: []) := by
  refine ⟨h.1, h.2.1, ?_⟩
  have := h.2.1
  show c ≠ d
  omega
theorem zz_here {a b c d : Int} : ∀ {post : List Int}, ZZ (a :: b :: c :: d :: post) → Taken a b c d → ZZ (a :: d :: post)
  | [], h, t => by
    rcases (taken_iff h.four).mp t with z | z
    · show a ≠ d
      omega
    · show a ≠ d
      omega
  | e :: r, h, t => by
    have h3 := h.2.2.1
    refine ⟨?_, h.2.2.2⟩
    rcases (taken_iff h.four).mp t with z | z <;> omega
theorem zz_cons {x y : Int} {p : List Int} (h : ZZ (x :: y :: p)) : x ≠ y := by
  cases p with
  | nil => exact h
  | cons z r => have := h.1; omega
theorem ZZ.step {p q : List Int} {cy : Int × Int} (h : Step p cy q) : ZZ p → ZZ q := by
  induction h with
  | here t => exact fun z => zz_here z t
  | @there x p q cy h ih =>
    intro z
    have zq := ih z.tail
    cases h with
    | @here a b c d post t =>
      have z1 := z.1
      have ti := (taken_iff z.tail.four).mp t
      refine ⟨?_, zq⟩
      rcases ti with t | t <;> omega
    | @there y p' q' cy' h' =>
      cases q' with
      | nil =>
        have := h'.len
        exact zz_cons z
      | cons u v =>
        cases p' with
        | nil => have := h'.len; simp at this
        | cons u' v' =>
          obtain ⟨v'', e⟩ := h'.head
          have e1 : u = u' := (List.cons.inj e).1
          subst e1
          exact ⟨z.1, zq⟩
/-- two ways to go on meet again -/
theorem diamond {p p1 : List Int} {c1 : Int × Int} (h1 : Step p c1 p1) : ∀ {p2 : List Int} {c2 : Int × Int}, Step p c2 p2 → ZZ p → (c1 = c2 ∧ p1 = p2) ∨ ∃ p3, Step p1 c2 p3 ∧ Step p2 c1 p3 := by
  have key : ∀ {a b c d : Int} {post : List Int} {p2 : List Int} {c2 : Int × Int}, Taken a b c d → Step (b :: c :: d :: post) c2 p2 → ZZ (a :: b :: c :: d :: post) →
      (rg b c = c2 ∧ a :: d :: post = a :: p2) ∨ ∃ p3, Step (a :: d :: post) c2 p3 ∧ Step (a :: p2) (rg b c) p3 := by
    intro a b c d post p2 c2 t h z
    have t1 := (taken_iff z.four).mp t
    cases h with
    | @here _ _ _ e post' t2 =>
      have t3 := (taken_iff z.tail.four).mp t2
      have ebd : b = d := by omega
      subst ebd
      refine .inl ⟨?_, rfl⟩
      have z1 := z.1
      rcases z1 with ⟨x, y⟩ | ⟨x, y⟩
      · rw [rg_down y, rg_up y]
      · rw [rg_up y, rg_down y]
    | @there _ _ q2 _ h2 =>
      cases h2 with
      | @here _ _ e f post' t2 =>
        have t3 := (taken_iff z.tail.tail.four).mp t2
        have za : ZZ (a :: d :: e :: f :: post') := zz_here z t
        have zb : ZZ (a :: b :: c :: f :: post') := ZZ.step (.there (.there (.here t2))) z
        exact .inr ⟨a :: f :: post', .here ((taken_iff za.four).mpr (by omega)), .here ((taken_iff zb.four).mpr (by omega))⟩
      | @there _ _ q3 _ h3 =>
        obtain ⟨q4, rfl⟩ := h3.head
        exact .inr ⟨a :: d :: q4, .there h3, .here t⟩
  induction h1 with
  | @here a b c d post t =>
    intro p2 c2 h2 z
    cases h2 with
    | here _ => exact .inl ⟨rfl, rfl⟩
    | @there _ _ q2 _ h2 => exact key t h2 z
  | @there x p q cy h1 ih =>
    intro p2 c2 h2 z
    cases h2 with
    | @here a b c d post t =>
      rcases key t h1 z with ⟨e1, e2⟩ | ⟨p3, s1, s2⟩
      · exact .inl ⟨e1.symm, e2.symm⟩
      · exact .inr ⟨p3, s2, s1⟩
    | @there _ _ q2 _ h2 =>
      rcases ih h2 z.tail with ⟨e1, e2⟩ | ⟨p3, s1, s2⟩
      · exact .inl ⟨e1, by rw [e2]⟩
      · exact .inr ⟨x :: p3, .there s1, .there s2⟩
inductive Run : List Int → List (Int × Int) → List Int → Prop
  | nil (p : List Int) : Run p [] p
  | cons {p q r : List Int} {c : Int × Int} {cs : List (Int × Int)} : Step p c q → Run q cs r → Run p (c :: cs) r
/-- nothing can be taken out -/
def NF (p : List Int) : Prop := ∀ c q, ¬ Step p c q
theorem Run.snoc {p q r : List Int} {c : Int × Int} {cs : List (Int × Int)} (h : Run p cs q) (s : Step q c r) : Run p (cs ++ [c]) r := by
  induction h with
  | nil p => exact .cons s (.nil _)
  | cons h1 _ ih => exact .cons h1 (ih s)
theorem Run.zz {p q : List Int} {cs : List (Int × Int)} (h : Run p cs q) : ZZ p → ZZ q := by
  induction h with
  | nil p => exact id
  | cons h1 _ ih => exact fun z => ih (ZZ.step h1 z)
theorem Run.len {p q : List Int} {cs : List (Int × Int)} (h : Run p cs q) : p.length = q.length + 2 * cs.length := by
  induction h with
  | nil p => simp
  | cons h1 _ ih => have := h1.len; rw [List.length_cons]; omega
theorem ends : ∀ (n : Nat) (p : List Int), p.length ≤ n → ∃ cs r, Run p cs r ∧ NF r
  | 0, p, h => ⟨[], p, .nil p, fun c q s => by have := s.len; omega⟩
  | n + 1, p, h => by
    by_cases e : ∃ c q, Step p c q
    · obtain ⟨c, q, s⟩ := e
      have := s.len
      obtain ⟨cs, r, h1, h2⟩ := ends n q (by omega)
      exact ⟨c :: cs, r, .cons s h1, h2⟩
    · exact ⟨[], p, .nil p, fun c q s => e ⟨c, q, s⟩⟩
/-- in whatever order points are taken out, the same cycles and the same rest come out -/
theorem unique : ∀ (n : Nat) (p : List Int), p.length ≤ n → ZZ p → ∀ {cs ds : List (Int × Int)} {r s : List Int}, Run p cs r → NF r → Run p ds s → NF s → r = s ∧ cs.Perm ds := by
  intro n
  induction n with
  | zero =>
    intro p hp z cs ds r s h1 n1 h2 n2
    cases h1 with
    | nil _ => cases h2 with
      | nil _ => exact ⟨rfl, .nil⟩
      | cons s2 _ => exact absurd s2 (n1 _ _)
    | cons s1 _ => have := s1.len; omega
  | succ n ih =>
    intro p hp z cs ds r s h1 n1 h2 n2
    cases h1 with
    | nil _ => cases h2 with
      | nil _ => exact ⟨rfl, .nil⟩
      | cons s2 _ => exact absurd s2 (n1 _ _)
    | @cons _ q1 _ c1 cs' s1 r1 =>
      cases h2 with
      | nil _ => exact absurd s1 (n2 _ _)
      | @cons _ q2 _ c2 ds' s2 r2 =>
        have l1 := s1.len
        have l2 := s2.len
        rcases diamond s1 s2 z with ⟨e1, e2⟩ | ⟨p3, t1, t2⟩
        · subst e1 e2
          obtain ⟨e, pm⟩ := ih q1 (by omega) (ZZ.step s1 z) r1 n1 r2 n2
          exact ⟨e, pm.cons _⟩
        · obtain ⟨es, t, r3, n3⟩ := ends p3.length p3 (Nat.le_refl _)
          obtain ⟨e1, m1⟩ := ih q1 (by omega) (ZZ.step s1 z) r1 n1 (.cons t1 r3) n3
          obtain ⟨e2, m2⟩ := ih q2 (by omega) (ZZ.step s2 z) r2 n2 (.cons t2 r3) n3
          refine ⟨e1.trans e2.symm, ?_⟩
          exact ((m1.cons c1).trans (.swap c2 c1 es)).trans (m2.symm.cons c2)
theorem one_count {p : List Int} (z : ZZ p) {cs ds : List (Int × Int)} {r s : List Int} (h1 : Run p cs r) (n1 : NF r) (h2 : Run p ds s) (n2 : NF s) : r = s ∧ cs.Perm ds := unique p.length p (Nat.le_refl _) z h1 n1 h2 n2
/-! ### the stack's way -/
theorem Step.suffix {p q : List Int} {cy : Int × Int} (h : Step p cy q) (l : List Int) : Step (p ++ l) cy (q ++ l) := by
  induction h with
  | here t => exact .here t
  | there _ ih => exact .there ih
theorem Step.prefix {p q : List Int} {cy : Int × Int} (h : Step p cy q) : ∀ l : List Int, Step (l ++ p) cy (l ++ q)
  | [] => h
  | x :: l => .there (h.prefix l)
theorem step_last {p : List Int} {cy : Int × Int} {q : List Int} (h : Step p cy q) : ∀ {m : List Int} {x : Int}, p = m ++ [x] → (∃ q', Step m cy q' ∧ q = q' ++ [x]) ∨ ∃ pre a b c, p = pre ++ [a, b, c, x] ∧ Taken a b c x := by
  induction h with
  | @here a b c d post t =>
    intro m x e
    rcases List.eq_nil_or_concat post with rfl | ⟨post', y, rfl⟩
    · have e2 : [a, b, c] ++ [d] = m ++ [x] := e
      obtain ⟨_, e4⟩ := List.append_inj' e2 rfl
      have e5 : d = x := (List.cons.inj e4).1
      subst e5
      exact .inr ⟨[], a, b, c, rfl, t⟩
    · have e2 : (a :: b :: c :: d :: post') ++ [y] = m ++ [x] := by rw [← e]; simp
      obtain ⟨e3, e4⟩ := List.append_inj' e2 rfl
      have e5 : y = x := (List.cons.inj e4).1
      subst e5 e3
      exact .inl ⟨a :: d :: post', .here t, by simp⟩
  | @there y p q cy h ih =>
    intro m x e
    cases m with
    | nil =>
      have e2 : p = [] := (List.cons.inj e).2
      subst e2
      cases h
    | cons y' m' =>
      obtain ⟨e1, e2⟩ := List.cons.inj e
      subst e1
      rcases ih e2 with ⟨q', s, e3⟩ | ⟨pre, a, b, c, e3, t⟩
      · exact .inl ⟨y :: q', .there s, by rw [e3]; rfl⟩
      · exact .inr ⟨y :: pre, a, b, c, by rw [e3]; rfl, t⟩
theorem nf_push {m : List Int} {x : Int} (h : NF m) (n : ∀ pre a b c, m ++ [x] = pre ++ [a, b, c, x] → ¬ Taken a b c x) : NF (m ++ [x]) := by
  intro cy q s
  rcases step_last s rfl with ⟨q', s', _⟩ | ⟨pre, a, b, c, e, t⟩
  · exact h _ _ s'
  · exact n pre a b c e t
theorem nf_prefix {m l : List Int} (h : NF (m ++ l)) : NF m := fun cy q s => h _ _ (s.suffix l)
/-- turning points go up and down -/
theorem tq_zz : ∀ (l : List Int) (b a : Int), a ≠ b → ∃ x s, tq b a l = x :: s ∧ (x > b ↔ a > b) ∧ x ≠ b ∧ ZZ (b :: x :: s)
  | [], b, a, h => ⟨a, [], rfl, Iff.rfl, h, fun z => h z.symm⟩
  | r :: l, b, a, h => by
    simp only [tq]
    by_cases e : a = r
    · rw [if_pos e]
      exact tq_zz l b a h
    · rw [if_neg e]
      by_cases bt : Btw a b r
      · rw [if_pos bt]
        obtain ⟨x, s, h1, h2, h3, h4⟩ := tq_zz l b r (by omega)
        exact ⟨x, s, h1, by omega, h3, h4⟩
      · rw [if_neg bt]
        obtain ⟨y, s, h1, h2, h3, h4⟩ := tq_zz l a r (fun z => e z.symm)
        refine ⟨a, y :: s, by rw [h1], Iff.rfl, h, ?_, h4⟩
        have h5 : y > a ↔ r > a := h2
        omega
theorem ts_zz : ∀ (l : List Int) (a : Int), ZZ (ts a l)
  | [], _ => trivial
  | r :: l, a => by
    simp only [ts]
    by_cases e : a = r
    · rw [if_pos e]
      exact ts_zz l a
    · rw [if_neg e]
      obtain ⟨x, s, h1, _, _, h4⟩ := tq_zz l a r (fun z => e z.symm)
      rw [h1]
      exact h4
theorem tp_zz (ns : List Int) : ZZ (tp ns) := by
  cases ns with
  | nil => exact trivial
  | cons a l => exact ts_zz l a
end RM

/-! del xs[-3:-1] of a list of at least three -/
namespace DS
open PySem PySem.Spec PyProof.Rows L2
def sel (start stop step : Int) (i : Nat) : Bool :=
  if step > 0 then start ≤ i && i < stop && (i - start) % step == 0 else stop < i && i ≤ start && (start - i) % (-step) == 0
theorem sel_iff (a c : Int) (i : Nat) : sel a c 1 i = decide (a ≤ i ∧ (i : Int) < c) := by
  unfold sel
  rw [if_pos (by decide)]
  have e : ((((i : Int) - a) % 1) == 0) = true := by rw [Int.emod_one]; rfl
  rw [e, Bool.and_true]
  by_cases h1 : a ≤ (i : Int) <;> by_cases h2 : (i : Int) < c <;> simp [h1, h2]
def cutOut (a c : Int) (xs : Array Value) : Array Value := (xs.toList.zipIdx.filterMap fun (x, k) => if sel a c 1 k then none else some x).toArray
theorem keep_all {a c : Int} : ∀ (l : List Value) (s : Nat), ((s + l.length : Nat) : Int) ≤ a → (l.zipIdx s).filterMap (fun (x, k) => if sel a c 1 k then none else some x) = l
  | [], _, _ => rfl
  | x :: l, s, h => by
    rw [List.zipIdx_cons, List.filterMap_cons]
    have e : sel a c 1 s = false := by rw [sel_iff]; exact decide_eq_false (by simp only [List.length_cons] at h; omega)
    have ih := keep_all (a := a) (c := c) l (s + 1) (by simp only [List.length_cons] at h; omega)
    simp only [e, Bool.false_eq_true, if_false]
    rw [ih]
theorem cut_three (pre : List Value) (x y z : Value) : cutOut ((pre.length : Nat) : Int) (((pre.length + 2 : Nat)) : Int) (pre ++ [x, y, z]).toArray = (pre ++ [z]).toArray := by
  unfold cutOut
  congr 1
  show ((pre ++ [x, y, z]).zipIdx.filterMap _) = _
  rw [List.zipIdx_append, List.filterMap_append, keep_all pre 0 (by omega)]
  congr 1
  have e1 : sel ((pre.length : Nat) : Int) (((pre.length + 2 : Nat)) : Int) 1 pre.length = true := by rw [sel_iff]; exact decide_eq_true (by omega)
  have e2 : sel ((pre.length : Nat) : Int) (((pre.length + 2 : Nat)) : Int) 1 (pre.length + 1) = true := by rw [sel_iff]; exact decide_eq_true (by omega)
  have e3 : sel ((pre.length : Nat) : Int) (((pre.length + 2 : Nat)) : Int) 1 (pre.length + 1 + 1) = false := by rw [sel_iff]; exact decide_eq_false (by omega)
  simp only [Nat.zero_add, List.zipIdx_cons, List.zipIdx_nil, List.filterMap_cons, List.filterMap_nil, e1, e2, e3, if_true, Bool.false_eq_true, if_false]
theorem bounds31 (n : Nat) : sliceBounds (some (-3)) (some (-1)) none (n + 3) = (((n : Nat) : Int), ((n + 2 : Nat) : Int), 1) := by
  simp only [sliceBounds, Option.getD_none]
  have h1 : (-3 : Int) < 0 := by decide
  have h2 : (-1 : Int) < 0 := by decide
  simp only [h1, h2, if_true, show (1 : Int) > 0 by decide]
  congr 1
  · omega
  · congr 1; omega
section
variable {prog : Program} {w : World} {A : Around} {E : Value → Shared → Prop} {s : Shared}
theorem del31 {l sl : Addr} {its : Array Value} {n : Nat} {vl vu : Value} {Q : Unit → Shared → Prop} (e : s.heap.get? l = some { cls := .type "list", data := .seq its n }) (hs : s.heap.IsSliceOf sl vl vu .none)
    (pl : IsPart vl (some (-3))) (pu : IsPart vu (some (-1))) (m : Nat) (hm : its.size = m + 3) (hz : its.size ≤ sizeLine)
    (h : Q () { s with heap := s.heap.update l (Obj.mapSeq (cutOut (m : Int) ((m + 2 : Nat) : Int))) }) : wpAny (model prog w) A (delItem (.ref l) (.ref sl)) Q E s := by
  have hl : s.heap.IsList l its := PySem.IsL.isList e
  obtain ⟨os, hos, hcs, hds⟩ := id hs
  have hT : s.TypeIs (.ref sl) "slice" := ⟨os, hos, hcs⟩
  have hst : ¬ ((rawPart none == rawInt 0) = true) := Bool.false_ne_true
  refine wpAny_delItem_slot hl.typeIs (by decide) F.slot_list_delitem (wpAny_call_entry F.slot_list_delitem hl.typeIs F.entry_list_delitem ?_ (F.args_list_delitem_2 _ _))
  unfold Builtin.«list.__delitem__»
  refine wpAny_bind (wpAny_of_eq (a := (Value.ref l, [Value.ref sl])) (by first | rfl | kernel_rfl) ?_)
  show wpAny _ _ (Builtin.List.listSubscript? (.ref sl) >>= _) _ _ s
  unfold Builtin.List.listSubscript?
  refine wpAny_bind (wpAny_bind (wpAny_specialOf hT slice_no_index ?_))
  simp only [Option.isNone_none, if_true]
  refine wpAny_pure ?_
  show wpAny _ _ (typeOf (.ref sl) >>= _) _ _ s
  refine wpAny_bind (wpAny_typeOf hT ?_)
  first
    | rw [if_neg (by decide)]
    | refine PySem.W.KFB.if_not (by decide) ?_
  rw [listSliceParts_eq]
  refine wpAny_bind (wpAny_bind (wpAny_field hos hds rfl (wpAny_bind (wpAny_listPart .none ?_))))
  rw [if_neg hst]
  refine wpAny_bind (wpAny_field hos hds rfl (wpAny_bind (wpAny_listPart pl ?_)))
  refine wpAny_bind (wpAny_field hos hds rfl (wpAny_bind (wpAny_listPart pu (wpAny_pure ?_))))
  unfold Builtin.List.listItems
  refine wpAny_bind (wpAny_bind (wpAny_seqItems e rfl (wpAny_pure ?_)))
  rw [hm]
  refine wpAny_bind (wpAny_of_eq ((sliceIndices_raw (some (-3)) (some (-1)) none (m + 3) (by simp)).trans (congrArg (pure : Int × Int × Int → Sem (Int × Int × Int)) (bounds31 m))) ?_)
  refine wpAny_bind (wpAny_rule ?_)
  have hz2 : (cutOut (m : Int) ((m + 2 : Nat) : Int) its).size ≤ sizeLine + 1 := by
    unfold cutOut
    rw [List.size_toArray]
    refine Nat.le_trans (List.length_filterMap_le _ _) ?_
    rw [List.length_zipIdx, Array.length_toList]
    omega
  show wpAny _ _ (updateSeq l (cutOut (m : Int) ((m + 2 : Nat) : Int)) >>= _) _ _ s
  refine wpAny_bind (wpAny_updateSeq (hz := hz) (_hz' := hz2) e rfl ?_)
  refine wpAny_bind (wpAny_letGo ?_)
  first
    | exact wpAny_pure ⟨.none, rfl, h⟩
    | exact wpAny_pure h
end
theorem split3 : ∀ {pre : List V} {x1 y1 z1 : V} {its : List Value}, Vals (pre ++ [x1, y1, z1]) its → ∃ ip i1 i2 i3, its = ip ++ [i1, i2, i3] ∧ Vals pre ip ∧ RelV x1 i1 ∧ RelV y1 i2 ∧ RelV z1 i3
  | [], _, _, _, _, .cons r1 (.cons r2 (.cons r3 .nil)) => ⟨[], _, _, _, rfl, .nil, r1, r2, r3⟩
  | _ :: pre, _, _, _, _, .cons r0 t => by
    obtain ⟨ip, i1, i2, i3, e, rp, h⟩ := split3 (pre := pre) t
    exact ⟨_ :: ip, i1, i2, i3, by rw [e]; rfl, .cons r0 rp, h⟩
section
variable {X : Cx}
/-- del xs[-3:-1] of a list of at least three -/
def tDel31 (to : TE) (tl th : TO) : TS := fun D σ H => to σ H fun x H1 => tl σ H1 fun l H2 => th σ H2 fun u H3 => l = some (-3) ∧ u = some (-1) ∧ ∃ (a : Addr) (pre : List V) (x1 y1 z1 : V), x = .ref a ∧ H3 a = some (.lst (pre ++ [x1, y1, z1])) ∧
  D.nx σ (upd H3 a (.lst (pre ++ [z1])))
theorem ps_del31 {o : Expr} {lo hi : Option Expr} {to : TE} {tl th : TO} {tpos p2 pos : Pos} (ho : PE X o to) (hl : PO X lo tl) (hu : PO X hi th) : PS X (.Delete [.Subscript o (.Slice lo hi none p2) tpos] pos) (tDel31 to tl th) := by
  refine ⟨fun pins s σ H D I h => ?_⟩
  refine wpAny_Delete (wpAny_deleteEach_cons (wpAny_delete_Subscript (thn (ho.run pins s σ H _ I h) fun u s1 ⟨x, H1, I1, rx, q1⟩ => ?_)))
  refine wpAny_Slice (thn (hl.run pins s1 σ H1 _ I1 q1) fun vl s2 ⟨l, H2, I2, pl, q2⟩ => thn (hu.run pins s2 σ H2 _ I2 q2) fun vu s3 ⟨w, H3, I3, pu, q3⟩ => ?_)
  rw [evalPart_none]
  refine wpAny_pure ?_
  obtain ⟨e1, e2, a, pre, x1, y1, z1, rfl, hH, q⟩ := q3
  subst e1 e2
  cases (show u = Value.ref a from rx)
  have I4 : Inv X pins σ H3 { s3 with heap := s3.heap.push { cls := .type "slice", data := .fields #[vl, vu, .none] } } := I3.kept (t' := s3.toks) fun b o e => Heap.get?_push_of_some _ e
  obtain ⟨z, its, n, r, hlen, e⟩ := I4.lstM hH
  have hn : its.length = pre.length + 3 := by rw [← hlen]; simp
  obtain ⟨ip, i1, i2, i3, ei, rp, r1, r2, r3⟩ : ∃ ip i1 i2 i3, its = ip ++ [i1, i2, i3] ∧ Vals pre ip ∧ RelV x1 i1 ∧ RelV y1 i2 ∧ RelV z1 i3 := split3 r
  subst ei
  have hp : ip.length = pre.length := rp.length.symm
  refine del31 e (Heap.IsSliceOf.new ..) pl pu pre.length (by rw [List.size_toArray]; exact hn) (by rw [List.size_toArray, ← hlen]; exact z) (wpAny_deleteEach_nil ⟨σ, _, I4.lset (ys := pre ++ [z1]) (its' := ip ++ [i3]) (t' := s3.toks) hH e ?_ (rp.append (.cons r3 .nil)) ?_, q⟩)
  · rw [← hp]
    exact cut_three ip i1 i2 i3
  · have := z
    simp only [List.length_append, List.length_cons, List.length_nil] at this ⊢
    omega
end
end DS

/-! places, sorted pairs, the stack's turns -/
namespace RN
open PM RM
def takenAt (ps : List Int) (i : Nat) : Bool := match ps.drop i with
  | a :: b :: c :: d :: _ => decide (Taken a b c d)
  | _ => false
theorem taken_here {ps : List Int} {i : Nat} (h : takenAt ps i = true) : ∃ pre a b c d post, ps = pre ++ a :: b :: c :: d :: post ∧ pre.length = i ∧ Taken a b c d := by
  unfold takenAt at h
  split at h
  · rename_i a b c d post e
    refine ⟨ps.take i, a, b, c, d, post, by rw [← e, List.take_append_drop], ?_, of_decide_eq_true h⟩
    have : (ps.drop i).length = post.length + 4 := by rw [e]; simp
    rw [List.length_drop] at this
    rw [List.length_take]
    omega
  · cases h
theorem taken_get {ps : List Int} {i : Nat} {a b c d : Int} (h0 : ps[i]? = some a) (h1 : ps[i + 1]? = some b) (h2 : ps[i + 2]? = some c) (h3 : ps[i + 3]? = some d) : takenAt ps i = decide (Taken a b c d) := by
  have e : ∀ {j : Nat} {r : Int}, ps[j]? = some r → ps.drop j = r :: ps.drop (j + 1) := fun {j r} h => by
    obtain ⟨k1, k2⟩ := List.getElem?_eq_some_iff.mp h
    rw [List.drop_eq_getElem_cons k1, k2]
  unfold takenAt
  rw [e h0, e h1, e h2, e h3]
theorem taken_lt {ps : List Int} {i : Nat} (h : takenAt ps i = true) : i < ps.length - 3 := by
  obtain ⟨pre, a, b, c, d, post, e, hl, _⟩ := taken_here h
  rw [e]
  simp only [List.length_append, List.length_cons]
  omega
theorem step_at {ps q : List Int} {cy : Int × Int} (h : Step ps cy q) : ∃ i, takenAt ps i = true := by
  induction h with
  | here t => exact ⟨0, decide_eq_true t⟩
  | there _ ih =>
    obtain ⟨i, e⟩ := ih
    exact ⟨i + 1, e⟩
def plc (ps : List Int) : List Int := ((List.range (ps.length - 3)).filter (takenAt ps)).map fun (i : Nat) => (i : Int) + 1
theorem plc_mem {ps : List Int} {x : Int} (h : x ∈ plc ps) : ∃ i : Nat, x = (i : Int) + 1 ∧ takenAt ps i = true := by
  obtain ⟨i, hi, e⟩ := List.mem_map.mp h
  exact ⟨i, e.symm, (List.mem_filter.mp hi).2⟩
theorem nf_of_plc {ps : List Int} (h : plc ps = []) : NF ps := by
  intro c q s
  obtain ⟨i, e⟩ := step_at s
  have : (i : Int) + 1 ∈ plc ps := List.mem_map.mpr ⟨i, List.mem_filter.mpr ⟨List.mem_range.mpr (taken_lt e), e⟩, rfl⟩
  rw [h] at this
  cases this
theorem plc_of_nf {ps : List Int} (h : NF ps) : plc ps = [] := by
  cases e : plc ps with
  | nil => rfl
  | cons x l =>
    have hx : x ∈ plc ps := by rw [e]; exact List.mem_cons_self
    obtain ⟨i, _, t⟩ := plc_mem hx
    obtain ⟨pre, a, b, c, d, post, e2, _, tk⟩ := taken_here t
    rw [e2] at h
    exact absurd ((Step.here tk).prefix pre) (h _ _)
theorem Run.suffix {p q : List Int} {cs : List (Int × Int)} (h : Run p cs q) (l : List Int) : Run (p ++ l) cs (q ++ l) := by
  induction h with
  | nil p => exact .nil _
  | cons s _ ih => exact .cons (s.suffix l) ih
theorem Run.ends {p r : List Int} {cs : List (Int × Int)} (h : Run p cs r) : (cs = [] ∧ p = r) ∨ 2 ≤ r.length := by
  induction h with
  | nil p => exact .inl ⟨rfl, rfl⟩
  | @cons p q r c cs s h ih =>
    refine .inr ?_
    rcases ih with ⟨_, e⟩ | e
    · subst e
      have : ∀ {p q : List Int} {c : Int × Int}, Step p c q → 2 ≤ q.length := by
        intro p q c s
        induction s with
        | here _ => simp only [List.length_cons]; omega
        | there _ ih => simp only [List.length_cons]; omega
      exact this s
    · exact e
theorem tq_zig : ∀ (l : List Int) (b a : Int), ZZ (b :: a :: l) → tq b a l = a :: l
  | [], _, _, _ => rfl
  | r :: l, b, a, z => by
    have h1 := z.1
    simp only [tq]
    rw [if_neg (by omega), if_neg (by omega), tq_zig l a r z.2]
theorem zz_tp {ps : List Int} (z : ZZ ps) : tp ps = ps := by
  match ps, z with
  | [], _ => rfl
  | [x], _ => rfl
  | x :: y :: l, z =>
    show ts x (y :: l) = _
    simp only [ts]
    rw [if_neg (zz_cons z), tq_zig l x y z]
/-- pairs in their order -/
abbrev Le (r s : Int × Int) : Prop := r.1 < s.1 ∨ (r.1 = s.1 ∧ r.2 ≤ s.2)
theorem le_anti {r s : Int × Int} (h1 : Le r s) (h2 : Le s r) : r = s := by
  obtain ⟨a, b⟩ := r
  obtain ⟨c, d⟩ := s
  have e1 : a = c := by simp only [Le] at h1 h2; omega
  have e2 : b = d := by simp only [Le] at h1 h2; omega
  rw [e1, e2]
theorem sorted_same : ∀ {l m : List (Int × Int)}, l.Perm m → l.Pairwise Le → m.Pairwise Le → l = m
  | [], m, h, _, _ => (List.Perm.nil_eq h)
  | x :: l, m, h, h1, h2 => by
    cases m with
    | nil => exact absurd h.length_eq (by simp)
    | cons y m =>
      have hx := List.pairwise_cons.mp h1
      have hy := List.pairwise_cons.mp h2
      have e : x = y := by
        have m1 : x ∈ y :: m := h.mem_iff.mp List.mem_cons_self
        have m2 : y ∈ x :: l := h.mem_iff.mpr List.mem_cons_self
        rcases List.mem_cons.mp m1 with e | e
        · exact e
        · rcases List.mem_cons.mp m2 with e' | e'
          · exact e'.symm
          · exact le_anti (hx.1 y e') (hy.1 x e)
      subst e
      rw [sorted_same ((List.perm_cons x).mp h) hx.2 hy.2]
end RN

/-! readings put behind a rest one by one -/
namespace RS
open PM RM RN
/-- the last of some points is none any more with a reading behind it -/
def lo : List Int → Int → Bool
  | [], _ => false
  | [u], r => decide (u = r)
  | [b, u], r => decide (u = r) || decide (Btw u b r)
  | _ :: u :: v :: t, r => lo (u :: v :: t) r
def push : List Int → Int → List Int
  | [], r => [r]
  | [u], r => if u = r then [r] else [u, r]
  | [b, u], r => if u = r ∨ Btw u b r then [b, r] else [b, u, r]
  | b :: u :: v :: t, r => b :: push (u :: v :: t) r
theorem lo_two : ∀ (dn : List Int) (b u r : Int), lo (dn ++ [b, u]) r = (decide (u = r) || decide (Btw u b r))
  | [], _, _, _ => rfl
  | [x], _, _, _ => rfl
  | x :: y :: dn, b, u, r => by
    have h := lo_two (y :: dn) b u r
    cases dn with
    | nil => exact h
    | cons z dn => exact h
theorem push_lo : ∀ (p : List Int) (r : Int), push p r = (if lo p r = true then p.dropLast else p) ++ [r]
  | [], _ => rfl
  | [u], r => by
    simp only [push, lo, decide_eq_true_eq]
    split <;> simp
  | [b, u], r => by
    simp only [push, lo, Bool.or_eq_true, decide_eq_true_eq]
    split <;> simp
  | b :: u :: v :: t, r => by
    have h := push_lo (u :: v :: t) r
    simp only [push, lo]
    rw [h]
    by_cases e : lo (u :: v :: t) r = true
    · simp [e]
    · simp [e]
theorem push_two (dn : List Int) (b u r : Int) : push (dn ++ [b, u]) r = if u = r ∨ Btw u b r then dn ++ [b, r] else dn ++ [b, u, r] := by
  rw [push_lo, lo_two]
  simp only [Bool.or_eq_true, decide_eq_true_eq]
  split
  · rw [show dn ++ [b, u] = (dn ++ [b]) ++ [u] by simp, List.dropLast_concat]; simp
  · simp
theorem push_cons (b : Int) : ∀ {p : List Int} (r : Int), 2 ≤ p.length → push (b :: p) r = b :: push p r
  | [], _, h => by simp at h
  | [_], _, h => by simp at h
  | _ :: _ :: _, _, _ => rfl
theorem tq_ne (b a : Int) : ∀ l, 1 ≤ (tq b a l).length
  | [] => Nat.le_refl _
  | r :: l => by
    simp only [tq]
    split
    · exact tq_ne b a l
    · split
      · exact tq_ne b r l
      · simp
theorem tq_push : ∀ (l : List Int) (b a r : Int), b :: tq b a (l ++ [r]) = push (b :: tq b a l) r
  | [], b, a, r => by
    show b :: tq b a [r] = push [b, a] r
    simp only [tq, push]
    by_cases e : a = r
    · rw [if_pos e, if_pos (Or.inl e), e]
    · rw [if_neg e]
      by_cases bt : Btw a b r
      · rw [if_pos bt, if_pos (Or.inr bt)]
      · rw [if_neg bt, if_neg (fun z => z.elim e bt)]
  | x :: l, b, a, r => by
    simp only [List.cons_append, tq]
    by_cases e : a = x
    · rw [if_pos e, if_pos e]
      exact tq_push l b a r
    · rw [if_neg e, if_neg e]
      by_cases bt : Btw a b x
      · rw [if_pos bt, if_pos bt]
        exact tq_push l b x r
      · rw [if_neg bt, if_neg bt, tq_push l a x r, push_cons b r (by have := tq_ne a x l; simp; omega)]
theorem ts_push : ∀ (l : List Int) (a r : Int), ts a (l ++ [r]) = push (ts a l) r
  | [], a, r => by
    show ts a [r] = push [a] r
    simp only [ts, push]
    by_cases e : a = r
    · rw [if_pos e, if_pos e, e]
    · rw [if_neg e, if_neg e]
      rfl
  | x :: l, a, r => by
    simp only [List.cons_append, ts]
    by_cases e : a = x
    · rw [if_pos e, if_pos e]
      exact ts_push l a r
    · rw [if_neg e, if_neg e]
      exact tq_push l a x r
theorem tp_push (l : List Int) (r : Int) : tp (l ++ [r]) = push (tp l) r := by
  cases l with
  | nil => rfl
  | cons a l => exact ts_push l a r
theorem tp_take {ns : List Int} {i : Nat} {r : Int} (h : ns[i]? = some r) : tp (ns.take (i + 1)) = push (tp (ns.take i)) r := by
  rw [List.take_add_one, h]
  exact tp_push _ _
/-- with points that go up and down, so they go on -/
theorem zz_push {p : List Int} (r : Int) (h : ZZ p) : ZZ (push p r) := by
  have e := tp_push p r
  rw [zz_tp h] at e
  rw [← e]
  exact tp_zz _
theorem taken_abs {a b c d : Int} (h : ZZ (a :: b :: c :: d :: [])) : Taken a b c d ↔ (((b - a).natAbs : Int) ≥ ((c - b).natAbs : Int) ∧ ((d - c).natAbs : Int) ≥ ((c - b).natAbs : Int)) := by
  rw [taken_iff h]
  have h1 := h.1
  have h2 := h.2.1
  omega
theorem zz_at {ps : List Int} : ZZ ps → ∀ {i : Nat} {a b c d : Int}, ps[i]? = some a → ps[i + 1]? = some b → ps[i + 2]? = some c → ps[i + 3]? = some d → ZZ [a, b, c, d] := by
  intro h
  induction ps with
  | nil => intro i a b c d h0; cases h0
  | cons x p ih =>
    intro i a b c d h0 h1 h2 h3
    cases i with
    | succ i => exact ih h.tail h0 h1 h2 h3
    | zero =>
      match p, h, h1, h2, h3 with
      | y :: z :: u :: t, h, h1, h2, h3 =>
        obtain rfl := Option.some.inj h0
        obtain rfl := Option.some.inj h1
        obtain rfl := Option.some.inj h2
        obtain rfl := Option.some.inj h3
        exact h.four
theorem zz_mid {pre : List Int} {a b c d : Int} {post : List Int} (h : ZZ (pre ++ a :: b :: c :: d :: post)) : ZZ [a, b, c, d] := by
  induction pre with
  | nil => exact h.four
  | cons x p ih => exact ih h.tail
theorem zz_mid3 {pre : List Int} {a b c : Int} {post : List Int} (h : ZZ (pre ++ a :: b :: c :: post)) : ((a < b ∧ c < b) ∨ (b < a ∧ b < c)) := by
  induction pre with
  | nil => exact h.1
  | cons x p ih => exact ih h.tail
theorem step_on {p q : List Int} {cy : Int × Int} (s : Step p cy q) : ∀ {m : List Int} {b u : Int}, p = m ++ [b, u] → ZZ p →
    ∃ m' b', q = m' ++ [b', u] ∧ (b < u ↔ b' < u) ∧ (u < b ↔ u < b') ∧ ∀ r, (b < u → u ≤ r) → (u < b → r ≤ u) → Step (m ++ [b, r]) cy (m' ++ [b', r]) := by
  induction s with
  | @here a b1 c d post t =>
    intro m b u e z
    have ti := (taken_iff z.four).mp t
    rcases List.eq_nil_or_concat post with rfl | ⟨post1, y, rfl⟩
    · have e2 : [a, b1] ++ [c, d] = m ++ [b, u] := e
      obtain ⟨rfl, e4⟩ := List.append_inj' e2 rfl
      injection e4 with e5 e6
      injection e6 with e6 _
      subst e5 e6
      refine ⟨[], a, rfl, by omega, by omega, fun r h1 h2 => ?_⟩
      have zr : ZZ [a, b1, c, r] := ⟨z.1, by have := z.2.1; constructor; have := z.1; omega; show c ≠ r; omega⟩
      exact .here ((taken_iff zr).mpr (by omega))
    · rcases List.eq_nil_or_concat post1 with rfl | ⟨post2, x, rfl⟩
      · have e2 : [a, b1, c] ++ [d, y] = m ++ [b, u] := e
        obtain ⟨rfl, e4⟩ := List.append_inj' e2 rfl
        injection e4 with e5 e6
        injection e6 with e6 _
        subst e5 e6
        exact ⟨[a], d, rfl, Iff.rfl, Iff.rfl, fun r _ _ => .here t⟩
      · have e2 : (a :: b1 :: c :: d :: post2) ++ [x, y] = m ++ [b, u] := by rw [← e]; simp
        obtain ⟨rfl, e4⟩ := List.append_inj' e2 rfl
        injection e4 with e5 e6
        injection e6 with e6 _
        subst e5 e6
        exact ⟨a :: d :: post2, x, by simp, Iff.rfl, Iff.rfl, fun r _ _ => .here t⟩
  | @there x p q cy s ih =>
    intro m b u e z
    cases m with
    | nil =>
      have hl := s.len
      injection e with _ e
      rw [e] at hl
      simp at hl
    | cons y m =>
      injection e with e1 e2
      subst e1
      obtain ⟨m', b', h1, h2, h3, h4⟩ := ih e2 z.tail
      exact ⟨x :: m', b', by rw [h1]; rfl, h2, h3, fun r k1 k2 => .there (h4 r k1 k2)⟩
theorem run_on {p q : List Int} {cs : List (Int × Int)} (h : Run p cs q) : ∀ {m : List Int} {b u : Int}, p = m ++ [b, u] → ZZ p →
    ∃ m' b', q = m' ++ [b', u] ∧ (b < u ↔ b' < u) ∧ (u < b ↔ u < b') ∧ ∀ r, (b < u → u ≤ r) → (u < b → r ≤ u) → Run (m ++ [b, r]) cs (m' ++ [b', r]) := by
  induction h with
  | nil p => exact fun {m b u} e z => ⟨m, b, e, Iff.rfl, Iff.rfl, fun r _ _ => .nil _⟩
  | @cons p q r0 c cs s run ih =>
    intro m b u e z
    obtain ⟨m1, b1, h1, h2, h3, h4⟩ := step_on s e z
    obtain ⟨m2, b2, k1, k2, k3, k4⟩ := ih h1 (ZZ.step s z)
    exact ⟨m2, b2, k1, h2.trans k2, h3.trans k3, fun r j1 j2 => .cons (h4 r j1 j2) (k4 r (fun z => j1 (h2.mpr z)) (fun z => j2 (h3.mpr z)))⟩
theorem step_two {p q : List Int} {c : Int × Int} (s : Step p c q) : 2 ≤ q.length := by
  induction s with
  | here _ => simp only [List.length_cons]; omega
  | there _ ih => simp only [List.length_cons]; omega
theorem two_last {p : List Int} (h : 2 ≤ p.length) : ∃ m b u, p = m ++ [b, u] := by
  rcases List.eq_nil_or_concat p with rfl | ⟨m1, d, rfl⟩
  · simp at h
  · rcases List.eq_nil_or_concat m1 with rfl | ⟨m2, c, rfl⟩
    · simp at h
    · exact ⟨m2, c, d, by simp⟩
/-- a reading behind a load is a reading behind its rest -/
theorem run_push {p q : List Int} {cs : List (Int × Int)} (h : Run p cs q) (z : ZZ p) (r : Int) : Run (push p r) cs (push q r) := by
  by_cases h2 : 2 ≤ p.length
  · obtain ⟨m, b, u, rfl⟩ := two_last h2
    obtain ⟨m', b', rfl, e1, e2, e3⟩ := run_on h rfl z
    rw [push_two, push_two]
    by_cases hb : u = r ∨ Btw u b r
    · have hb' : u = r ∨ Btw u b' r := hb.imp id (fun k => by omega)
      rw [if_pos hb, if_pos hb']
      exact e3 r (fun k => by omega) (fun k => by omega)
    · have hb' : ¬ (u = r ∨ Btw u b' r) := fun k => hb (k.imp id (fun k => by omega))
      rw [if_neg hb, if_neg hb']
      have := RN.Run.suffix h [r]
      simpa using this
  · cases h with
    | nil _ => exact .nil _
    | cons s _ =>
      have := s.len
      have := step_two s
      exact absurd (show 2 ≤ p.length by omega) h2
theorem Run.append {p q r : List Int} {cs ds : List (Int × Int)} (h : Run p cs q) (k : Run q ds r) : Run p (cs ++ ds) r := by
  induction h with
  | nil p => exact k
  | cons s _ ih => exact .cons s (ih k)
/-- one reading more -/
theorem stream {ns : List Int} {i : Nat} {r : Int} {cs cs2 : List (Int × Int)} {rs rs2 : List Int} (hr : ns[i]? = some r) (h : Run (tp (ns.take i)) cs rs) (k : Run (push rs r) cs2 rs2) : Run (tp (ns.take (i + 1))) (cs ++ cs2) rs2 := by
  rw [tp_take hr]
  exact Run.append (run_push h (tp_zz _) r) k
theorem push_len (p : List Int) (r : Int) : (push p r).length ≤ p.length + 1 := by
  rw [push_lo]
  split <;> simp
end RS

/-! changes decide the half-cycles, as mathematics -/
namespace RC
open KM PM RM RN
/-- a range holds another one -/
def hl (lo hi : Int) (r : Int × Int) : Bool := decide (r.1 ≤ lo) && decide (hi ≤ r.2)
def nh (lo hi : Int) (rs : List (Int × Int)) : Nat := rs.countP (hl lo hi)
def b1 (b : Bool) : Nat := if b = true then 1 else 0
theorem nh_cons (lo hi : Int) (r : Int × Int) (rs : List (Int × Int)) : nh lo hi (r :: rs) = b1 (hl lo hi r) + nh lo hi rs := by
  unfold nh b1
  rw [List.countP_cons]
  omega
theorem nh_app (lo hi : Int) (rs ss : List (Int × Int)) : nh lo hi (rs ++ ss) = nh lo hi rs + nh lo hi ss := List.countP_append
theorem nh_perm {lo hi : Int} {rs ss : List (Int × Int)} (h : rs.Perm ss) : nh lo hi rs = nh lo hi ss := h.countP_eq _
/-- a letter is read, some before -/
def cl (lo hi : Int) (o : Option Bool) (ns : List Int) : Nat := cfO o (lets lo hi ns)
def d2 (o : Option Bool) (b : Bool) : Nat := match o with
  | none => 0
  | some a => if a = b then 0 else 1
theorem cl_nil (lo hi : Int) (o : Option Bool) : cl lo hi o [] = 0 := by cases o <;> rfl
theorem cl_cons (lo hi : Int) (o : Option Bool) (x : Int) (ns : List Int) : cl lo hi o (x :: ns) = match lett lo hi x with
    | none => cl lo hi o ns
    | some b => d2 o b + cl lo hi (some b) ns := by
  unfold cl lets
  rw [List.filterMap_cons]
  cases lett lo hi x with
  | none => rfl
  | some b =>
    cases o with
    | none => show cf b _ = 0 + cf b _; omega
    | some a => rfl
theorem lett_lo {lo hi x : Int} (h : x ≤ lo) : lett lo hi x = some true := if_pos h
theorem lett_hi {lo hi x : Int} (h0 : lo < hi) (h : hi ≤ x) : lett lo hi x = some false := by unfold lett; rw [if_neg (by omega), if_pos h]
theorem lett_no {lo hi x : Int} (h1 : lo < x) (h2 : x < hi) : lett lo hi x = none := by unfold lett; rw [if_neg (by omega), if_neg (by omega)]
theorem lett3 (lo hi x : Int) (h0 : lo < hi) : (x ≤ lo ∧ lett lo hi x = some true) ∨ (hi ≤ x ∧ lett lo hi x = some false) ∨ (lo < x ∧ x < hi ∧ lett lo hi x = none) := by
  by_cases a : x ≤ lo
  · exact .inl ⟨a, lett_lo a⟩
  · by_cases b : hi ≤ x
    · exact .inr (.inl ⟨b, lett_hi h0 b⟩)
    · exact .inr (.inr ⟨by omega, by omega, lett_no (by omega) (by omega)⟩)
theorem hl_iff {lo hi : Int} {a b : Int} : hl lo hi (a, b) = decide (a ≤ lo ∧ hi ≤ b) := by
  unfold hl
  by_cases h1 : a ≤ lo <;> by_cases h2 : hi ≤ b <;> simp [h1, h2]
theorem four_up {lo hi a b c d : Int} (h0 : lo < hi) (post : List Int) (o : Option Bool) (h1 : a ≤ c) (h2 : c < b) (h3 : b ≤ d) : cl lo hi o (a :: b :: c :: d :: post) = cl lo hi o (a :: d :: post) + 2 * b1 (hl lo hi (c, b)) := by
  rw [hl_iff]
  simp only [cl_cons]
  rcases lett3 lo hi a h0 with ⟨x1, e1⟩ | ⟨x1, e1⟩ | ⟨x1, y1, e1⟩ <;> rcases lett3 lo hi b h0 with ⟨x2, e2⟩ | ⟨x2, e2⟩ | ⟨x2, y2, e2⟩ <;> rcases lett3 lo hi c h0 with ⟨x3, e3⟩ | ⟨x3, e3⟩ | ⟨x3, y3, e3⟩ <;> rcases lett3 lo hi d h0 with ⟨x4, e4⟩ | ⟨x4, e4⟩ | ⟨x4, y4, e4⟩ <;> first
    | (exfalso; omega)
    | (rw [decide_eq_true (by omega), e1, e2, e3, e4]; simp only [d2, b1]; cases o with
        | none => simp <;> omega
        | some p => cases p <;> simp <;> omega)
    | (rw [decide_eq_false (by omega), e1, e2, e3, e4]; simp only [d2, b1]; cases o with
        | none => simp
        | some p => cases p <;> simp)
theorem four_down {lo hi a b c d : Int} (h0 : lo < hi) (post : List Int) (o : Option Bool) (h1 : c ≤ a) (h2 : b < c) (h3 : d ≤ b) : cl lo hi o (a :: b :: c :: d :: post) = cl lo hi o (a :: d :: post) + 2 * b1 (hl lo hi (b, c)) := by
  rw [hl_iff]
  simp only [cl_cons]
  rcases lett3 lo hi a h0 with ⟨x1, e1⟩ | ⟨x1, e1⟩ | ⟨x1, y1, e1⟩ <;> rcases lett3 lo hi b h0 with ⟨x2, e2⟩ | ⟨x2, e2⟩ | ⟨x2, y2, e2⟩ <;> rcases lett3 lo hi c h0 with ⟨x3, e3⟩ | ⟨x3, e3⟩ | ⟨x3, y3, e3⟩ <;> rcases lett3 lo hi d h0 with ⟨x4, e4⟩ | ⟨x4, e4⟩ | ⟨x4, y4, e4⟩ <;> first
    | (exfalso; omega)
    | (rw [decide_eq_true (by omega), e1, e2, e3, e4]; simp only [d2, b1]; cases o with
        | none => simp <;> omega
        | some p => cases p <;> simp <;> omega)
    | (rw [decide_eq_false (by omega), e1, e2, e3, e4]; simp only [d2, b1]; cases o with
        | none => simp
        | some p => cases p <;> simp)
theorem cl_step {lo hi : Int} (h0 : lo < hi) {p q : List Int} {c : Int × Int} (h : Step p c q) : ZZ p → ∀ o, cl lo hi o p = cl lo hi o q + 2 * b1 (hl lo hi c) := by
  induction h with
  | @here a b c d post t =>
    intro z o
    rcases (taken_iff z.four).mp t with ⟨x1, x2, x3, x4, x5⟩ | ⟨x1, x2, x3, x4, x5⟩
    · rw [rg_down x2]; exact four_up h0 post o x4 x2 x5
    · rw [rg_up x2]; exact four_down h0 post o x4 x2 x5
  | @there x p q cy s ih =>
    intro z o
    rw [cl_cons, cl_cons]
    cases lett lo hi x with
    | none => exact ih z.tail o
    | some b =>
      have := ih z.tail (some b)
      show d2 o b + cl lo hi (some b) p = d2 o b + cl lo hi (some b) q + _
      omega
theorem cl_run {lo hi : Int} (h0 : lo < hi) {p q : List Int} {cs : List (Int × Int)} (h : Run p cs q) : ZZ p → ∀ o, cl lo hi o p = cl lo hi o q + 2 * nh lo hi cs := by
  induction h with
  | nil p => intro _ o; rfl
  | cons s _ ih =>
    intro z o
    rw [cl_step h0 s z o, ih (ZZ.step s z) o, nh_cons]
    omega
/-! the load and its turning points -/
theorem cl_same {lo hi : Int} (o : Option Bool) (a : Int) (l : List Int) : cl lo hi o (a :: a :: l) = cl lo hi o (a :: l) := by
  simp only [cl_cons]
  cases lett lo hi a with
  | none => rfl
  | some b => simp [d2]
theorem cl_btw {lo hi : Int} (h0 : lo < hi) (o : Option Bool) {b a r : Int} (l : List Int) (h : Btw a b r) : cl lo hi o (b :: a :: r :: l) = cl lo hi o (b :: r :: l) := by
  simp only [cl_cons]
  rcases lett3 lo hi a h0 with ⟨x1, e1⟩ | ⟨x1, e1⟩ | ⟨x1, y1, e1⟩ <;> rcases lett3 lo hi b h0 with ⟨x2, e2⟩ | ⟨x2, e2⟩ | ⟨x2, y2, e2⟩ <;> rcases lett3 lo hi r h0 with ⟨x3, e3⟩ | ⟨x3, e3⟩ | ⟨x3, y3, e3⟩ <;> first
    | (exfalso; omega)
    | (rw [e1, e2, e3]; done)
    | (rw [e1, e2, e3]; cases o with
        | none => simp [d2]
        | some p => cases p <;> simp [d2])
theorem cl_tq {lo hi : Int} (h0 : lo < hi) : ∀ (l : List Int) (o : Option Bool) (b a : Int), cl lo hi o (b :: tq b a l) = cl lo hi o (b :: a :: l)
  | [], _, _, _ => rfl
  | r :: l, o, b, a => by
    simp only [tq]
    by_cases e : a = r
    · rw [if_pos e, cl_tq h0 l o b a, ← e, cl_cons lo hi o b (a :: a :: l), cl_cons lo hi o b (a :: l)]
      cases lett lo hi b with
      | none => exact (cl_same _ _ _).symm
      | some x => exact congrArg _ (cl_same _ _ _).symm
    · rw [if_neg e]
      by_cases bt : Btw a b r
      · rw [if_pos bt, cl_tq h0 l o b r, cl_btw h0 o l bt]
      · rw [if_neg bt, cl_cons lo hi o b (a :: tq a r l), cl_cons lo hi o b (a :: r :: l)]
        cases lett lo hi b with
        | none => exact cl_tq h0 l o a r
        | some x => exact congrArg (d2 o x + ·) (cl_tq h0 l (some x) a r)
theorem cl_ts {lo hi : Int} (h0 : lo < hi) : ∀ (l : List Int) (o : Option Bool) (a : Int), cl lo hi o (ts a l) = cl lo hi o (a :: l)
  | [], _, _ => rfl
  | r :: l, o, a => by
    simp only [ts]
    by_cases e : a = r
    · rw [if_pos e, cl_ts h0 l o a, ← e, cl_same]
    · rw [if_neg e, cl_tq h0 l o a r]
theorem cl_tp {lo hi : Int} (h0 : lo < hi) (ns : List Int) : cl lo hi none (tp ns) = chg ns lo hi := by
  cases ns with
  | nil => rfl
  | cons a l => exact cl_ts h0 l none a
/-! the rest: swings that grow and then shrink -/
def In (u v : Int) (ps : List Int) : Prop := ∀ x ∈ ps, u ≤ x ∧ x ≤ v
/-- each swing within the one before -/
def Con : List Int → Prop
  | x :: y :: z :: r => ((y < x ∧ y < z ∧ z ≤ x) ∨ (x < y ∧ z < y ∧ x ≤ z)) ∧ Con (y :: z :: r)
  | _ => True
theorem Con.inside : ∀ {r : List Int} {x y : Int}, Con (x :: y :: r) → x ≠ y → In (if x < y then x else y) (if x < y then y else x) (x :: y :: r)
  | [], x, y, _, h => by
    intro w hw
    rcases List.mem_cons.mp hw with e | hw
    · subst e; split <;> omega
    · rcases List.mem_cons.mp hw with e | hw
      · subst e; split <;> omega
      · exact absurd hw (List.not_mem_nil)
  | z :: r, x, y, c, h => by
    have ih := Con.inside c.2 (by have := c.1; omega)
    intro w hw
    have c1 := c.1
    rcases List.mem_cons.mp hw with e | hw
    · subst e; split <;> omega
    · have := ih w hw
      by_cases e1 : y < z
      · rw [if_pos e1, if_pos e1] at this
        rw [if_neg (by omega), if_neg (by omega)]
        omega
      · rw [if_neg e1, if_neg e1] at this
        rw [if_pos (by omega), if_pos (by omega)]
        omega
theorem nf_con : ∀ {r : List Int} {x y z : Int}, ZZ (x :: y :: z :: r) → NF (x :: y :: z :: r) → ((y < x ∧ z ≤ x) ∨ (x < y ∧ x ≤ z)) → Con (x :: y :: z :: r)
  | [], x, y, z, zz, _, h => ⟨by have := zz.1; omega, trivial⟩
  | w :: r, x, y, z, zz, n, h => by
    have z1 := zz.1
    have z2 := zz.2.1
    refine ⟨by omega, nf_con zz.2 (fun c q s => n _ _ (.there s)) ?_⟩
    have nt : ¬ Taken x y z w := fun t => n _ _ (.here t)
    rw [taken_iff zz.four] at nt
    omega
theorem one_letter {lo hi : Int} {b : Bool} : ∀ (l : List Int) (o : Option Bool), (o = none ∨ o = some b) → (∀ x ∈ l, lett lo hi x = none ∨ lett lo hi x = some b) → cl lo hi o l = 0
  | [], o, _, _ => cl_nil lo hi o
  | x :: l, o, h1, h2 => by
    have ih := fun o h => one_letter l o h (fun x hx => h2 x (List.mem_cons_of_mem _ hx))
    rw [cl_cons]
    rcases h2 x List.mem_cons_self with e | e
    · rw [e]; exact ih o h1
    · rw [e]
      show d2 o b + cl lo hi (some b) l = 0
      rw [ih _ (.inr rfl)]
      rcases h1 with e | e
      · rw [e]; rfl
      · rw [e]; simp [d2]
theorem con_one {lo hi x y : Int} (h0 : lo < hi) {r : List Int} (h : In (if x < y then x else y) (if x < y then y else x) (x :: y :: r)) (ne : x ≠ y) : cl lo hi none (x :: y :: r) = b1 (hl lo hi (rg x y)) + cl lo hi none (y :: r) := by
  have out : ∀ u v, u < v → In u v (x :: y :: r) → hl lo hi (u, v) = false → cl lo hi none (x :: y :: r) = 0 ∧ cl lo hi none (y :: r) = 0 := by
    intro u v huv hin hn
    rw [hl_iff] at hn
    have hn := of_decide_eq_false hn
    by_cases a : u ≤ lo
    · have hb : v < hi := by omega
      have key : ∀ w ∈ x :: y :: r, lett lo hi w = none ∨ lett lo hi w = some true := fun w hw => by
        have := hin w hw
        rcases lett3 lo hi w h0 with ⟨_, e⟩ | ⟨z, e⟩ | ⟨_, _, e⟩
        · exact .inr e
        · omega
        · exact .inl e
      exact ⟨one_letter _ _ (.inl rfl) key, one_letter _ _ (.inl rfl) fun w hw => key w (List.mem_cons_of_mem _ hw)⟩
    · have key : ∀ w ∈ x :: y :: r, lett lo hi w = none ∨ lett lo hi w = some false := fun w hw => by
        have := hin w hw
        rcases lett3 lo hi w h0 with ⟨z, e⟩ | ⟨z, e⟩ | ⟨_, _, e⟩
        · omega
        · exact .inr e
        · exact .inl e
      exact ⟨one_letter _ _ (.inl rfl) key, one_letter _ _ (.inl rfl) fun w hw => key w (List.mem_cons_of_mem _ hw)⟩
  rcases (show x < y ∨ y < x by omega) with h1 | h1
  · rw [if_pos h1, if_pos h1] at h
    rw [rg_up h1]
    cases e : hl lo hi (x, y) with
    | false => obtain ⟨e1, e2⟩ := out x y h1 h e; rw [e1, e2]; rfl
    | true =>
      rw [hl_iff] at e
      have e := of_decide_eq_true e
      rw [cl_cons lo hi none x, cl_cons lo hi none y, lett_lo e.1, lett_hi h0 e.2]
      show d2 none true + cl lo hi (some true) (y :: r) = b1 true + (d2 none false + cl lo hi (some false) r)
      rw [cl_cons, lett_hi h0 e.2]
      simp [d2, b1]
  · rw [if_neg (by omega), if_neg (by omega)] at h
    rw [rg_down h1]
    cases e : hl lo hi (y, x) with
    | false => obtain ⟨e1, e2⟩ := out y x h1 h e; rw [e1, e2]; rfl
    | true =>
      rw [hl_iff] at e
      have e := of_decide_eq_true e
      rw [cl_cons lo hi none x, cl_cons lo hi none y, lett_lo e.1, lett_hi h0 e.2]
      show d2 none false + cl lo hi (some false) (y :: r) = b1 true + (d2 none true + cl lo hi (some true) r)
      rw [cl_cons, lett_lo e.1]
      simp [d2, b1]
theorem wide_one {lo hi x y z : Int} (h0 : lo < hi) {r : List Int} (h : (y < x ∧ x < z) ∨ (x < y ∧ z < x)) : cl lo hi none (x :: y :: z :: r) = b1 (hl lo hi (rg x y)) + cl lo hi none (y :: z :: r) := by
  rcases h with ⟨h1, h2⟩ | ⟨h1, h2⟩
  · rw [rg_down h1, hl_iff]
    simp only [cl_cons]
    rcases lett3 lo hi x h0 with ⟨x1, e1⟩ | ⟨x1, e1⟩ | ⟨x1, y1, e1⟩ <;> rcases lett3 lo hi y h0 with ⟨x2, e2⟩ | ⟨x2, e2⟩ | ⟨x2, y2, e2⟩ <;> rcases lett3 lo hi z h0 with ⟨x3, e3⟩ | ⟨x3, e3⟩ | ⟨x3, y3, e3⟩ <;> first
      | (exfalso; omega)
      | (rw [decide_eq_true (by omega), e1, e2, e3]; simp [d2, b1]; done)
      | (rw [decide_eq_false (by omega), e1, e2, e3]; simp [d2, b1]; done)
  · rw [rg_up h1, hl_iff]
    simp only [cl_cons]
    rcases lett3 lo hi x h0 with ⟨x1, e1⟩ | ⟨x1, e1⟩ | ⟨x1, y1, e1⟩ <;> rcases lett3 lo hi y h0 with ⟨x2, e2⟩ | ⟨x2, e2⟩ | ⟨x2, y2, e2⟩ <;> rcases lett3 lo hi z h0 with ⟨x3, e3⟩ | ⟨x3, e3⟩ | ⟨x3, y3, e3⟩ <;> first
      | (exfalso; omega)
      | (rw [decide_eq_true (by omega), e1, e2, e3]; simp [d2, b1]; done)
      | (rw [decide_eq_false (by omega), e1, e2, e3]; simp [d2, b1]; done)
theorem nf_nh {lo hi : Int} (h0 : lo < hi) : ∀ (ps : List Int), ZZ ps → NF ps → cl lo hi none ps = nh lo hi (sw ps)
  | [], _, _ => rfl
  | [x], _, _ => by
    rw [cl_cons]
    cases lett lo hi x <;> rfl
  | [x, y], zz, _ => by
    have zz : x ≠ y := zz
    show _ = nh lo hi [rg x y]
    rw [nh_cons, con_one h0 (Con.inside (r := []) (x := x) (y := y) (show Con [x, y] from trivial) zz) zz]
    show _ + cl lo hi none [y] = _ + 0
    rw [cl_cons]
    cases lett lo hi y <;> rfl
  | x :: y :: z :: r, zz, n => by
    have ih := nf_nh h0 (y :: z :: r) zz.2 (fun c q s => n _ _ (.there s))
    show _ = nh lo hi (rg x y :: sw (y :: z :: r))
    rw [nh_cons, ← ih]
    have z1 := zz.1
    by_cases h : (y < x ∧ z ≤ x) ∨ (x < y ∧ x ≤ z)
    · exact con_one h0 (Con.inside (nf_con zz n h) (by omega)) (by omega)
    · exact wide_one h0 (by omega)
/-- the changes of a load are the half-cycles that hold the range -/
theorem chg_count {lo hi : Int} (h0 : lo < hi) {ns rs : List Int} {cs : List (Int × Int)} (h : Run (tp ns) cs rs) (n : NF rs) : chg ns lo hi = 2 * nh lo hi cs + nh lo hi (sw rs) := by
  rw [← cl_tp h0, cl_run h0 h (tp_zz ns), nf_nh h0 rs (h.zz (tp_zz ns)) n]
  omega
/-! just a range: the second difference -/
theorem just_one (lo hi : Int) (r : Int × Int) : b1 (decide (r = (lo, hi))) + b1 (hl (lo - 1) hi r) + b1 (hl lo (hi + 1) r) = b1 (hl lo hi r) + b1 (hl (lo - 1) (hi + 1) r) := by
  obtain ⟨u, v⟩ := r
  simp only [hl_iff]
  have e : decide ((u, v) = (lo, hi)) = decide (u = lo ∧ v = hi) := by simp
  rw [e]
  simp only [b1, decide_eq_true_eq]
  repeat' split
  all_goals omega
theorem just {lo hi : Int} : ∀ rs : List (Int × Int), rs.count (lo, hi) + nh (lo - 1) hi rs + nh lo (hi + 1) rs = nh lo hi rs + nh (lo - 1) (hi + 1) rs
  | [] => rfl
  | r :: rs => by
    have ih := just (lo := lo) (hi := hi) rs
    have h1 := just_one lo hi r
    rw [nh_cons, nh_cons, nh_cons, nh_cons, List.count_cons]
    have e : (if (r == (lo, hi)) = true then 1 else 0) = b1 (decide (r = (lo, hi))) := by
      unfold b1
      by_cases z : r = (lo, hi)
      · simp [z]
      · simp [z]
    rw [e]
    omega
end RC

/-! the half-cycles of two loads are the same exactly if their changes are -/
namespace RE
open KM PM RM RN RC
/-- of a load: its half-cycles, sorted -/
structure Hc (ns : List Int) (es : List (Int × Int)) : Prop where
  ex : ∃ cs ds rs, Run (tp ns) cs rs ∧ NF rs ∧ ds.Perm cs ∧ es.Perm (ds ++ ds ++ sw rs)
  srt : es.Pairwise Le
theorem Hc.chg {ns : List Int} {es : List (Int × Int)} (h : Hc ns es) {lo hi : Int} (h0 : lo < hi) : chg ns lo hi = nh lo hi es := by
  obtain ⟨cs, ds, rs, run, nf, p1, p2⟩ := h.ex
  rw [chg_count h0 run nf, nh_perm p2, nh_app, nh_app, nh_perm p1]
  omega
/-- every half-cycle lies within the readings -/
def InR (u v : Int) (r : Int × Int) : Prop := u ≤ r.1 ∧ r.1 < r.2 ∧ r.2 ≤ v
theorem rg_in {u v a b : Int} (ha : u ≤ a ∧ a ≤ v) (hb : u ≤ b ∧ b ≤ v) (ne : a ≠ b) : InR u v (rg a b) := by
  rcases (show a < b ∨ b < a by omega) with h | h
  · rw [rg_up h]; exact ⟨ha.1, h, hb.2⟩
  · rw [rg_down h]; exact ⟨hb.1, h, ha.2⟩
theorem step_in {u v : Int} {p q : List Int} {c : Int × Int} (h : Step p c q) : ZZ p → (∀ x ∈ p, u ≤ x ∧ x ≤ v) → InR u v c ∧ ∀ x ∈ q, u ≤ x ∧ x ≤ v := by
  induction h with
  | @here a b c d post t =>
    intro z hb
    have z1 := z.1
    refine ⟨rg_in (hb b (by simp)) (hb c (by simp)) (by omega), fun x hx => ?_⟩
    rcases List.mem_cons.mp hx with e | hx
    · exact hb x (by simp [e])
    · rcases List.mem_cons.mp hx with e | hx
      · exact hb x (by simp [e])
      · exact hb x (by simp [hx])
  | @there x p q cy s ih =>
    intro z hb
    obtain ⟨h1, h2⟩ := ih z.tail fun y hy => hb y (List.mem_cons_of_mem _ hy)
    refine ⟨h1, fun y hy => ?_⟩
    rcases List.mem_cons.mp hy with e | hy
    · exact hb y (by simp [e])
    · exact h2 y hy
theorem run_in {u v : Int} {p q : List Int} {cs : List (Int × Int)} (h : Run p cs q) : ZZ p → (∀ x ∈ p, u ≤ x ∧ x ≤ v) → (∀ c ∈ cs, InR u v c) ∧ ∀ x ∈ q, u ≤ x ∧ x ≤ v := by
  induction h with
  | nil p => exact fun _ hb => ⟨fun _ z => (List.not_mem_nil z).elim, hb⟩
  | cons s _ ih =>
    intro z hb
    obtain ⟨h1, h2⟩ := step_in s z hb
    obtain ⟨h3, h4⟩ := ih (ZZ.step s z) h2
    refine ⟨fun c hc => ?_, h4⟩
    rcases List.mem_cons.mp hc with e | hc
    · rw [e]; exact h1
    · exact h3 c hc
theorem sw_in {u v : Int} : ∀ {ps : List Int}, ZZ ps → (∀ x ∈ ps, u ≤ x ∧ x ≤ v) → ∀ r ∈ sw ps, InR u v r
  | [], _, _, r, h => by simp [sw] at h
  | [_], _, _, r, h => by simp [sw] at h
  | x :: y :: l, z, hb, r, h => by
    rcases List.mem_cons.mp (show r ∈ rg x y :: sw (y :: l) from h) with e | h
    · rw [e]; exact rg_in (hb x (by simp)) (hb y (by simp)) (zz_cons z)
    · exact sw_in z.tail (fun w hw => hb w (List.mem_cons_of_mem _ hw)) r h
theorem Hc.inr {u v : Int} {ns : List Int} {es : List (Int × Int)} (h : Hc ns es) (hb : ∀ x ∈ ns, u ≤ x ∧ x ≤ v) : ∀ r ∈ es, InR u v r := by
  obtain ⟨cs, ds, rs, run, nf, p1, p2⟩ := h.ex
  obtain ⟨h1, h2⟩ := run_in run (tp_zz ns) fun x hx => hb x (tp_mem hx)
  intro r hr
  rcases List.mem_append.mp (p2.mem_iff.mp hr) with z | z
  · rcases List.mem_append.mp z with z | z
    · exact h1 r (p1.mem_iff.mp z)
    · exact h1 r (p1.mem_iff.mp z)
  · exact sw_in (run.zz (tp_zz ns)) h2 r z
/-- two loads within u..v -/
theorem same_iff {u v : Int} {ns ms : List Int} {es fs : List (Int × Int)} (h : Hc ns es) (g : Hc ms fs) (hb : ∀ x ∈ ns, u ≤ x ∧ x ≤ v) (gb : ∀ x ∈ ms, u ≤ x ∧ x ≤ v) :
    es = fs ↔ ∀ lo hi : Int, u - 1 ≤ lo → lo < hi → hi ≤ v + 1 → KM.chg ns lo hi = KM.chg ms lo hi := by
  constructor
  · intro e lo hi _ h0 _
    rw [h.chg h0, g.chg h0, e]
  · intro e
    refine sorted_same (List.perm_iff_count.mpr fun r => ?_) h.srt g.srt
    obtain ⟨lo, hi⟩ := r
    by_cases z : u ≤ lo ∧ lo < hi ∧ hi ≤ v
    · have j1 := just (lo := lo) (hi := hi) es
      have j2 := just (lo := lo) (hi := hi) fs
      have k : ∀ a b : Int, u - 1 ≤ a → a < b → b ≤ v + 1 → nh a b es = nh a b fs := fun a b h1 h2 h3 => by rw [← h.chg h2, ← g.chg h2, e a b h1 h2 h3]
      have k1 := k lo hi (by omega) (by omega) (by omega)
      have k2 := k (lo - 1) hi (by omega) (by omega) (by omega)
      have k3 := k lo (hi + 1) (by omega) (by omega) (by omega)
      have k4 := k (lo - 1) (hi + 1) (by omega) (by omega) (by omega)
      omega
    · rw [List.count_eq_zero.mpr fun m => z (show u ≤ lo ∧ lo < hi ∧ hi ≤ v from h.inr hb (lo, hi) m), List.count_eq_zero.mpr fun m => z (show u ≤ lo ∧ lo < hi ∧ hi ≤ v from g.inr gb (lo, hi) m)]
end RE

/-! == of two dicts whose keys are tuples, both answers -/
namespace GD
open PySem PyProof.Rows PySem.Spec PySem.W
section
variable {prog : Program} {w : World} {K : Type} [DecidableEq K] {knd : HeapKind prog w K} {A : Around} {E : Value → Shared → Prop} {s : Shared}
inductive Hits (A : Around) (s : Shared) (ys : List (K × Addr × Value)) : List (K × Addr × Value) → Bool → Prop
  | nil : Hits A s ys [] true
  | miss {k : K} {p : Addr × Value} {r : List (K × Addr × Value)} : atKey ys k = none → Hits A s ys ((k, p) :: r) false
  | hit {k : K} {c c' : Addr} {v y : Value} {r : List (K × Addr × Value)} {e b : Bool} : atKey ys k = some (c', y) → SeqAt.EqAt A s v y e → Hits A s ys r b → Hits A s ys ((k, c, v) :: r) (e && b)
theorem Hits.inv {ys : List (K × Addr × Value)} {k : K} {c : Addr} {v : Value} {r : List (K × Addr × Value)} {b : Bool} (h : Hits A s ys ((k, c, v) :: r) b) :
    (atKey ys k = none ∧ b = false) ∨ ∃ c' y e b', atKey ys k = some (c', y) ∧ SeqAt.EqAt A s v y e ∧ Hits A s ys r b' ∧ b = (e && b') := by
  cases h with
  | miss hn => exact .inl ⟨hn, rfl⟩
  | hit hy he hr => exact .inr ⟨_, _, _, _, hy, he, hr, rfl⟩
theorem samePairsH {nm : String} {a b : Addr} {xs ys : List (K × Addr × Value)} {r : Bool} {Q : Bool → Shared → Prop} (ha : (a == sysModules) = false) (hb : (b == sysModules) = false)
    (da : s.heap.DictOfH knd a xs) (db : s.heap.DictOfH knd b ys) (hu : knd.room A) (hits : xs.length = ys.length → Hits A s ys xs r) (h : Q (xs.length == ys.length && r) s) :
    wpAny (model prog w) A (Builtin.Dict.samePairs nm a b) Q E s := by
  obtain ⟨oa, es, ep, hoa, _, hda, hea, hia, hna⟩ := da
  obtain ⟨ob, es', ep', hob, _, hdb, heb, hib, hnb⟩ := db
  have hla : xs.length = es.size := (size_of_entries hea).symm
  have hlb : ys.length = es'.size := (size_of_entries heb).symm
  rw [hla, hlb] at h
  unfold Builtin.Dict.samePairs Builtin.Dict.showsAll
  rw [if_neg (show ¬ (a == sysModules) = true by rw [ha]; exact Bool.false_ne_true), if_neg (show ¬ (b == sysModules) = true by rw [hb]; exact Bool.false_ne_true)]
  refine wpAny_bind (wpAny_pure (wpAny_bind (wpAny_pure ?_)))
  refine wpAny_bind (wpAny_dictEntries hoa hda ?_)
  dsimp only
  refine wpAny_bind (wpAny_dictEntries hob hdb ?_)
  by_cases hsz : es.size = es'.size
  case neg =>
    rw [if_pos (by simpa using hsz)]
    have hbf : (es.size == es'.size) = false := by simpa using hsz
    rw [hbf, Bool.false_and] at h
    exact wpAny_bind (wpAny_rule (wpAny_pure h))
  case pos =>
    have h' : Q r s := by simpa [hsz] using h
    have hits' := hits (by rw [hla, hlb]; exact hsz)
    rw [if_neg (by rw [hsz]; simp)]
    refine wpAny_bind (wpAny_dictEpoch hoa hda ?_)
    refine wpAny_bind ?_
    rw [Std.Legacy.Range.forIn_eq_forIn_range']
    simp only [Std.Legacy.Range.size, Nat.sub_zero, Nat.add_sub_cancel, Nat.div_one]
    refine wpAny_forIn_list _
      (fun rest q s' => s' = s ∧ q = (none, ()) ∧ ∃ i, rest = List.range' i (es.size - i) ∧ i ≤ es.size ∧ Hits A s ys (xs.drop i) r)
      _ ?_ ?_ _ _ ⟨rfl, rfl, 0, by simp, Nat.zero_le _, hits'⟩
    · rintro x rest q s' ⟨rfl, rfl, i, hr, hi, hpre⟩
      have hlt : i < es.size := by
        rcases Nat.lt_or_ge i es.size with h | h
        · exact h
        · rw [Nat.sub_eq_zero_of_le h] at hr; simp at hr
      obtain ⟨rfl, hrest⟩ : x = i ∧ rest = List.range' (i + 1) (es.size - (i + 1)) := by
        have e : es.size - i = (es.size - (i + 1)) + 1 := by omega
        rw [e, List.range'_succ] at hr
        injection hr with h1 h2
        exact ⟨h1, h2⟩
      refine wpAny_bind (wpAny_dictEntries hoa hda ?_)
      have hlt' : x < xs.length := by rw [hla]; exact hlt
      obtain ⟨k, c, v, hkv⟩ : ∃ k c v, xs[x] = (k, c, v) := ⟨_, _, _, rfl⟩
      have hdrop : xs.drop x = (k, c, v) :: xs.drop (x + 1) := by rw [← hkv]; exact List.drop_eq_getElem_cons hlt'
      have hx : xs[x]? = some (k, c, v) := by rw [List.getElem?_eq_getElem hlt', hkv]
      have hkey : knd.is s'.heap k c := hia _ (List.mem_of_getElem? hx)
      rw [entry_at hea x, hx]
      rw [hdrop] at hpre
      show wpAny _ _ (holding [.ref c, v] _ >>= _) _ _ _
      refine wpAny_bind (wpAny_holding (wpAny_bind (wpAny_dictFind_heap hu hkey hob hdb heb hib hnb ?_ ?_)))
      · intro hno
        have hn : atKey ys k = none := atKey_none_of_get hno
        rcases hpre.inv with ⟨_, er⟩ | ⟨_, y, _, _, hy, _⟩
        · rw [er] at h'
          refine wpAny_pure ?_
          show wpAny _ _ (if (!false) = true then _ else _) _ _ _
          rw [if_pos (by decide)]
          exact wpAny_pure (wpAny_pure h')
        · rw [hn] at hy; exact nomatch hy
      · intro j p hj
        have hv' : atKey ys k = some p := atKey_of_get hnb hj
        refine wpAny_bind (wpAny_dictEntries hob hdb ?_)
        rw [entry_at heb j, hj]
        rcases hpre.inv with ⟨hn, _⟩ | ⟨c', y, e, b', hy, he, hrr, er⟩
        · rw [hv'] at hn; exact nomatch hn
        · have ey : p = (c', y) := Option.some.inj (hv'.symm.trans hy)
          subst ey
          refine wpAny_holding (he prog w _ _ ?_)
          cases e with
          | false =>
            rw [er, Bool.false_and] at h'
            show wpAny _ _ (if (!false) = true then _ else _) _ _ _
            rw [if_pos (by decide)]
            exact wpAny_pure (wpAny_pure h')
          | true =>
            rw [Bool.true_and] at er
            rw [← er] at hrr
            show wpAny _ _ (if (!true) = true then _ else _) _ _ _
            rw [if_neg (by decide)]
            refine wpAny_bind (wpAny_dictEpoch hoa hda ?_)
            rw [if_neg (by simp)]
            exact wpAny_pure ⟨rfl, rfl, x + 1, hrest, hlt, hrr⟩
    · rintro q s' ⟨rfl, rfl, i, hr, hi, hpre⟩
      have hin : i = es.size := by
        rcases Nat.lt_or_ge i es.size with h | h
        · have e : es.size - i = (es.size - (i + 1)) + 1 := by omega
          rw [e, List.range'_succ] at hr; exact nomatch hr
        · exact Nat.le_antisymm hi h
      refine wpAny_pure ?_
      rw [hin, ← hla, List.drop_length] at hpre
      cases hpre
      exact h'
theorem eqH {a b : Addr} {xs ys : List (K × Addr × Value)} {r : Bool} {Q : Value → Shared → Prop} (ha : (a == sysModules) = false) (hb : (b == sysModules) = false)
    (da : s.heap.DictOfH knd a xs) (db : s.heap.DictOfH knd b ys) (hu : A.units < cLine) (hu2 : knd.room A.in1) (hits : xs.length = ys.length → Hits A.in1 s ys xs r) (h : Q (.bool (xs.length == ys.length && r)) s) :
    wpAny (model prog w) A (compareOp .Eq (.ref a) (.ref b)) Q E s := by
  refine wpAny_richCompare_same_room (op := .Eq) da.typeIs db.typeIs PySem.F.slot_dict_eq (wpAny_call_entry PySem.F.slot_dict_eq da.typeIs PySem.F.entry_dict_eq ?_ (PySem.F.args_dict_eq_2 _ _)) hu
  show wpAny _ _ (Builtin.Dict.dictSlotArgs "__eq__" ⟨[.ref a, .ref b], []⟩ >>= _) _ _ s
  refine wpAny_bind ?_
  unfold Builtin.Dict.dictSlotArgs
  refine wpAny_bind (wpAny_notOrdered_dict da.typeIs ?_)
  show wpAny _ _ (pure (Value.ref a, Value.ref b)) _ _ s
  refine wpAny_pure ?_
  refine wpAny_bind (wpAny_isInstance (T := "dict") db.typeIs PySem.F.sub_dict_dict ?_)
  simp only [Bool.not_true, Bool.false_eq_true, if_false]
  refine wpAny_bind (wpAny_pure (wpAny_bind (wpAny_pure ?_)))
  refine wpAny_bind (samePairsH ha hb da db hu2 hits ?_)
  refine wpAny_pure ⟨_, rfl, ?_, ?_⟩
  · exact fun x => nomatch x
  · simpa using h
end
end GD
namespace GE
open PySem PySem.Spec PyProof.Rows L2
/-- a table of ints over tuples -/
def tab (ks : List (List Key)) (f : List Key → Int) : List (List Key × V) := ks.map fun k => (k, V.int (f k))
theorem at_tab {H : Hp} {g : List Key → Int} : ∀ {ks : List (List Key)} {ys : List (List Key × Addr × Value)}, KT H (tab ks g) ys → ∀ {k : List Key}, k ∈ ks → ∃ c y, atKey ys k = some (c, y) ∧ RelV (.int (g k)) y
  | [], _, _, _, h => (List.not_mem_nil h).elim
  | k0 :: ks, (k1, c, y) :: ys, .cons h t, k, hk => by
    obtain ⟨e, _, r⟩ := h
    have e : k0 = k1 := e
    subst e
    by_cases e : k0 = k
    · subst e
      exact ⟨c, y, by simp [atKey], r⟩
    · obtain ⟨c', y', h1, h2⟩ := at_tab t (k := k) (by
        rcases List.mem_cons.mp hk with z | z
        · exact absurd z.symm e
        · exact z)
      refine ⟨c', y', ?_, h2⟩
      rw [← h1]
      simp [atKey, e]
theorem hits_tab {A : Around} {s : Shared} {H : Hp} {f g : List Key → Int} {ks : List (List Key)} {ys : List (List Key × Addr × Value)} (hy : KT H (tab ks g) ys) :
    ∀ {ks' : List (List Key)} {xs : List (List Key × Addr × Value)}, KT H (tab ks' f) xs → (∀ k ∈ ks', k ∈ ks) → GD.Hits A s ys xs (ks'.all fun k => decide (f k = g k))
  | [], _, .nil, _ => .nil
  | k0 :: ks', (k1, c, v) :: xs, .cons h t, hs => by
    obtain ⟨e, _, r⟩ := h
    have e : k0 = k1 := e
    subst e
    obtain ⟨c', y, h1, h2⟩ := at_tab hy (hs k0 List.mem_cons_self)
    have ih := hits_tab (A := A) (s := s) (f := f) hy t fun k hk => hs k (List.mem_cons_of_mem _ hk)
    have q := eqAt_V (A := A) (s := s) r h2 rfl rfl
    have e : eqV (.int (f k0)) (.int (g k0)) = decide (f k0 = g k0) := by
      first
        | rfl
        | simp [eqV]
    have q : SeqAt.EqAt A s v y (decide (f k0 = g k0)) := by rw [← e]; exact q
    rw [List.all_cons]
    exact .hit h1 q ih
def rEqT : R2 := fun x y H Q => ∃ (a b : Addr) (ks : List (List Key)) (f g : List Key → Int), x = .ref a ∧ y = .ref b ∧ H a = some (.dT (tab ks f)) ∧ H b = some (.dT (tab ks g)) ∧ Q (.bl (ks.all fun k => decide (f k = g k))) H
theorem op_eqT {X : Cx} (hu : X.A.units + 1 < cLine) : OpR X (compareOp .Eq) rEqT := by
  intro pins s σ H x y v u Q I rx ry h
  obtain ⟨a, b, ks, f, g, rfl, rfl, ea, eb, q⟩ := h
  obtain rfl : v = Value.ref a := rx
  obtain rfl : u = Value.ref b := ry
  obtain ⟨_, ya, xs, ra, da⟩ := dt_of I.hok ea
  obtain ⟨_, yb, ys, rb, db⟩ := dt_of I.hok eb
  have hl : xs.length = ys.length := by rw [← ra.length, ← rb.length]; simp [tab]
  exact GD.eqH ya yb da db (by omega) (show X.A.in1.units < cLine from hu) (fun _ => hits_tab rb ra fun _ z => z) (fin_bl I q (by simp [hl]))
end GE

/-! xs[::-1] of a list -/
namespace GR
open PySem PySem.Spec PyProof.Rows L2
def tBack (K : PySem.W.Frag) (te : TE) (tk : TO) : TE := fun σ H Q => te σ H fun v H1 => tk σ H1 fun o H2 => o = some (-1) ∧ ∃ a xs, v = .ref a ∧ SqL K H2 a xs ∧ ∀ p, H2 p = none → Q (.ref p) (upd H2 p (.lst xs.reverse))
theorem pe_back {X : Cx} {e st : Expr} {te : TE} {tk : TO} {p2 pos : Pos} (he : PE X e te) (hk : PO X (some st) tk) : PE X (.Subscript e (.Slice none none (some st) p2) pos) (tBack X.K te tk) := by
  refine ⟨fun pins s σ H Q I h => ?_⟩
  refine Subscript_ (thn (he.run pins s σ H _ I h) fun v s1 ⟨x, H1, I1, r1, q1⟩ => ?_)
  refine wpAny_Slice ?_
  rw [evalPart_none]
  refine wpAny_pure ?_
  refine wpAny_pure ?_
  refine thn (hk.run pins s1 σ H1 _ I1 q1) fun vk s2 ⟨o, H2, I2, pk, q2⟩ => ?_
  obtain ⟨rfl, a, xs, rfl, hx, q⟩ := q2
  have I4 : Inv X pins σ H2 { s2 with heap := s2.heap.push { cls := .type "slice", data := .fields #[.none, .none, vk] } } := I2.kept (t' := s2.toks) fun b ob q => Heap.get?_push_of_some _ q
  cases r1
  obtain ⟨its, r, ht, hz⟩ := I4.list hx
  have hlen := r.length
  have hs : ({ s2 with heap := s2.heap.push { cls := .type "slice", data := .fields #[.none, .none, vk] } } : Shared).heap.IsSliceOf s2.heap.objs.size .none .none vk := Heap.IsSliceOf.new ..
  have hg : wpAny (model X.prog X.w) X.A (getItem (.ref a) (.ref s2.heap.objs.size)) (EP X pins σ Q) X.xe { s2 with heap := s2.heap.push { cls := .type "slice", data := .fields #[.none, .none, vk] } } := by
    refine wpAny_getItem_list_slice ht.isList hs .none .none pk (by simp) ?_ (by rw [List.size_toArray] <;> omega)
    rw [PySem.W.krv_pick]
    refine ⟨.ref _, _, I4.laid (t' := s2.toks) (o := .lst xs.reverse) (fun b ob q => Heap.get?_push_of_some _ q) (Nat.le_refl _) ?_, rfl, q _ (I4.hok.fresh (Nat.le_refl _))⟩
    exact ⟨by rw [List.length_reverse]; exact hz, _, 0, r.reverse, Heap.get?_push_size _ rfl⟩
  show wpAny (model X.prog X.w) X.A (subscriptTail e (.Slice none none (some st) p2) (.ref a) (.ref s2.heap.objs.size)) (EP X pins σ Q) X.xe _
  exact tail_any (ops := [.ref a, .ref s2.heap.objs.size]) ht.isList.typeIs slot_list_getitem.lookup hg (by with_unfolding_all rfl)
end GR

/-! == and != of two instances by an own __eq__, both answers -/
namespace GN
open PySem PySem.Spec PyProof.Rows L2
section
variable {M : Model} {prog : Program} {w : World} {A : Around} {E : Value → Shared → Prop} {s : Shared} {K : PySem.W.Frag} {x C L f : Addr} {ox : Obj} {od : Option Obj}
theorem entry_ne {y : Value} (X : K.In s.heap) (I : PySem.W.InstAt s.heap x ox C od) (hs : PySem.W.findIn K (.ref C) "__eq__" = some (some (.ref f))) (hf : PySem.W.isFn K (.ref f) = true) (hu : A.units < cLine) {Q : Fin → Shared → Prop}
    (hcall : wpAny (model prog w) A (call (.ref f) [.ref x, y]) (fun v s' => ∃ b, v = .bool b ∧ Q (.done (.ret (.bool (!b)))) s') E s) :
    wpAny (model prog w) A (Builtin.«object.__ne__» ⟨[.ref x, y], []⟩) Q E s := by
  unfold Builtin.«object.__ne__»
  repeat (first
    | with_reducible refine wpAny_cRoomFor hu ?_
    | (refine wpAny_bind (m := callSpecialIfBound? (.ref x) (Str.ofString "__eq__") [y])
        (PySem.W.ifBound_K X I hs hf (wpAny_mono hcall (fun r s' hr => by
          obtain ⟨b, rfl, hq⟩ := hr
          repeat (first | exact hq | exact wpAny_pure hq | exact wpAny_truthy_bool hq | (refine wpAny_bind (m := truthy (.bool _)) (wpAny_truthy_bool ?_)) | wp_step)) fun _ _ e => e)))
    | wp_step)
theorem ifBound_ne {args : List Value} {Q : Option Value → Shared → Prop} (X : K.In s.heap) (I : PySem.W.InstAt s.heap x ox C od) (hs : PySem.W.findIn K (.ref C) "__ne__" = some (some (.builtin "object.__ne__")))
    (h : wpAny M A (call (.builtin "object.__ne__") (.ref x :: args)) (fun v => Q (some v)) E s) : wpAny M A (callSpecialIfBound? (.ref x) "__ne__" args) Q E s := by
  simp only [callSpecialIfBound?, bindSpecialIfBound?]
  refine wpAny_holding (wpAny_bind (wpAny_bind (wpAny_bind (I.type.here ((PySem.W.looks_findIn X hs).here ?_)))))
  refine wpAny_bind (wpAny_askSetting (wpAny_ite ?_))
  have fin : wpAny M A (call (.builtin "object.__ne__") ([.ref x] ++ args) >>= fun v => pure (some v)) Q E s := wpAny_bind (wpAny_mono h (fun v s' h' => wpAny_pure h') fun _ _ h' => h')
  split
  · exact wpAny_bind (wpAny_of_eq (F.cmp_object.ne.bind _) (wpAny_pure (by exact fin)))
  · exact wpAny_tryCatch (wpAny_bind (wpAny_of_eq (F.cmp_object.ne.bind _) (wpAny_pure (by exact fin))))
theorem rc_ne {b tb : Value} {Q : Value → Shared → Prop} (hu : A.units + 1 < cLine) (X : K.In s.heap) (I : PySem.W.InstAt s.heap x ox C od) (hb : PySem.W.Looks (model prog w) s.heap (typeOf b) tb) (hn : PySem.W.notFirst K C tb = true)
    (hm : PySem.W.mroIn K C (.type "object") = some true) (hs : PySem.W.findIn K (.ref C) "__eq__" = some (some (.ref f))) (hf : PySem.W.isFn K (.ref f) = true) (hne : PySem.W.findIn K (.ref C) "__ne__" = some (some (.builtin "object.__ne__")))
    (h : wpAny (model prog w) A.in1 (call (.ref f) [.ref x, b]) (fun v s' => ∃ r, v = .bool r ∧ Q (.bool (!r)) s') E s) : wpAny (model prog w) A (richCompare .NotEq (.ref x) b) Q E s := by
  have one : wpAny (model prog w) A (tryCompare (.ref x) "__ne__" b) (fun r s' => ∃ v, r = some v ∧ Q v s') E s := by
    unfold tryCompare
    refine wpAny_bind (ifBound_ne X I hne (wpAny_call (codeAny_call_builtin F.cmp_object.ne.plain F.cmpEntry_ne (PySem.W.check_slot F.cmpKind_ne F.cmpSplit_ne (I.type.andThen (PySem.W.looks_mroIn X hm)) (F.cmpArgs_ne _ _)
      (entry_ne (A := A.in1) X I hs hf hu (wpAny_mono h (fun v s' hv => ?_) fun _ _ e => e))))))
    obtain ⟨r, rfl, hq⟩ := hv
    first
      | exact ⟨r, rfl, wpAny_pure ⟨_, rfl, hq⟩⟩
      | exact ⟨r, rfl, wpAny_pure (wpAny_pure ⟨_, rfl, hq⟩)⟩
      | exact ⟨r, rfl, _, rfl, hq⟩
  unfold richCompare
  simp only [oneThing_ref]
  refine wpAny_holding (wpAny_bind (wpAny_cRoomFor (Nat.lt_of_succ_lt hu) ?_))
  refine wpAny_bind (I.type.here (wpAny_bind (hb.here ?_)))
  split
  · rename_i q
    have e : PySem.W.subIn K tb (.ref C) = some false := by
      rcases Bool.or_eq_true_iff.mp hn with e | e
      · rw [beq_iff_eq.mp e] at q; simp at q
      · exact beq_iff_eq.mp e
    refine wpAny_bind ((PySem.W.looks_subIn X e).here ?_)
    simp only [Bool.false_eq_true, if_false]
    refine wpAny_bind (wpAny_mono one (fun r s' z => ?_) fun _ _ e => e)
    obtain ⟨v, rfl, hq⟩ := z
    exact wpAny_pure hq
  · refine wpAny_bind (wpAny_pure ?_)
    simp only [Bool.false_eq_true, if_false]
    refine wpAny_bind (wpAny_mono one (fun r s' z => ?_) fun _ _ e => e)
    obtain ⟨v, rfl, hq⟩ := z
    exact wpAny_pure hq
end
section
variable {X : Cx} {n : Nat} {CX : CXT} {C f : Addr} {fd : FuncData} {ps : List Str} {sp : Sp} {E : XK}
/-- a def of the text, called from below -/
theorem call_own (F : FnOk X.prog X.w X.K X.mg X.base CX n f fd ps sp) (hb : Binds X.K fd ps []) (hx : Passes CX X E) {A : Around} (sb : Sub X n A) {pins : List (Addr × Obj)} {σ : L2.St} {H : Hp} {s : Shared} (I : Inv X pins σ H s) {vs : List V} {us : List Value} (r2 : Vals vs us) {Q : VK} (hsp : sp vs H Q E) :
    wpAny (model X.prog X.w) A (call (.ref f) us) (fun v s' => ∃ z H', Inv X pins σ H' s' ∧ RelV z v ∧ Q z H') X.xe s := by
  have e0 : Env0 X.prog X.w X.K X.mg X.base A X.stack s H := by
    have e := I.env0
    exact ⟨by rw [sb.fr]; exact e.frames, e.mod, e.bs, e.bsz, e.funs, e.frf, e.hok, e.bare⟩
  have hl := F.len _ _ _ _ hsp
  refine wpAny_call (codeAny_mono (F.run A X.stack s H ⟨us, []⟩ us vs _ E sb.room e0 (by
    have := hb s us I.kIn (by rw [List.append_nil, ← r2.length]; exact hl)
    simpa using this) r2 hsp) fun r s' hq => ?_)
  cases r with
  | error e => exact hx pins σ H s e s' I hq
  | ok fl =>
    cases fl with
    | ret w =>
      obtain ⟨z, H', I', rz, ez⟩ := I.after hq
      exact ⟨z, H', I', rz, ez⟩
    | next => exact False.elim hq
    | brk => exact False.elim hq
    | cont => exact False.elim hq
/-- what == (neg: !=) of two instances of the class asks -/
def rOwn (C : Addr) (sp : Sp) (E : XK) (neg : Bool) : R2 := fun x y H Q => ∃ a b dx dy fs gs, x = .ref a ∧ y = .ref b ∧ H a = some (.ins C dx fs) ∧ H b = some (.ins C dy gs) ∧ sp [.ref a, .ref b] H (fun v H' => ∃ r, v = .bl r ∧ Q (.bl (neg != r)) H') E
theorem op_eqOwn (F : FnOk X.prog X.w X.K X.mg X.base CX n f fd ps sp) (hr : Room n X.A) (hs : PySem.W.findIn X.K (.ref C) "__eq__" = some (some (.ref f))) (hf : PySem.W.isFn X.K (.ref f) = true) (hb : Binds X.K fd ps []) (hx : Passes CX X E) : OpR X (compareOp .Eq) (rOwn C sp E false) := by
  intro pins s σ H x y v u Q I rx ry hq
  obtain ⟨a, b, dx, dy, fs, gs, rfl, rfl, ha, hb', hsp⟩ := hq
  cases rx
  cases ry
  obtain ⟨mA, J, _⟩ := ins_get I.hok ha
  obtain ⟨mB, J', _⟩ := ins_get I.hok hb'
  obtain ⟨od, J, _⟩ := J.look
  obtain ⟨od', J', _⟩ := J'.look
  have sb : Sub X n X.A := ⟨hr, rfl⟩
  have r2 : Vals [V.ref a, V.ref b] [Value.ref a, Value.ref b] := .cons rfl (.cons rfl .nil)
  obtain ⟨m, hF⟩ := I.fr
  show wpAny (model X.prog X.w) X.A (richCompare .Eq _ _) (EP X pins σ Q) X.xe s
  refine PySem.W.cmp_K (op := .Eq) (tb := .ref C) sb.room.units0 hF I.ok.mod.kin J J'.type (by simp [PySem.W.notFirst]) hs hf ?_
  refine wpAny_mono (call_own F hb hx sb I r2 hsp) (fun v s' hv => ?_) fun _ _ e => e
  obtain ⟨z, H', I', rz, r, rfl, q⟩ := hv
  cases rz
  exact ⟨.bl r, H', I', rfl, by cases r <;> exact q⟩
theorem op_neOwn (F : FnOk X.prog X.w X.K X.mg X.base CX n f fd ps sp) (hr : Room (n + 1) X.A) (hs : PySem.W.findIn X.K (.ref C) "__eq__" = some (some (.ref f))) (hf : PySem.W.isFn X.K (.ref f) = true) (hm : PySem.W.mroIn X.K C (.type "object") = some true)
    (hne : PySem.W.findIn X.K (.ref C) "__ne__" = some (some (.builtin "object.__ne__"))) (hb : Binds X.K fd ps []) (hx : Passes CX X E) : OpR X (compareOp .NotEq) (rOwn C sp E true) := by
  intro pins s σ H x y v u Q I rx ry hq
  obtain ⟨a, b, dx, dy, fs, gs, rfl, rfl, ha, hb', hsp⟩ := hq
  cases rx
  cases ry
  obtain ⟨mA, J, _⟩ := ins_get I.hok ha
  obtain ⟨mB, J', _⟩ := ins_get I.hok hb'
  obtain ⟨od, J, _⟩ := J.look
  obtain ⟨od', J', _⟩ := J'.look
  have sb : Sub X (n + 1) X.A := ⟨hr, rfl⟩
  have r2 : Vals [V.ref a, V.ref b] [Value.ref a, Value.ref b] := .cons rfl (.cons rfl .nil)
  show wpAny (model X.prog X.w) X.A (richCompare .NotEq _ _) (EP X pins σ Q) X.xe s
  refine rc_ne (tb := .ref C) sb.in1.room.units0 I.kIn J J'.type (by simp [PySem.W.notFirst]) hm hs hf hne ?_
  refine wpAny_mono (call_own F hb hx sb.in1 I r2 hsp) (fun v s' hv => ?_) fun _ _ e => e
  obtain ⟨z, H', I', rz, r, rfl, q⟩ := hv
  cases rz
  exact ⟨r, rfl, .bl (!r), H', I', rfl, by cases r <;> exact q⟩
end
end GN

namespace KA
open PySem PySem.Spec PyProof.Rows L2
def topS (i : Nat) : Stmt := PySem.Challenge.pw_wearswings_k08_whole_changes_decide_cycl.main.body.getD i (.Pass ⟨0, 0, 0, 0⟩)
end KA
namespace KD
open PySem PySem.Spec PyProof.Rows L2 KA
abbrev sFeed : Stmt := topS 18
abbrev sTake : Stmt := topS 19
abbrev sPick : Stmt := topS 20
theorem scFeed : FnScope ["script", "k", "cell", "digits", "state"] ["script", "k"] (defScope sFeed) := ⟨rfl, rfl, rfl, by decide +kernel, rfl, by decide +kernel, by decide +kernel⟩
theorem scTake : FnScope ["feed", "many", "digit"] ["feed", "many"] (defScope sTake) := ⟨rfl, rfl, rfl, by decide +kernel, rfl, by decide +kernel, by decide +kernel⟩
theorem scPick : FnScope ["feed", "some"] ["feed", "some"] (defScope sPick) := ⟨rfl, rfl, rfl, by decide +kernel, rfl, by decide +kernel, by decide +kernel⟩
/-- a feed stands at p -/
def FeedAt (H : Hp) (p : Addr) : Prop := ∃ d st : Int, 0 ≤ d ∧ 0 ≤ st ∧ st < 2305843009213693951 ∧ H p = some (.lst [.int d, .int st])
/-- all that was tracked is as it was, but what stands at f -/
def Ch (f : Addr) (H H' : Hp) : Prop := ∀ b o, b ≠ f → H b = some o → H' b = some o
theorem Ch.refl (f : Addr) (H : Hp) : Ch f H H := fun _ _ _ e => e
theorem Ch.trans {f : Addr} {H H1 H2 : Hp} (a : Ch f H H1) (b : Ch f H1 H2) : Ch f H H2 := fun c o n e => b c o n (a c o n e)
theorem Ch.of_same {f : Addr} {H H' : Hp} (s : Same H H') : Ch f H H' := fun c o _ e => s c o e
theorem Ch.put {f : Addr} {H : Hp} {o : HO} : Ch f H (upd H f o) := fun b x n e => by rw [upd_ne n]; exact e
theorem Ch.new {f p : Addr} {H : Hp} {o : HO} (h : H p = none) : Ch f H (upd H p o) := .of_same (same_new h)
theorem Ch.again {f p : Addr} {H0 H : Hp} {o : HO} (h : H0 p = none) (c : Ch f H0 H) : Ch f H0 (upd H p o) := fun b x n e => by
  rw [upd_ne (ne_of_none e h)]
  exact c b x n e
theorem Ch.free {f p : Addr} {H H' : Hp} (c : Ch f H H') (n : p ≠ f) (h : H' p = none) : H p = none := by
  cases e : H p with
  | none => rfl
  | some o =>
    rw [c p o n e] at h
    cases h
theorem Ch.seq {K : PySem.W.Frag} {f : Addr} {H H' : Hp} {a : Addr} {xs : List V} (c : Ch f H H') (n : a ≠ f) (h : SqL K H a xs) : SqL K H' a xs := by
  rcases h with (h | ⟨o, h⟩) | h
  · exact .inl (.inl (c _ _ n h))
  · exact .inl (.inr ⟨o, c _ _ n h⟩)
  · exact .inr h
/-- what stood ahead of the feed is as it was -/
theorem Ch.old {f : Addr} {H0 H H' : Hp} (c : Ch f H H') (hf : H0 f = none) (s : Same H0 H) : Same H0 H' := fun b o e => c b o (ne_of_none e hf) (s b o e)
theorem FeedAt.ne {H : Hp} {f p : Addr} (h : FeedAt H f) (n : H p = none) : p ≠ f := by
  obtain ⟨d, st, _, _, _, e⟩ := h
  exact fun z => by rw [z, e] at n; cases n
theorem FeedAt.upd {H : Hp} {f p : Addr} {o : HO} (h : FeedAt H f) (n : p ≠ f) : FeedAt (upd H p o) f := by
  obtain ⟨d, st, h1, h2, h3, e⟩ := h
  exact ⟨d, st, h1, h2, h3, by rw [upd_ne n.symm]; exact e⟩
theorem FeedAt.same {H H' : Hp} {f : Addr} (h : FeedAt H f) (s : Same H H') : FeedAt H' f := by
  obtain ⟨d, st, h1, h2, h3, e⟩ := h
  exact ⟨d, st, h1, h2, h3, s _ _ e⟩
section
variable {P : Program} {w : World} {K : PySem.W.Frag} {mg : Str → Option Value} {base : Heap}
def spFeed (K : PySem.W.Frag) : Sp := fun vs H Q _ => ∃ (a : Addr) (ns : List Int) (k : Int), vs = [.ref a, .int k] ∧ SqL K H a (ns.map V.int) ∧ 0 ≤ k ∧ k ≤ 100 ∧
  ∀ H' p, Same H H' → H p = none → FeedAt H' p → Q (.ref p) H'
theorem ok_feed {f : Addr} {fd : FuncData} {k : Nat} (F : Fun K "_law_feed" "_law_feed" sFeed f fd) (ml : mg "len" = none) (mm : mg "max" = none) (ma : mg "abs" = none) : FnOk P w K mg base CX0 (k + 1) f fd ["script", "k"] (spFeed K) := by
  refine F.ok scFeed (fun vs H Q E h => ?_) (fun cdv A outer s H vs Q E hr h => ?_)
  · obtain ⟨a, ns, z, rfl, _⟩ := h
    rfl
  · obtain ⟨a, ns, z, rfl, hS, h0, h1, q⟩ := h
    refine ⟨_, pss_cons (ps_set (i := 2) scFeed.nd rfl (.inl rfl) (pe_ifExp (pt_cmpR op_lt (pv 1) (pe_callB call_len_seq (by rfl) ml PySem.boot_len (pa_cons (pv 0) pa_nil)) (nomark _)) (pe_ix ix_list (pv 0) (pv 1) (fun _ _ => rfl)) (pe_op op_add (pe_op op_mul pe_int (pv 1)) pe_int)))
      (pss_cons (ps_set (i := 3) scFeed.nd rfl (.inl rfl) (pe_callB (call_max2 rfl) (by rfl) mm (by decide +kernel) (pa_cons pe_int (pa_cons (pe_op op_sub (pe_callB call_abs (by rfl) ma (by decide +kernel) (pa_cons (pv 2) pa_nil)) (pe_op op_pow pe_int pe_int)) pa_nil))))
      (pss_cons (ps_set (i := 4) scFeed.nd rfl (.inl rfl) (pe_op op_mod (pe_op op_add (pe_op op_add (pe_op op_mul (pv 2) pe_int) (pe_op op_mul pe_int (pv 1))) pe_int) pe_int))
      (pss_one (ps_ret (pe_lst (pa_cons (pv 3) (pa_cons (pv 4) pa_nil))))))), ?_⟩
    refine ⟨.int z, rfl, .ref a, rfl, a, ns.map V.int, rfl, .inl hS, z, _, rfl, rfl, _, rfl, ite2 (fun e => ?_) (fun e => ?_)⟩
    · have hz : z < ((ns.map V.int).length : Nat) := of_decide_eq_true e
      rw [List.length_map] at hz
      obtain ⟨j, rfl⟩ : ∃ j : Nat, z = (j : Int) := ⟨z.toNat, by omega⟩
      have hj : j < ns.length := by omega
      have gj : (ns.map V.int)[j]? = some (.int ns[j]) := by rw [List.getElem?_map, List.getElem?_eq_getElem hj]; rfl
      refine ⟨.ref a, rfl, .int j, rfl, a, _, _, _, rfl, rfl, hS, atI_nat gj, ?_⟩
      refine ⟨_, rfl, _, rfl, 10, 18, rfl, rfl, ⟨by decide, by decide, by decide⟩, _, _, rfl, rfl, 0, _, rfl, ?_⟩
      refine ⟨_, rfl, _, _, rfl, rfl, .inr ⟨by decide, by decide⟩, .int _, rfl, 7919, _, rfl, rfl, .inl ⟨by decide, by decide⟩, _, _, rfl, rfl, _, _, rfl, rfl, _, _, rfl, rfl, by show (0 : Int) < 2305843009213693951; decide, ?_⟩
      refine ⟨_, rfl, _, rfl, by show 2 ≤ sizeLine; decide, fun p np => q _ p (same_new np) np ⟨_, _, ?_, Int.emod_nonneg _ (by decide), Int.emod_lt_of_pos _ (by decide), upd_same⟩⟩
      split <;> omega
    · refine ⟨.int z, rfl, 83, z, rfl, rfl, .inl ⟨by decide, by decide⟩, _, _, rfl, rfl, ?_⟩
      refine ⟨_, rfl, _, rfl, 10, 18, rfl, rfl, ⟨by decide, by decide, by decide⟩, _, _, rfl, rfl, 0, _, rfl, ?_⟩
      refine ⟨_, rfl, _, _, rfl, rfl, .inr ⟨by decide, by decide⟩, .int _, rfl, 7919, _, rfl, rfl, .inl ⟨by decide, by decide⟩, _, _, rfl, rfl, _, _, rfl, rfl, _, _, rfl, rfl, by show (0 : Int) < 2305843009213693951; decide, ?_⟩
      refine ⟨_, rfl, _, rfl, by show 2 ≤ sizeLine; decide, fun p np => q _ p (same_new np) np ⟨_, _, ?_, Int.emod_nonneg _ (by decide), Int.emod_lt_of_pos _ (by decide), upd_same⟩⟩
      split <;> omega
def spTake : Sp := fun vs H Q _ => ∃ (f : Addr) (m : Int), vs = [.ref f, .int m] ∧ 0 < m ∧ m < 2 ^ 64 ∧ FeedAt H f ∧ ∀ H' r, Ch f H H' → FeedAt H' f → 0 ≤ r → r < m → Q (.int r) H'
theorem ok_take {f : Addr} {fd : FuncData} {k : Nat} (F : Fun K "_law_take" "_law_take" sTake f fd) : FnOk P w K mg base CX0 (k + 1) f fd ["feed", "many"] spTake := by
  refine F.ok scTake (fun vs H Q E h => ?_) (fun cdv A outer s H vs Q E hr h => ?_)
  · obtain ⟨a, m, rfl, _⟩ := h
    rfl
  · obtain ⟨f, m, rfl, m0, m1, ⟨d, st, d0, t0, t1, hf⟩, q⟩ := h
    refine ⟨_, pss_cons (ps_if (pt_cmpR op_gt (pe_ix ix_list (pv 0) pe_int (fun _ _ => rfl)) pe_int (nomark _))
        (pss_cons (ps_set (i := 2) scTake.nd rfl (.inl rfl) (pe_op op_mod (pe_ix ix_list (pv 0) pe_int (fun _ _ => rfl)) (pv 1)))
          (pss_cons (ps_asg (pe_op op_fdivW (pe_ix ix_list (pv 0) pe_int (fun _ _ => rfl)) (pv 1)) (pg_sub (pv 0) pe_int set_list)) (pss_one (ps_ret (pv 2))))) pss_nil)
      (pss_cons (ps_asg (pe_op op_mod (pe_op op_add (pe_op op_mul (pe_ix ix_list (pv 0) pe_int (fun _ _ => rfl)) pe_int) pe_int) pe_int) (pg_sub (pv 0) pe_int set_list))
      (pss_one (ps_ret (pe_op op_mod (pe_op op_fdiv (pe_ix ix_list (pv 0) pe_int (fun _ _ => rfl)) pe_int) (pv 1))))), ?_⟩
    have a0 : atI [V.int d, V.int st] 0 = some (.int d) := rfl
    have a1 : atI [V.int d, V.int st] 1 = some (.int st) := rfl
    refine ⟨.ref f, rfl, f, _, 0, .int d, rfl, rfl, SqL.of hf, a0, d, 0, rfl, rfl, _, rfl, ite2 (fun e => ?_) (fun e => ?_)⟩
    · have hd : d > 0 := of_decide_eq_true e
      refine ⟨.ref f, rfl, f, _, 0, .int d, rfl, rfl, SqL.of hf, a0, .int m, rfl, d, m, rfl, rfl, m0, ?_⟩
      refine ⟨.ref f, rfl, f, _, 0, .int d, rfl, rfl, SqL.of hf, a0, .int m, rfl, d, m, rfl, rfl, wide_div (b := 64) m0 (by omega) (by decide) (by decide), ?_⟩
      refine ⟨.ref f, rfl, f, _, 0, 0, rfl, rfl, hf, rfl, .int (d % m), rfl, ?_⟩
      refine q _ _ Ch.put ⟨d / m, st, Int.ediv_nonneg d0 (by omega), t0, t1, upd_same⟩ (Int.emod_nonneg _ (by omega)) (Int.emod_lt_of_pos _ m0)
    · refine ⟨.ref f, rfl, f, _, 1, .int st, rfl, rfl, SqL.of hf, a1, st, 6364136223846793005, rfl, rfl, .inr ⟨by decide, by decide⟩, _, _, rfl, rfl, _, _, rfl, rfl, by show (0 : Int) < 2305843009213693951; decide, ?_⟩
      refine ⟨.ref f, rfl, f, _, 1, 1, rfl, rfl, hf, rfl, ?_⟩
      refine ⟨.ref f, rfl, f, _, 1, _, rfl, rfl, SqL.of upd_same, rfl, _, 65536, rfl, rfl, ⟨by decide, by decide⟩, .int m, rfl, _, m, rfl, rfl, m0, ?_⟩
      exact q _ _ Ch.put ⟨d, _, d0, Int.emod_nonneg _ (by decide), Int.emod_lt_of_pos _ (by decide), upd_same⟩ (Int.emod_nonneg _ (by omega)) (Int.emod_lt_of_pos _ m0)
def spPick (K : PySem.W.Frag) : Sp := fun vs H Q _ => ∃ (f c : Addr) (xs : List V), vs = [.ref f, .ref c] ∧ c ≠ f ∧ SqL K H c xs ∧ 0 < xs.length ∧ xs.length ≤ 1000 ∧ FeedAt H f ∧
  ∀ H' (j : Nat) v, xs[j]? = some v → Ch f H H' → FeedAt H' f → Q v H'
theorem ok_pick {f fT : Addr} {fd fdT : FuncData} {k : Nat} (F : Fun K "_law_pick" "_law_pick" sPick f fd) (FT : Fun K "_law_take" "_law_take" sTake fT fdT) (gT : mg "_law_take" = some (.ref fT)) (bT : Binds K fdT ["feed", "many"] []) (ml : mg "len" = none) :
    FnOk P w K mg base CX0 (k + 2) f fd ["feed", "some"] (spPick K) := by
  have GT : FnOk P w K mg base CX0 (k + 1) fT fdT ["feed", "many"] spTake := ok_take FT
  refine F.ok scPick (fun vs H Q E h => ?_) (fun cdv A outer s H vs Q E hr h => ?_)
  · obtain ⟨a, m, xs, rfl, _⟩ := h
    rfl
  · obtain ⟨f, c, xs, rfl, ncf, hS, l0, l1, hf, q⟩ := h
    refine ⟨_, pss_one (ps_ret (pe_ix ix_list (pv 1) (pe_call GT hr (by rfl) gT FT.kp bT .nil pass0 (pa_cons (pv 0) (pa_cons (pe_callB call_len_seq (by rfl) ml PySem.boot_len (pa_cons (pv 1) pa_nil)) pa_nil))) (fun _ _ => rfl))), ?_⟩
    refine ⟨.ref c, rfl, .ref f, rfl, .ref c, rfl, c, xs, rfl, .inl hS, f, _, rfl, by omega, by omega, hf, fun H' r ch fe r0 r1 => ?_⟩
    obtain ⟨j, rfl⟩ : ∃ j : Nat, r = (j : Int) := ⟨r.toNat, by omega⟩
    have hj : j < xs.length := by omega
    exact ⟨c, xs, _, xs[j], rfl, rfl, ch.seq ncf hS, atI_nat (List.getElem?_eq_getElem hj), q H' j _ (List.getElem?_eq_getElem hj) ch fe⟩
end
end KD

/-! the program's turning points and swings -/
namespace PA
open PySem PySem.Spec PyProof.Rows L2 KA PH PM
abbrev sCont : Stmt := topS 2
abbrev sRng : Stmt := topS 3
abbrev sTP : Stmt := topS 4
abbrev sBtw : Stmt := topS 6
abbrev sLO : Stmt := topS 5
abbrev sSw : Stmt := topS 7
theorem scCont : FnScope ["outer", "inner"] ["outer", "inner"] (defScope sCont) := ⟨rfl, rfl, rfl, by decide +kernel, rfl, by decide +kernel, by decide +kernel⟩
theorem scRng : FnScope ["one", "other"] ["one", "other"] (defScope sRng) := ⟨rfl, rfl, rfl, by decide +kernel, rfl, by decide +kernel, by decide +kernel⟩
theorem scTP : FnScope ["load", "points", "reading"] ["load"] (defScope sTP) := ⟨rfl, rfl, rfl, by decide +kernel, rfl, by decide +kernel, by decide +kernel⟩
theorem scLO : FnScope ["points", "reading", "last"] ["points", "reading"] (defScope sLO) := ⟨rfl, rfl, rfl, by decide +kernel, rfl, by decide +kernel, by decide +kernel⟩
theorem scBtw : FnScope ["reading", "before", "after"] ["reading", "before", "after"] (defScope sBtw) := ⟨rfl, rfl, rfl, by decide +kernel, rfl, by decide +kernel, by decide +kernel⟩
theorem scSw : FnScope ["load", "points", "one", "other"] ["load"] (defScope sSw) := ⟨rfl, rfl, rfl, by decide +kernel, rfl, by decide +kernel, by decide +kernel⟩
section
variable {P : Program} {w : World} {K : PySem.W.Frag} {mg : Str → Option Value} {base : Heap}
def spCont (K : PySem.W.Frag) : Sp := fun vs H Q _ => ∃ (p q : Addr) (a b c d : Int), vs = [.ref p, .ref q] ∧ SqT K H p [.int a, .int b] ∧ SqT K H q [.int c, .int d] ∧ Q (.bl (decide (a ≤ c) && decide (d ≤ b))) H
theorem ok_Cont {f : Addr} {fd : FuncData} {k : Nat} (F : Fun K "contains" "contains" sCont f fd) : FnOk P w K mg base CX0 (k + 1) f fd ["outer", "inner"] (spCont K) := by
  refine F.ok scCont (fun vs H Q E h => ?_) (fun cdv A outer s H vs Q E hr h => ?_)
  · obtain ⟨p, q, a, b, c, d, rfl, _⟩ := h
    rfl
  · obtain ⟨p, q, a, b, c, d, rfl, h1, h2, hq⟩ := h
    refine ⟨_, pss_one (ps_ret (pe_and (pe_cmpR op_le (pe_ix ix_tup (pv 0) pe_int (fun _ _ => rfl)) (pe_ix ix_tup (pv 1) pe_int (fun _ _ => rfl)) (nomark _)) (pe_one (pe_cmpR op_le (pe_ix ix_tup (pv 1) pe_int (fun _ _ => rfl)) (pe_ix ix_tup (pv 0) pe_int (fun _ _ => rfl)) (nomark _))))), ?_⟩
    refine ⟨.ref p, rfl, p, _, 0, .int a, rfl, rfl, h1, rfl, .ref q, rfl, q, _, 0, .int c, rfl, rfl, h2, rfl, a, c, rfl, rfl, _, rfl, ?_⟩
    by_cases e : a ≤ c
    · rw [decide_eq_true e] at hq ⊢
      exact iteT ⟨.ref q, rfl, q, _, 1, .int d, rfl, rfl, h2, rfl, .ref p, rfl, p, _, 1, .int b, rfl, rfl, h1, rfl, d, b, rfl, rfl, hq⟩
    · rw [decide_eq_false e] at hq ⊢
      exact iteF hq
def spRng : Sp := fun vs H Q _ => ∃ (a b : Int), vs = [.int a, .int b] ∧ ∀ p, H p = none → Q (.ref p) (upd H p (.tup [.int (rg a b).1, .int (rg a b).2]))
theorem ok_Rng {f : Addr} {fd : FuncData} {k : Nat} (F : Fun K "range_of" "range_of" sRng f fd) (mn : mg "min" = none) (mx : mg "max" = none) : FnOk P w K mg base CX0 (k + 1) f fd ["one", "other"] spRng := by
  refine F.ok scRng (fun vs H Q E h => ?_) (fun cdv A outer s H vs Q E hr h => ?_)
  · obtain ⟨a, b, rfl, _⟩ := h
    rfl
  · obtain ⟨a, b, rfl, hq⟩ := h
    refine ⟨_, pss_one (ps_ret (pe_tup (pa_cons (pe_callB (call_min2 rfl) (by rfl) mn (by decide +kernel) (pa_cons (pv 0) (pa_cons (pv 1) pa_nil))) (pa_cons (pe_callB (call_max2 rfl) (by rfl) mx (by decide +kernel) (pa_cons (pv 0) (pa_cons (pv 1) pa_nil))) pa_nil)))), ?_⟩
    exact ⟨.int a, rfl, .int b, rfl, a, b, rfl, .int a, rfl, .int b, rfl, a, b, rfl, by show 2 ≤ sizeLine; decide, fun p np => hq p np⟩
def spBtw : Sp := fun vs H Q _ => ∃ (r b a : Int), vs = [.int r, .int b, .int a] ∧ Q (.bl (decide (Btw r b a))) H
theorem ok_btw {f : Addr} {fd : FuncData} {k : Nat} (F : Fun K "_lies_between" "_lies_between" sBtw f fd) : FnOk P w K mg base CX0 (k + 1) f fd ["reading", "before", "after"] spBtw := by
  refine F.ok scBtw (fun vs H Q E h => ?_) (fun cdv A outer s H vs Q E hr h => ?_)
  · obtain ⟨r, b, a, rfl, _⟩ := h
    rfl
  · obtain ⟨r, b, a, rfl, hq⟩ := h
    refine ⟨_, pss_one (ps_ret (pe_or (pe_chain op_lt op_lt (pv 1) (pv 0) (pv 2)) (pe_one (pe_chain op_lt op_lt (pv 2) (pv 0) (pv 1))))), ?_⟩
    refine ⟨.int b, rfl, .int r, rfl, b, r, rfl, rfl, _, rfl, ?_⟩
    have second : ¬ (b < r ∧ r < a) → tOrV (fun _ H Q => Q (.bl false) H) (tChain (fun x y H Q => ∃ i j, x = .int i ∧ y = .int j ∧ Q (.bl (decide (i < j))) H) (fun x y H Q => ∃ i j, x = .int i ∧ y = .int j ∧ Q (.bl (decide (i < j))) H) (tVar 2) (tVar 0) (tVar 1)) [some (.int r), some (.int b), some (.int a)] H Q := by
      intro hn
      refine ⟨false, rfl, iteF ⟨.int a, rfl, .int r, rfl, a, r, rfl, rfl, _, rfl, ?_⟩⟩
      by_cases e : a < r
      · rw [decide_eq_true e]
        refine iteT ⟨.int b, rfl, r, b, rfl, rfl, ?_⟩
        have e2 : decide (Btw r b a) = decide (r < b) := by rw [decide_eq_decide]; omega
        rw [e2] at hq
        exact hq
      · rw [decide_eq_false e]
        have e2 : decide (Btw r b a) = false := decide_eq_false (by omega)
        rw [e2] at hq
        exact iteF hq
    by_cases e : b < r
    · rw [decide_eq_true e]
      refine iteT ⟨.int a, rfl, r, a, rfl, rfl, _, rfl, ?_⟩
      by_cases e2 : r < a
      · rw [decide_eq_true e2]
        have e3 : decide (Btw r b a) = true := decide_eq_true (.inl ⟨e, e2⟩)
        rw [e3] at hq
        exact iteT hq
      · rw [decide_eq_false e2]
        obtain ⟨_, h1, h2⟩ := second (fun z => e2 z.2)
        cases h1
        exact h2
    · rw [decide_eq_false e]
      obtain ⟨_, h1, h2⟩ := second (fun z => e z.1)
      cases h1
      exact iteF ⟨false, rfl, h2⟩
end
end PA

/-! turning_points, swings -/
namespace PB
open PySem PySem.Spec PyProof.Rows L2 KA PH PM PA RM RS
theorem atI_last2 (xs : List V) (u v : V) : atI (xs ++ [u] ++ [v]) (-2) = some u := by
  have hl : (xs ++ [u] ++ [v]).length = xs.length + 2 := by simp
  have h : ixN (xs ++ [u] ++ [v]).length (-2) = some xs.length := by
    unfold ixN
    rw [hl, if_neg (by decide), if_pos (by omega)]
    congr 1
    omega
  unfold atI
  rw [h]
  show (xs ++ [u] ++ [v])[xs.length]? = some u
  simp
theorem drop_at {ns : List Int} {i : Nat} {r : Int} (h : ns[i]? = some r) : ns.drop i = r :: ns.drop (i + 1) := by
  obtain ⟨h1, h2⟩ := List.getElem?_eq_some_iff.mp h
  rw [List.drop_eq_getElem_cons h1, h2]
section
variable {P : Program} {w : World} {K : PySem.W.Frag} {mg : Str → Option Value} {base : Heap}
def spTPl (K : PySem.W.Frag) : Sp := fun vs H Q _ => ∃ (a : Addr) (ns : List Int), vs = [.ref a] ∧ SqL K H a (ns.map V.int) ∧ ns.length ≤ 2500 ∧ ∀ H' p, Same H H' → H p = none → H' p = some (.tup ((tp ns).map V.int)) → Q (.ref p) H'
def spTPt (K : PySem.W.Frag) : Sp := fun vs H Q _ => ∃ (a : Addr) (ns : List Int), vs = [.ref a] ∧ SqT K H a (ns.map V.int) ∧ ns.length ≤ 2500 ∧ ∀ H' p, Same H H' → H p = none → H' p = some (.tup ((tp ns).map V.int)) → Q (.ref p) H'
abbrev spTP (K : PySem.W.Frag) : Sp := fun vs H Q E => spTPl K vs H Q E ∨ spTPt K vs H Q E
def spLO (K : PySem.W.Frag) : Sp := fun vs H Q _ => ∃ (a : Addr) (ps : List Int) (r : Int), vs = [.ref a, .int r] ∧ SqL K H a (ps.map V.int) ∧ Q (.bl (lo ps r)) H
theorem ends3 (ps : List Int) : ps = [] ∨ (∃ u, ps = [u]) ∨ ∃ dn b u, ps = dn ++ [b, u] := by
  rcases List.eq_nil_or_concat ps with h | ⟨m1, d, h⟩
  · exact .inl h
  · rcases List.eq_nil_or_concat m1 with h1 | ⟨m2, c, h1⟩
    · subst h1
      exact .inr (.inl ⟨d, by rw [h]; rfl⟩)
    · subst h1
      exact .inr (.inr ⟨m2, c, d, by rw [h]; simp⟩)
theorem ok_LO {f fB : Addr} {fd fdB : FuncData} {k : Nat} (F : Fun K "is_left_out" "is_left_out" sLO f fd) (FB : Fun K "_lies_between" "_lies_between" sBtw fB fdB) (gB : mg "_lies_between" = some (.ref fB)) (bB : Binds K fdB ["reading", "before", "after"] [])
    (ml : mg "len" = none) : FnOk P w K mg base CX0 (k + 2) f fd ["points", "reading"] (spLO K) := by
  have GB : FnOk P w K mg base CX0 (k + 1) fB fdB ["reading", "before", "after"] spBtw := ok_btw FB
  refine F.ok scLO (fun vs H Q E h => ?_) (fun cdv A outer s H vs Q E hr h => ?_)
  · obtain ⟨a, ps, r, rfl, _⟩ := h
    rfl
  · obtain ⟨a, ps, r, rfl, hS, hq⟩ := h
    refine ⟨_, pss_cons (ps_if (pt_not (pt_truth (pv 0) (by intro _; rfl))) (pss_one (ps_ret pe_bl)) pss_nil)
      (pss_cons (ps_set (i := 2) scLO.nd rfl (.inl rfl) (pe_ix ix_list (pv 0) (pe_un un_neg pe_int) (fun _ _ => rfl)))
      (pss_one (ps_ret (pe_or (pe_cmpR op_eq (pv 2) (pv 1) (nomark _)) (pe_one (pe_and (pe_cmpR op_gt (pe_callB call_len_seq (by rfl) ml PySem.boot_len (pa_cons (pv 0) pa_nil)) pe_int (nomark _))
        (pe_one (pe_call GB hr (by rfl) gB FB.kp bB .nil pass0 (pa_cons (pv 2) (pa_cons (pe_ix ix_list (pv 0) (pe_un un_neg pe_int) (fun _ _ => rfl)) (pa_cons (pv 1) pa_nil))))))))))), ?_⟩
    rcases ends3 ps with rfl | ⟨u, rfl⟩ | ⟨dn, b, u, rfl⟩
    · refine ⟨.ref a, rfl, false, .inl ⟨[], hS, rfl⟩, ?_⟩
      refine iteT ?_
      exact hq
    · refine ⟨.ref a, rfl, true, .inl ⟨[.int u], hS, rfl⟩, ?_⟩
      refine iteF ?_
      refine ⟨.ref a, rfl, 1, rfl, a, _, -1, .int u, rfl, rfl, hS, rfl, .int u, rfl, .int r, rfl, rfl, _, rfl, ?_⟩
      by_cases e : u = r
      · rw [show lo [u] r = true from decide_eq_true e] at hq
        rw [decide_eq_true (show V.int u = V.int r by rw [e])]
        exact iteT hq
      · rw [show lo [u] r = false from decide_eq_false e] at hq
        rw [decide_eq_false (show ¬ V.int u = V.int r from fun z => e (V.int.inj z))]
        exact iteF ⟨.ref a, rfl, a, _, rfl, .inl hS, _, _, rfl, rfl, _, rfl, iteF hq⟩
    · have em : ((dn ++ [b, u]).map V.int) = (dn.map V.int ++ [V.int b]) ++ [V.int u] := by simp
      rw [em] at hS
      have e0 : (!((dn.map V.int ++ [V.int b]) ++ [V.int u]).isEmpty) = true := by cases dn <;> rfl
      have hL : ((dn.map V.int ++ [V.int b]) ++ [V.int u]).length = dn.length + 2 := by simp
      rw [lo_two] at hq
      refine ⟨.ref a, rfl, true, .inl ⟨_, hS, e0.symm⟩, ?_⟩
      refine iteF ?_
      refine ⟨.ref a, rfl, 1, rfl, a, _, -1, .int u, rfl, rfl, hS, atI_last _ _, .int u, rfl, .int r, rfl, rfl, _, rfl, ?_⟩
      by_cases e : u = r
      · rw [decide_eq_true e, Bool.true_or] at hq
        rw [decide_eq_true (show V.int u = V.int r by rw [e])]
        exact iteT hq
      · rw [decide_eq_false e, Bool.false_or] at hq
        rw [decide_eq_false (show ¬ V.int u = V.int r from fun z => e (V.int.inj z))]
        have h2 : decide ((((dn.map V.int ++ [V.int b]) ++ [V.int u]).length : Int) > 1) = true := decide_eq_true (by rw [hL]; omega)
        refine iteF ⟨.ref a, rfl, a, _, rfl, .inl hS, _, _, rfl, rfl, _, rfl, ?_⟩
        rw [h2]
        exact iteT ⟨.int u, rfl, .ref a, rfl, 2, rfl, a, _, -2, .int b, rfl, rfl, hS, atI_last2 _ _ _, .int r, rfl, u, b, r, rfl, hq⟩
theorem ok_TPl {f fL : Addr} {fd fdL : FuncData} {k : Nat} (F : Fun K "turning_points" "turning_points" sTP f fd) (GL : FnOk P w K mg base CX0 (k + 2) fL fdL ["points", "reading"] (spLO K)) (gL : mg "is_left_out" = some (.ref fL)) (kL : PySem.W.keepIn K (.ref fL) = true) (bL : Binds K fdL ["points", "reading"] [])
    (mt : mg "tuple" = none) : FnOk P w K mg base CX0 (k + 3) f fd ["load"] (spTPl K) := by
  refine F.ok scTP (fun vs H Q E h => ?_) (fun cdv A outer s H vs Q E hr h => ?_)
  · obtain ⟨a, ns, rfl, _⟩ := h
    rfl
  · obtain ⟨a, ns, rfl, hS, hlen, hq⟩ := h
    refine ⟨_, pss_cons (ps_set (i := 1) scTP.nd rfl (.inl rfl) (pe_lst pa_nil))
      (pss_cons (ps_for PassesOwn.never rfl (pi_list (pv 0)) (pg_name (i := 2) scTP.nd rfl (.inl rfl))
        (pss_cons (ps_if (pt_val (pe_call GL hr (by rfl) gL kL bL .nil pass0 (pa_cons (pv 1) (pa_cons (pv 2) pa_nil))))
              (pss_one (ps_expr (pe_bm0 PySem.F.plainAttrs_list PySem.F.slot_list_pop PySem.F.type_list_pop mt_pop (pv 1)))) pss_nil)
            (pss_one (ps_expr (pe_bm PySem.F.plainAttrs_list PySem.F.slot_list_append PySem.F.type_list_append mt_append (pv 1) (pa_cons (pv 2) pa_nil))))))
      (pss_one (ps_ret (pe_callTy call_tuple_of (by rfl) mt (by decide +kernel) (pa_cons (pv 1) pa_nil))))), ?_⟩
    refine ⟨Nat.zero_le _, fun D nD => ?_⟩
    have sm : ∀ o, Same H (upd H D o) := fun o => same_new nD
    refine ⟨.ref a, rfl, a, rfl, ⟨_, (sm _).seq hS⟩, for_list (K := K) (a := a) (xs := ns.map V.int)
      (fun i σ H' => ∃ (r2 : Option V), σ = [some (.ref a), some (.ref D), r2] ∧ H' = upd H D (.lst ((tp (ns.take i)).map V.int)) ∧ (tp (ns.take i)).length ≤ i) ?_ ?_ ?_ ?_⟩
    · exact ⟨none, rfl, rfl, Nat.le_refl _⟩
    · rintro i σ H' _ ⟨r2, rfl, rfl, _⟩
      exact (sm _).seq hS
    · rintro i x σ H' hx ⟨r2, rfl, rfl, hpl⟩
      obtain ⟨r, hr2, rfl⟩ := int_at hx
      have hin : i < ns.length := (List.getElem?_eq_some_iff.mp hr2).1
      rw [tp_take hr2]
      generalize tp (ns.take i) = ps at hpl ⊢
      have hpl2 := Nat.le_trans (push_len ps r) (Nat.succ_le_succ hpl)
      refine ⟨.ref D, rfl, .int r, rfl, D, ps, r, rfl, SqL.of upd_same, _, rfl, ?_⟩
      have hp := push_lo ps r
      cases hl : lo ps r with
      | true =>
        rw [hl, if_pos rfl] at hp
        have hne : ps ≠ [] := fun z => by rw [z] at hl; cases hl
        obtain ⟨ps', u, rfl⟩ : ∃ ps' u, ps = ps' ++ [u] := by
          rcases List.eq_nil_or_concat ps with h | ⟨m1, d, h⟩
          · exact absurd h hne
          · exact ⟨m1, d, by rw [h]; simp⟩
        rw [List.dropLast_concat] at hp
        have em : (ps' ++ [u]).map V.int = ps'.map V.int ++ [V.int u] := by simp
        have hl' : (ps' ++ [u]).length = ps'.length + 1 := by simp
        refine iteT ⟨.ref D, rfl, .inl ⟨rfl, _, SqL.of upd_same⟩, D, ps'.map V.int ++ [V.int u], .int u, rfl, rfl, by rw [upd_same, em], by simp, ?_⟩
        refine ⟨.ref D, rfl, .inl ⟨rfl, _, SqL.of upd_same⟩, .int r, rfl, D, ps'.map V.int, _, rfl, rfl, by rw [upd_same, List.dropLast_concat], by rw [List.length_map]; exact small3000 (by omega), _, rfl, ?_, hpl2⟩
        rw [upd_upd, upd_upd, hp, List.map_append]
        rfl
      | false =>
        rw [hl, if_neg (by decide)] at hp
        refine iteF ?_
        refine ⟨.ref D, rfl, .inl ⟨rfl, _, SqL.of upd_same⟩, .int r, rfl, D, _, _, rfl, rfl, upd_same, by rw [List.length_map]; exact small3000 (by omega), _, rfl, ?_, hpl2⟩
        rw [upd_upd, hp, List.map_append]
        rfl
    · rintro σ H' ⟨r2, rfl, rfl, hpl⟩
      have et : ns.take (ns.map V.int).length = ns := by rw [List.length_map]; exact List.take_length
      rw [et]
      exact ⟨.ref D, rfl, D, _, rfl, .inl ⟨SqL.of upd_same, fun l nl => hq _ l ((sm _).trans (same_new nl)) ((sm _).free nl) upd_same⟩⟩
theorem ok_TPt {f fL : Addr} {fd fdL : FuncData} {k : Nat} (F : Fun K "turning_points" "turning_points" sTP f fd) (GL : FnOk P w K mg base CX0 (k + 2) fL fdL ["points", "reading"] (spLO K)) (gL : mg "is_left_out" = some (.ref fL)) (kL : PySem.W.keepIn K (.ref fL) = true) (bL : Binds K fdL ["points", "reading"] [])
    (mt : mg "tuple" = none) : FnOk P w K mg base CX0 (k + 3) f fd ["load"] (spTPt K) := by
  refine F.ok scTP (fun vs H Q E h => ?_) (fun cdv A outer s H vs Q E hr h => ?_)
  · obtain ⟨a, ns, rfl, _⟩ := h
    rfl
  · obtain ⟨a, ns, rfl, hS, hlen, hq⟩ := h
    refine ⟨_, pss_cons (ps_set (i := 1) scTP.nd rfl (.inl rfl) (pe_lst pa_nil))
      (pss_cons (ps_for PassesOwn.never rfl (pi_tup (pv 0)) (pg_name (i := 2) scTP.nd rfl (.inl rfl))
        (pss_cons (ps_if (pt_val (pe_call GL hr (by rfl) gL kL bL .nil pass0 (pa_cons (pv 1) (pa_cons (pv 2) pa_nil))))
              (pss_one (ps_expr (pe_bm0 PySem.F.plainAttrs_list PySem.F.slot_list_pop PySem.F.type_list_pop mt_pop (pv 1)))) pss_nil)
            (pss_one (ps_expr (pe_bm PySem.F.plainAttrs_list PySem.F.slot_list_append PySem.F.type_list_append mt_append (pv 1) (pa_cons (pv 2) pa_nil))))))
      (pss_one (ps_ret (pe_callTy call_tuple_of (by rfl) mt (by decide +kernel) (pa_cons (pv 1) pa_nil))))), ?_⟩
    refine ⟨Nat.zero_le _, fun D nD => ?_⟩
    have sm : ∀ o, Same H (upd H D o) := fun o => same_new nD
    refine ⟨.ref a, rfl, a, rfl, ⟨_, SqT_same (sm _) hS⟩, for_tup (K := K) (a := a) (xs := ns.map V.int)
      (fun i σ H' => ∃ (r2 : Option V), σ = [some (.ref a), some (.ref D), r2] ∧ H' = upd H D (.lst ((tp (ns.take i)).map V.int)) ∧ (tp (ns.take i)).length ≤ i) ?_ ?_ ?_ ?_⟩
    · exact ⟨none, rfl, rfl, Nat.le_refl _⟩
    · rintro i σ H' _ ⟨r2, rfl, rfl, _⟩
      exact SqT_same (sm _) hS
    · rintro i x σ H' hx ⟨r2, rfl, rfl, hpl⟩
      obtain ⟨r, hr2, rfl⟩ := int_at hx
      have hin : i < ns.length := (List.getElem?_eq_some_iff.mp hr2).1
      rw [tp_take hr2]
      generalize tp (ns.take i) = ps at hpl ⊢
      have hpl2 := Nat.le_trans (push_len ps r) (Nat.succ_le_succ hpl)
      refine ⟨.ref D, rfl, .int r, rfl, D, ps, r, rfl, SqL.of upd_same, _, rfl, ?_⟩
      have hp := push_lo ps r
      cases hl : lo ps r with
      | true =>
        rw [hl, if_pos rfl] at hp
        have hne : ps ≠ [] := fun z => by rw [z] at hl; cases hl
        obtain ⟨ps', u, rfl⟩ : ∃ ps' u, ps = ps' ++ [u] := by
          rcases List.eq_nil_or_concat ps with h | ⟨m1, d, h⟩
          · exact absurd h hne
          · exact ⟨m1, d, by rw [h]; simp⟩
        rw [List.dropLast_concat] at hp
        have em : (ps' ++ [u]).map V.int = ps'.map V.int ++ [V.int u] := by simp
        have hl' : (ps' ++ [u]).length = ps'.length + 1 := by simp
        refine iteT ⟨.ref D, rfl, .inl ⟨rfl, _, SqL.of upd_same⟩, D, ps'.map V.int ++ [V.int u], .int u, rfl, rfl, by rw [upd_same, em], by simp, ?_⟩
        refine ⟨.ref D, rfl, .inl ⟨rfl, _, SqL.of upd_same⟩, .int r, rfl, D, ps'.map V.int, _, rfl, rfl, by rw [upd_same, List.dropLast_concat], by rw [List.length_map]; exact small3000 (by omega), _, rfl, ?_, hpl2⟩
        rw [upd_upd, upd_upd, hp, List.map_append]
        rfl
      | false =>
        rw [hl, if_neg (by decide)] at hp
        refine iteF ?_
        refine ⟨.ref D, rfl, .inl ⟨rfl, _, SqL.of upd_same⟩, .int r, rfl, D, _, _, rfl, rfl, upd_same, by rw [List.length_map]; exact small3000 (by omega), _, rfl, ?_, hpl2⟩
        rw [upd_upd, hp, List.map_append]
        rfl
    · rintro σ H' ⟨r2, rfl, rfl, hpl⟩
      have et : ns.take (ns.map V.int).length = ns := by rw [List.length_map]; exact List.take_length
      rw [et]
      exact ⟨.ref D, rfl, D, _, rfl, .inl ⟨SqL.of upd_same, fun l nl => hq _ l ((sm _).trans (same_new nl)) ((sm _).free nl) upd_same⟩⟩
end
end PB

/-! swings; the law's own points -/
namespace PC
open PySem PySem.Spec PyProof.Rows L2 KA PH PM PA PB RM RS
theorem cut_to (xs : List V) (k : Nat) : cutV xs none (some ((k : Nat) : Int)) = xs.take k := by
  unfold cutV
  rw [HT.sIx_none, HT.sIx_nat]
  simp only [Nat.sub_zero, List.drop_zero]
  rcases Nat.le_total k xs.length with h | h
  · rw [Nat.min_eq_left h]
  · rw [Nat.min_eq_right h, List.take_length, List.take_of_length_le h]
theorem cut_from (xs : List V) (k : Nat) : cutV xs (some ((k : Nat) : Int)) none = xs.drop k := by
  unfold cutV
  rw [HT.sIx_nat, HT.sIx_none]
  rcases Nat.le_total k xs.length with h | h
  · rw [Nat.min_eq_left h, List.take_of_length_le (by rw [List.length_drop]; omega)]
  · rw [Nat.min_eq_right h, Nat.sub_self, List.drop_eq_nil_of_le h]
    rfl
/-- a list of i pairs stands at R, what was tracked stands -/
def Prs (H0 : Hp) (R : Addr) (ps : List Int) (i : Nat) (H : Hp) : Prop := Same H0 H ∧ ∃ xs, H R = some (.lst xs) ∧ PairsAt H xs ((sw ps).take i)
theorem Prs.start {H0 : Hp} {R : Addr} (ps : List Int) (n : H0 R = none) : Prs H0 R ps 0 (upd H0 R (.lst [])) := ⟨same_new n, [], upd_same, trivial⟩
theorem Prs.turn {H0 H1 H2 : Hp} {R q : Addr} {ps : List Int} {i : Nat} {x y : Int} (g : Prs H0 R ps i H1) (n : H0 R = none) (s : Same H1 H2) (nq : H2 q = none) (hx : ps[i]? = some x) (hy : ps[i + 1]? = some y) (hl : ps.length ≤ 2500) :
    ∃ acc, (upd H2 q (.tup [.int (rg x y).1, .int (rg x y).2])) R = some (.lst acc) ∧ acc.length < sizeLine ∧ Prs H0 R ps (i + 1) (upd (upd H2 q (.tup [.int (rg x y).1, .int (rg x y).2])) R (.lst (acc ++ [.ref q]))) := by
  obtain ⟨s0, xs, e, pa⟩ := g
  have e2 := s _ _ e
  have nRq : R ≠ q := ne_of_none e2 nq
  have sq : Same H2 (upd H2 q (.tup [.int (rg x y).1, .int (rg x y).2])) := same_new nq
  have hi : i < ps.length := (List.getElem?_eq_some_iff.mp hx).1
  have hxl : xs.length ≤ i := by rw [pa.length, List.length_take]; omega
  refine ⟨xs, sq _ _ e2, small3000 (by omega), same_again n ((s0.trans s).trans sq), xs ++ [.ref q], upd_same, ?_⟩
  rw [sw_take ps i x y hx hy]
  have other : ∀ {ys : List V} {rs : List (Int × Int)}, PairsAt H1 ys rs → PairsAt (upd (upd H2 q (.tup [.int (rg x y).1, .int (rg x y).2])) R (.lst (xs ++ [.ref q]))) ys rs := by
    intro ys
    induction ys with
    | nil => intro rs h; cases rs with
      | nil => trivial
      | cons _ _ => exact h.elim
    | cons z zs ih =>
      intro rs h
      cases rs with
      | nil => exact h.elim
      | cons r rs =>
        obtain ⟨⟨p, h1, h2⟩, h3⟩ := h
        have h4 := sq _ _ (s _ _ h2)
        have npR : p ≠ R := fun z => by rw [z, e] at h2; cases h2
        exact ⟨⟨p, h1, by rw [upd_ne npR]; exact h4⟩, ih h3⟩
  refine PairsAt.append (other pa) ⟨⟨q, rfl, ?_⟩, trivial⟩
  rw [upd_ne nRq.symm, upd_same]
theorem Prs.all {H0 H : Hp} {R : Addr} {ps : List Int} {i : Nat} (g : Prs H0 R ps i H) (h : ps.length - 1 ≤ i) : ∃ xs, H R = some (.lst xs) ∧ PairsAt H xs (sw ps) := by
  obtain ⟨_, xs, e, pa⟩ := g
  rw [List.take_of_length_le (by rw [sw_len]; exact h)] at pa
  exact ⟨xs, e, pa⟩
section
variable {P : Program} {w : World} {K : PySem.W.Frag} {mg : Str → Option Value} {base : Heap}
def spSw (K : PySem.W.Frag) : Sp := fun vs H Q _ => ∃ (a : Addr) (ns : List Int), vs = [.ref a] ∧ Sq K H a (ns.map V.int) ∧ ns.length ≤ 2500 ∧ ∀ H' p xs, Same H H' → H p = none → H' p = some (.lst xs) → PairsAt H' xs (sw (tp ns)) → Q (.ref p) H'
theorem ok_sw {f fP fR : Addr} {fd fdP fdR : FuncData} {k : Nat} (F : Fun K "swings" "swings" sSw f fd) (GP : FnOk P w K mg base CX0 (k + 2) fP fdP ["load"] (spTP K)) (gP : mg "turning_points" = some (.ref fP)) (kP : PySem.W.keepIn K (.ref fP) = true) (bP : Binds K fdP ["load"] [])
    (GR : FnOk P w K mg base CX0 (k + 1) fR fdR ["one", "other"] spRng) (gR : mg "range_of" = some (.ref fR)) (kR : PySem.W.keepIn K (.ref fR) = true) (bR : Binds K fdR ["one", "other"] []) (mz : mg "zip" = none) : FnOk P w K mg base CX0 (k + 3) f fd ["load"] (spSw K) := by
  refine F.ok scSw (fun vs H Q E h => ?_) (fun cdv A outer s H vs Q E hr h => ?_)
  · obtain ⟨a, ns, rfl, _⟩ := h
    rfl
  · obtain ⟨a, ns, rfl, hS, hlen, hq⟩ := h
    have h1 := hr.mono (Nat.le_succ (k + 1))
    refine ⟨_, pss_cons (ps_set (i := 1) scSw.nd rfl (.inl rfl) (pe_call GP hr (by rfl) gP kP bP .nil pass0 (pa_cons (pv 0) pa_nil)))
      (pss_one (ps_ret (pe_lc (own := [("one", 2), ("other", 3)]) (g := gTup K 2 (gCons (gName 2) (gCons (gName 3) gNil))) rfl scSw.nd
        (RZ.pi_zipA (by rfl) mz (pa_cons (pv 1) (pa_cons (pe_slice sl_tupA (pv 1) (po_some pe_int) po_none) pa_nil)))
        (blkOk_by (own := [("one", 2), ("other", 3)]) (N := ["load", "points", "one", "other"]) (sc := defScope sSw) (by decide +kernel))
        (fun _ _ _ _ _ => pg_tup rfl (pgs_cons (pg_name (i := 2) scSw.nd rfl (Or.inl rfl) (Or.inr rfl)) (pgs_cons (pg_name (i := 3) scSw.nd rfl (Or.inl rfl) (Or.inr rfl)) pgs_nil)))
        (fun _ _ _ _ _ => pts_nil) (fun _ _ _ _ _ => pe_call GR h1 (by rfl) gR kR bR .nil pass0 (pa_cons (pv 2) (pa_cons (pv 3) pa_nil)))))), ?_⟩
    refine ⟨.ref a, rfl, ?_⟩
    have hps : (tp ns).length ≤ 2500 := Nat.le_trans (tp_len ns) hlen
    rcases hS with hS | hS
    · refine .inl ⟨a, ns, rfl, hS, hlen, fun H1 t s1 nt et => ?_⟩
      refine ⟨.ref t, rfl, .ref t, rfl, 1, rfl, t, (tp ns).map V.int, rfl, SqT.of et, fun hw => ?_, fun hn c nc => ?_⟩
      · have e0 : (tp ns).map V.int = [] := by
          have z := hw.1
          rw [show (some (1 : Int)) = some ((1 : Nat) : Int) from rfl, HT.sIx_nat] at z
          exact List.length_eq_zero_iff.mp (by omega)
        have hc : SqT K H1 t (((tp ns).map V.int).drop 1) := by
          rw [e0]
          rw [e0] at et
          exact SqT.of et
        have s2 := Same.refl H1
        refine ⟨t, t, (tp ns).map V.int, ((tp ns).map V.int).drop 1, rfl, .inr ⟨SqT.of (s2 _ _ et), hc, fun R nR => lc_it (walk_tups (K := K) (a := t) (b := t) (xs := (tp ns).map V.int) (ys := ((tp ns).map V.int).drop 1) (n := (tp ns).length - 1) (by rw [List.length_drop, List.length_map]; omega))
          (fun i H' => Prs H1 R (tp ns) i H') (Prs.start _ nR) (fun i H' _ g => ⟨SqT.of (g.1 _ _ (s2 _ _ et)), SqT_same g.1 hc⟩) ?_ ?_⟩⟩
        · rintro i x H3 H4 hi g ⟨T, u, v, rfl, nT, rfl, g1, g2⟩
          have g1 : ((tp ns).map V.int)[i]? = some u := g1
          have g2 : (((tp ns).map V.int).drop 1)[i]? = some v := g2
          rw [List.getElem?_drop, Nat.add_comm 1 i] at g2
          obtain ⟨x, hx, rfl⟩ := int_at g1
          obtain ⟨y, hy, rfl⟩ := int_at g2
          refine ⟨T, [.int x, .int y], rfl, SqT.of upd_same, rfl, .int x, [.int y], rfl, .int y, [], rfl, rfl, rfl, ?_⟩
          refine iteT (B := True) ?_
          exact ⟨.int x, rfl, .int y, rfl, x, y, rfl, fun q nq => g.turn nR (same_new nT) nq hx hy hps⟩
        · intro H' g
          obtain ⟨xs, e, pa⟩ := g.all (Nat.le_refl _)
          exact hq H' R xs ((s1.trans s2).trans g.1) ((s1.trans s2).free nR) e pa
      · have hc : SqT K (upd H1 c (.tup (cutV ((tp ns).map V.int) (some 1) none))) c (((tp ns).map V.int).drop 1) := SqT.of (by rw [upd_same, show (some (1 : Int)) = some ((1 : Nat) : Int) from rfl, cut_from])
        have s2 : Same H1 (upd H1 c (.tup (cutV ((tp ns).map V.int) (some 1) none))) := same_new nc
        refine ⟨t, c, (tp ns).map V.int, ((tp ns).map V.int).drop 1, rfl, .inr ⟨SqT.of (s2 _ _ et), hc, fun R nR => lc_it (walk_tups (K := K) (a := t) (b := c) (xs := (tp ns).map V.int) (ys := ((tp ns).map V.int).drop 1) (n := (tp ns).length - 1) (by rw [List.length_drop, List.length_map]; omega))
          (fun i H' => Prs _ R (tp ns) i H') (Prs.start _ nR) (fun i H' _ g => ⟨SqT.of (g.1 _ _ (s2 _ _ et)), SqT_same g.1 hc⟩) ?_ ?_⟩⟩
        · rintro i x H3 H4 hi g ⟨T, u, v, rfl, nT, rfl, g1, g2⟩
          have g1 : ((tp ns).map V.int)[i]? = some u := g1
          have g2 : (((tp ns).map V.int).drop 1)[i]? = some v := g2
          rw [List.getElem?_drop, Nat.add_comm 1 i] at g2
          obtain ⟨x, hx, rfl⟩ := int_at g1
          obtain ⟨y, hy, rfl⟩ := int_at g2
          refine ⟨T, [.int x, .int y], rfl, SqT.of upd_same, rfl, .int x, [.int y], rfl, .int y, [], rfl, rfl, rfl, ?_⟩
          refine iteT (B := True) ?_
          exact ⟨.int x, rfl, .int y, rfl, x, y, rfl, fun q nq => g.turn nR (same_new nT) nq hx hy hps⟩
        · intro H' g
          obtain ⟨xs, e, pa⟩ := g.all (Nat.le_refl _)
          exact hq H' R xs ((s1.trans s2).trans g.1) ((s1.trans s2).free nR) e pa
    · refine .inr ⟨a, ns, rfl, hS, hlen, fun H1 t s1 nt et => ?_⟩
      refine ⟨.ref t, rfl, .ref t, rfl, 1, rfl, t, (tp ns).map V.int, rfl, SqT.of et, fun hw => ?_, fun hn c nc => ?_⟩
      · have e0 : (tp ns).map V.int = [] := by
          have z := hw.1
          rw [show (some (1 : Int)) = some ((1 : Nat) : Int) from rfl, HT.sIx_nat] at z
          exact List.length_eq_zero_iff.mp (by omega)
        have hc : SqT K H1 t (((tp ns).map V.int).drop 1) := by
          rw [e0]
          rw [e0] at et
          exact SqT.of et
        have s2 := Same.refl H1
        refine ⟨t, t, (tp ns).map V.int, ((tp ns).map V.int).drop 1, rfl, .inr ⟨SqT.of (s2 _ _ et), hc, fun R nR => lc_it (walk_tups (K := K) (a := t) (b := t) (xs := (tp ns).map V.int) (ys := ((tp ns).map V.int).drop 1) (n := (tp ns).length - 1) (by rw [List.length_drop, List.length_map]; omega))
          (fun i H' => Prs H1 R (tp ns) i H') (Prs.start _ nR) (fun i H' _ g => ⟨SqT.of (g.1 _ _ (s2 _ _ et)), SqT_same g.1 hc⟩) ?_ ?_⟩⟩
        · rintro i x H3 H4 hi g ⟨T, u, v, rfl, nT, rfl, g1, g2⟩
          have g1 : ((tp ns).map V.int)[i]? = some u := g1
          have g2 : (((tp ns).map V.int).drop 1)[i]? = some v := g2
          rw [List.getElem?_drop, Nat.add_comm 1 i] at g2
          obtain ⟨x, hx, rfl⟩ := int_at g1
          obtain ⟨y, hy, rfl⟩ := int_at g2
          refine ⟨T, [.int x, .int y], rfl, SqT.of upd_same, rfl, .int x, [.int y], rfl, .int y, [], rfl, rfl, rfl, ?_⟩
          refine iteT (B := True) ?_
          exact ⟨.int x, rfl, .int y, rfl, x, y, rfl, fun q nq => g.turn nR (same_new nT) nq hx hy hps⟩
        · intro H' g
          obtain ⟨xs, e, pa⟩ := g.all (Nat.le_refl _)
          exact hq H' R xs ((s1.trans s2).trans g.1) ((s1.trans s2).free nR) e pa
      · have hc : SqT K (upd H1 c (.tup (cutV ((tp ns).map V.int) (some 1) none))) c (((tp ns).map V.int).drop 1) := SqT.of (by rw [upd_same, show (some (1 : Int)) = some ((1 : Nat) : Int) from rfl, cut_from])
        have s2 : Same H1 (upd H1 c (.tup (cutV ((tp ns).map V.int) (some 1) none))) := same_new nc
        refine ⟨t, c, (tp ns).map V.int, ((tp ns).map V.int).drop 1, rfl, .inr ⟨SqT.of (s2 _ _ et), hc, fun R nR => lc_it (walk_tups (K := K) (a := t) (b := c) (xs := (tp ns).map V.int) (ys := ((tp ns).map V.int).drop 1) (n := (tp ns).length - 1) (by rw [List.length_drop, List.length_map]; omega))
          (fun i H' => Prs _ R (tp ns) i H') (Prs.start _ nR) (fun i H' _ g => ⟨SqT.of (g.1 _ _ (s2 _ _ et)), SqT_same g.1 hc⟩) ?_ ?_⟩⟩
        · rintro i x H3 H4 hi g ⟨T, u, v, rfl, nT, rfl, g1, g2⟩
          have g1 : ((tp ns).map V.int)[i]? = some u := g1
          have g2 : (((tp ns).map V.int).drop 1)[i]? = some v := g2
          rw [List.getElem?_drop, Nat.add_comm 1 i] at g2
          obtain ⟨x, hx, rfl⟩ := int_at g1
          obtain ⟨y, hy, rfl⟩ := int_at g2
          refine ⟨T, [.int x, .int y], rfl, SqT.of upd_same, rfl, .int x, [.int y], rfl, .int y, [], rfl, rfl, rfl, ?_⟩
          refine iteT (B := True) ?_
          exact ⟨.int x, rfl, .int y, rfl, x, y, rfl, fun q nq => g.turn nR (same_new nT) nq hx hy hps⟩
        · intro H' g
          obtain ⟨xs, e, pa⟩ := g.all (Nat.le_refl _)
          exact hq H' R xs ((s1.trans s2).trans g.1) ((s1.trans s2).free nR) e pa
end
end PC

/-! places, points taken out -/
namespace QE
open PySem PySem.Spec PyProof.Rows L2 KA PH PM PA PB PC RM RN RS
abbrev sMT : Stmt := topS 11
abbrev sPB : Stmt := topS 12
abbrev sCo : Stmt := topS 13
abbrev sClass : Stmt := topS 14
abbrev sLaw : Stmt := topS 23
theorem scMT : FnScope ["points", "place", "size"] ["points", "place"] (defScope sMT) := ⟨rfl, rfl, rfl, by decide +kernel, rfl, by decide +kernel, by decide +kernel⟩
theorem Sq.ix {K : PySem.W.Frag} {H : Hp} {a : Addr} {xs : List V} {z : Int} {v : V} {Q : VK} (h : Sq K H a xs) (e : atI xs z = some v) (q : Q v H) : rIx K (.ref a) (.int z) H Q := by
  rcases h with h | h
  · exact .inl ⟨a, xs, z, v, rfl, rfl, h, e, q⟩
  · exact .inr (.inl ⟨a, xs, z, v, rfl, rfl, h, e, q⟩)
section
variable {P : Program} {w : World} {K : PySem.W.Frag} {mg : Str → Option Value} {base : Heap}
def spMT (K : PySem.W.Frag) : Sp := fun vs H Q _ => ∃ (a : Addr) (ps : List Int) (i : Nat) (z x y t u : Int), vs = [.ref a, .int z] ∧ z = (i : Int) + 1 ∧ Sq K H a (ps.map V.int) ∧ ZZ ps ∧ ps[i]? = some x ∧ ps[i + 1]? = some y ∧ ps[i + 2]? = some t ∧ ps[i + 3]? = some u ∧
  ∀ H', Same H H' → Q (.bl (takenAt ps i)) H'
theorem abs_i (i : Int) : (if i < 0 then -i else i) = (i.natAbs : Int) := by split <;> omega
theorem ok_MT {f : Addr} {fd : FuncData} {k : Nat} (F : Fun K "_may_be_taken" "_may_be_taken" sMT f fd) (ma : mg "abs" = none) : FnOk P w K mg base CX0 (k + 1) f fd ["points", "place"] (spMT K) := by
  refine F.ok scMT (fun vs H Q E h => ?_) (fun cdv A outer s H vs Q E hr h => ?_)
  · obtain ⟨a, ps, i, z, x, y, t, u, rfl, _⟩ := h
    rfl
  · obtain ⟨a, ps, i, z, x, y, t, u, rfl, rfl, hS, zz, e0, e1, e2, e3, hq⟩ := h
    refine ⟨_, pss_cons (ps_set (i := 2) scMT.nd rfl (.inl rfl) (pe_callB call_abs (by rfl) ma (by decide +kernel) (pa_cons (pe_op op_sub (pe_ix ix_seq (pv 0) (pe_op op_add (pv 1) pe_int) (fun _ _ => rfl)) (pe_ix ix_seq (pv 0) (pv 1) (fun _ _ => rfl))) pa_nil)))
      (pss_one (ps_ret (pe_and (pe_cmpR op_ge (pe_callB call_abs (by rfl) ma (by decide +kernel) (pa_cons (pe_op op_sub (pe_ix ix_seq (pv 0) (pv 1) (fun _ _ => rfl)) (pe_ix ix_seq (pv 0) (pe_op op_sub (pv 1) pe_int) (fun _ _ => rfl))) pa_nil)) (pv 2) (nomark _))
        (pe_one (pe_cmpR op_ge (pe_callB call_abs (by rfl) ma (by decide +kernel) (pa_cons (pe_op op_sub (pe_ix ix_seq (pv 0) (pe_op op_add (pv 1) pe_int) (fun _ _ => rfl)) (pe_ix ix_seq (pv 0) (pe_op op_add (pv 1) pe_int) (fun _ _ => rfl))) pa_nil)) (pv 2) (nomark _)))))), ?_⟩
    have a0 : atI (ps.map V.int) ((i : Int) + 1 - 1) = some (.int x) := at_of (j := i) (by omega) (at_int e0)
    have a1 : atI (ps.map V.int) ((i : Int) + 1) = some (.int y) := at_of (j := i + 1) (by omega) (at_int e1)
    have a2 : atI (ps.map V.int) ((i : Int) + 1 + 1) = some (.int t) := at_of (j := i + 2) (by omega) (at_int e2)
    have a3 : atI (ps.map V.int) ((i : Int) + 1 + 2) = some (.int u) := at_of (j := i + 3) (by omega) (at_int e3)
    have hq2 := hq H (Same.refl H)
    rw [taken_get e0 e1 e2 e3] at hq2
    have eT : decide (Taken x y t u) = (decide (((y - x).natAbs : Int) ≥ ((t - y).natAbs : Int)) && decide (((u - t).natAbs : Int) ≥ ((t - y).natAbs : Int))) := by
      rw [← Bool.decide_and, decide_eq_decide]
      exact taken_abs (zz_at zz e0 e1 e2 e3)
    rw [eT] at hq2
    refine ⟨.ref a, rfl, .int ((i : Int) + 1), rfl, _, 1, rfl, rfl, Sq.ix hS a2 ⟨.ref a, rfl, .int ((i : Int) + 1), rfl, Sq.ix hS a1 ⟨t, y, rfl, rfl, _, rfl, ?_⟩⟩⟩
    refine ⟨.ref a, rfl, .int ((i : Int) + 1), rfl, Sq.ix hS a1 ⟨.ref a, rfl, .int ((i : Int) + 1), rfl, _, 1, rfl, rfl, Sq.ix hS a0 ⟨y, x, rfl, rfl, _, rfl, ?_⟩⟩⟩
    refine ⟨_, rfl, _, _, rfl, rfl, _, rfl, ?_⟩
    rw [abs_i, abs_i]
    cases h1 : decide (((y - x).natAbs : Int) ≥ ((t - y).natAbs : Int)) with
    | true =>
      rw [h1, Bool.true_and] at hq2
      refine iteT ⟨.ref a, rfl, .int ((i : Int) + 1), rfl, _, 2, rfl, rfl, Sq.ix hS a3 ⟨.ref a, rfl, .int ((i : Int) + 1), rfl, _, 1, rfl, rfl, Sq.ix hS a2 ⟨u, t, rfl, rfl, _, rfl, ?_⟩⟩⟩
      refine ⟨_, rfl, _, _, rfl, rfl, ?_⟩
      rw [abs_i]
      exact hq2
    | false =>
      rw [h1, Bool.false_and] at hq2
      exact iteF hq2
def spRem (K : PySem.W.Frag) : Sp := fun vs H Q _ => ∃ (a : Addr) (ps : List Int), vs = [.ref a] ∧ Sq K H a (ps.map V.int) ∧ ZZ ps ∧ ps.length ≤ 2500 ∧ ∀ H' p, Same H H' → H p = none → H' p = some (.tup ((plc ps).map V.int)) → Q (.ref p) H'
end
end QE

/-! take; the stack -/
namespace QF
open PySem PySem.Spec PyProof.Rows L2 KA PH PM PA PB PC RM RN RS QE
theorem scPB : FnScope ["rest", "reading", "cycles"] ["rest", "reading"] (defScope sPB) := ⟨rfl, rfl, rfl, by decide +kernel, rfl, by decide +kernel, by decide +kernel⟩
theorem scCo : FnScope ["load", "cycles", "rest", "reading"] ["load"] (defScope sCo) := ⟨rfl, rfl, rfl, by decide +kernel, rfl, by decide +kernel, by decide +kernel⟩
theorem taken_all {ps : List Int} {i : Nat} (h : takenAt ps i = true) : ∃ x y t u, ps[i]? = some x ∧ ps[i + 1]? = some y ∧ ps[i + 2]? = some t ∧ ps[i + 3]? = some u := by
  have := taken_lt h
  exact ⟨_, _, _, _, List.getElem?_eq_getElem (by omega), List.getElem?_eq_getElem (by omega), List.getElem?_eq_getElem (by omega), List.getElem?_eq_getElem (by omega)⟩
section
variable {P : Program} {w : World} {K : PySem.W.Frag} {mg : Str → Option Value} {base : Heap}
def spIR (K : PySem.W.Frag) : Sp := fun vs H Q _ => ∃ (a : Addr) (ps : List Int) (i : Nat) (z : Int), vs = [.ref a, .int z] ∧ z = (i : Int) + 1 ∧ Sq K H a (ps.map V.int) ∧ ZZ ps ∧ takenAt ps i = true ∧ ∀ H', Same H H' → Q (.bl true) H'
def spNum : Sp := fun vs H Q _ => ∃ z : Int, vs = [.int z] ∧ Q (.bl true) H
end
end QF

/-! the stack -/
namespace QG
open PySem PySem.Spec PyProof.Rows L2 KA PH PM PA PB PC RM RN RS KD QE QF
theorem atI_last3 (xs : List V) (u v w : V) : atI (xs ++ [u, v, w]) (-3) = some u := by
  have hl : (xs ++ [u, v, w]).length = xs.length + 3 := by simp
  have h : ixN (xs ++ [u, v, w]).length (-3) = some xs.length := by
    unfold ixN
    rw [hl, if_neg (by decide), if_pos (by omega)]
    congr 1
    omega
  unfold atI
  rw [h]
  show (xs ++ [u, v, w])[xs.length]? = some u
  simp
theorem atI_last2' (xs : List V) (u v w : V) : atI (xs ++ [u, v, w]) (-2) = some v := by
  have := atI_last2 (xs ++ [u]) v w
  simpa using this
theorem last3 : ∀ {m : List Int}, 3 ≤ m.length → ∃ pre b c d, m = pre ++ [b, c, d] := by
  intro m h
  rcases List.eq_nil_or_concat m with rfl | ⟨m1, d, rfl⟩
  · simp at h
  · rcases List.eq_nil_or_concat m1 with rfl | ⟨m2, c, rfl⟩
    · simp at h
    · rcases List.eq_nil_or_concat m2 with rfl | ⟨m3, b, rfl⟩
      · simp at h
      · exact ⟨m3, b, c, d, by simp⟩
theorem pairs_upd {H : Hp} {R : Addr} {l l' : List V} (e : H R = some (.lst l)) : ∀ {xs : List V} {rs : List (Int × Int)}, PairsAt H xs rs → PairsAt (upd H R (.lst l')) xs rs
  | [], [], _ => trivial
  | x :: xs, r :: rs, ⟨⟨p, h1, h2⟩, h3⟩ => ⟨⟨p, h1, by rw [upd_ne (fun z => by rw [z, e] at h2; cases h2)]; exact h2⟩, pairs_upd e h3⟩
  | [], _ :: _, h => h.elim
  | _ :: _, [], h => h.elim
section
variable {P : Program} {w : World} {K : PySem.W.Frag} {mg : Str → Option Value} {base : Heap}
def spTPq (K : PySem.W.Frag) : Sp := fun vs H Q _ => ∃ (a : Addr) (ns : List Int), vs = [.ref a] ∧ Sq K H a (ns.map V.int) ∧ ns.length ≤ 2500 ∧ ∀ H' p, Same H H' → H p = none → H' p = some (.tup ((tp ns).map V.int)) → Q (.ref p) H'
theorem tpq_of {k : Nat} {f : Addr} {fd : FuncData} (G : FnOk P w K mg base CX0 k f fd ["load"] (spTP K)) : FnOk P w K mg base CX0 k f fd ["load"] (spTPq K) :=
  G.imp fun vs H Q E ⟨a, ns, e, hs, hl, q⟩ => hs.elim (fun z => .inl ⟨a, ns, e, z, hl, q⟩) (fun z => .inr ⟨a, ns, e, z, hl, q⟩)
theorem ch_pairs {f : Addr} {H H' : Hp} {l : List V} (c : Ch f H H') (e : H f = some (.lst l)) : ∀ {xs : List V} {rs : List (Int × Int)}, PairsAt H xs rs → PairsAt H' xs rs
  | [], [], _ => trivial
  | x :: xs, r :: rs, ⟨⟨p, h1, h2⟩, h3⟩ => ⟨⟨p, h1, c _ _ (fun z => by rw [z, e] at h2; cases h2) h2⟩, ch_pairs c e h3⟩
  | [], _ :: _, h => h.elim
  | _ :: _, [], h => h.elim
/-- what put_behind holds -/
structure Bhd (H : Hp) (C R : Addr) (xs : List V) (cs : List (Int × Int)) (rs : List Int) (Hx : Hp) : Prop where
  ch : Ch R H Hx
  c : Hx C = some (.lst xs)
  pa : PairsAt Hx xs cs
  r : Hx R = some (.lst (rs.map V.int))
theorem Bhd.same {H : Hp} {C R : Addr} {xs : List V} {cs : List (Int × Int)} {rs : List Int} {H1 H2 : Hp} (g : Bhd H C R xs cs rs H1) (s : Same H1 H2) : Bhd H C R xs cs rs H2 :=
  ⟨g.ch.trans (.of_same s), s _ _ g.c, g.pa.same s, s _ _ g.r⟩
theorem Bhd.rest {H : Hp} {C R : Addr} {xs : List V} {cs : List (Int × Int)} {rs : List Int} {H1 : Hp} (g : Bhd H C R xs cs rs H1) (nCR : C ≠ R) (rs' : List Int) : Bhd H C R xs cs rs' (upd H1 R (.lst (rs'.map V.int))) :=
  ⟨g.ch.trans .put, by rw [upd_ne nCR]; exact g.c, pairs_upd g.r g.pa, upd_same⟩
theorem Bhd.cyc {H : Hp} {C R q : Addr} {xs : List V} {cs : List (Int × Int)} {rs : List Int} {H1 : Hp} {c : Int × Int} (g : Bhd H C R xs cs rs H1) (nC : H C = none) (nCR : C ≠ R) (hq : H1 q = some (.tup [.int c.1, .int c.2])) :
    Bhd H C R (xs ++ [.ref q]) (cs ++ [c]) rs (upd H1 C (.lst (xs ++ [.ref q]))) :=
  ⟨Ch.again nC g.ch, upd_same, PairsAt.append (pairs_upd g.c g.pa) ⟨⟨q, rfl, by rw [upd_ne (fun z => by rw [z, g.c] at hq; cases hq)]; exact hq⟩, trivial⟩, by rw [upd_ne nCR.symm]; exact g.r⟩
def spPB : Sp := fun vs H Q _ => ∃ (R : Addr) (rs : List Int) (r : Int), vs = [.ref R, .int r] ∧ H R = some (.lst (rs.map V.int)) ∧ ZZ rs ∧ NF rs ∧ rs.length ≤ 2500 ∧
  ∀ H' p xs cs rs', Ch R H H' → H p = none → H' p = some (.lst xs) → PairsAt H' xs cs → H' R = some (.lst (rs'.map V.int)) → Run (push rs r) cs rs' → NF rs' → Q (.ref p) H'
theorem ok_PB {f fL fM fR : Addr} {fd fdL fdM fdR : FuncData} {k : Nat} (F : Fun K "put_behind" "put_behind" sPB f fd)
    (GL : FnOk P w K mg base CX0 (k + 2) fL fdL ["points", "reading"] (spLO K)) (gL : mg "is_left_out" = some (.ref fL)) (kL : PySem.W.keepIn K (.ref fL) = true) (bL : Binds K fdL ["points", "reading"] [])
    (GM : FnOk P w K mg base CX0 (k + 2) fM fdM ["points", "place"] (spMT K)) (gM : mg "_may_be_taken" = some (.ref fM)) (kM : PySem.W.keepIn K (.ref fM) = true) (bM : Binds K fdM ["points", "place"] [])
    (GR : FnOk P w K mg base CX0 (k + 2) fR fdR ["one", "other"] spRng) (gR : mg "range_of" = some (.ref fR)) (kR : PySem.W.keepIn K (.ref fR) = true) (bR : Binds K fdR ["one", "other"] [])
    (ml : mg "len" = none) : FnOk P w K mg base CX0 (k + 3) f fd ["rest", "reading"] spPB := by
  refine F.ok scPB (fun vs H Q E h => ?_) (fun cdv A outer s H vs Q E hr h => ?_)
  · obtain ⟨R, rs, r, rfl, _⟩ := h
    rfl
  · obtain ⟨R, rs0, r, rfl, eR, zz0, nf0, hlen, hq⟩ := h
    refine ⟨_, pss_cons (ps_if (pt_val (pe_call GL hr (by rfl) gL kL bL .nil pass0 (pa_cons (pv 0) (pa_cons (pv 1) pa_nil))))
          (pss_one (ps_expr (pe_bm0 PySem.F.plainAttrs_list PySem.F.slot_list_pop PySem.F.type_list_pop mt_pop (pv 0)))) pss_nil)
      (pss_cons (ps_expr (pe_bm PySem.F.plainAttrs_list PySem.F.slot_list_append PySem.F.type_list_append mt_append (pv 0) (pa_cons (pv 1) pa_nil)))
      (pss_cons (ps_set (i := 2) scPB.nd rfl (.inl rfl) (pe_lst pa_nil))
      (pss_cons (ps_while PassesOwn.never
            (PW.pt (pw_and (pt_cmpR op_gt (pe_callB call_len_seq (by rfl) ml PySem.boot_len (pa_cons (pv 0) pa_nil)) pe_int (nomark _)) (pw_and1 (pt_val (pe_call GM hr (by rfl) gM kM bM .nil pass0 (pa_cons (pv 0) (pa_cons (pe_op op_sub (pe_callB call_len_seq (by rfl) ml PySem.boot_len (pa_cons (pv 0) pa_nil)) pe_int) pa_nil)))))))
            (pss_cons (ps_expr (pe_bm PySem.F.plainAttrs_list PySem.F.slot_list_append PySem.F.type_list_append mt_append (pv 2) (pa_cons (pe_call GR hr (by rfl) gR kR bR .nil pass0 (pa_cons (pe_ix ix_list (pv 0) (pe_un un_neg pe_int) (fun _ _ => rfl)) (pa_cons (pe_ix ix_list (pv 0) (pe_un un_neg pe_int) (fun _ _ => rfl)) pa_nil))) pa_nil)))
              (pss_one (DS.ps_del31 (pv 0) (po_some (pe_un un_neg pe_int)) (po_some (pe_un un_neg pe_int))))))
      (pss_one (ps_ret (pv 2)))))), ?_⟩
    have zz1 : ZZ (push rs0 r) := zz_push r zz0
    have hp := push_lo rs0 r
    have hpl := push_len rs0 r
    refine ⟨.ref R, rfl, .int r, rfl, R, rs0, r, rfl, SqL.of eR, _, rfl, ?_⟩
    obtain ⟨m, nfm, em, hm1⟩ : ∃ m, NF m ∧ push rs0 r = m ++ [r] ∧ m = (if lo rs0 r = true then rs0.dropLast else rs0) := by
      refine ⟨_, ?_, hp, rfl⟩
      split
      · rcases List.eq_nil_or_concat rs0 with h | ⟨m1, d, h⟩
        · rw [h] at nf0 ⊢
          exact nf0
        · have h : rs0 = m1 ++ [d] := by rw [h]; simp
          rw [h] at nf0 ⊢
          rw [List.dropLast_concat]
          exact nf_prefix nf0
      · exact nf0
    rw [em] at zz1 hpl hq
    have hml : m.length ≤ 2500 := by
      rw [hm1]
      split
      · rw [List.length_dropLast]; omega
      · exact hlen
    have e1 : m.map V.int ++ [V.int r] = (m ++ [r]).map V.int := by rw [List.map_append]; rfl
    have start : ∀ C, (upd H R (.lst ((m ++ [r]).map V.int))) C = none → Bhd H C R [] [] (m ++ [r]) (upd (upd H R (.lst ((m ++ [r]).map V.int))) C (.lst [])) ∧ C ≠ R ∧ H C = none := by
      intro C nC
      have nCR : C ≠ R := fun z => by rw [z, upd_same] at nC; cases nC
      have nC0 : H C = none := by rw [upd_ne nCR] at nC; exact nC
      refine ⟨⟨.again nC0 .put, upd_same, trivial, by rw [upd_ne nCR.symm, upd_same]⟩, nCR, nC0⟩
    cases hl : lo rs0 r
    · rw [hl, if_neg (by decide)] at hm1
      subst hm1
      refine iteF ?_
      refine ⟨.ref R, rfl, .inl ⟨rfl, _, SqL.of eR⟩, .int r, rfl, R, _, _, rfl, rfl, eR, by rw [List.length_map]; exact small3000 (by omega), ?_⟩
      rw [e1]
      refine ⟨Nat.zero_le _, fun C nC => ?_⟩
      obtain ⟨g1, nCR, nC0⟩ := start C nC
      generalize upd (upd H R (.lst ((m ++ [r]).map V.int))) C (.lst []) = Hs at g1 ⊢
      refine ⟨fun n σ Hx => ∃ (xs : List V) (cs : List (Int × Int)) (mm : List Int), n = mm.length ∧ σ = [some (.ref R), some (.int r), some (.ref C)] ∧ Bhd H C R xs cs (mm ++ [r]) Hx ∧ Run (m ++ [r]) cs (mm ++ [r]) ∧ NF mm,
        ⟨_, [], [], m, rfl, rfl, g1, .nil _, nfm⟩, ?_⟩
      clear g1
      rintro n σ Hx ⟨xs, cs, mm, rfl, rfl, g, run, nf⟩
      have hrl := run.len
      simp only [List.length_append, List.length_singleton] at hrl
      have zzm := run.zz zz1
      have hm : ((mm ++ [r]).map V.int).length = mm.length + 1 := by simp
      refine ⟨.ref R, rfl, R, _, rfl, .inl (SqL.of g.r), _, 3, rfl, rfl, _, rfl, ?_⟩
      by_cases h3 : 3 ≤ mm.length
      · rw [show decide ((((mm ++ [r]).map V.int).length : Int) > 3) = true from decide_eq_true (by rw [hm]; omega)]
        obtain ⟨pre, b, c, d, rfl⟩ := last3 h3
        have hml : (pre ++ [b, c, d]).length = pre.length + 3 := by simp
        have el : pre ++ [b, c, d] ++ [r] = pre ++ b :: c :: d :: r :: [] := by simp
        have q0 : (pre ++ [b, c, d] ++ [r])[pre.length]? = some b := by rw [el, List.getElem?_append_right (by omega)]; simp
        have q1 : (pre ++ [b, c, d] ++ [r])[pre.length + 1]? = some c := by rw [el, List.getElem?_append_right (by omega)]; simp
        have q2 : (pre ++ [b, c, d] ++ [r])[pre.length + 2]? = some d := by rw [el, List.getElem?_append_right (by omega)]; simp
        have q3 : (pre ++ [b, c, d] ++ [r])[pre.length + 3]? = some r := by rw [el, List.getElem?_append_right (by omega)]; simp
        refine iteT ⟨.ref R, rfl, .ref R, rfl, R, _, rfl, .inl (SqL.of g.r), _, 3, rfl, rfl, R, pre ++ [b, c, d] ++ [r], pre.length, _, b, c, d, r, rfl, by rw [hm, hml]; omega, .inl (SqL.of g.r), zzm, q0, q1, q2, q3, fun H2 s2 => ⟨_, rfl, ?_⟩⟩
        have g2 := g.same s2
        rw [taken_get q0 q1 q2 q3]
        by_cases tk : Taken b c d r
        · rw [decide_eq_true tk]
          refine iteT ⟨fun σ Hx => ∃ m', m' < (pre ++ [b, c, d]).length ∧ ∃ (xs : List V) (cs : List (Int × Int)) (mm : List Int), m' = mm.length ∧ σ = [some (.ref R), some (.int r), some (.ref C)] ∧ Bhd H C R xs cs (mm ++ [r]) Hx ∧ Run (m ++ [r]) cs (mm ++ [r]) ∧ NF mm, fun _ _ z => z, ?_⟩
          have eR : H2 R = some (.lst ((pre ++ [b]).map V.int ++ [V.int c, V.int d, V.int r])) := by
            rw [g2.r]
            simp [List.map_append]
          refine ⟨.ref C, rfl, .inl ⟨rfl, _, SqL.of g2.c⟩, .ref R, rfl, 3, rfl, R, _, -3, .int c, rfl, rfl, SqL.of eR, atI_last3 _ _ _ _, .ref R, rfl, 2, rfl, R, _, -2, .int d, rfl, rfl, SqL.of eR, atI_last2' _ _ _ _, c, d, rfl, fun q nq => ?_⟩
          have s3 := same_new (o := .tup [.int (rg c d).1, .int (rg c d).2]) nq
          have g3 := (g2.same s3).cyc nC0 nCR (upd_same (H := H2) (a := q) (o := .tup [.int (rg c d).1, .int (rg c d).2]))
          have hxl : xs.length ≤ 2500 := by rw [g2.pa.length]; omega
          refine ⟨C, xs, .ref q, rfl, rfl, s3 _ _ g2.c, small3000 (by omega), ?_⟩
          have eR3 : (upd (upd H2 q (.tup [.int (rg c d).1, .int (rg c d).2])) C (.lst (xs ++ [.ref q]))) R = some (.lst ((pre ++ [b]).map V.int ++ [V.int c, V.int d, V.int r])) := by
            rw [upd_ne nCR.symm]
            exact s3 _ _ eR
          refine ⟨.ref R, rfl, 3, rfl, _, rfl, 1, rfl, _, rfl, rfl, rfl, R, (pre ++ [b]).map V.int, .int c, .int d, .int r, rfl, eR3, ?_⟩
          have g4 := g3.rest nCR (pre ++ [b] ++ [r])
          have e5 : (pre ++ [b]).map V.int ++ [V.int r] = (pre ++ [b] ++ [r]).map V.int := by simp [List.map_append]
          rw [e5]
          refine ⟨(pre ++ [b]).length, by simp, _, _, pre ++ [b], rfl, rfl, g4, ?_, nf_prefix (l := [c, d]) (by simpa using nf)⟩
          refine run.snoc ?_
          rw [el, List.append_assoc]
          exact (Step.here tk).prefix pre
        · rw [decide_eq_false tk]
          refine iteF ?_
          refine ⟨.ref C, rfl, hq _ C xs cs _ g2.ch nC0 g2.c g2.pa g2.r run (nf_push nf fun pre' b' c' d' e => ?_)⟩
          have e6 : pre' ++ [b', c', d', r] = (pre' ++ [b', c', d']) ++ [r] := by simp
          rw [e6] at e
          obtain ⟨e7, _⟩ := List.append_inj' e rfl
          obtain ⟨_, e8⟩ := List.append_inj' e7 rfl
          injection e8 with h1 h2
          injection h2 with h2 h3
          injection h3 with h3 _
          subst h1 h2 h3
          exact tk
      · rw [show decide ((((mm ++ [r]).map V.int).length : Int) > 3) = false from decide_eq_false (by rw [hm]; omega)]
        refine iteF ?_
        refine iteF ?_
        refine ⟨.ref C, rfl, hq _ C xs cs _ g.ch nC0 g.c g.pa g.r run (nf_push nf fun pre' b' c' d' e => ?_)⟩
        have : (mm ++ [r]).length = (pre' ++ [b', c', d', r]).length := by rw [e]
        simp only [List.length_append, List.length_cons, List.length_nil] at this
        omega
    · rw [hl, if_pos rfl] at hm1
      obtain ⟨u, hu⟩ : ∃ u, rs0 = m ++ [u] := by
        rcases List.eq_nil_or_concat rs0 with h | ⟨m1, d, h⟩
        · rw [h] at hl; cases hl
        · refine ⟨d, ?_⟩
          rw [hm1, h]
          simp
      have eR2 : H R = some (.lst (m.map V.int ++ [V.int u])) := by rw [eR, hu]; simp
      refine iteT ⟨.ref R, rfl, .inl ⟨rfl, _, SqL.of eR⟩, R, m.map V.int ++ [V.int u], .int u, rfl, rfl, eR2, by simp, ?_⟩
      refine ⟨.ref R, rfl, .inl ⟨rfl, _, SqL.of upd_same⟩, .int r, rfl, R, m.map V.int, _, rfl, rfl, by rw [upd_same, List.dropLast_concat], by rw [List.length_map]; exact small3000 (by omega), ?_⟩
      rw [upd_upd, e1]
      refine ⟨Nat.zero_le _, fun C nC => ?_⟩
      obtain ⟨g1, nCR, nC0⟩ := start C nC
      generalize upd (upd H R (.lst ((m ++ [r]).map V.int))) C (.lst []) = Hs at g1 ⊢
      refine ⟨fun n σ Hx => ∃ (xs : List V) (cs : List (Int × Int)) (mm : List Int), n = mm.length ∧ σ = [some (.ref R), some (.int r), some (.ref C)] ∧ Bhd H C R xs cs (mm ++ [r]) Hx ∧ Run (m ++ [r]) cs (mm ++ [r]) ∧ NF mm,
        ⟨_, [], [], m, rfl, rfl, g1, .nil _, nfm⟩, ?_⟩
      clear g1
      rintro n σ Hx ⟨xs, cs, mm, rfl, rfl, g, run, nf⟩
      have hrl := run.len
      simp only [List.length_append, List.length_singleton] at hrl
      have zzm := run.zz zz1
      have hm : ((mm ++ [r]).map V.int).length = mm.length + 1 := by simp
      refine ⟨.ref R, rfl, R, _, rfl, .inl (SqL.of g.r), _, 3, rfl, rfl, _, rfl, ?_⟩
      by_cases h3 : 3 ≤ mm.length
      · rw [show decide ((((mm ++ [r]).map V.int).length : Int) > 3) = true from decide_eq_true (by rw [hm]; omega)]
        obtain ⟨pre, b, c, d, rfl⟩ := last3 h3
        have hml : (pre ++ [b, c, d]).length = pre.length + 3 := by simp
        have el : pre ++ [b, c, d] ++ [r] = pre ++ b :: c :: d :: r :: [] := by simp
        have q0 : (pre ++ [b, c, d] ++ [r])[pre.length]? = some b := by rw [el, List.getElem?_append_right (by omega)]; simp
        have q1 : (pre ++ [b, c, d] ++ [r])[pre.length + 1]? = some c := by rw [el, List.getElem?_append_right (by omega)]; simp
        have q2 : (pre ++ [b, c, d] ++ [r])[pre.length + 2]? = some d := by rw [el, List.getElem?_append_right (by omega)]; simp
        have q3 : (pre ++ [b, c, d] ++ [r])[pre.length + 3]? = some r := by rw [el, List.getElem?_append_right (by omega)]; simp
        refine iteT ⟨.ref R, rfl, .ref R, rfl, R, _, rfl, .inl (SqL.of g.r), _, 3, rfl, rfl, R, pre ++ [b, c, d] ++ [r], pre.length, _, b, c, d, r, rfl, by rw [hm, hml]; omega, .inl (SqL.of g.r), zzm, q0, q1, q2, q3, fun H2 s2 => ⟨_, rfl, ?_⟩⟩
        have g2 := g.same s2
        rw [taken_get q0 q1 q2 q3]
        by_cases tk : Taken b c d r
        · rw [decide_eq_true tk]
          refine iteT ⟨fun σ Hx => ∃ m', m' < (pre ++ [b, c, d]).length ∧ ∃ (xs : List V) (cs : List (Int × Int)) (mm : List Int), m' = mm.length ∧ σ = [some (.ref R), some (.int r), some (.ref C)] ∧ Bhd H C R xs cs (mm ++ [r]) Hx ∧ Run (m ++ [r]) cs (mm ++ [r]) ∧ NF mm, fun _ _ z => z, ?_⟩
          have eR : H2 R = some (.lst ((pre ++ [b]).map V.int ++ [V.int c, V.int d, V.int r])) := by
            rw [g2.r]
            simp [List.map_append]
          refine ⟨.ref C, rfl, .inl ⟨rfl, _, SqL.of g2.c⟩, .ref R, rfl, 3, rfl, R, _, -3, .int c, rfl, rfl, SqL.of eR, atI_last3 _ _ _ _, .ref R, rfl, 2, rfl, R, _, -2, .int d, rfl, rfl, SqL.of eR, atI_last2' _ _ _ _, c, d, rfl, fun q nq => ?_⟩
          have s3 := same_new (o := .tup [.int (rg c d).1, .int (rg c d).2]) nq
          have g3 := (g2.same s3).cyc nC0 nCR (upd_same (H := H2) (a := q) (o := .tup [.int (rg c d).1, .int (rg c d).2]))
          have hxl : xs.length ≤ 2500 := by rw [g2.pa.length]; omega
          refine ⟨C, xs, .ref q, rfl, rfl, s3 _ _ g2.c, small3000 (by omega), ?_⟩
          have eR3 : (upd (upd H2 q (.tup [.int (rg c d).1, .int (rg c d).2])) C (.lst (xs ++ [.ref q]))) R = some (.lst ((pre ++ [b]).map V.int ++ [V.int c, V.int d, V.int r])) := by
            rw [upd_ne nCR.symm]
            exact s3 _ _ eR
          refine ⟨.ref R, rfl, 3, rfl, _, rfl, 1, rfl, _, rfl, rfl, rfl, R, (pre ++ [b]).map V.int, .int c, .int d, .int r, rfl, eR3, ?_⟩
          have g4 := g3.rest nCR (pre ++ [b] ++ [r])
          have e5 : (pre ++ [b]).map V.int ++ [V.int r] = (pre ++ [b] ++ [r]).map V.int := by simp [List.map_append]
          rw [e5]
          refine ⟨(pre ++ [b]).length, by simp, _, _, pre ++ [b], rfl, rfl, g4, ?_, nf_prefix (l := [c, d]) (by simpa using nf)⟩
          refine run.snoc ?_
          rw [el, List.append_assoc]
          exact (Step.here tk).prefix pre
        · rw [decide_eq_false tk]
          refine iteF ?_
          refine ⟨.ref C, rfl, hq _ C xs cs _ g2.ch nC0 g2.c g2.pa g2.r run (nf_push nf fun pre' b' c' d' e => ?_)⟩
          have e6 : pre' ++ [b', c', d', r] = (pre' ++ [b', c', d']) ++ [r] := by simp
          rw [e6] at e
          obtain ⟨e7, _⟩ := List.append_inj' e rfl
          obtain ⟨_, e8⟩ := List.append_inj' e7 rfl
          injection e8 with h1 h2
          injection h2 with h2 h3
          injection h3 with h3 _
          subst h1 h2 h3
          exact tk
      · rw [show decide ((((mm ++ [r]).map V.int).length : Int) > 3) = false from decide_eq_false (by rw [hm]; omega)]
        refine iteF ?_
        refine iteF ?_
        refine ⟨.ref C, rfl, hq _ C xs cs _ g.ch nC0 g.c g.pa g.r run (nf_push nf fun pre' b' c' d' e => ?_)⟩
        have : (mm ++ [r]).length = (pre' ++ [b', c', d', r]).length := by rw [e]
        simp only [List.length_append, List.length_cons, List.length_nil] at this
        omega
/-- what _counted holds -/
structure Stk (H : Hp) (C R : Addr) (xs : List V) (cs : List (Int × Int)) (rs : List Int) (Hx : Hp) : Prop where
  sm : Same H Hx
  c : Hx C = some (.lst xs)
  pa : PairsAt Hx xs cs
  r : Hx R = some (.lst (rs.map V.int))
def spCoL (K : PySem.W.Frag) : Sp := fun vs H Q _ => ∃ (a : Addr) (ns : List Int), vs = [.ref a] ∧ SqL K H a (ns.map V.int) ∧ ns.length ≤ 2500 ∧
  ∀ H' p c r xs cs rs, Same H H' → H p = none → H' p = some (.tup [.ref c, .ref r]) → H' c = some (.lst xs) → PairsAt H' xs cs → H' r = some (.lst (rs.map V.int)) → Run (tp ns) cs rs → NF rs → Q (.ref p) H'
def spCoT (K : PySem.W.Frag) : Sp := fun vs H Q _ => ∃ (a : Addr) (ns : List Int), vs = [.ref a] ∧ SqT K H a (ns.map V.int) ∧ ns.length ≤ 2500 ∧
  ∀ H' p c r xs cs rs, Same H H' → H p = none → H' p = some (.tup [.ref c, .ref r]) → H' c = some (.lst xs) → PairsAt H' xs cs → H' r = some (.lst (rs.map V.int)) → Run (tp ns) cs rs → NF rs → Q (.ref p) H'
theorem ok_Col {f fB : Addr} {fd fdB : FuncData} {k : Nat} (F : Fun K "_counted" "_counted" sCo f fd)
    (GB : FnOk P w K mg base CX0 (k + 3) fB fdB ["rest", "reading"] spPB) (gB : mg "put_behind" = some (.ref fB)) (kB : PySem.W.keepIn K (.ref fB) = true) (bB : Binds K fdB ["rest", "reading"] []) :
    FnOk P w K mg base CX0 (k + 4) f fd ["load"] (spCoL K) := by
  refine F.ok scCo (fun vs H Q E h => ?_) (fun cdv A outer s H vs Q E hr h => ?_)
  · obtain ⟨a, ns, rfl, _⟩ := h
    rfl
  · obtain ⟨a, ns, rfl, hS, hlen, hq⟩ := h
    refine ⟨_, pss_cons (ps_par (i := 1) (j := 2) (by rfl) scCo.nd rfl rfl (by decide) rfl rfl (pa_cons (pe_lst pa_nil) (pa_cons (pe_lst pa_nil) pa_nil)) (by rfl))
      (pss_cons (ps_for PassesOwn.never rfl (pi_list (pv 0)) (pg_name (i := 3) scCo.nd rfl (.inl rfl))
        (pss_one (ps_expr (pe_bm PySem.F.plainAttrs_list PySem.F.slot_list_extend PySem.F.type_list_extend mt_extend (pv 1) (pa_cons (pe_call GB hr (by rfl) gB kB bB .nil pass0 (pa_cons (pv 2) (pa_cons (pv 3) pa_nil))) pa_nil)))))
      (pss_one (ps_ret (pe_tup (pa_cons (pv 1) (pa_cons (pv 2) pa_nil)))))), ?_⟩
    refine ⟨Nat.zero_le _, fun C nC => ⟨Nat.zero_le _, fun R nR => ⟨.ref C, .ref R, rfl, ?_⟩⟩⟩
    have nCR : C ≠ R := fun z => by rw [← z, upd_same] at nR; cases nR
    have nR0 : H R = none := (same_new nC).free nR
    have sm0 : Same H (upd (upd H C (.lst [])) R (.lst [])) := (same_new nC).trans (same_new nR)
    have eC0 : (upd (upd H C (.lst [])) R (.lst [])) C = some (.lst []) := by rw [upd_ne nCR, upd_same]
    have eR0 : (upd (upd H C (.lst [])) R (.lst [])) R = some (.lst []) := upd_same
    generalize upd (upd H C (.lst [])) R (.lst []) = H0 at sm0 eC0 eR0 ⊢
    have hts : ∀ i, tp (ns.take i) = tp (ns.take i) := fun _ => rfl
    refine ⟨.ref a, rfl, a, rfl, ⟨_, sm0.seq hS⟩, for_list (K := K) (a := a) (xs := ns.map V.int) (fun i σ Hx => ∃ (xs : List V) (cs : List (Int × Int)) (rs : List Int) (r3 : Option V), σ = [some (.ref a), some (.ref C), some (.ref R), r3] ∧
      Stk H C R xs cs rs Hx ∧ Run (tp (ns.take i)) cs rs ∧ NF rs) ?_ ?_ ?_ ?_⟩
    · exact ⟨[], [], [], none, rfl, ⟨sm0, eC0, trivial, eR0⟩, .nil _, fun c q s => by have := s.len; simp at this⟩
    · rintro i σ Hx _ ⟨xs, cs, rs, r3, rfl, g, _⟩
      exact g.sm.seq hS
    · rintro i x σ Hx hx ⟨xs, cs, rs, r3, rfl, g, run, nf⟩
      obtain ⟨r, hr2, rfl⟩ := int_at hx
      have hin : i < ns.length := (List.getElem?_eq_some_iff.mp hr2).1
      have hrl := run.len
      have htl := tp_len (ns.take i)
      rw [List.length_take] at htl
      have zz := run.zz (tp_zz (ns.take i))
      refine ⟨.ref C, rfl, .inl ⟨rfl, _, SqL.of g.c⟩, .ref R, rfl, .int r, rfl, R, rs, r, rfl, g.r, zz, nf, by omega, fun H2 p ys cs2 rs2 ch np ep pa2 eR2 run2 nf2 => ?_⟩
      have eC2 : H2 C = some (.lst xs) := ch _ _ nCR g.c
      have npC : p ≠ C := fun z => by rw [z, g.c] at np; cases np
      have npR : p ≠ R := fun z => by rw [z, g.r] at np; cases np
      have sm2 : Same H H2 := fun b o e => ch b o (ne_of_none e nR0) (g.sm b o e)
      have run3 := stream hr2 run run2
      have hrl3 := run3.len
      have htl3 := tp_len (ns.take (i + 1))
      rw [List.length_take] at htl3
      have hxl := g.pa.length
      have hyl := pa2.length
      rw [List.length_append] at hrl3
      refine ⟨C, p, xs, ys, rfl, rfl, eC2, ep, Nat.le_of_lt (small3000 (by omega)), _, cs ++ cs2, rs2, _, rfl, ⟨same_again nC sm2, upd_same, ?_, by rw [upd_ne nCR.symm]; exact eR2⟩, run3, nf2⟩
      exact PairsAt.append (pairs_upd eC2 (ch_pairs ch g.r g.pa)) (pairs_upd eC2 pa2)
    · rintro σ Hx ⟨xs, cs, rs, r3, rfl, g, run, nf⟩
      have et2 : ns.take (ns.map V.int).length = ns := by rw [List.length_map]; exact List.take_length
      rw [et2] at run
      refine ⟨.ref C, rfl, .ref R, rfl, by show 2 ≤ sizeLine; decide, fun p np => ?_⟩
      have sp := same_new (o := .tup [.ref C, .ref R]) np
      exact hq _ p C R xs cs rs (g.sm.trans sp) (g.sm.free np) upd_same (sp _ _ g.c) (g.pa.same sp) (sp _ _ g.r) run nf
theorem ok_Cot {f fB : Addr} {fd fdB : FuncData} {k : Nat} (F : Fun K "_counted" "_counted" sCo f fd)
    (GB : FnOk P w K mg base CX0 (k + 3) fB fdB ["rest", "reading"] spPB) (gB : mg "put_behind" = some (.ref fB)) (kB : PySem.W.keepIn K (.ref fB) = true) (bB : Binds K fdB ["rest", "reading"] []) :
    FnOk P w K mg base CX0 (k + 4) f fd ["load"] (spCoT K) := by
  refine F.ok scCo (fun vs H Q E h => ?_) (fun cdv A outer s H vs Q E hr h => ?_)
  · obtain ⟨a, ns, rfl, _⟩ := h
    rfl
  · obtain ⟨a, ns, rfl, hS, hlen, hq⟩ := h
    refine ⟨_, pss_cons (ps_par (i := 1) (j := 2) (by rfl) scCo.nd rfl rfl (by decide) rfl rfl (pa_cons (pe_lst pa_nil) (pa_cons (pe_lst pa_nil) pa_nil)) (by rfl))
      (pss_cons (ps_for PassesOwn.never rfl (pi_tup (pv 0)) (pg_name (i := 3) scCo.nd rfl (.inl rfl))
        (pss_one (ps_expr (pe_bm PySem.F.plainAttrs_list PySem.F.slot_list_extend PySem.F.type_list_extend mt_extend (pv 1) (pa_cons (pe_call GB hr (by rfl) gB kB bB .nil pass0 (pa_cons (pv 2) (pa_cons (pv 3) pa_nil))) pa_nil)))))
      (pss_one (ps_ret (pe_tup (pa_cons (pv 1) (pa_cons (pv 2) pa_nil)))))), ?_⟩
    refine ⟨Nat.zero_le _, fun C nC => ⟨Nat.zero_le _, fun R nR => ⟨.ref C, .ref R, rfl, ?_⟩⟩⟩
    have nCR : C ≠ R := fun z => by rw [← z, upd_same] at nR; cases nR
    have nR0 : H R = none := (same_new nC).free nR
    have sm0 : Same H (upd (upd H C (.lst [])) R (.lst [])) := (same_new nC).trans (same_new nR)
    have eC0 : (upd (upd H C (.lst [])) R (.lst [])) C = some (.lst []) := by rw [upd_ne nCR, upd_same]
    have eR0 : (upd (upd H C (.lst [])) R (.lst [])) R = some (.lst []) := upd_same
    generalize upd (upd H C (.lst [])) R (.lst []) = H0 at sm0 eC0 eR0 ⊢
    have hts : ∀ i, tp (ns.take i) = tp (ns.take i) := fun _ => rfl
    refine ⟨.ref a, rfl, a, rfl, ⟨_, SqT_same sm0 hS⟩, for_tup (K := K) (a := a) (xs := ns.map V.int) (fun i σ Hx => ∃ (xs : List V) (cs : List (Int × Int)) (rs : List Int) (r3 : Option V), σ = [some (.ref a), some (.ref C), some (.ref R), r3] ∧
      Stk H C R xs cs rs Hx ∧ Run (tp (ns.take i)) cs rs ∧ NF rs) ?_ ?_ ?_ ?_⟩
    · exact ⟨[], [], [], none, rfl, ⟨sm0, eC0, trivial, eR0⟩, .nil _, fun c q s => by have := s.len; simp at this⟩
    · rintro i σ Hx _ ⟨xs, cs, rs, r3, rfl, g, _⟩
      exact SqT_same g.sm hS
    · rintro i x σ Hx hx ⟨xs, cs, rs, r3, rfl, g, run, nf⟩
      obtain ⟨r, hr2, rfl⟩ := int_at hx
      have hin : i < ns.length := (List.getElem?_eq_some_iff.mp hr2).1
      have hrl := run.len
      have htl := tp_len (ns.take i)
      rw [List.length_take] at htl
      have zz := run.zz (tp_zz (ns.take i))
      refine ⟨.ref C, rfl, .inl ⟨rfl, _, SqL.of g.c⟩, .ref R, rfl, .int r, rfl, R, rs, r, rfl, g.r, zz, nf, by omega, fun H2 p ys cs2 rs2 ch np ep pa2 eR2 run2 nf2 => ?_⟩
      have eC2 : H2 C = some (.lst xs) := ch _ _ nCR g.c
      have npC : p ≠ C := fun z => by rw [z, g.c] at np; cases np
      have npR : p ≠ R := fun z => by rw [z, g.r] at np; cases np
      have sm2 : Same H H2 := fun b o e => ch b o (ne_of_none e nR0) (g.sm b o e)
      have run3 := stream hr2 run run2
      have hrl3 := run3.len
      have htl3 := tp_len (ns.take (i + 1))
      rw [List.length_take] at htl3
      have hxl := g.pa.length
      have hyl := pa2.length
      rw [List.length_append] at hrl3
      refine ⟨C, p, xs, ys, rfl, rfl, eC2, ep, Nat.le_of_lt (small3000 (by omega)), _, cs ++ cs2, rs2, _, rfl, ⟨same_again nC sm2, upd_same, ?_, by rw [upd_ne nCR.symm]; exact eR2⟩, run3, nf2⟩
      exact PairsAt.append (pairs_upd eC2 (ch_pairs ch g.r g.pa)) (pairs_upd eC2 pa2)
    · rintro σ Hx ⟨xs, cs, rs, r3, rfl, g, run, nf⟩
      have et2 : ns.take (ns.map V.int).length = ns := by rw [List.length_map]; exact List.take_length
      rw [et2] at run
      refine ⟨.ref C, rfl, .ref R, rfl, by show 2 ≤ sizeLine; decide, fun p np => ?_⟩
      have sp := same_new (o := .tup [.ref C, .ref R]) np
      exact hq _ p C R xs cs rs (g.sm.trans sp) (g.sm.free np) upd_same (sp _ _ g.c) (g.pa.same sp) (sp _ _ g.r) run nf
def spCo (K : PySem.W.Frag) : Sp := fun vs H Q _ => ∃ (a : Addr) (ns : List Int), vs = [.ref a] ∧ Sq K H a (ns.map V.int) ∧ ns.length ≤ 2500 ∧
  ∀ H' p c r xs cs rs, Same H H' → H p = none → H' p = some (.tup [.ref c, .ref r]) → H' c = some (.lst xs) → PairsAt H' xs cs → H' r = some (.lst (rs.map V.int)) → Run (tp ns) cs rs → NF rs → Q (.ref p) H'
theorem ok_Co {f fB : Addr} {fd fdB : FuncData} {k : Nat} (F : Fun K "_counted" "_counted" sCo f fd)
    (GB : FnOk P w K mg base CX0 (k + 3) fB fdB ["rest", "reading"] spPB) (gB : mg "put_behind" = some (.ref fB)) (kB : PySem.W.keepIn K (.ref fB) = true) (bB : Binds K fdB ["rest", "reading"] []) :
    FnOk P w K mg base CX0 (k + 4) f fd ["load"] (spCo K) :=
  (both (ok_Col F GB gB kB bB) (ok_Cot F GB gB kB bB)).imp fun vs H Q E ⟨a, ns, e, hs, hl, q⟩ => hs.elim (fun z => .inl ⟨a, ns, e, z, hl, q⟩) (fun z => .inr ⟨a, ns, e, z, hl, q⟩)
end
end QG

/-! counts -/
namespace QH
open PySem PySem.Spec PyProof.Rows L2 KA PH PM PA PB PC RM RN QE QF QG
abbrev sInit : Stmt := inClass sClass 0
abbrev sOf : Stmt := inClass sClass 1
abbrev sPC : Stmt := inClass sClass 4
abbrev sPR : Stmt := inClass sClass 5
abbrev sPH : Stmt := inClass sClass 6
theorem scInit : FnScope ["self", "cycles", "rest"] ["self", "cycles", "rest"] (defScope sInit) := ⟨rfl, rfl, rfl, by decide +kernel, rfl, by decide +kernel, by decide +kernel⟩
theorem scOf : FnScope ["cls", "load", "cycles", "rest"] ["cls", "load"] (defScope sOf) := ⟨rfl, rfl, rfl, by decide +kernel, rfl, by decide +kernel, by decide +kernel⟩
theorem scPC : FnScope ["self"] ["self"] (defScope sPC) := ⟨rfl, rfl, rfl, by decide +kernel, rfl, by decide +kernel, by decide +kernel⟩
theorem scPR : FnScope ["self"] ["self"] (defScope sPR) := ⟨rfl, rfl, rfl, by decide +kernel, rfl, by decide +kernel, by decide +kernel⟩
theorem scPH : FnScope ["self"] ["self"] (defScope sPH) := ⟨rfl, rfl, rfl, by decide +kernel, rfl, by decide +kernel, by decide +kernel⟩
/-! ### sorted pairs -/
/-- the pair at a ref -/
def kOf (H : Hp) : V → Int × Int
  | .ref p => match H p with
    | some (.tup [.int a, .int b]) => (a, b)
    | _ => (0, 0)
  | _ => (0, 0)
theorem kOf_at {H : Hp} {p : Addr} {r : Int × Int} (h : H p = some (.tup [.int r.1, .int r.2])) : kOf H (.ref p) = r := by
  show (match H p with | some (.tup [.int a, .int b]) => (a, b) | _ => (0, 0)) = r
  rw [h]
theorem pairs_key {H : Hp} : ∀ {xs : List V} {rs : List (Int × Int)}, PairsAt H xs rs → rs = xs.map (kOf H) ∧ ∀ x ∈ xs, ∃ t, x = V.ref t ∧ H t = some (.tup [.int (kOf H x).1, .int (kOf H x).2])
  | [], [], _ => ⟨rfl, fun _ z => (List.not_mem_nil z).elim⟩
  | x :: xs, r :: rs, ⟨⟨p, h1, h2⟩, h3⟩ => by
    obtain ⟨e, all⟩ := pairs_key h3
    subst h1
    have k := kOf_at h2
    refine ⟨by rw [List.map_cons, k, ← e], fun x hx => ?_⟩
    rcases List.mem_cons.mp hx with z | z
    · exact ⟨p, z, by rw [z, k]; exact h2⟩
    · exact all x z
  | [], _ :: _, h => h.elim
  | _ :: _, [], h => h.elim
theorem pairs_of {H : Hp} : ∀ {xs : List V}, (∀ x ∈ xs, ∃ t, x = V.ref t ∧ H t = some (.tup [.int (kOf H x).1, .int (kOf H x).2])) → PairsAt H xs (xs.map (kOf H))
  | [], _ => trivial
  | x :: xs, h => ⟨h x List.mem_cons_self, pairs_of fun y hy => h y (List.mem_cons_of_mem _ hy)⟩
theorem sorted_out {H : Hp} {xs ys : List V} {rs : List (Int × Int)} (pa : PairsAt H xs rs) (h1 : SrtO.Srtd (ltP (kOf H)) ys) (h2 : SrtO.Stb (ltP (kOf H)) ys xs) : ∃ ds, PairsAt H ys ds ∧ ds.Perm rs ∧ ds.Pairwise Le := by
  obtain ⟨e, all⟩ := pairs_key pa
  refine ⟨ys.map (kOf H), pairs_of fun y hy => all y (h2.perm.mem_iff.mp hy), by rw [e]; exact h2.perm.map _, ?_⟩
  rw [List.pairwise_map]
  refine h1.imp fun {x y} h => ?_
  have := SrtO.lexB_no.mp h
  show (kOf H x).1 < (kOf H y).1 ∨ ((kOf H x).1 = (kOf H y).1 ∧ (kOf H x).2 ≤ (kOf H y).2)
  omega
/-- cls(..), cls a parameter that holds a class -/
theorem pe_makeL {X : Cx} {CX : CXT} {k i : Nat} {C f : Addr} {fd : FuncData} {ps : List Str} {sp : Sp} {dvs : List V} {ds : List Value} {E : XK} {x : Str} {p pos : Pos} {e : Expr} {es : List Expr} {t : TA}
    (M : Mk X.K C f) (F : FnOk X.prog X.w X.K X.mg X.base CX k f fd ps sp) (hr : Room (k + 1) X.A) (hN : X.N[i]? = some x) (hv : Vis X.env.scope x) (hb : Binds X.K fd ps ds) (hd : Vals dvs ds) (hx : Passes CX X E) (ha : PA X (e :: es) t)
    (hdb : (x == ("__debug__" : Str)) = false := by decide) (hcd : (x == ("__classdict__" : Str)) = false := by decide)
    (he : starEach (e :: es) X.env = (false, eval e X.env) :: starEach es X.env := by rfl) (hpl : (backTo pos (starEach es X.env)).any (·.1) = false := by rfl) :
    PE X (.Call (.Name x p) (e :: es) [] pos) (fun σ H Q => σ[i]? = some (some (.ref C)) ∧ tMake C sp dvs E t σ H Q) := by
  refine ⟨fun pins s σ H Q I ⟨hs, ht⟩ => ?_⟩
  refine wpAny_Call_Name_kw (thn ((pe_var (pos := p) hN hv hdb hcd).run pins s σ H (fun v H1 => v = .ref C ∧ H1 = H) I ⟨.ref C, hs, rfl, rfl⟩) fun u s1 ⟨v, H1, I1, r1, e1, e2⟩ => ?_)
  subst e1 e2
  cases r1
  exact PySem.W.callWith_K (h₀ := X.base) I.ok.mod.kin M.kp (thn (ha.run pos pins s1 σ _ _ I1 ht) fun us s2 ⟨vs, H2, I2, r, q⟩ => ⟨I2.kIn, run_make M F hr hb hd hx I2 r q⟩) he hpl
/-- a count stands at x -/
def CountAt (H : Hp) (C x : Addr) (ds : List (Int × Int)) (rs : List Int) : Prop := ∃ (dx t1 t2 : Addr) (ys : List V), H x = some (.ins C dx [("_cycles", .ref t1), ("_rest", .ref t2)]) ∧ H t1 = some (.tup ys) ∧ PairsAt H ys ds ∧ H t2 = some (.tup (rs.map V.int))
theorem CountAt.same {H H' : Hp} {C x : Addr} {ds : List (Int × Int)} {rs : List Int} (h : CountAt H C x ds rs) (s : Same H H') : CountAt H' C x ds rs := by
  obtain ⟨dx, t1, t2, ys, h1, h2, h3, h4⟩ := h
  exact ⟨dx, t1, t2, ys, s _ _ h1, s _ _ h2, h3.same s, s _ _ h4⟩
/-- what of the text the class has -/
structure Cnt (K : PySem.W.Frag) (C : Addr) : Prop where
  cl : Cls K C
  nC : NoAttr K C "_cycles"
  nR : NoAttr K C "_rest"
theorem pairs_ne {H H' : Hp} {x : Addr} (k : ∀ b o, b ≠ x → H b = some o → H' b = some o) (hx : ∀ o, H x = some o → ∃ C d fs, o = .ins C d fs) : ∀ {xs : List V} {rs : List (Int × Int)}, PairsAt H xs rs → PairsAt H' xs rs
  | [], [], _ => trivial
  | y :: xs, r :: rs, ⟨⟨p, h1, h2⟩, h3⟩ => ⟨⟨p, h1, k p _ (fun z => by
      subst z
      obtain ⟨C, d, fs, e⟩ := hx _ h2
      cases e) h2⟩, pairs_ne k hx h3⟩
  | [], _ :: _, h => h.elim
  | _ :: _, [], h => h.elim
section
variable {P : Program} {w : World} {K : PySem.W.Frag} {mg : Str → Option Value} {base : Heap} {C : Addr}
def spInit (K : PySem.W.Frag) (C : Addr) : Sp := fun vs H Q _ => ∃ (x c r dx : Addr) (xs : List V) (cs : List (Int × Int)) (rs : List Int), vs = [.ref x, .ref c, .ref r] ∧ H x = some (.ins C dx []) ∧ H c = some (.lst xs) ∧ PairsAt H xs cs ∧ H r = some (.lst (rs.map V.int)) ∧
  ∀ H' ds, (∀ b o, b ≠ x → H b = some o → H' b = some o) → CountAt H' C x ds rs → ds.Perm cs → ds.Pairwise Le → Q .non H'
theorem ok_init {f : Addr} {fd : FuncData} {k : Nat} (F : Fun K "__init__" "Count.__init__" sInit f fd) (T : Cnt K C) (ms : mg "sorted" = none) (mt : mg "tuple" = none) : FnOk P w K mg base CX0 (k + 1) f fd ["self", "cycles", "rest"] (spInit K C) := by
  refine F.ok scInit (fun vs H Q E h => ?_) (fun cdv A outer s H vs Q E hr h => ?_)
  · obtain ⟨x, c, r, dx, xs, cs, rs, rfl, _⟩ := h
    rfl
  · obtain ⟨x, c, r, dx, xs, cs, rs, rfl, hx, hc, pa, hrr, hq⟩ := h
    refine ⟨_, pss_cons (ps_fld (pv 0) (pe_callTy call_tuple_of (by rfl) mt (by decide +kernel) (pa_cons (pe_callB cr_sortedPO (by rfl) ms (by decide +kernel) (pa_cons (pv 1) pa_nil)) pa_nil)) rfl)
      (pss_one (ps_fld (pv 0) (pe_callTy call_tuple_of (by rfl) mt (by decide +kernel) (pa_cons (pv 2) pa_nil)) rfl)), ?_⟩
    refine ⟨.ref c, rfl, c, xs, kOf H, rfl, SqL.of hc, (pairs_key pa).2, fun ys p h1 h2 np => ?_⟩
    obtain ⟨ds, pd, perm, srt⟩ := sorted_out pa h1 h2
    refine ⟨p, ys, rfl, .inl ⟨SqL.of upd_same, fun t1 nt1 => ?_⟩⟩
    have s1 : Same H (upd (upd H p (.lst ys)) t1 (.tup ys)) := (same_new np).trans (same_new nt1)
    have g1 := upd_same (H := upd H p (.lst ys)) (a := t1) (o := .tup ys)
    generalize upd (upd H p (.lst ys)) t1 (.tup ys) = H1 at s1 g1 ⊢
    have hx1 := s1 _ _ hx
    refine ⟨.ref x, rfl, x, C, dx, [], rfl, hx1, T.cl, T.nC, by decide, ?_⟩
    have nrx : r ≠ x := fun z => by rw [z, hx] at hrr; cases hrr
    have nt1x : t1 ≠ x := fun z => by rw [z, hx1] at g1; cases g1
    have hr1 : (upd H1 x (.ins C dx (putF "_cycles" (.ref t1) []))) r = some (.lst (rs.map V.int)) := by rw [upd_ne nrx]; exact s1 _ _ hrr
    refine ⟨.ref r, rfl, r, _, rfl, .inl ⟨SqL.of hr1, fun t2 nt2 => ?_⟩⟩
    have nt2x : t2 ≠ x := fun z => by rw [z, upd_same] at nt2; cases nt2
    have hx2 : (upd (upd H1 x (.ins C dx (putF "_cycles" (.ref t1) []))) t2 (.tup (rs.map V.int))) x = some (.ins C dx [("_cycles", .ref t1)]) := by rw [upd_ne nt2x.symm, upd_same]; rfl
    have n12 : t1 ≠ t2 := fun z => by rw [← z, upd_ne nt1x, g1] at nt2; cases nt2
    refine ⟨.ref x, rfl, x, C, dx, [("_cycles", .ref t1)], rfl, hx2, T.cl, T.nR, by show 1 < 1000; decide, ?_⟩
    have keep : ∀ b o, b ≠ x → H b = some o → (upd (upd (upd H1 x (.ins C dx (putF "_cycles" (.ref t1) []))) t2 (.tup (rs.map V.int))) x (.ins C dx (putF "_rest" (.ref t2) [("_cycles", .ref t1)]))) b = some o := fun b o nb e => by
      have e1 := s1 _ _ e
      have nb2 : b ≠ t2 := fun z => by rw [← z, upd_ne nb, e1] at nt2; cases nt2
      rw [upd_ne nb, upd_ne nb2, upd_ne nb]
      exact e1
    refine hq _ ds keep ⟨dx, t1, t2, ys, ?_, ?_, pairs_ne keep (fun o e => by rw [hx] at e; cases e; exact ⟨_, _, _, rfl⟩) pd, ?_⟩ perm srt
    · rw [upd_same]
      rfl
    · rw [upd_ne nt1x, upd_ne n12, upd_ne nt1x]
      exact g1
    · rw [upd_ne nt2x, upd_same]
def spOf (K : PySem.W.Frag) (C : Addr) : Sp := fun vs H Q _ => ∃ (a : Addr) (ns : List Int), vs = [.ref C, .ref a] ∧ Sq K H a (ns.map V.int) ∧ ns.length ≤ 2500 ∧
  ∀ H' x cs ds rs, Same H H' → H x = none → CountAt H' C x ds rs → Run (tp ns) cs rs → NF rs → ds.Perm cs → ds.Pairwise Le → Q (.ref x) H'
theorem ok_of {f fI fO : Addr} {fd fdI fdO : FuncData} {k : Nat} (F : Fun K "of" "Count.of" sOf f fd) (M : Mk K C fI)
    (GI : FnOk P w K mg base CX0 (k + 2) fI fdI ["self", "cycles", "rest"] (spInit K C)) (bI : Binds K fdI ["self", "cycles", "rest"] [])
    (GO : FnOk P w K mg base CX0 (k + 3) fO fdO ["load"] (spCo K)) (gO : mg "_counted" = some (.ref fO)) (kO : PySem.W.keepIn K (.ref fO) = true) (bO : Binds K fdO ["load"] []) : FnOk P w K mg base CX0 (k + 4) f fd ["cls", "load"] (spOf K C) := by
  refine F.ok scOf (fun vs H Q E h => ?_) (fun cdv A outer s H vs Q E hr h => ?_)
  · obtain ⟨a, ns, rfl, _⟩ := h
    rfl
  · obtain ⟨a, ns, rfl, hS, hlen, hq⟩ := h
    refine ⟨_, pss_cons (ps_asg (pe_call GO hr (by rfl) gO kO bO .nil pass0 (pa_cons (pv 1) pa_nil)) (pg_tup rfl (pgs_cons (pg_name (i := 2) scOf.nd rfl (.inl rfl)) (pgs_cons (pg_name (i := 3) scOf.nd rfl (.inl rfl)) pgs_nil))))
      (pss_one (ps_ret (pe_makeL (i := 0) M GI hr rfl (.inl rfl) bI .nil pass0 (pa_cons (pv 2) (pa_cons (pv 3) pa_nil))))), ?_⟩
    refine ⟨.ref a, rfl, a, ns, rfl, hS, hlen, fun H1 p c r xs cs rs s1 np ep ec pa er run nf => ?_⟩
    refine ⟨p, _, rfl, SqT.of ep, rfl, .ref c, [.ref r], rfl, .ref r, [], rfl, rfl, rfl, .ref c, rfl, .ref r, rfl, fun x dx nx ndx ne => ?_⟩
    have s2 : Same H1 (upd (upd H1 dx (.own x)) x (.ins C dx [])) := (same_new ndx).trans (same_new (by rw [upd_ne ne.symm]; exact nx))
    refine ⟨x, c, r, dx, xs, cs, rs, rfl, upd_same, s2 _ _ ec, pa.same s2, s2 _ _ er, fun H' ds keep ca perm srt => ⟨rfl, ?_⟩⟩
    have s3 : Same H1 H' := fun b o e => keep b o (ne_of_none e nx) (s2 _ _ e)
    exact hq H' x cs ds rs (s1.trans s3) (s1.free nx) ca run nf perm srt
def spPC (C : Addr) : Sp := fun vs H Q _ => ∃ (x : Addr) (ds : List (Int × Int)) (rs : List Int), vs = [.ref x] ∧ CountAt H C x ds rs ∧ ∀ t ys, H t = some (.tup ys) → PairsAt H ys ds → Q (.ref t) H
def spPR (C : Addr) : Sp := fun vs H Q _ => ∃ (x : Addr) (ds : List (Int × Int)) (rs : List Int), vs = [.ref x] ∧ CountAt H C x ds rs ∧ ∀ t, H t = some (.tup (rs.map V.int)) → Q (.ref t) H
theorem ok_PC {f : Addr} {fd : FuncData} {k : Nat} (F : Fun K "cycles" "Count.cycles" sPC f fd) (T : Cnt K C) : FnOk P w K mg base CX0 (k + 1) f fd ["self"] (spPC C) := by
  refine F.ok scPC (fun vs H Q E h => ?_) (fun cdv A outer s H vs Q E hr h => ?_)
  · obtain ⟨x, ds, rs, rfl, _⟩ := h
    rfl
  · obtain ⟨x, ds, rs, rfl, ⟨dx, t1, t2, ys, h1, h2, h3, h4⟩, hq⟩ := h
    refine ⟨_, pss_one (ps_ret (pe_fld (pv 0) rfl)), ?_⟩
    exact ⟨.ref x, rfl, x, C, dx, _, .ref t1, rfl, h1, T.cl, T.nC, rfl, hq t1 ys h2 h3⟩
theorem ok_PR {f : Addr} {fd : FuncData} {k : Nat} (F : Fun K "rest" "Count.rest" sPR f fd) (T : Cnt K C) : FnOk P w K mg base CX0 (k + 1) f fd ["self"] (spPR C) := by
  refine F.ok scPR (fun vs H Q E h => ?_) (fun cdv A outer s H vs Q E hr h => ?_)
  · obtain ⟨x, ds, rs, rfl, _⟩ := h
    rfl
  · obtain ⟨x, ds, rs, rfl, ⟨dx, t1, t2, ys, h1, h2, h3, h4⟩, hq⟩ := h
    refine ⟨_, pss_one (ps_ret (pe_fld (pv 0) rfl)), ?_⟩
    exact ⟨.ref x, rfl, x, C, dx, _, .ref t2, rfl, h1, T.cl, T.nR, rfl, hq t2 h4⟩
def spPH (C : Addr) : Sp := fun vs H Q _ => ∃ (x : Addr) (ds : List (Int × Int)) (rs : List Int), vs = [.ref x] ∧ CountAt H C x ds rs ∧ ds.length ≤ 2500 ∧ rs.length ≤ 2500 ∧ ZZ rs ∧ ∀ H' t ys es, Same H H' → H' t = some (.tup ys) → PairsAt H' ys es → es.Perm (ds ++ ds ++ sw rs) → es.Pairwise Le → Q (.ref t) H'
theorem ok_PH {f fS : Addr} {fd fdS : FuncData} {k : Nat} (F : Fun K "half_cycles" "Count.half_cycles" sPH f fd) (T : Cnt K C) (GS : FnOk P w K mg base CX0 (k + 3) fS fdS ["load"] (spSw K)) (gS : mg "swings" = some (.ref fS)) (kS : PySem.W.keepIn K (.ref fS) = true) (bS : Binds K fdS ["load"] [])
    (ms : mg "sorted" = none) (mt : mg "tuple" = none) : FnOk P w K mg base CX0 (k + 4) f fd ["self"] (spPH C) := by
  refine F.ok scPH (fun vs H Q E h => ?_) (fun cdv A outer s H vs Q E hr h => ?_)
  · obtain ⟨x, ds, rs, rfl, _⟩ := h
    rfl
  · obtain ⟨x, ds, rs, rfl, ⟨dx, t1, t2, ys, h1, h2, h3, h4⟩, ld, lr, zz, hq⟩ := h
    refine ⟨_, pss_one (ps_ret (pe_callTy call_tuple_of (by rfl) mt (by decide +kernel) (pa_cons (pe_callB cr_sortedPO (by rfl) ms (by decide +kernel) (pa_cons (pe_lst (StX.pa_star (pe_fld (pv 0) rfl) (StX.pa_star (pe_fld (pv 0) rfl) (StX.pa_star (pe_call GS hr (by rfl) gS kS bS .nil pass0 (pa_cons (pe_fld (pv 0) rfl) pa_nil)) pa_nil)))) pa_nil)) pa_nil))), ?_⟩
    refine ⟨.ref x, rfl, x, C, dx, _, .ref t1, rfl, h1, T.cl, T.nC, rfl, t1, ys, rfl, .inl (SqT.of h2), .ref x, rfl, x, C, dx, _, .ref t1, rfl, h1, T.cl, T.nC, rfl, t1, ys, rfl, .inl (SqT.of h2), .ref x, rfl, x, C, dx, _, .ref t2, rfl, h1, T.cl, T.nR, rfl, t2, rs, rfl, .inr (SqT.of h4), lr, fun H1 p xs s1 np ep pa => ?_⟩
    rw [zz_tp zz] at pa
    have pall : PairsAt H1 (ys ++ (ys ++ (xs ++ []))) (ds ++ ds ++ sw rs) := by
      rw [List.append_nil, List.append_assoc]
      exact (h3.same s1).append ((h3.same s1).append pa)
    refine ⟨p, xs, rfl, .inr (SqL.of ep), ?_, fun l nl => ?_⟩
    · rw [pall.length]
      simp only [List.length_append, sw_len]
      exact Nat.le_trans (show ds.length + ds.length + (rs.length - 1) ≤ 10000 by omega) (by decide)
    have s2 := same_new (o := .lst (ys ++ (ys ++ (xs ++ [])))) nl
    have pl := pall.same s2
    refine ⟨l, _, kOf _, rfl, SqL.of upd_same, (pairs_key pl).2, fun zs q g1 g2 nq => ?_⟩
    obtain ⟨es, pe, perm, srt⟩ := sorted_out pl g1 g2
    refine ⟨q, zs, rfl, .inl ⟨SqL.of upd_same, fun t nt => ?_⟩⟩
    have s3 := (same_new (o := .lst zs) nq).trans (same_new (o := .tup zs) nt)
    exact hq _ t zs es (s1.trans (s2.trans s3)) upd_same (pe.same s3) perm srt
end
end QH

/-! changes of a load -/
namespace QJ
open PySem PySem.Spec PyProof.Rows L2 KA KM PH
abbrev sCh : Stmt := KA.topS 8
theorem scCh : FnScope ["load", "low", "high", "letters", "reading", "one", "other"] ["load", "low", "high"] (defScope sCh) := ⟨rfl, rfl, rfl, by decide +kernel, rfl, by decide +kernel, by decide +kernel⟩
/-! ### letters -/
def ltr (b : Bool) : V := .str (if b = true then ("L" : Str) else ("H" : Str))
theorem ltr_scal (a b : Bool) : scal (ltr a) (ltr b) = true := by cases a <;> cases b <;> rfl
theorem ltr_eq (a b : Bool) : decide (ltr a = ltr b) = decide (a = b) := by
  cases a <;> cases b <;> first | rfl | decide +kernel
theorem cut1 (xs : List V) : cutV xs (some 1) none = xs.drop 1 := by
  unfold cutV
  rw [show HT.sIx xs.length 0 (some 1) = min 1 xs.length from HT.sIx_nat xs.length 0 1, HT.sIx_none]
  cases xs with
  | nil => rfl
  | cons x r =>
    have : min 1 (x :: r).length = 1 := by simp
    rw [this]
    simp
section
variable {P : Program} {w : World} {K : PySem.W.Frag} {mg : Str → Option Value} {base : Heap}
def spCh (K : PySem.W.Frag) : Sp := fun vs H Q _ => ∃ (a : Addr) (ns : List Int) (lo hi : Int), vs = [.ref a, .int lo, .int hi] ∧ SqL K H a (ns.map V.int) ∧ ns.length ≤ 3000 ∧ ∀ H', Same H H' → Q (.int (chg ns lo hi : Nat)) H'
def spChT (K : PySem.W.Frag) : Sp := fun vs H Q _ => ∃ (a : Addr) (ns : List Int) (lo hi : Int), vs = [.ref a, .int lo, .int hi] ∧ SqT K H a (ns.map V.int) ∧ ns.length ≤ 3000 ∧ ∀ H', Same H H' → Q (.int (chg ns lo hi : Nat)) H'
/-- behind the letters: the pairs that differ -/
theorem ok_ch {f : Addr} {fd : FuncData} {k : Nat} (F : Fun K "changes" "changes" sCh f fd) (ml : mg "len" = none) (mz : mg "zip" = none) : FnOk P w K mg base CX0 (k + 1) f fd ["load", "low", "high"] (spCh K) := by
  refine F.ok scCh (fun vs H Q E h => ?_) (fun cdv A outer s H vs Q E hr h => ?_)
  · obtain ⟨a, ns, lo, hi, rfl, _⟩ := h
    rfl
  · obtain ⟨a, ns, lo, hi, rfl, hS, hlen, q⟩ := h
    refine ⟨_, pss_cons (ps_setLc (i := 3) (own := [("reading", 4)]) (g := gName 4) rfl scCh.nd rfl rfl (sw_true rfl rfl rfl (by decide +kernel)) (pi_list (pv 0))
        (blkOk_by (own := [("reading", 4)]) (N := ["load", "low", "high", "letters", "reading", "one", "other"]) (sc := defScope sCh) (by decide +kernel))
        (fun _ _ _ _ _ => pg_name (i := 4) scCh.nd rfl (Or.inl rfl))
        (fun _ _ _ _ _ => pts_one (PW.pt (pw_or (pt_cmpR op_le (pv 4) (pv 1) (nomark _)) (pw_or1 (pt_cmpR op_ge (pv 4) (pv 2) (nomark _))))))
        (fun _ _ _ _ _ => pe_ifExp (pt_cmpR op_le (pv 4) (pv 1) (nomark _)) pe_str pe_str))
      (pss_one (ps_ret (pe_callB call_len_seq (by rfl) ml PySem.boot_len (pa_cons
        (pe_lc (own := [("one", 5), ("other", 6)]) (g := gTup K 2 (gCons (gName 5) (gCons (gName 6) gNil))) rfl scCh.nd (pi_zip (by rfl) mz (pa_cons (pv 3) (pa_cons (pe_slice sl_list (pv 3) (po_some pe_int) po_none) pa_nil)))
          (blkOk_by (own := [("one", 5), ("other", 6)]) (N := ["load", "low", "high", "letters", "reading", "one", "other"]) (sc := defScope sCh) (by decide +kernel))
          (fun _ _ _ _ _ => pg_tup rfl (pgs_cons (pg_name (i := 5) scCh.nd rfl (Or.inl rfl) (Or.inr rfl)) (pgs_cons (pg_name (i := 6) scCh.nd rfl (Or.inl rfl) (Or.inr rfl)) pgs_nil)))
          (fun _ _ _ _ _ => pts_one (pt_cmpR op_ne (pv 5) (pv 6) (nomark _))) (fun _ _ _ _ _ => pv 5)) pa_nil)))), ?_⟩
    refine ⟨.ref a, rfl, a, rfl, ⟨_, hS⟩, fun D nD => lc_list (K := K) (a := a) (xs := ns.map V.int) (fun i H' => H' = upd H D (.lst ((lets lo hi (ns.take i)).map ltr))) ?_ ?_ ?_ ?_⟩
    · rfl
    · rintro i H' _ rfl
      exact (same_new nD).seq hS
    · rintro i x H' hx rfl
      obtain ⟨r, hr2, rfl⟩ := int_at hx
      have et := lets_take (lo := lo) (hi := hi) hr2
      have hin : i < ns.length := (List.getElem?_eq_some_iff.mp hr2).1
      refine ⟨rfl, .int r, rfl, .int lo, rfl, r, lo, rfl, rfl, _, rfl, ite2 (fun e => ?_) (fun e => ?_)⟩
      · have h1 : r ≤ lo := of_decide_eq_true e
        refine iteT ⟨.int r, rfl, .int lo, rfl, r, lo, rfl, rfl, _, rfl, ite2 (fun _ => ?_) (fun z => absurd e z)⟩
        refine ⟨_, upd_same, ?_, ?_⟩
        · rw [List.length_map]
          have := lets_len lo hi (ns.take i)
          rw [List.length_take] at this
          exact small3000 (by omega)
        · rw [upd_upd, et]
          unfold lett
          rw [if_pos h1]
          dsimp only
          rw [List.map_append]
          rfl
      · have h1 : ¬ r ≤ lo := fun z => e (decide_eq_true z)
        refine ⟨.int r, rfl, .int hi, rfl, r, hi, rfl, rfl, _, rfl, ?_⟩
        by_cases h2 : r ≥ hi
        · rw [decide_eq_true h2]
          refine iteT ⟨.int r, rfl, .int lo, rfl, r, lo, rfl, rfl, _, rfl, ite2 (fun z => absurd z e) (fun _ => ?_)⟩
          refine ⟨_, upd_same, ?_, ?_⟩
          · rw [List.length_map]
            have := lets_len lo hi (ns.take i)
            rw [List.length_take] at this
            exact small3000 (by omega)
          · rw [upd_upd, et]
            unfold lett
            rw [if_neg h1, if_pos h2]
            dsimp only
            rw [List.map_append]
            rfl
        · rw [decide_eq_false h2]
          refine iteF ?_
          rw [et]
          unfold lett
          rw [if_neg h1, if_neg h2]
    · rintro H' rfl
      have e0 : ns.take (ns.map V.int).length = ns := by rw [List.length_map]; exact List.take_length
      rw [e0]
      generalize hls : lets lo hi ns = ls
      have hll : ls.length ≤ 3000 := by have := lets_len lo hi ns; rw [hls] at this; omega
      have s1 : Same H (upd H D (.lst (ls.map ltr))) := same_new nD
      have hD : SqL K (upd H D (.lst (ls.map ltr))) D (ls.map ltr) := SqL.of upd_same
      refine ⟨.ref D, rfl, .ref D, rfl, 1, rfl, D, ls.map ltr, rfl, hD, fun c nc => ?_⟩
      rw [cut1]
      have ncD : c ≠ D := fun e => by rw [e, upd_same] at nc; cases nc
      have s2 : Same H (upd (upd H D (.lst (ls.map ltr))) c (.lst ((ls.map ltr).drop 1))) := s1.trans (same_new nc)
      refine ⟨D, c, ls.map ltr, (ls.map ltr).drop 1, rfl, (same_new nc).seq hD, SqL.of upd_same, fun R nR => ?_⟩
      have nRD : R ≠ D := fun e => by rw [e, upd_ne ncD.symm, upd_same] at nR; cases nR
      have nRc : R ≠ c := fun e => by rw [e, upd_same] at nR; cases nR
      have hH2 : H R = none := s2.free nR
      refine lc_it (walk_zip (K := K) (a := D) (b := c) (xs := ls.map ltr) (ys := (ls.map ltr).drop 1) (n := ls.length - 1) (by rw [List.length_drop, List.length_map]; omega))
        (fun i H' => Same H H' ∧ H' D = some (.lst (ls.map ltr)) ∧ H' c = some (.lst ((ls.map ltr).drop 1)) ∧ ∃ acc : List V, H' R = some (.lst acc) ∧ acc.length ≤ i ∧ acc.length + cnt (ls.drop i) = cnt ls) ?_ ?_ ?_ ?_
      · refine ⟨s2.trans (same_new nR), ?_, ?_, [], upd_same, Nat.le_refl _, ?_⟩
        · rw [upd_ne nRD.symm, upd_ne ncD.symm, upd_same]
        · rw [upd_ne nRc.symm, upd_same]
        · show 0 + cnt ls = cnt ls
          omega
      · rintro i H' _ ⟨_, z1, z2, _⟩
        exact ⟨SqL.of z1, SqL.of z2⟩
      · rintro i x H1 H2 hi1 ⟨sm, z1, z2, acc, z3, z4, z5⟩ ⟨T, u, v, rfl, nT, rfl, g1, g2⟩
        have hi2 : i + 1 < ls.length := by omega
        have hi3 : i < ls.length := by omega
        have g1 : (ls.map ltr)[i]? = some u := g1
        have g2 : ((ls.map ltr).drop 1)[i]? = some v := g2
        have eu : u = ltr ls[i] := by
          rw [List.getElem?_map, List.getElem?_eq_getElem hi3] at g1
          exact (Option.some.inj g1).symm
        have ev : v = ltr ls[i + 1] := by
          rw [List.getElem?_drop, List.getElem?_map, Nat.add_comm 1 i, List.getElem?_eq_getElem hi2] at g2
          exact (Option.some.inj g2).symm
        have nTR : R ≠ T := ne_of_none z3 nT
        have nTD : D ≠ T := ne_of_none z1 nT
        have nTc : c ≠ T := ne_of_none z2 nT
        have sT : Same H1 (upd H1 T (.tup [u, v])) := same_new nT
        have cd := cnt_drop (List.getElem?_eq_getElem hi3) (List.getElem?_eq_getElem hi2)
        refine ⟨T, [u, v], rfl, SqT.of upd_same, rfl, u, [v], rfl, v, [], rfl, ?_⟩
        refine ⟨rfl, rfl, u, rfl, v, rfl, by rw [eu, ev]; exact ltr_scal _ _, _, rfl, ?_⟩
        rw [eu, ev, ltr_eq]
        by_cases hq : ls[i] = ls[i + 1]
        · rw [decide_eq_true hq]
          refine iteF ⟨sm.trans (by rw [← eu, ← ev]; exact sT), ?_, ?_, acc, ?_, by omega, ?_⟩
          · rw [upd_ne nTD]; exact z1
          · rw [upd_ne nTc]; exact z2
          · rw [upd_ne nTR]; exact z3
          · rw [if_pos hq] at cd
            omega
        · rw [decide_eq_false hq]
          have z3' : (upd H1 T (.tup [ltr ls[i], ltr ls[i + 1]])) R = some (.lst acc) := by rw [upd_ne nTR]; exact z3
          refine iteT ⟨ltr ls[i], rfl, acc, z3', small3000 (by omega), ?_, ?_, ?_, acc ++ [ltr ls[i]], upd_same, by rw [List.length_append, List.length_singleton]; omega, ?_⟩
          · exact same_again hH2 (sm.trans (by rw [← eu, ← ev]; exact sT))
          · rw [upd_ne nRD.symm, upd_ne nTD]; exact z1
          · rw [upd_ne nRc.symm, upd_ne nTc]; exact z2
          · rw [if_neg hq] at cd
            rw [List.length_append, List.length_singleton]
            omega
      · rintro H' ⟨sm, z1, z2, acc, z3, z4, z5⟩
        have ce : cnt (ls.drop (ls.length - 1)) = 0 := cnt_end (by omega)
        refine ⟨R, acc, rfl, .inl (SqL.of z3), ?_⟩
        have ea : acc.length = chg ns lo hi := by
          show acc.length = cnt (lets lo hi ns)
          rw [hls]
          omega
        rw [ea]
        exact q H' sm
theorem ok_chT {f : Addr} {fd : FuncData} {k : Nat} (F : Fun K "changes" "changes" sCh f fd) (ml : mg "len" = none) (mz : mg "zip" = none) : FnOk P w K mg base CX0 (k + 1) f fd ["load", "low", "high"] (spChT K) := by
  refine F.ok scCh (fun vs H Q E h => ?_) (fun cdv A outer s H vs Q E hr h => ?_)
  · obtain ⟨a, ns, lo, hi, rfl, _⟩ := h
    rfl
  · obtain ⟨a, ns, lo, hi, rfl, hS, hlen, q⟩ := h
    refine ⟨_, pss_cons (ps_setLc (i := 3) (own := [("reading", 4)]) (g := gName 4) rfl scCh.nd rfl rfl (sw_true rfl rfl rfl (by decide +kernel)) (pi_tup (pv 0))
        (blkOk_by (own := [("reading", 4)]) (N := ["load", "low", "high", "letters", "reading", "one", "other"]) (sc := defScope sCh) (by decide +kernel))
        (fun _ _ _ _ _ => pg_name (i := 4) scCh.nd rfl (Or.inl rfl))
        (fun _ _ _ _ _ => pts_one (PW.pt (pw_or (pt_cmpR op_le (pv 4) (pv 1) (nomark _)) (pw_or1 (pt_cmpR op_ge (pv 4) (pv 2) (nomark _))))))
        (fun _ _ _ _ _ => pe_ifExp (pt_cmpR op_le (pv 4) (pv 1) (nomark _)) pe_str pe_str))
      (pss_one (ps_ret (pe_callB call_len_seq (by rfl) ml PySem.boot_len (pa_cons
        (pe_lc (own := [("one", 5), ("other", 6)]) (g := gTup K 2 (gCons (gName 5) (gCons (gName 6) gNil))) rfl scCh.nd (pi_zip (by rfl) mz (pa_cons (pv 3) (pa_cons (pe_slice sl_list (pv 3) (po_some pe_int) po_none) pa_nil)))
          (blkOk_by (own := [("one", 5), ("other", 6)]) (N := ["load", "low", "high", "letters", "reading", "one", "other"]) (sc := defScope sCh) (by decide +kernel))
          (fun _ _ _ _ _ => pg_tup rfl (pgs_cons (pg_name (i := 5) scCh.nd rfl (Or.inl rfl) (Or.inr rfl)) (pgs_cons (pg_name (i := 6) scCh.nd rfl (Or.inl rfl) (Or.inr rfl)) pgs_nil)))
          (fun _ _ _ _ _ => pts_one (pt_cmpR op_ne (pv 5) (pv 6) (nomark _))) (fun _ _ _ _ _ => pv 5)) pa_nil)))), ?_⟩
    refine ⟨.ref a, rfl, a, rfl, ⟨_, hS⟩, fun D nD => lc_tup (K := K) (a := a) (xs := ns.map V.int) (fun i H' => H' = upd H D (.lst ((lets lo hi (ns.take i)).map ltr))) ?_ ?_ ?_ ?_⟩
    · rfl
    · rintro i H' _ rfl
      exact SqT_same (same_new nD) hS
    · rintro i x H' hx rfl
      obtain ⟨r, hr2, rfl⟩ := int_at hx
      have et := lets_take (lo := lo) (hi := hi) hr2
      have hin : i < ns.length := (List.getElem?_eq_some_iff.mp hr2).1
      refine ⟨rfl, .int r, rfl, .int lo, rfl, r, lo, rfl, rfl, _, rfl, ite2 (fun e => ?_) (fun e => ?_)⟩
      · have h1 : r ≤ lo := of_decide_eq_true e
        refine iteT ⟨.int r, rfl, .int lo, rfl, r, lo, rfl, rfl, _, rfl, ite2 (fun _ => ?_) (fun z => absurd e z)⟩
        refine ⟨_, upd_same, ?_, ?_⟩
        · rw [List.length_map]
          have := lets_len lo hi (ns.take i)
          rw [List.length_take] at this
          exact small3000 (by omega)
        · rw [upd_upd, et]
          unfold lett
          rw [if_pos h1]
          dsimp only
          rw [List.map_append]
          rfl
      · have h1 : ¬ r ≤ lo := fun z => e (decide_eq_true z)
        refine ⟨.int r, rfl, .int hi, rfl, r, hi, rfl, rfl, _, rfl, ?_⟩
        by_cases h2 : r ≥ hi
        · rw [decide_eq_true h2]
          refine iteT ⟨.int r, rfl, .int lo, rfl, r, lo, rfl, rfl, _, rfl, ite2 (fun z => absurd z e) (fun _ => ?_)⟩
          refine ⟨_, upd_same, ?_, ?_⟩
          · rw [List.length_map]
            have := lets_len lo hi (ns.take i)
            rw [List.length_take] at this
            exact small3000 (by omega)
          · rw [upd_upd, et]
            unfold lett
            rw [if_neg h1, if_pos h2]
            dsimp only
            rw [List.map_append]
            rfl
        · rw [decide_eq_false h2]
          refine iteF ?_
          rw [et]
          unfold lett
          rw [if_neg h1, if_neg h2]
    · rintro H' rfl
      have e0 : ns.take (ns.map V.int).length = ns := by rw [List.length_map]; exact List.take_length
      rw [e0]
      generalize hls : lets lo hi ns = ls
      have hll : ls.length ≤ 3000 := by have := lets_len lo hi ns; rw [hls] at this; omega
      have s1 : Same H (upd H D (.lst (ls.map ltr))) := same_new nD
      have hD : SqL K (upd H D (.lst (ls.map ltr))) D (ls.map ltr) := SqL.of upd_same
      refine ⟨.ref D, rfl, .ref D, rfl, 1, rfl, D, ls.map ltr, rfl, hD, fun c nc => ?_⟩
      rw [cut1]
      have ncD : c ≠ D := fun e => by rw [e, upd_same] at nc; cases nc
      have s2 : Same H (upd (upd H D (.lst (ls.map ltr))) c (.lst ((ls.map ltr).drop 1))) := s1.trans (same_new nc)
      refine ⟨D, c, ls.map ltr, (ls.map ltr).drop 1, rfl, (same_new nc).seq hD, SqL.of upd_same, fun R nR => ?_⟩
      have nRD : R ≠ D := fun e => by rw [e, upd_ne ncD.symm, upd_same] at nR; cases nR
      have nRc : R ≠ c := fun e => by rw [e, upd_same] at nR; cases nR
      have hH2 : H R = none := s2.free nR
      refine lc_it (walk_zip (K := K) (a := D) (b := c) (xs := ls.map ltr) (ys := (ls.map ltr).drop 1) (n := ls.length - 1) (by rw [List.length_drop, List.length_map]; omega))
        (fun i H' => Same H H' ∧ H' D = some (.lst (ls.map ltr)) ∧ H' c = some (.lst ((ls.map ltr).drop 1)) ∧ ∃ acc : List V, H' R = some (.lst acc) ∧ acc.length ≤ i ∧ acc.length + cnt (ls.drop i) = cnt ls) ?_ ?_ ?_ ?_
      · refine ⟨s2.trans (same_new nR), ?_, ?_, [], upd_same, Nat.le_refl _, ?_⟩
        · rw [upd_ne nRD.symm, upd_ne ncD.symm, upd_same]
        · rw [upd_ne nRc.symm, upd_same]
        · show 0 + cnt ls = cnt ls
          omega
      · rintro i H' _ ⟨_, z1, z2, _⟩
        exact ⟨SqL.of z1, SqL.of z2⟩
      · rintro i x H1 H2 hi1 ⟨sm, z1, z2, acc, z3, z4, z5⟩ ⟨T, u, v, rfl, nT, rfl, g1, g2⟩
        have hi2 : i + 1 < ls.length := by omega
        have hi3 : i < ls.length := by omega
        have g1 : (ls.map ltr)[i]? = some u := g1
        have g2 : ((ls.map ltr).drop 1)[i]? = some v := g2
        have eu : u = ltr ls[i] := by
          rw [List.getElem?_map, List.getElem?_eq_getElem hi3] at g1
          exact (Option.some.inj g1).symm
        have ev : v = ltr ls[i + 1] := by
          rw [List.getElem?_drop, List.getElem?_map, Nat.add_comm 1 i, List.getElem?_eq_getElem hi2] at g2
          exact (Option.some.inj g2).symm
        have nTR : R ≠ T := ne_of_none z3 nT
        have nTD : D ≠ T := ne_of_none z1 nT
        have nTc : c ≠ T := ne_of_none z2 nT
        have sT : Same H1 (upd H1 T (.tup [u, v])) := same_new nT
        have cd := cnt_drop (List.getElem?_eq_getElem hi3) (List.getElem?_eq_getElem hi2)
        refine ⟨T, [u, v], rfl, SqT.of upd_same, rfl, u, [v], rfl, v, [], rfl, ?_⟩
        refine ⟨rfl, rfl, u, rfl, v, rfl, by rw [eu, ev]; exact ltr_scal _ _, _, rfl, ?_⟩
        rw [eu, ev, ltr_eq]
        by_cases hq : ls[i] = ls[i + 1]
        · rw [decide_eq_true hq]
          refine iteF ⟨sm.trans (by rw [← eu, ← ev]; exact sT), ?_, ?_, acc, ?_, by omega, ?_⟩
          · rw [upd_ne nTD]; exact z1
          · rw [upd_ne nTc]; exact z2
          · rw [upd_ne nTR]; exact z3
          · rw [if_pos hq] at cd
            omega
        · rw [decide_eq_false hq]
          have z3' : (upd H1 T (.tup [ltr ls[i], ltr ls[i + 1]])) R = some (.lst acc) := by rw [upd_ne nTR]; exact z3
          refine iteT ⟨ltr ls[i], rfl, acc, z3', small3000 (by omega), ?_, ?_, ?_, acc ++ [ltr ls[i]], upd_same, by rw [List.length_append, List.length_singleton]; omega, ?_⟩
          · exact same_again hH2 (sm.trans (by rw [← eu, ← ev]; exact sT))
          · rw [upd_ne nRD.symm, upd_ne nTD]; exact z1
          · rw [upd_ne nRc.symm, upd_ne nTc]; exact z2
          · rw [if_neg hq] at cd
            rw [List.length_append, List.length_singleton]
            omega
      · rintro H' ⟨sm, z1, z2, acc, z3, z4, z5⟩
        have ce : cnt (ls.drop (ls.length - 1)) = 0 := cnt_end (by omega)
        refine ⟨R, acc, rfl, .inl (SqL.of z3), ?_⟩
        have ea : acc.length = chg ns lo hi := by
          show acc.length = cnt (lets lo hi ns)
          rw [hls]
          omega
        rw [ea]
        exact q H' sm
end
end QJ

/-! changes of a count -/
namespace QK
open PySem PySem.Spec PyProof.Rows L2 KA PH PM PA PB PC RM RN RC QE QF QG QH
abbrev sPG : Stmt := inClass sClass 7
theorem scPG : FnScope ["self", "low", "high", "outer"] ["self", "low", "high"] (defScope sPG) := ⟨rfl, rfl, rfl, by decide +kernel, rfl, by decide +kernel, by decide +kernel⟩
theorem pairs_get {H : Hp} : ∀ {xs : List V} {rs : List (Int × Int)} {i : Nat} {x : V}, PairsAt H xs rs → xs[i]? = some x → ∃ p r, x = .ref p ∧ rs[i]? = some r ∧ H p = some (.tup [.int r.1, .int r.2])
  | x :: xs, r :: rs, 0, y, ⟨⟨p, h1, h2⟩, _⟩, e => ⟨p, r, by rw [← h1]; exact (Option.some.inj e).symm, rfl, h2⟩
  | x :: xs, r :: rs, i + 1, y, ⟨_, h⟩, e => pairs_get (xs := xs) (rs := rs) (i := i) h e
  | [], [], _, _, _, e => by simp at e
  | [], _ :: _, _, _, h, _ => h.elim
  | _ :: _, [], _, _, h, _ => h.elim
section
variable {P : Program} {w : World} {K : PySem.W.Frag} {mg : Str → Option Value} {base : Heap}
def spPG (C : Addr) : Sp := fun vs H Q _ => ∃ (x : Addr) (ds : List (Int × Int)) (rs : List Int) (lo hi : Int), vs = [.ref x, .int lo, .int hi] ∧ CountAt H C x ds rs ∧ ds.length ≤ 2500 ∧ rs.length ≤ 2500 ∧ ZZ rs ∧ ∀ H', Same H H' → Q (.int ((2 * nh lo hi ds + nh lo hi (sw rs) : Nat) : Int)) H'
theorem nh_take {lo hi : Int} {rs : List (Int × Int)} {i : Nat} {r : Int × Int} (h : rs[i]? = some r) : nh lo hi (rs.take (i + 1)) = nh lo hi (rs.take i) + b1 (hl lo hi r) := by
  rw [List.take_add_one, h, nh_app]
  show _ + nh lo hi [r] = _
  rw [nh_cons]
  rfl
theorem ok_PG {C p3 f fH fC : Addr} {fd dH fdC : FuncData} {k : Nat} (F : Fun K "changes" "Count.changes" sPG f fd) (T : Cnt K C) (prH : PropOf K C "half_cycles" p3 fH)
    (GH : FnOk P w K mg base CX0 (k + 4) fH dH ["self"] (spPH C)) (bH : Binds K dH ["self"] [])
    (GC : FnOk P w K mg base CX0 (k + 1) fC fdC ["outer", "inner"] (spCont K)) (gC : mg "contains" = some (.ref fC)) (kC : PySem.W.keepIn K (.ref fC) = true) (bC : Binds K fdC ["outer", "inner"] [])
    (ml : mg "len" = none) : FnOk P w K mg base CX0 (k + 6) f fd ["self", "low", "high"] (spPG C) := by
  refine F.ok scPG (fun vs H Q E h => ?_) (fun cdv A outer s H vs Q E hr h => ?_)
  · obtain ⟨x, ds, rs, lo, hi, rfl, _⟩ := h
    rfl
  · obtain ⟨x, ds, rs, lo, hi, rfl, hc, ld, lr, zz, hq⟩ := h
    refine ⟨_, pss_one (ps_ret (pe_callB call_len_seq (by rfl) ml PySem.boot_len (pa_cons (pe_lc (own := [("outer", 3)]) (g := gName 3) (tt := tB (tCall (spCont K) [] E0 (tCons (tVar 3) (tCons (tTup (tCons (tVar 1) (tCons (tVar 2) tNil))) tNil)))) (te := tVar 3) rfl scPG.nd
        (pi_tup (pe_prop (pv 0) T.cl prH GH hr bH .nil pass0 (by rfl)))
        (blkOk_by (own := [("outer", 3)]) (N := ["self", "low", "high", "outer"]) (sc := defScope sPG) (by decide +kernel)) (fun _ _ _ _ _ => pg_name (i := 3) scPG.nd rfl (Or.inl rfl) (Or.inr rfl))
        (fun _ _ _ _ _ => pts_one (pt_val (pe_call GC (hr.mono (by omega)) (by rfl) gC kC bC .nil pass0 (pa_cons (pv 3) (pa_cons (pe_tup (pa_cons (pv 1) (pa_cons (pv 2) pa_nil))) pa_nil))))) (fun _ _ _ _ _ => pv 3)) pa_nil))), ?_⟩
    obtain ⟨dx, t1, t2, ys, h1, h2, h3, h4⟩ := hc
    refine ⟨.ref x, rfl, x, dx, _, rfl, h1, x, ds, rs, rfl, ⟨dx, t1, t2, ys, h1, h2, h3, h4⟩, ld, lr, zz, fun H1 t zs es s1 et pe perm srt => ⟨t, rfl, ⟨_, SqT.of et⟩, fun D nD => lc_tup (K := K) (a := t) (xs := zs) (fun i Hz => Same H1 Hz ∧ ∃ acc : List V, acc.length = nh lo hi (es.take i) ∧ Hz D = some (.lst acc)) ⟨same_new nD, [], rfl, upd_same⟩ (fun i Hz _ z => SqT.of (z.1 _ _ et)) ?_ ?_⟩⟩
    · have le : es.length ≤ 8000 := by
        rw [perm.length_eq]
        simp only [List.length_append, sw_len]
        omega
      rintro i y Hz hy ⟨sz, acc, el, eD⟩
      obtain ⟨p, r, rfl, er, hp⟩ := pairs_get pe hy
      have hi' := (List.getElem?_eq_some_iff.mp er).1
      have hacc : acc.length ≤ 8000 := by
        rw [el]
        exact Nat.le_trans (List.countP_le_length) (by rw [List.length_take]; omega)
      refine ⟨rfl, .ref p, rfl, .int lo, rfl, .int hi, rfl, by show 2 ≤ sizeLine; decide, fun q nq => ?_⟩
      have sq := same_new (o := .tup [.int lo, .int hi]) nq
      refine ⟨p, q, r.1, r.2, lo, hi, rfl, SqT.of (sq _ _ (sz _ _ hp)), SqT.of upd_same, _, rfl, ?_⟩
      have step := nh_take (lo := lo) (hi := hi) er
      have eh : hl lo hi r = (decide (r.1 ≤ lo) && decide (hi ≤ r.2)) := rfl
      rw [← eh]
      cases e : hl lo hi r with
      | true =>
        rw [e] at step
        refine iteT ⟨.ref p, rfl, _, sq _ _ eD, Nat.lt_of_le_of_lt hacc (by decide), same_again nD (sz.trans sq), acc ++ [.ref p], by rw [List.length_append, el, step]; rfl, upd_same⟩
      | false =>
        rw [e] at step
        exact iteF ⟨sz.trans sq, acc, by rw [el, step]; rfl, sq _ _ eD⟩
    · rintro Hz ⟨sz, acc, el, eD⟩
      refine ⟨D, acc, rfl, .inl (SqL.of eD), ?_⟩
      have e : acc.length = 2 * nh lo hi ds + nh lo hi (sw rs) := by
        rw [el, List.take_of_length_le (by rw [pe.length]; exact Nat.le_refl _), nh_perm perm, nh_app, nh_app]
        omega
      rw [e]
      exact hq _ (s1.trans sz)
end
end QK

/-! == of counts -/
namespace QL
open PySem PySem.Spec PyProof.Rows L2 KA PH PM PA PB PC RM RN RC QE QF QG QH
abbrev sEQ : Stmt := inClass sClass 8
theorem scEQ : FnScope ["self", "other"] ["self", "other"] (defScope sEQ) := ⟨rfl, rfl, rfl, by decide +kernel, rfl, by decide +kernel, by decide +kernel⟩
theorem ev_ints : ∀ as bs : List Int, PyData.eqvAll (dInts as) (dInts bs) = decide (as = bs)
  | [], [] => by simp [dInts, PyData.eqvAll]
  | [], _ :: _ => by simp [dInts, PyData.eqvAll]
  | _ :: _, [] => by simp [dInts, PyData.eqvAll]
  | a :: as, b :: bs => by
    have ih := ev_ints as bs
    show (PyData.eqv (.int a) (.int b) && PyData.eqvAll (dInts as) (dInts bs)) = _
    rw [ih]
    simp [PyData.eqv, Bool.beq_eq_decide_eq]
theorem ev_pairs : ∀ rs ss : List (Int × Int), PyData.eqvAll (dPairs rs) (dPairs ss) = decide (rs = ss)
  | [], [] => by simp [dPairs, PyData.eqvAll]
  | [], _ :: _ => by simp [dPairs, PyData.eqvAll]
  | _ :: _, [] => by simp [dPairs, PyData.eqvAll]
  | (a, b) :: rs, (c, d) :: ss => by
    have ih := ev_pairs rs ss
    show (PyData.eqv (.tuple [.int a, .int b]) (.tuple [.int c, .int d]) && PyData.eqvAll (dPairs rs) (dPairs ss)) = _
    rw [ih]
    simp [PyData.eqv, PyData.eqvAll, Bool.beq_eq_decide_eq]
theorem shaped_prt (rs : List (Int × Int)) : SeqAt.shaped (.tuple (dPairs rs)) = true :=
  shaped_of (by simp only [PyData.canLay0, lay_pairs]) (by have := depth_pairs rs; simp only [PyData.depth]; omega)
section
variable {P : Program} {w : World} {K : PySem.W.Frag} {mg : Str → Option Value} {base : Heap}
def spEQ (C : Addr) : Sp := fun vs H Q _ => ∃ (x y : Addr) (ds es : List (Int × Int)) (rs ts : List Int), vs = [.ref x, .ref y] ∧ CountAt H C x ds rs ∧ CountAt H C y es ts ∧ Q (.bl (decide (ds = es) && decide (rs = ts))) H
theorem ok_EQ {C f : Addr} {fd : FuncData} {k : Nat} (F : Fun K "__eq__" "Count.__eq__" sEQ f fd) (T : Cnt K C) (S : C8.InsC K C) (gC : mg "Count" = some (.ref C)) (mi : mg "isinstance" = none) : FnOk P w K mg base CX0 (k + 1) f fd ["self", "other"] (spEQ C) := by
  refine F.ok scEQ (fun vs H Q E h => ?_) (fun cdv A outer s H vs Q E hr h => ?_)
  · obtain ⟨x, y, ds, es, rs, ts, rfl, _⟩ := h
    rfl
  · obtain ⟨x, y, ds, es, rs, ts, rfl, ⟨dx, t1, t2, ys, h1, h2, h3, h4⟩, ⟨dy, u1, u2, zs, g1, g2, g3, g4⟩, hq⟩ := h
    refine ⟨_, pss_one (ps_ret (pe_and (pe_callB (C8.call_isC S) (by rfl) mi (by decide +kernel) (pa_cons (pv 1) (pa_cons (pe_glob (v := .ref C) (by rfl) gC rfl) pa_nil)))
      (pe_and (pe_cmpR (op_eqD hr.units) (pe_fld (pv 0) rfl) (pe_fld (pv 1) rfl) (nomark _)) (pe_one (pe_cmpR (op_eqD hr.units) (pe_fld (pv 0) rfl) (pe_fld (pv 1) rfl) (nomark _)))))), ?_⟩
    have e1 := ev_pairs ds es
    have e2 := ev_ints rs ts
    refine ⟨.ref y, rfl, y, dy, _, rfl, g1, true, rfl, iteT ?_⟩
    refine ⟨.ref x, rfl, x, C, dx, _, .ref t1, rfl, h1, T.cl, T.nC, rfl, .ref y, rfl, y, C, dy, _, .ref u1, rfl, g1, T.cl, T.nC, rfl, .tuple (dPairs ds), .tuple (dPairs es), .tup (SqT.of h2) (dp_pairs h3), .tup (SqT.of g2) (dp_pairs g3), shaped_prt _, shaped_prt _, _, rfl, ?_⟩
    rw [show PyData.eqv (.tuple (dPairs ds)) (.tuple (dPairs es)) = decide (ds = es) from by rw [← e1]; rfl]
    cases e : decide (ds = es) with
    | false =>
      rw [e] at hq
      exact iteF hq
    | true =>
      rw [e] at hq
      refine iteT ⟨.ref x, rfl, x, C, dx, _, .ref t2, rfl, h1, T.cl, T.nR, rfl, .ref y, rfl, y, C, dy, _, .ref u2, rfl, g1, T.cl, T.nR, rfl, .tuple (dInts rs), .tuple (dInts ts), .tup (SqT.of h4) (dp_ints _), .tup (SqT.of g4) (dp_ints _), shaped_tup _, shaped_tup _, ?_⟩
      rw [show PyData.eqv (.tuple (dInts rs)) (.tuple (dInts ts)) = decide (rs = ts) from by rw [← e2]; rfl]
      exact hq
end
end QL

/-! the law's table of changes -/
namespace QT
open PySem PySem.Spec PyProof.Rows L2 KA KM PH QJ GE
abbrev sTab : Stmt := KA.topS 22
theorem scTab : FnScope ["load", "found", "low", "high"] ["load"] (defScope sTab) := ⟨rfl, rfl, rfl, by decide +kernel, rfl, by decide +kernel, by decide +kernel⟩
def kk (p : Int × Int) : List Key := [.inl p.1, .inl p.2]
def ro (a n : Nat) : List (Int × Int) := (List.range n).map fun (b : Nat) => ((a : Int) - 3, (a : Int) - 2 + (b : Int))
def al (a : Nat) : List (Int × Int) := (List.range a).flatMap fun i => ro i (14 - i)
def fT (ns : List Int) : List Key → Int
  | [.inl lo, .inl hi] => (chg ns lo hi : Nat)
  | _ => 0
theorem ro_succ (a n : Nat) : ro a (n + 1) = ro a n ++ [((a : Int) - 3, (a : Int) - 2 + (n : Int))] := by
  unfold ro
  rw [List.range_succ, List.map_append]
  rfl
theorem al_succ (a : Nat) : al (a + 1) = al a ++ ro a (14 - a) := by
  unfold al
  rw [List.range_succ, List.flatMap_append]
  simp
theorem kk_inj {p q : Int × Int} (h : kk p = kk q) : p = q := by
  obtain ⟨a, b⟩ := p
  obtain ⟨c, d⟩ := q
  simp [kk] at h
  rw [h.1, h.2]
theorem put_new {ks : List (List Key)} {k : List Key} {f : List Key → Int} (h : k ∉ ks) : putK (tab ks f) k (.int (f k)) = tab (ks ++ [k]) f := by
  unfold putK
  rw [if_neg]
  · simp [tab]
  · intro z
    rw [List.any_eq_true] at z
    obtain ⟨p, hp, e⟩ := z
    obtain ⟨k', hk, rfl⟩ := List.mem_map.mp hp
    have e : k' = k := of_decide_eq_true e
    exact h (e ▸ hk)
theorem al_lt {a : Nat} {p : Int × Int} (h : p ∈ al a) : p.1 < (a : Int) - 3 := by
  obtain ⟨i, hi, hp⟩ := List.mem_flatMap.mp h
  obtain ⟨b, _, rfl⟩ := List.mem_map.mp hp
  have := List.mem_range.mp hi
  show (i : Int) - 3 < _
  omega
theorem new_key {a n : Nat} : kk ((a : Int) - 3, (a : Int) - 2 + (n : Int)) ∉ (al a ++ ro a n).map kk := by
  intro h
  obtain ⟨p, hp, e⟩ := List.mem_map.mp h
  have e := kk_inj e
  subst e
  rcases List.mem_append.mp hp with z | z
  · have := al_lt z
    omega
  · obtain ⟨b, hb, e⟩ := List.mem_map.mp z
    have := List.mem_range.mp hb
    have e2 := congrArg Prod.snd e
    dsimp only at e2
    omega
theorem al_len : ∀ {a : Nat}, a ≤ 14 → (al a).length ≤ 14 * a
  | 0, _ => by simp [al]
  | a + 1, h => by
    have := al_len (a := a) (by omega)
    rw [al_succ, List.length_append]
    simp only [ro, List.length_map, List.length_range]
    omega
section
variable {P : Program} {w : World} {K : PySem.W.Frag} {mg : Str → Option Value} {base : Heap}
def spTab (K : PySem.W.Frag) : Sp := fun vs H Q _ => ∃ (a : Addr) (ns : List Int), vs = [.ref a] ∧ SqL K H a (ns.map V.int) ∧ ns.length ≤ 3000 ∧ ∀ H' p, Same H H' → H p = none → H' p = some (.dT (tab ((al 14).map kk) (fT ns))) → Q (.ref p) H'
theorem ok_tab {f fC : Addr} {fd fdC : FuncData} {k : Nat} (F : Fun K "_law_table" "_law_table" sTab f fd)
    (GC : FnOk P w K mg base CX0 (k + 1) fC fdC ["load", "low", "high"] (spCh K)) (gC : mg "changes" = some (.ref fC)) (kC : PySem.W.keepIn K (.ref fC) = true) (bC : Binds K fdC ["load", "low", "high"] []) (mr : mg "range" = none) :
    FnOk P w K mg base CX0 (k + 2) f fd ["load"] (spTab K) := by
  refine F.ok scTab (fun vs H Q E h => ?_) (fun cdv A outer s H vs Q E hr h => ?_)
  · obtain ⟨a, ns, rfl, _⟩ := h
    rfl
  · obtain ⟨a, ns, rfl, hS, hlen, hq⟩ := h
    refine ⟨_, pss_cons (ps_set (i := 1) scTab.nd rfl (.inl rfl) pe_dnewT)
      (pss_cons (ps_for PassesOwn.never rfl (pi_range2 rfl mr (pa_cons (pe_un un_neg pe_int) (pa_cons pe_int pa_nil))) (pg_name (i := 2) scTab.nd rfl (.inl rfl))
        (pss_one (ps_for PassesOwn.never rfl (pi_range2 rfl mr (pa_cons (pe_op op_add (pv 2) pe_int) (pa_cons pe_int pa_nil))) (pg_name (i := 3) scTab.nd rfl (.inl rfl))
          (pss_one (ps_dput (hu_of hr) (pv 1) (pe_tup (pa_cons (pv 2) (pa_cons (pv 3) pa_nil))) (pe_call GC hr (by rfl) gC kC bC .nil pass0 (pa_cons (pv 0) (pa_cons (pv 2) (pa_cons (pv 3) pa_nil)))) (by rfl))))))
      (pss_one (ps_ret (pv 1)))), ?_⟩
    intro D nD
    refine ⟨3, rfl, -3, _, rfl, ⟨by decide, by decide, by decide, by decide⟩, ?_⟩
    refine for_range (lo := -3) (n := 14) (fun i σ H' => Same H H' ∧ H' D = some (.dT (tab ((al i).map kk) (fT ns))) ∧ ∃ r2 r3 : Option V, σ = [some (.ref a), some (.ref D), r2, r3]) ⟨same_new nD, upd_same, _, _, rfl⟩ ?_ (fun σ H' ⟨sm, eD, r2, r3, e⟩ => ?_)
    · rintro i σ H' hi ⟨sm, eD, r2, r3, rfl⟩
      have elo : -3 + (i : Int) = (i : Int) - 3 := by omega
      rw [elo]
      have hn : ((12 : Int) - ((i : Int) - 3 + 1)).toNat = 14 - i := by omega
      refine ⟨.int ((i : Int) - 3), rfl, _, 1, rfl, rfl, _, _, rfl, ⟨by omega, by omega, by decide, by decide⟩, ?_⟩
      rw [hn]
      refine for_range (lo := (i : Int) - 3 + 1) (n := 14 - i) (fun j σ H2 => Same H H2 ∧ H2 D = some (.dT (tab ((al i ++ ro i j).map kk) (fT ns))) ∧ ∃ r3 : Option V, σ = [some (.ref a), some (.ref D), some (.int ((i : Int) - 3)), r3]) ⟨sm, by rw [eD]; simp [ro], _, rfl⟩ ?_ (fun σ H2 ⟨s2, e2, r3, e⟩ => ?_)
      · rintro j σ H2 hj ⟨s2, e2, r3', rfl⟩
        have ehi : (i : Int) - 3 + 1 + (j : Int) = (i : Int) - 2 + (j : Int) := by omega
        rw [ehi]
        refine ⟨.ref a, rfl, .int ((i : Int) - 3), rfl, .int ((i : Int) - 2 + (j : Int)), rfl, a, ns, _, _, rfl, s2.seq hS, hlen, fun H3 s3 => ?_⟩
        refine ⟨.ref D, rfl, .int ((i : Int) - 3), rfl, .int ((i : Int) - 2 + (j : Int)), rfl, by show 2 ≤ sizeLine; decide, fun q nq => ?_⟩
        have s4 := same_new (o := .tup [.int ((i : Int) - 3), .int ((i : Int) - 2 + (j : Int))]) nq
        have e4 := s4 _ _ (s3 _ _ e2)
        refine ⟨D, _, rfl, DPut.t (k := kk ((i : Int) - 3, (i : Int) - 2 + (j : Int))) e4 upd_same ?_, same_again nD (s2.trans (s3.trans s4)), ?_, _, rfl⟩
        · rw [show (tab ((al i ++ ro i j).map kk) (fT ns)).length = (al i).length + j by simp [tab, ro]]
          have := al_len (a := i) (by omega)
          exact Nat.lt_of_le_of_lt (show (al i).length + j ≤ 1000 by omega) (by decide)
        · rw [upd_same]
          have := put_new (f := fT ns) (new_key (a := i) (n := j))
          rw [show (al i ++ ro i (j + 1)).map kk = (al i ++ ro i j).map kk ++ [kk ((i : Int) - 3, (i : Int) - 2 + (j : Int))] from by rw [ro_succ, ← List.append_assoc, List.map_append (l₁ := al i ++ ro i j)]; rfl]
          exact congrArg (fun z => some (HO.dT z)) this
      · subst e
        refine ⟨s2, ?_, _, _, rfl⟩
        rw [e2, al_succ]
    · subst e
      exact ⟨.ref D, rfl, hq H' D sm nD eD⟩
end
end QT

/-! k08's small loads -/
namespace QS
open PySem PySem.Spec PyProof.Rows L2 KA KD PH
abbrev sSmall : Stmt := KA.topS 21
theorem scSmall : FnScope ["feed", "few", "turn"] ["feed"] (defScope sSmall) := ⟨rfl, rfl, rfl, by decide +kernel, rfl, by decide +kernel, by decide +kernel⟩
/-- a list of i readings from -2 to 9 stands at D, the rest is as it was -/
def Grown (f D : Addr) (H0 : Hp) (i : Nat) (H : Hp) : Prop := Ch f H0 H ∧ FeedAt H f ∧ ∃ ns : List Int, ns.length = i ∧ (∀ n ∈ ns, -2 ≤ n ∧ n ≤ 9) ∧ H D = some (.lst (ns.map V.int))
theorem Grown.start {f D : Addr} {H0 H : Hp} (c : Ch f H0 H) (fe : FeedAt H f) (n0 : H0 D = none) (nf : D ≠ f) : Grown f D H0 0 (upd H D (.lst [])) :=
  ⟨Ch.again n0 c, fe.upd nf, [], rfl, fun _ z => (List.not_mem_nil z).elim, upd_same⟩
theorem Grown.turn {f D : Addr} {H0 H : Hp} {i : Nat} (g : Grown f D H0 i H) (n0 : H0 D = none) (nf : D ≠ f) (hi : i ≤ 100) {H1 : Hp} (c : Ch f H H1) (fe : FeedAt H1 f) {r : Int} (hr : -2 ≤ r ∧ r ≤ 9) :
    ∃ acc, H1 D = some (.lst acc) ∧ acc.length < sizeLine ∧ Grown f D H0 (i + 1) (upd H1 D (.lst (acc ++ [.int r]))) := by
  obtain ⟨c0, _, ns, hl, hb, e⟩ := g
  refine ⟨ns.map V.int, c _ _ nf e, by rw [List.length_map]; exact small3000 (by omega), Ch.again n0 (c0.trans c), fe.upd nf, ns ++ [r], by rw [List.length_append, List.length_singleton, hl], fun n hn => ?_, ?_⟩
  · rcases List.mem_append.mp hn with z | z
    · exact hb n z
    · rw [List.mem_singleton.mp z]; exact hr
  · rw [upd_same, List.map_append]
    rfl
theorem three {a b c : Int} {j : Nat} {v : V} (h : [V.int a, V.int b, V.int c][j]? = some v) : v = .int a ∨ v = .int b ∨ v = .int c := by
  match j, h with
  | 0, h => exact .inl (Option.some.inj h).symm
  | 1, h => exact .inr (.inl (Option.some.inj h).symm)
  | 2, h => exact .inr (.inr (Option.some.inj h).symm)
  | n + 3, h => simp at h
section
variable {P : Program} {w : World} {K : PySem.W.Frag} {mg : Str → Option Value} {base : Heap}
def spSmall : Sp := fun vs H Q _ => ∃ (f : Addr), vs = [.ref f] ∧ FeedAt H f ∧
  ∀ H' p (ns : List Int), Ch f H H' → FeedAt H' f → H p = none → H' p = some (.lst (ns.map V.int)) → ns.length ≤ 25 → (∀ n ∈ ns, -2 ≤ n ∧ n ≤ 9) → Q (.ref p) H'
theorem ok_small {f fT fP : Addr} {fd fdT fdP : FuncData} {k : Nat} (F : Fun K "_law_small" "_law_small" sSmall f fd) (FT : Fun K "_law_take" "_law_take" sTake fT fdT) (gT : mg "_law_take" = some (.ref fT)) (bT : Binds K fdT ["feed", "many"] [])
    (FP : Fun K "_law_pick" "_law_pick" sPick fP fdP) (gP : mg "_law_pick" = some (.ref fP)) (bP : Binds K fdP ["feed", "some"] []) (ml : mg "len" = none) (mr : mg "range" = none) :
    FnOk P w K mg base CX0 (k + 3) f fd ["feed"] spSmall := by
  have GT : FnOk P w K mg base CX0 (k + 1) fT fdT ["feed", "many"] spTake := ok_take FT
  have GP : FnOk P w K mg base CX0 (k + 2) fP fdP ["feed", "some"] (spPick K) := ok_pick FP FT gT bT ml
  refine F.ok scSmall (fun vs H Q E h => ?_) (fun cdv A outer s H vs Q E hr h => ?_)
  · obtain ⟨a, rfl, _⟩ := h
    rfl
  · obtain ⟨f, rfl, hf, q⟩ := h
    have hrT := hr.mono (Nat.le_succ (k + 1))
    refine ⟨_, pss_cons (ps_set (i := 1) scSmall.nd rfl (.inr rfl) (pe_call GP hr (by rfl) gP FP.kp bP .nil pass0 (pa_cons (pv 0) (pa_cons (pe_lst (pa_cons pe_int (pa_cons pe_int (pa_cons pe_int pa_nil)))) pa_nil))))
      (pss_one (ps_ret (pe_lc (own := [("turn", 2)]) (g := gName 2) rfl scSmall.nd (pi_range1 rfl mr (pa_cons (pe_call GT hrT (by rfl) gT FT.kp bT .nil pass0 (pa_cons (pv 0) (pa_cons pe_int pa_nil))) pa_nil)) (blkOk_by (own := [("turn", 2)]) (N := ["feed", "few", "turn"]) (sc := defScope sSmall) (by decide +kernel))
            (fun _ _ _ _ _ => pg_name (i := 2) scSmall.nd rfl (Or.inl rfl) (Or.inr rfl)) (fun _ _ _ _ _ => pts_nil)
            (fun _ _ _ _ _ => pe_op op_sub (pe_call GT hrT (by rfl) gT FT.kp bT .nil pass0 (pa_cons (pv 0) (pa_cons (pv 1) pa_nil))) pe_int)))), ?_⟩
    refine ⟨.ref f, rfl, by decide, fun l nl => ?_⟩
    have nlf := hf.ne nl
    refine ⟨f, l, _, rfl, nlf, SqL.of upd_same, by decide, by decide, hf.upd nlf, fun H3 j v hj c3 f3 => ?_⟩
    have c03 : Ch f H H3 := (Ch.new nl).trans c3
    have hv : ∃ few : Int, v = .int few ∧ 0 < few ∧ few ≤ 12 := by
      rcases three hj with e | e | e <;> exact ⟨_, e, by decide, by decide⟩
    obtain ⟨few, rfl, p0, p1⟩ := hv
    refine ⟨.ref f, rfl, f, _, rfl, by decide, by decide, f3, fun H4 n c4 f4 n0' n1' => ?_⟩
    have c04 := c03.trans c4
    refine ⟨n, rfl, by omega, by omega, fun D nD => ?_⟩
    have nDf := f4.ne nD
    have n0 := c04.free nDf nD
    refine lc_range (lo := 0) (n := n.toNat) (fun i H' => Grown f D H i H') (Grown.start c04 f4 n0 nDf) (fun i H' hi g => ?_) (fun H' g => ?_)
    · refine ⟨rfl, ?_⟩
      refine iteT (B := True) ?_
      exact ⟨.ref f, rfl, .int few, rfl, f, few, rfl, p0, by omega, g.2.1, fun H5 r c5 f5 r0 r1 => ⟨r, 2, rfl, rfl, g.turn n0 nDf (by omega) c5 f5 (by omega)⟩⟩
    · obtain ⟨c, fe, ns, hl, hb, e⟩ := g
      exact q H' D ns c fe n0 e (by omega) hb
end
end QS

/-! for k08's law -/
namespace E7
open PySem PySem.Spec PyProof.Rows L2 KA KD KM PH PM PA PB PC RM RN RC QE QF QG QH QJ QK QL QT GE RE
theorem al_mem {p : Int × Int} : p ∈ al 14 ↔ -3 ≤ p.1 ∧ p.1 < p.2 ∧ p.2 ≤ 11 := by
  constructor
  · intro h
    obtain ⟨i, hi, hp⟩ := List.mem_flatMap.mp h
    obtain ⟨b, hb, rfl⟩ := List.mem_map.mp hp
    have h1 := List.mem_range.mp hi
    have h2 := List.mem_range.mp hb
    dsimp only
    omega
  · rintro ⟨h1, h2, h3⟩
    refine List.mem_flatMap.mpr ⟨(p.1 + 3).toNat, List.mem_range.mpr (by omega), List.mem_map.mpr ⟨(p.2 - p.1 - 1).toNat, List.mem_range.mpr (by omega), ?_⟩⟩
    obtain ⟨a, b⟩ := p
    dsimp only at *
    rw [Prod.mk.injEq]
    omega
theorem val_tab {f : List Key → Int} {k : List Key} : ∀ {ks : List (List Key)}, k ∈ ks → valV (tab ks f) k = some (.int (f k))
  | [], h => (List.not_mem_nil h).elim
  | k0 :: ks, h => by
    show valV ((k0, V.int (f k0)) :: tab ks f) k = _
    by_cases e : k0 = k
    · subst e
      exact valV_pos rfl
    · rw [valV_neg e]
      refine val_tab ?_
      rcases List.mem_cons.mp h with z | z
      · exact absurd z.symm e
      · exact z
theorem pairs_dt {H H' : Hp} {t : Addr} {kv : List (List Key × V)} (k : ∀ b o, b ≠ t → H b = some o → H' b = some o) (ht : H t = some (.dT kv)) : ∀ {xs : List V} {rs : List (Int × Int)}, PairsAt H xs rs → PairsAt H' xs rs
  | [], [], _ => trivial
  | x :: xs, r :: rs, ⟨⟨p, h1, h2⟩, h3⟩ => ⟨⟨p, h1, k _ _ (fun z => by rw [z, ht] at h2; cases h2) h2⟩, pairs_dt k ht h3⟩
  | [], _ :: _, h => h.elim
  | _ :: _, [], h => h.elim
theorem CountAt.dt {H H' : Hp} {t C x : Addr} {kv : List (List Key × V)} {ds : List (Int × Int)} {rs : List Int} (h : CountAt H C x ds rs) (k : ∀ b o, b ≠ t → H b = some o → H' b = some o) (ht : H t = some (.dT kv)) : CountAt H' C x ds rs := by
  obtain ⟨dx, t1, t2, ys, h1, h2, h3, h4⟩ := h
  exact ⟨dx, t1, t2, ys, k _ _ (fun z => by rw [z, ht] at h1; cases h1) h1, k _ _ (fun z => by rw [z, ht] at h2; cases h2) h2, pairs_dt k ht h3, k _ _ (fun z => by rw [z, ht] at h4; cases h4) h4⟩
theorem dgetT {H : Hp} {t q : Addr} {od : Obj} {ns : List Int} {lo hi : Int} (ht : H t = some (.frz od (.dT (tab ((al 14).map kk) (fT ns))))) (hq : H q = some (.tup [.int lo, .int hi])) (m : -3 ≤ lo ∧ lo < hi ∧ hi ≤ 11) : DGet H t (.ref q) (some (.int (chg ns lo hi : Nat))) :=
  .inr ⟨_, kk (lo, hi), q, .inr ⟨od, ht⟩, rfl, hq, (val_tab (f := fT ns) (k := kk (lo, hi)) (List.mem_map.mpr ⟨(lo, hi), al_mem.mpr m, rfl⟩)).symm⟩
theorem count_take {c : Int × Int} {rs : List (Int × Int)} {i : Nat} {r : Int × Int} (h : rs[i]? = some r) : (rs.take (i + 1)).count c = (rs.take i).count c + b1 (decide (r = c)) := by
  rw [List.take_add_one, h, List.count_append]
  congr 1
  show [r].count c = _
  rw [List.count_cons, List.count_nil]
  unfold b1
  by_cases z : r = c
  · simp [z]
  · simp [z]
theorem ev_pair (a b c d : Int) : PyData.eqv (.tuple [.int a, .int b]) (.tuple [.int c, .int d]) = decide ((a, b) = (c, d)) := by
  simp [PyData.eqv, PyData.eqvAll, Bool.beq_eq_decide_eq]
theorem key_at {ns : List Int} {i : Nat} {k : List Key} {v : V} (h : (tab ((al 14).map kk) (fT ns))[i]? = some (k, v)) : ∃ lo hi : Int, k = [.inl lo, .inl hi] ∧ -3 ≤ lo ∧ lo < hi ∧ hi ≤ 11 := by
  have h := List.mem_of_getElem? h
  obtain ⟨k', hk, e⟩ := List.mem_map.mp h
  obtain ⟨p, hp, rfl⟩ := List.mem_map.mp hk
  have e := congrArg Prod.fst e
  exact ⟨p.1, p.2, e.symm, al_mem.mp hp⟩
theorem cut_to (xs : List V) (j : Nat) : cutV xs none (some (j : Int)) = xs.take j := by
  unfold cutV
  rw [HT.sIx_nat xs.length xs.length j, HT.sIx_none]
  rw [List.drop_zero, Nat.sub_zero]
  by_cases h : j ≤ xs.length
  · rw [Nat.min_eq_left h]
  · rw [Nat.min_eq_right (by omega), List.take_length, List.take_of_length_le (by omega)]
theorem cut_from (xs : List V) (j : Nat) : cutV xs (some (j : Int)) none = xs.drop j := by
  unfold cutV
  rw [HT.sIx_nat xs.length 0 j, HT.sIx_none]
  by_cases h : j ≤ xs.length
  · rw [Nat.min_eq_left h, List.take_of_length_le (by rw [List.length_drop]; exact Nat.le_refl _)]
  · rw [Nat.min_eq_right (by omega), Nat.sub_self, List.take_zero, List.drop_of_length_le (by omega)]
theorem Ch.tup {f t : Addr} {H H' : Hp} {xs : List V} (c : Ch f H H') (fe : FeedAt H f) (h : H t = some (.tup xs)) : H' t = some (.tup xs) := by
  refine c _ _ (fun z => ?_) h
  obtain ⟨d, st, _, _, _, e⟩ := fe
  rw [z, e] at h
  cases h
theorem pairs_ch {f : Addr} {H H' : Hp} (c : Ch f H H') (fe : FeedAt H f) : ∀ {xs : List V} {rs : List (Int × Int)}, PairsAt H xs rs → PairsAt H' xs rs
  | [], [], _ => trivial
  | x :: xs, r :: rs, ⟨⟨p, h1, h2⟩, h3⟩ => ⟨⟨p, h1, Ch.tup c fe h2⟩, pairs_ch c fe h3⟩
  | [], _ :: _, h => h.elim
  | _ :: _, [], h => h.elim
theorem CountAt.ch {H H' : Hp} {f C x : Addr} {ds : List (Int × Int)} {rs : List Int} (h : CountAt H C x ds rs) (c : Ch f H H') (fe : FeedAt H f) : CountAt H' C x ds rs := by
  obtain ⟨dx, t1, t2, ys, h1, h2, h3, h4⟩ := h
  refine ⟨dx, t1, t2, ys, c _ _ (fun z => ?_) h1, Ch.tup c fe h2, pairs_ch c fe h3, Ch.tup c fe h4⟩
  obtain ⟨d, st, _, _, _, e⟩ := fe
  rw [z, e] at h1
  cases h1
theorem key_same {ns ms : List Int} {es fs : List (Int × Int)} (h : Hc ns es) (g : Hc ms fs) (hb : ∀ x ∈ ns, -2 ≤ x ∧ x ≤ 9) (gb : ∀ x ∈ ms, -2 ≤ x ∧ x ≤ 9) : decide (es = fs) = ((al 14).map kk).all fun k => decide (fT ns k = fT ms k) := by
  rw [Bool.eq_iff_iff, decide_eq_true_iff, List.all_eq_true]
  constructor
  · intro e k hk
    obtain ⟨p, hp, rfl⟩ := List.mem_map.mp hk
    have m := al_mem.mp hp
    refine decide_eq_true ?_
    show ((KM.chg ns p.1 p.2 : Nat) : Int) = (KM.chg ms p.1 p.2 : Nat)
    rw [h.chg m.2.1, g.chg m.2.1, e]
  · intro a
    refine (same_iff h g hb gb).mpr fun lo hi h1 h2 h3 => ?_
    have := of_decide_eq_true (a (kk (lo, hi)) (List.mem_map.mpr ⟨(lo, hi), al_mem.mpr ⟨by dsimp only; omega, h2, by dsimp only; omega⟩, rfl⟩))
    have e : ((KM.chg ns lo hi : Nat) : Int) = (KM.chg ms lo hi : Nat) := this
    omega
end E7

/-! k08's law -/
namespace E8
open PySem PySem.Spec PyProof.Rows L2 KA KD KM PH PM PA PB PC RM RN RC QE QF QG QH QJ QK QL QT QS GE E7 RE
abbrev sLaw8 : Stmt := sLaw
theorem scLaw : FnScope ["script", "k", "feed", "load", "count", "table", "low", "high", "many", "just", "at", "left", "right", "other", "same", "one"] ["script"] (defScope sLaw) := ⟨rfl, rfl, rfl, by decide +kernel, rfl, by decide +kernel, by decide +kernel⟩
structure Txt (K : PySem.W.Frag) (mg : Str → Option Value) (fCO fRG fTP fIL fBT fSW fCH fMT fPB_ fCN fFE fTA fPI fSM fTB C fIN pO fOF p3 fPH fPG : Addr) (dCO dRG dTP dIL dBT dSW dCH dMT dPB_ dCN dFE dTA dPI dSM dTB dIN dOF dPH dPG : FuncData) : Prop where
  FCO : Fun K "contains" "contains" sCont fCO dCO
  gCO : mg "contains" = some (.ref fCO)
  kCO : PySem.W.keepIn K (.ref fCO) = true
  bCO : Binds K dCO ["outer", "inner"] []
  FRG : Fun K "range_of" "range_of" sRng fRG dRG
  gRG : mg "range_of" = some (.ref fRG)
  kRG : PySem.W.keepIn K (.ref fRG) = true
  bRG : Binds K dRG ["one", "other"] []
  FTP : Fun K "turning_points" "turning_points" sTP fTP dTP
  gTP : mg "turning_points" = some (.ref fTP)
  kTP : PySem.W.keepIn K (.ref fTP) = true
  bTP : Binds K dTP ["load"] []
  FIL : Fun K "is_left_out" "is_left_out" sLO fIL dIL
  gIL : mg "is_left_out" = some (.ref fIL)
  kIL : PySem.W.keepIn K (.ref fIL) = true
  bIL : Binds K dIL ["points", "reading"] []
  FBT : Fun K "_lies_between" "_lies_between" sBtw fBT dBT
  gBT : mg "_lies_between" = some (.ref fBT)
  kBT : PySem.W.keepIn K (.ref fBT) = true
  bBT : Binds K dBT ["reading", "before", "after"] []
  FSW : Fun K "swings" "swings" sSw fSW dSW
  gSW : mg "swings" = some (.ref fSW)
  kSW : PySem.W.keepIn K (.ref fSW) = true
  bSW : Binds K dSW ["load"] []
  FCH : Fun K "changes" "changes" sCh fCH dCH
  gCH : mg "changes" = some (.ref fCH)
  kCH : PySem.W.keepIn K (.ref fCH) = true
  bCH : Binds K dCH ["load", "low", "high"] []
  FMT : Fun K "_may_be_taken" "_may_be_taken" sMT fMT dMT
  gMT : mg "_may_be_taken" = some (.ref fMT)
  kMT : PySem.W.keepIn K (.ref fMT) = true
  bMT : Binds K dMT ["points", "place"] []
  FPB : Fun K "put_behind" "put_behind" sPB fPB_ dPB_
  gPB : mg "put_behind" = some (.ref fPB_)
  kPB : PySem.W.keepIn K (.ref fPB_) = true
  bPB : Binds K dPB_ ["rest", "reading"] []
  FCN : Fun K "_counted" "_counted" sCo fCN dCN
  gCN : mg "_counted" = some (.ref fCN)
  kCN : PySem.W.keepIn K (.ref fCN) = true
  bCN : Binds K dCN ["load"] []
  FFE : Fun K "_law_feed" "_law_feed" sFeed fFE dFE
  gFE : mg "_law_feed" = some (.ref fFE)
  kFE : PySem.W.keepIn K (.ref fFE) = true
  bFE : Binds K dFE ["script", "k"] []
  FTA : Fun K "_law_take" "_law_take" sTake fTA dTA
  gTA : mg "_law_take" = some (.ref fTA)
  kTA : PySem.W.keepIn K (.ref fTA) = true
  bTA : Binds K dTA ["feed", "many"] []
  FPI : Fun K "_law_pick" "_law_pick" sPick fPI dPI
  gPI : mg "_law_pick" = some (.ref fPI)
  kPI : PySem.W.keepIn K (.ref fPI) = true
  bPI : Binds K dPI ["feed", "some"] []
  FSM : Fun K "_law_small" "_law_small" sSmall fSM dSM
  gSM : mg "_law_small" = some (.ref fSM)
  kSM : PySem.W.keepIn K (.ref fSM) = true
  bSM : Binds K dSM ["feed"] []
  FTB : Fun K "_law_table" "_law_table" sTab fTB dTB
  gTB : mg "_law_table" = some (.ref fTB)
  kTB : PySem.W.keepIn K (.ref fTB) = true
  bTB : Binds K dTB ["load"] []
  gC : mg "Count" = some (.ref C)
  cn : Cnt K C
  mkc : Mk K C fIN
  FIN : Fun K "__init__" "Count.__init__" sInit fIN dIN
  bIN : Binds K dIN ["self", "cycles", "rest"] []
  rd : ClX.CRead K C (.type "type")
  cm : ClX.CMet K C (.type "type") "of" pO fOF
  FOF : Fun K "of" "Count.of" sOf fOF dOF
  bOF : Binds K dOF ["cls", "load"] []
  prH : PropOf K C "half_cycles" p3 fPH
  FPH : Fun K "half_cycles" "Count.half_cycles" sPH fPH dPH
  bPH : Binds K dPH ["self"] []
  mPG : Meth K C "changes" fPG
  nPG : True
  FPG : Fun K "changes" "Count.changes" sPG fPG dPG
  bPG : Binds K dPG ["self", "low", "high"] []
  len : mg "len" = none
  zip : mg "zip" = none
  max : mg "max" = none
  min : mg "min" = none
  abs : mg "abs" = none
  range : mg "range" = none
  sorted : mg "sorted" = none
  tuple : mg "tuple" = none
def spLaw (K : PySem.W.Frag) : Sp := fun vs H Q _ => ∃ (a : Addr) (ns : List Int), vs = [.ref a] ∧ SqL K H a (ns.map V.int) ∧ ns.length ≤ 63 ∧ ∀ H', Q (.bl true) H'
section
variable {P : Program} {w : World} {K : PySem.W.Frag} {mg : Str → Option Value} {base : Heap} {fCO fRG fTP fIL fBT fSW fCH fMT fPB_ fCN fFE fTA fPI fSM fTB C fIN pO fOF p3 fPH fPG : Addr} {dCO dRG dTP dIL dBT dSW dCH dMT dPB_ dCN dFE dTA dPI dSM dTB dIN dOF dPH dPG : FuncData}
theorem ok_law {f : Addr} {fd : FuncData} (F : Fun K "law" "law" sLaw f fd) (T : Txt K mg fCO fRG fTP fIL fBT fSW fCH fMT fPB_ fCN fFE fTA fPI fSM fTB C fIN pO fOF p3 fPH fPG dCO dRG dTP dIL dBT dSW dCH dMT dPB_ dCN dFE dTA dPI dSM dTB dIN dOF dPH dPG) : KW.Kept P w K mg base 8 f fd ["script"] (spLaw K) := by
  have GCO : FnOk P w K mg base CX0 1 fCO dCO ["outer", "inner"] (spCont K) := ok_Cont T.FCO
  have GRG : FnOk P w K mg base CX0 1 fRG dRG ["one", "other"] spRng := ok_Rng T.FRG T.min T.max
  have GIL : FnOk P w K mg base CX0 2 fIL dIL ["points", "reading"] (spLO K) := ok_LO T.FIL T.FBT T.gBT T.bBT T.len
  have GTP0 : FnOk P w K mg base CX0 3 fTP dTP ["load"] (spTP K) := both (ok_TPl T.FTP GIL T.gIL T.kIL T.bIL T.tuple) (ok_TPt T.FTP GIL T.gIL T.kIL T.bIL T.tuple)
  have GTP : FnOk P w K mg base CX0 3 fTP dTP ["load"] (spTPq K) := tpq_of GTP0
  have GSW : FnOk P w K mg base CX0 4 fSW dSW ["load"] (spSw K) := ok_sw T.FSW GTP0 T.gTP T.kTP T.bTP (GRG.mono (by decide)) T.gRG T.kRG T.bRG T.zip
  have GMT : FnOk P w K mg base CX0 2 fMT dMT ["points", "place"] (spMT K) := ok_MT T.FMT T.abs
  have GPB_ : FnOk P w K mg base CX0 3 fPB_ dPB_ ["rest", "reading"] spPB := ok_PB T.FPB GIL T.gIL T.kIL T.bIL GMT T.gMT T.kMT T.bMT (GRG.mono (by decide)) T.gRG T.kRG T.bRG T.len
  have GCN : FnOk P w K mg base CX0 4 fCN dCN ["load"] (spCo K) := ok_Co T.FCN GPB_ T.gPB T.kPB T.bPB
  have GIN : FnOk P w K mg base CX0 1 fIN dIN ["self", "cycles", "rest"] (spInit K C) := ok_init T.FIN T.cn T.sorted T.tuple
  have GOF : FnOk P w K mg base CX0 5 fOF dOF ["cls", "load"] (spOf K C) := ok_of T.FOF T.mkc (GIN.mono (by decide)) T.bIN GCN T.gCN T.kCN T.bCN
  have GPH : FnOk P w K mg base CX0 5 fPH dPH ["self"] (spPH C) := ok_PH T.FPH T.cn GSW T.gSW T.kSW T.bSW T.sorted T.tuple
  have GPG : FnOk P w K mg base CX0 7 fPG dPG ["self", "low", "high"] (spPG C) := ok_PG T.FPG T.cn T.prH GPH T.bPH (GCO.mono (by decide)) T.gCO T.kCO T.bCO T.len
  have GCH : FnOk P w K mg base CX0 1 fCH dCH ["load", "low", "high"] (spCh K) := ok_ch T.FCH T.len T.zip
  have GTA : FnOk P w K mg base CX0 1 fTA dTA ["feed", "many"] spTake := ok_take T.FTA
  have GFE : FnOk P w K mg base CX0 1 fFE dFE ["script", "k"] (spFeed K) := ok_feed T.FFE T.len T.max T.abs
  have GSM : FnOk P w K mg base CX0 3 fSM dSM ["feed"] spSmall := ok_small T.FSM T.FTA T.gTA T.bTA T.FPI T.gPI T.bPI T.len T.range
  have GTB : FnOk P w K mg base CX0 2 fTB dTB ["load"] (spTab K) := ok_tab T.FTB GCH T.gCH T.kCH T.bCH T.range
  have GCO := GCO.mono (show 1 ≤ 7 by decide)
  have GRG := GRG.mono (show 1 ≤ 7 by decide)
  have GIL := GIL.mono (show 2 ≤ 7 by decide)
  have GTP0 := GTP0.mono (show 3 ≤ 7 by decide)
  have GTP := GTP.mono (show 3 ≤ 7 by decide)
  have GSW := GSW.mono (show 4 ≤ 7 by decide)
  have GMT := GMT.mono (show 2 ≤ 7 by decide)
  have GPB_ := GPB_.mono (show 3 ≤ 7 by decide)
  have GCN := GCN.mono (show 4 ≤ 7 by decide)
  have GIN := GIN.mono (show 1 ≤ 7 by decide)
  have GOF := GOF.mono (show 5 ≤ 7 by decide)
  have GPH := GPH.mono (show 5 ≤ 6 by decide)
  have GPG := GPG.mono (show 7 ≤ 7 by decide)
  have GCH := GCH.mono (show 1 ≤ 7 by decide)
  have GTA := GTA.mono (show 1 ≤ 7 by decide)
  have GFE := GFE.mono (show 1 ≤ 7 by decide)
  have GSM := GSM.mono (show 3 ≤ 7 by decide)
  have GTB := GTB.mono (show 2 ≤ 7 by decide)
  refine KW.kept_of F scLaw (fun vs H Q E h => ?_) (fun cdv A outer s H vs Q E hgA hr h => ?_)
  · obtain ⟨a, ns, rfl, _⟩ := h
    rfl
  · obtain ⟨a, ns, rfl, hS, hlen, q⟩ := h
    have h5 := hr
    have h4 := hr
    have h3 := hr
    have h2 := hr
    have h1 := hr
    have hu := hu_of hr
    refine ⟨_, (pss_cons (ps_for PassesOwn.never rfl (pi_range1 rfl T.range (pa_cons (pe_callB (call_max2 rfl) (by rfl) T.max (by decide +kernel) (pa_cons pe_int (pa_cons (pe_callB (call_min2 rfl) (by rfl) T.min (by decide +kernel) (pa_cons pe_int (pa_cons (pe_callB call_len_seq (by rfl) T.len PySem.boot_len (pa_cons (pv 0) pa_nil)) pa_nil))) pa_nil))) pa_nil)) (pg_name (i := 1) scLaw.nd rfl (.inl rfl))
      (pss_cons (ps_set (i := 2) scLaw.nd rfl (.inl rfl) (pe_call GFE h1 (by rfl) T.gFE T.kFE T.bFE .nil pass0 (pa_cons (pv 0) (pa_cons (pv 1) pa_nil))))
      (pss_cons (ps_set (i := 3) scLaw.nd rfl (.inl rfl) (pe_call GSM h3 (by rfl) T.gSM T.kSM T.bSM .nil pass0 (pa_cons (pv 2) pa_nil)))
      (pss_cons (ps_par (i := 4) (j := 5) (by rfl) scLaw.nd rfl rfl (by decide) rfl rfl (pa_cons (ClX.pe_cmeth (pe_glob (v := .ref C) (by rfl) T.gC rfl) T.rd T.cm (GOF.raw T.bOF .nil) h4 pass0 (pa_cons (pv 3) pa_nil)) (pa_cons (pe_call GTB h2 (by rfl) T.gTB T.kTB T.bTB .nil pass0 (pa_cons (pv 3) pa_nil)) pa_nil)) (by rfl))
      (pss_cons (ps_lock (ps_for PassesOwn.never rfl (pi_keys (pv 5)) (pg_tup rfl (pgs_cons (pg_name (i := 6) scLaw.nd rfl (.inr rfl)) (pgs_cons (pg_name (i := 7) scLaw.nd rfl (.inr rfl)) pgs_nil)))
      (pss_cons (ps_set (i := 8) scLaw.nd rfl (.inl rfl) (pe_callB call_len_seq (by rfl) T.len PySem.boot_len (pa_cons (pe_lc (own := [("one", 15)]) (g := gName 15) (tt := tB (tCall (spCont K) [] E0 (tCons (tVar 15) (tCons (tTup (tCons (tVar 6) (tCons (tVar 7) tNil))) tNil)))) (te := tVar 15) rfl scLaw.nd (pi_tup (pe_prop (pv 4) T.cn.cl T.prH GPH h5 T.bPH .nil pass0 (by rfl))) (blkOk_by (own := [("one", 15)]) (N := ["script", "k", "feed", "load", "count", "table", "low", "high", "many", "just", "at", "left", "right", "other", "same", "one"]) (sc := defScope sLaw) (by decide +kernel)) (fun _ _ _ _ _ => pg_name (i := 15) scLaw.nd rfl (Or.inl rfl) (Or.inr rfl)) (fun _ _ _ _ _ => pts_one (pt_val (pe_call GCO h1 (by rfl) T.gCO T.kCO T.bCO .nil pass0 (pa_cons (pv 15) (pa_cons (pe_tup (pa_cons (pv 6) (pa_cons (pv 7) pa_nil))) pa_nil))))) (fun _ _ _ _ _ => pv 15)) pa_nil)))
      (pss_cons (ps_if (PW.pt (pw_or (pt_cmpR op_ne (pv 8) (pe_dget hu (pv 5) (pe_tup (pa_cons (pv 6) (pa_cons (pv 7) pa_nil))) (fun _ _ => rfl)) (nomark _)) (pw_or1 (pt_cmpR op_ne (pe_meth (pv 4) T.cn.cl T.mPG GPG hr T.bPG .nil pass0 (pa_cons (pv 6) (pa_cons (pv 7) pa_nil))) (pv 8) (nomark _))))) (pss_one (ps_ret pe_bl)) pss_nil)
      (pss_one (ps_if (PW.pt (pw_and (pt_cmpR op_gt (pv 6) (pe_un un_neg pe_int) (nomark _)) (pw_and1 (pt_cmpR op_lt (pv 7) pe_int (nomark _))))) (pss_cons (ps_set (i := 9) scLaw.nd rfl (.inl rfl) (pe_op op_sub (pe_dget hu (pv 5) (pe_tup (pa_cons (pv 6) (pa_cons (pv 7) pa_nil))) (fun _ _ => rfl)) (pe_dget hu (pv 5) (pe_tup (pa_cons (pe_op op_sub (pv 6) pe_int) (pa_cons (pv 7) pa_nil))) (fun _ _ => rfl))))
      (pss_cons (ps_set (i := 9) scLaw.nd rfl (.inl rfl) (pe_op op_add (pe_op op_sub (pv 9) (pe_dget hu (pv 5) (pe_tup (pa_cons (pv 6) (pa_cons (pe_op op_add (pv 7) pe_int) pa_nil))) (fun _ _ => rfl))) (pe_dget hu (pv 5) (pe_tup (pa_cons (pe_op op_sub (pv 6) pe_int) (pa_cons (pe_op op_add (pv 7) pe_int) pa_nil))) (fun _ _ => rfl))))
      (pss_one (ps_if (pt_cmpR op_ne (pv 9) (pe_callB call_len_seq (by rfl) T.len PySem.boot_len (pa_cons (pe_lc (own := [("one", 15)]) (g := gName 15) (tt := tB (tOp (rEqD K) (tVar 15) (tTup (tCons (tVar 6) (tCons (tVar 7) tNil))))) (te := tVar 15) rfl scLaw.nd (pi_tup (pe_prop (pv 4) T.cn.cl T.prH GPH h5 T.bPH .nil pass0 (by rfl))) (blkOk_by (own := [("one", 15)]) (N := ["script", "k", "feed", "load", "count", "table", "low", "high", "many", "just", "at", "left", "right", "other", "same", "one"]) (sc := defScope sLaw) (by decide +kernel)) (fun _ _ _ _ _ => pg_name (i := 15) scLaw.nd rfl (Or.inl rfl) (Or.inr rfl)) (fun _ _ _ _ _ => pts_one (pt_cmpR (op_eqD hr.units) (pv 15) (pe_tup (pa_cons (pv 6) (pa_cons (pv 7) pa_nil))) (nomark _))) (fun _ _ _ _ _ => pv 15)) pa_nil)) (nomark _)) (pss_one (ps_ret pe_bl)) pss_nil)))) pss_nil))))))
      (pss_cons (ps_set (i := 10) scLaw.nd rfl (.inl rfl) (pe_call GTA h1 (by rfl) T.gTA T.kTA T.bTA .nil pass0 (pa_cons (pv 2) (pa_cons (pe_op op_add (pe_callB call_len_seq (by rfl) T.len PySem.boot_len (pa_cons (pv 3) pa_nil)) pe_int) pa_nil))))
      (pss_cons (ps_par (i := 11) (j := 12) (by rfl) scLaw.nd rfl rfl (by decide) rfl rfl (pa_cons (pe_slice sl_list (pv 3) po_none (po_some (pv 10))) (pa_cons (pe_slice sl_list (pv 3) (po_some (pv 10)) po_none) pa_nil)) (by rfl))
      (pss_one (ps_for PassesOwn.never rfl (pi_list (pe_lst (pa_cons (GR.pe_back (pv 3) (po_some (pe_un un_neg pe_int))) (pa_cons (pe_op op_cat (pv 11) (pe_slice sl_list (pv 12) (po_some pe_int) po_none)) (pa_cons (pe_op op_cat (pv 12) (pv 11)) (pa_cons (pe_call GSM h3 (by rfl) T.gSM T.kSM T.bSM .nil pass0 (pa_cons (pv 2) pa_nil)) pa_nil)))))) (pg_name (i := 13) scLaw.nd rfl (.inl rfl))
      (pss_cons (ps_set (i := 14) scLaw.nd rfl (.inl rfl) (pe_cmpR (op_eqD hr.units) (pe_prop (ClX.pe_cmeth (pe_glob (v := .ref C) (by rfl) T.gC rfl) T.rd T.cm (GOF.raw T.bOF .nil) h4 pass0 (pa_cons (pv 13) pa_nil)) T.cn.cl T.prH GPH h5 T.bPH .nil pass0 (by rfl)) (pe_prop (pv 4) T.cn.cl T.prH GPH h5 T.bPH .nil pass0 (by rfl)) (nomark _)))
      (pss_one (ps_if (pt_cmpR op_ne (pv 14) (pe_cmpR (GE.op_eqT hu) (pe_call GTB h2 (by rfl) T.gTB T.kTB T.bTB .nil pass0 (pa_cons (pv 13) pa_nil)) (pv 5) (nomark _)) (nomark _)) (pss_one (ps_ret pe_bl)) pss_nil))))))))))))
      (pss_one (ps_ret pe_bl))), ?_⟩
    -- for k
    refine ⟨.ref a, rfl, a, ns.map V.int, rfl, .inl hS, 4, ((ns.map V.int).length : Int), rfl, 2, _, rfl, _, rfl, ?_⟩
    generalize hm : (if (if ((ns.map V.int).length : Int) < 4 then ((ns.map V.int).length : Int) else 4) > 2 then (if ((ns.map V.int).length : Int) < 4 then ((ns.map V.int).length : Int) else 4) else 2) = m
    have m0 : 0 ≤ m ∧ m ≤ 4 := by subst hm; split <;> split <;> omega
    refine ⟨by omega, by omega, for_range (lo := 0) (n := m.toNat) (fun i σ H' => Same H H' ∧ ∃ r1 r2 r3 r4 r5 r6 r7 r8 r9 r10 r11 r12 r13 r14 r15 : Option V, σ = [some (.ref a), r1, r2, r3, r4, r5, r6, r7, r8, r9, r10, r11, r12, r13, r14, r15]) ⟨Same.refl H, _, _, _, _, _, _, _, _, _, _, _, _, _, _, _, rfl⟩ ?_ (fun σ H' _ => q H')⟩
    rintro i σ H' hi ⟨sm, r1, r2, r3, r4, r5, r6, r7, r8, r9, r10, r11, r12, r13, r14, r15, rfl⟩
    refine ⟨.ref a, rfl, .int (0 + (i : Int)), rfl, a, ns, 0 + (i : Int), rfl, sm.seq hS, by omega, by omega, fun H1 f s1 nf fe => ?_⟩
    have hf0 : H f = none := sm.free nf
    refine ⟨.ref f, rfl, f, rfl, fe, fun H2 p load c2 fe2 np0 hp hl hb => ?_⟩
    have np : p ≠ f := fe.ne np0
    have sm2 : Same H H2 := c2.old hf0 (sm.trans s1)
    have htl : (tp load).length ≤ 25 := by have := tp_len load; omega
    refine ⟨rfl, .ref p, rfl, p, load, rfl, .inl (SqL.of hp), by omega, fun H3 x cs ds rs s3 nx ca run nfr perm srt => ⟨.ref p, rfl, p, load, rfl, SqL.of (s3 _ _ hp), by omega, fun H4 t s4 nt et => ?_⟩⟩
    have sm4 : Same H H4 := sm2.trans (s3.trans s4)
    have fe4 := fe2.same (s3.trans s4)
    have hp4 := s4 _ _ (s3 _ _ hp)
    have ca4 := ca.same s4
    have hrl := run.len
    have zr : ZZ rs := run.zz (tp_zz load)
    have hdl : ds.length = cs.length := perm.length_eq
    have sat2 : ∀ {Hx : Hp}, CountAt Hx C x ds rs → ∃ dx fs, Hx x = some (.ins C dx fs) := fun ⟨dx, _, _, _, h, _⟩ => ⟨dx, _, h⟩
    refine ⟨_, _, rfl, t, _, et, trivial, fun od => ?_⟩
    refine ⟨.ref t, rfl, t, od, rfl, .inr ⟨_, upd_same, ?_⟩⟩
    refine for_it walk_keysT (fun i σ Hx => Same (upd H4 t (.frz od (.dT (tab ((al 14).map kk) (fT load))))) Hx ∧ ∃ r1 r6 r7 r8 r9 r10 r11 r12 r13 r14 r15 : Option V, σ = [some (.ref a), r1, some (.ref f), some (.ref p), some (.ref x), some (.ref t), r6, r7, r8, r9, r10, r11, r12, r13, r14, r15]) ⟨Same.refl _, _, _, _, _, _, _, _, _, _, _, _, rfl⟩ (fun i σ Hx _ z => z.1 _ _ upd_same) ?_ ?_
    · rintro i y σ H5 H6 hi ⟨s5, r1, r6, r7, r8, r9, r10, r11, r12, r13, r14, r15, rfl⟩ ⟨rfl, k, v, qa, hk, rfl, hqa⟩
      obtain ⟨lo, hj, rfl, m1, m2, m3⟩ := key_at hk
      have ca5 : CountAt H6 C x ds rs := (E7.CountAt.dt ca4 (fun b o nb e => by rw [upd_ne nb]; exact e) et).same s5
      have et5 := s5 _ _ (upd_same (H := H4) (a := t) (o := .frz od (.dT (tab ((al 14).map kk) (fT load)))))
      obtain ⟨dx, fs, hx5⟩ := sat2 ca5
      refine ⟨qa, _, rfl, SqT.of hqa, rfl, .int lo, [.int hj], rfl, .int hj, [], rfl, rfl, ?_⟩
      -- many
      refine ⟨.ref x, rfl, x, dx, fs, rfl, hx5, x, ds, rs, rfl, ca5, by omega, by omega, zr, fun H7 th zs es s7 eth pe pm srth => ⟨th, rfl, ⟨_, SqT.of eth⟩, fun D nD => lc_tup (K := K) (a := th) (xs := zs) (fun i Hz => Same H7 Hz ∧ ∃ acc : List V, acc.length = nh lo hj (es.take i) ∧ Hz D = some (.lst acc)) ⟨same_new nD, [], rfl, upd_same⟩ (fun i Hz _ z => SqT.of (z.1 _ _ eth)) ?_ ?_⟩⟩
      · have le : es.length ≤ 8000 := by
          rw [pm.length_eq]
          simp only [List.length_append, sw_len]
          omega
        rintro i y Hz hy ⟨sz, acc, el, eD⟩
        obtain ⟨p1, r, rfl, er, hp1⟩ := pairs_get pe hy
        have hacc : acc.length ≤ 8000 := by
          rw [el]
          exact Nat.le_trans (List.countP_le_length) (by rw [List.length_take]; omega)
        refine ⟨rfl, .ref p1, rfl, .int lo, rfl, .int hj, rfl, by show 2 ≤ sizeLine; decide, fun q1 nq => ?_⟩
        have sq := same_new (o := .tup [.int lo, .int hj]) nq
        refine ⟨p1, q1, r.1, r.2, lo, hj, rfl, SqT.of (sq _ _ (sz _ _ hp1)), SqT.of upd_same, _, rfl, ?_⟩
        have step := nh_take (lo := lo) (hi := hj) er
        have eh : RC.hl lo hj r = (decide (r.1 ≤ lo) && decide (hj ≤ r.2)) := rfl
        rw [← eh]
        cases e : RC.hl lo hj r with
        | true =>
          rw [e] at step
          refine iteT ⟨.ref p1, rfl, _, sq _ _ eD, Nat.lt_of_le_of_lt hacc (by decide), same_again nD (sz.trans sq), acc ++ [.ref p1], by rw [List.length_append, el, step]; rfl, upd_same⟩
        | false =>
          rw [e] at step
          exact iteF ⟨sz.trans sq, acc, by rw [el, step]; rfl, sq _ _ eD⟩
      rintro H8 ⟨s8, acc, el, eD⟩
      have hcE : Hc load es := ⟨⟨cs, ds, rs, run, nfr, perm, pm⟩, srth⟩
      have emany : acc.length = KM.chg load lo hj := by
        rw [hcE.chg m2, el, List.take_of_length_le (by rw [pe.length]; exact Nat.le_refl _)]
      refine ⟨D, acc, rfl, .inl (SqL.of eD), ?_⟩
      have s58 : Same H6 H8 := s7.trans s8
      have dg : ∀ {Hx : Hp} {u v : Int} {q1 : Addr}, Same H8 Hx → Hx q1 = some (.tup [.int u, .int v]) → (-3 ≤ u ∧ u < v ∧ v ≤ 11) → DGet Hx t (.ref q1) (some (.int (KM.chg load u v : Nat))) := fun sx hx m => dgetT (sx _ _ (s58 _ _ et5)) hx m
      -- many != table[(low, high)]
      refine ⟨_, rfl, .ref t, rfl, .int lo, rfl, .int hj, rfl, by show 2 ≤ sizeLine; decide, fun q1 nq1 => ?_⟩
      have t1 := same_new (o := .tup [.int lo, .int hj]) nq1
      refine ⟨t, _, rfl, dg t1 upd_same ⟨m1, m2, m3⟩, rfl, _, rfl, iteNS (by rw [emany]) ?_⟩
      -- count.changes(low, high) != many
      have ca8 : CountAt (upd H8 q1 (.tup [.int lo, .int hj])) C x ds rs := ca5.same (s58.trans t1)
      have ca8' := ca8
      obtain ⟨dx8, u1, u2, ys8, hx8, _⟩ := ca8'
      refine ⟨.ref x, rfl, x, dx8, _, rfl, hx8, rfl, .int lo, rfl, .int hj, rfl, x, ds, rs, lo, hj, rfl, ca8, by omega, by omega, zr, fun H9 s9 => ?_⟩
      have ech : 2 * nh lo hj ds + nh lo hj (sw rs) = KM.chg load lo hj := by
        rw [hcE.chg m2, nh_perm pm, nh_app, nh_app]
        omega
      refine ⟨_, rfl, rfl, _, rfl, iteNS (by rw [ech, emany]) ?_⟩
      have s89 : Same H8 H9 := t1.trans s9
      -- if low > -3 and high < 11
      refine ⟨.int lo, rfl, 3, rfl, lo, -3, rfl, rfl, _, rfl, ite2 (fun c1 => ?_) (fun _ => iteF ⟨s5.trans (s58.trans s89), _, _, _, _, _, _, _, _, _, _, _, rfl⟩)⟩
      refine ⟨.int hj, rfl, hj, 11, rfl, rfl, _, rfl, ite2 (fun c2 => ?_) (fun _ => ⟨s5.trans (s58.trans s89), _, _, _, _, _, _, _, _, _, _, _, rfl⟩)⟩
      have l2 : 2 ≤ sizeLine := by decide
      have c1 : -3 < lo := of_decide_eq_true c1
      have c2 : hj < 11 := of_decide_eq_true c2
      refine ⟨.ref t, rfl, .int lo, rfl, .int hj, rfl, l2, fun k1 n1 => ?_⟩
      have v1 := s89.trans (same_new (o := .tup [.int lo, .int hj]) n1)
      refine ⟨t, _, rfl, dg v1 upd_same ⟨m1, m2, m3⟩, .ref t, rfl, .int lo, rfl, _, 1, rfl, rfl, .int hj, rfl, l2, fun k2 n2 => ?_⟩
      have v2 := v1.trans (same_new (o := .tup [.int (lo - 1), .int hj]) n2)
      refine ⟨t, _, rfl, dg v2 upd_same ⟨by omega, by omega, m3⟩, _, _, rfl, rfl, ?_⟩
      refine ⟨_, rfl, .ref t, rfl, .int lo, rfl, .int hj, rfl, _, 1, rfl, rfl, l2, fun k3 n3 => ?_⟩
      have v3 := v2.trans (same_new (o := .tup [.int lo, .int (hj + 1)]) n3)
      refine ⟨t, _, rfl, dg v3 upd_same ⟨m1, by omega, by omega⟩, _, _, rfl, rfl, .ref t, rfl, .int lo, rfl, _, 1, rfl, rfl, .int hj, rfl, _, 1, rfl, rfl, l2, fun k4 n4 => ?_⟩
      have v4 := v3.trans (same_new (o := .tup [.int (lo - 1), .int (hj + 1)]) n4)
      refine ⟨t, _, rfl, dg v4 upd_same ⟨by omega, by omega, by omega⟩, _, _, rfl, rfl, ?_⟩
      have caB := ca5.same (s58.trans v4)
      have s5B := s5.trans (s58.trans v4)
      generalize upd (upd (upd (upd H9 k1 (.tup [.int lo, .int hj])) k2 (.tup [.int (lo - 1), .int hj])) k3 (.tup [.int lo, .int (hj + 1)])) k4 (.tup [.int (lo - 1), .int (hj + 1)]) = HB at caB s5B ⊢
      obtain ⟨dxB, fsB, hxB⟩ := sat2 caB
      refine ⟨_, rfl, .ref x, rfl, x, dxB, fsB, rfl, hxB, x, ds, rs, rfl, caB, by omega, by omega, zr, fun HC th2 zs2 es2 sC eth2 pe2 pm2 srth2 => ?_⟩
      have ees : es2 = es := sorted_same (pm2.trans pm.symm) srth2 srth
      subst ees
      refine ⟨th2, rfl, ⟨_, SqT.of eth2⟩, fun D2 nD2 => lc_tup (K := K) (a := th2) (xs := zs2) (fun i Hz => Same HC Hz ∧ ∃ acc : List V, acc.length = (es2.take i).count (lo, hj) ∧ Hz D2 = some (.lst acc)) ⟨same_new nD2, [], rfl, upd_same⟩ (fun i Hz _ z => SqT.of (z.1 _ _ eth2)) ?_ ?_⟩
      · have le : es2.length ≤ 8000 := by
          rw [pm.length_eq]
          simp only [List.length_append, sw_len]
          omega
        rintro i y Hz hy ⟨sz, acc, el, eD⟩
        obtain ⟨p1, r, rfl, er, hp1⟩ := pairs_get pe2 hy
        have hacc : acc.length ≤ 8000 := by
          rw [el]
          exact Nat.le_trans (List.count_le_length) (by rw [List.length_take]; omega)
        refine ⟨rfl, .ref p1, rfl, .int lo, rfl, .int hj, rfl, l2, fun q1 nq => ?_⟩
        have sq := same_new (o := .tup [.int lo, .int hj]) nq
        refine ⟨.tuple (dInts [r.1, r.2]), .tuple (dInts [lo, hj]), .tup (SqT.of (sq _ _ (sz _ _ hp1))) (dp_ints [r.1, r.2]), .tup (SqT.of upd_same) (dp_ints [lo, hj]), shaped_tup _, shaped_tup _, _, rfl, ?_⟩
        have step := count_take (c := (lo, hj)) er
        rw [show PyData.eqv (.tuple (dInts [r.1, r.2])) (.tuple (dInts [lo, hj])) = decide (r = (lo, hj)) from ev_pair r.1 r.2 lo hj]
        cases e : decide (r = (lo, hj)) with
        | true =>
          rw [e] at step
          refine iteT ⟨.ref p1, rfl, _, sq _ _ eD, Nat.lt_of_le_of_lt hacc (by decide), same_again nD2 (sz.trans sq), acc ++ [.ref p1], by rw [List.length_append, el, step]; rfl, upd_same⟩
        | false =>
          rw [e] at step
          exact iteF ⟨sz.trans sq, acc, by rw [el, step]; rfl, sq _ _ eD⟩
      rintro HZ ⟨sZ, acc2, el2, eD2⟩
      have ej : acc2.length = es2.count (lo, hj) := by rw [el2, List.take_of_length_le (by rw [pe2.length]; exact Nat.le_refl _)]
      have jj := just (lo := lo) (hi := hj) es2
      rw [← hcE.chg (show lo - 1 < hj by omega), ← hcE.chg (show lo < hj + 1 by omega), ← hcE.chg m2, ← hcE.chg (show lo - 1 < hj + 1 by omega)] at jj
      refine ⟨D2, acc2, rfl, .inl (SqL.of eD2), rfl, _, rfl, iteNS (congrArg V.int (by omega)) ⟨s5B.trans (sC.trans sZ), _, _, _, _, _, _, _, _, _, _, _, rfl⟩⟩
    · rintro σ H5 ⟨s5, r1, r6, r7, r8, r9, r10, r11, r12, r13, r14, r15, rfl⟩
      refine ⟨s5 _ _ upd_same, ?_⟩
      have s46 : Same H4 (upd H5 t (.dT (tab ((al 14).map kk) (fT load)))) := fun b o e => by
        by_cases hb : b = t
        · subst hb
          rw [upd_same, ← e, et]
        · rw [upd_ne hb]
          exact s5 _ _ (by rw [upd_ne hb]; exact e)
      generalize upd H5 t (.dT (tab ((al 14).map kk) (fT load))) = H6 at s46 ⊢
      have fe6 := fe4.same s46
      have hp6 := s46 _ _ hp4
      have ca6 := ca4.same s46
      have et6 := s46 _ _ et
      have sm6 := sm4.trans s46
      have hml : (load.map V.int).length = load.length := List.length_map _
      clear s5 s46 fe4 hp4 ca4 et sm4
      refine ⟨.ref f, rfl, .ref p, rfl, p, _, rfl, .inl (SqL.of hp6), _, 1, rfl, rfl, f, _, rfl, by omega, by omega, fe6, fun H7 at' c7 fe7 a0 a1 => ?_⟩
      obtain ⟨j, rfl⟩ : ∃ j : Nat, at' = (j : Int) := ⟨at'.toNat, by omega⟩
      have hp7 := c7 _ _ np hp6
      have ca7 := E7.CountAt.ch ca6 c7 fe6
      have ntf : t ≠ f := fun z => by obtain ⟨d, st, _, _, _, e⟩ := fe6; rw [z, e] at et6; cases et6
      have et7 := c7 _ _ ntf et6
      have sm7 : Same H H7 := c7.old hf0 sm6
      refine ⟨.ref p, rfl, .int (j : Int), rfl, (j : Int), rfl, p, _, rfl, SqL.of hp7, fun p1 n1 => ?_⟩
      have w1 := same_new (o := .lst (cutV (load.map V.int) none (some (j : Int)))) n1
      refine ⟨.ref p, rfl, .int (j : Int), rfl, (j : Int), rfl, p, _, rfl, SqL.of (w1 _ _ hp7), fun p2 n2 => ⟨_, _, rfl, ?_⟩⟩
      have w2 := w1.trans (same_new (o := .lst (cutV (load.map V.int) (some (j : Int)) none)) n2)
      have e1 := (same_new (o := .lst (cutV (load.map V.int) (some (j : Int)) none)) n2) _ _ (upd_same (H := H7) (a := p1) (o := .lst (cutV (load.map V.int) none (some (j : Int)))))
      have e2 := upd_same (H := upd H7 p1 (.lst (cutV (load.map V.int) none (some (j : Int))))) (a := p2) (o := .lst (cutV (load.map V.int) (some (j : Int)) none))
      generalize upd (upd H7 p1 (.lst (cutV (load.map V.int) none (some (j : Int))))) p2 (.lst (cutV (load.map V.int) (some (j : Int)) none)) = H8 at w2 e1 e2 ⊢
      rw [E7.cut_to, ← List.map_take] at e1
      rw [E7.cut_from, ← List.map_drop] at e2
      refine ⟨.ref p, rfl, 1, rfl, -1, rfl, rfl, p, _, rfl, SqL.of (w2 _ _ hp7), fun p3 n3 => ?_⟩
      have w3 := same_new (o := .lst (load.map V.int).reverse) n3
      have e3 : (upd H8 p3 (.lst (load.map V.int).reverse)) p3 = some (.lst (load.reverse.map V.int)) := by rw [upd_same, List.map_reverse]
      generalize upd H8 p3 (.lst (load.map V.int).reverse) = H9 at w3 e3 ⊢
      have ec : cutV ((load.drop j).map V.int) (some 1) none = ((load.drop j).drop 1).map V.int := by
        rw [List.map_drop (i := 1)]
        exact E7.cut_from _ 1
      refine ⟨.ref p1, rfl, .ref p2, rfl, 1, rfl, p2, _, rfl, SqL.of (w3 _ _ e2), fun p4 n4 => ?_⟩
      rw [ec] at *
      have w4 := same_new (o := .lst (((load.drop j).drop 1).map V.int)) n4
      have tl : (load.take j).length ≤ 25 := by rw [List.length_take]; omega
      have dl : (load.drop j).length ≤ 25 := by rw [List.length_drop]; omega
      have ddl : ((load.drop j).drop 1).length ≤ 25 := by rw [List.length_drop]; omega
      have lens : ∀ {as bs : List Int}, as.length ≤ 25 → bs.length ≤ 25 → (as.map V.int).length + (bs.map V.int).length ≤ sizeLine := fun h1 h2 => by
        rw [List.length_map, List.length_map]
        exact Nat.le_trans (Nat.add_le_add h1 h2) (by decide)
      refine ⟨p1, p4, _, _, rfl, rfl, w4 _ _ (w3 _ _ e1), upd_same, lens tl ddl, fun p5 n5 => ?_⟩
      have w5 := w4.trans (same_new (o := .lst ((load.take j).map V.int ++ ((load.drop j).drop 1).map V.int)) n5)
      refine ⟨.ref p2, rfl, .ref p1, rfl, p2, p1, _, _, rfl, rfl, w5 _ _ (w3 _ _ e2), w5 _ _ (w3 _ _ e1), lens dl tl, fun p6 n6 => ?_⟩
      have p3f : p3 ≠ f := (fe7.same w2).ne n3
      have p5f : p5 ≠ f := (fe7.same (w2.trans (w3.trans w4))).ne n5
      have p6f : p6 ≠ f := (fe7.same (w2.trans (w3.trans w5))).ne n6
      have e5 : (upd (upd (upd H9 p4 (.lst (((load.drop j).drop 1).map V.int))) p5 (.lst ((load.take j).map V.int ++ ((load.drop j).drop 1).map V.int))) p6 (.lst ((load.drop j).map V.int ++ (load.take j).map V.int))) p5 = some (.lst ((load.take j ++ (load.drop j).drop 1).map V.int)) := by
        rw [List.map_append]
        exact (same_new (o := .lst ((load.drop j).map V.int ++ (load.take j).map V.int)) n6) _ _ upd_same
      have e6 : (upd (upd (upd H9 p4 (.lst (((load.drop j).drop 1).map V.int))) p5 (.lst ((load.take j).map V.int ++ ((load.drop j).drop 1).map V.int))) p6 (.lst ((load.drop j).map V.int ++ (load.take j).map V.int))) p6 = some (.lst ((load.drop j ++ load.take j).map V.int)) := by
        rw [List.map_append]
        exact upd_same
      have w6 := w5.trans (same_new (o := .lst ((load.drop j).map V.int ++ (load.take j).map V.int)) n6)
      generalize upd (upd (upd H9 p4 (.lst (((load.drop j).drop 1).map V.int))) p5 (.lst ((load.take j).map V.int ++ ((load.drop j).drop 1).map V.int))) p6 (.lst ((load.drop j).map V.int ++ (load.take j).map V.int)) = HX at e5 e6 w6 ⊢
      have wX : Same H7 HX := w2.trans (w3.trans w6)
      have e3X := w6 _ _ e3
      have feX := fe7.same wX
      refine ⟨.ref f, rfl, f, rfl, feX, fun HY p7 ms cY feY n7 e7 hl7 hb7 => ?_⟩
      have p7f : p7 ≠ f := feX.ne n7
      have g3 := cY _ _ p3f e3X
      have g5 := cY _ _ p5f e5
      have g6 := cY _ _ p6f e6
      have smY : Same H HY := cY.old hf0 (sm7.trans wX)
      have caY := E7.CountAt.ch (ca7.same wX) cY feX
      have etY := cY _ _ ntf (wX _ _ et7)
      refine ⟨by show 4 ≤ sizeLine; decide, fun l nl => ?_⟩
      have sl := same_new (o := .lst [.ref p3, .ref p5, .ref p6, .ref p7]) nl
      have four : ∀ y ∈ [V.ref p3, V.ref p5, V.ref p6, V.ref p7], ∃ (o : Addr) (ks : List Int), y = .ref o ∧ HY o = some (.lst (ks.map V.int)) ∧ ks.length ≤ 25 ∧ ∀ z ∈ ks, -2 ≤ z ∧ z ≤ 9 := by
        intro y hy
        simp only [List.mem_cons, List.not_mem_nil, or_false] at hy
        rcases hy with e | e | e | e
        · exact ⟨p3, _, e, g3, by rw [List.length_reverse]; omega, fun z hz => hb z (List.mem_reverse.mp hz)⟩
        · refine ⟨p5, _, e, g5, by rw [List.length_append, List.length_drop, List.length_drop, List.length_take]; omega, fun z hz => ?_⟩
          rcases List.mem_append.mp hz with hz | hz
          · exact hb z (List.mem_of_mem_take hz)
          · exact hb z (List.mem_of_mem_drop (List.mem_of_mem_drop hz))
        · refine ⟨p6, _, e, g6, by rw [List.length_append, List.length_drop, List.length_take]; omega, fun z hz => ?_⟩
          rcases List.mem_append.mp hz with hz | hz
          · exact hb z (List.mem_of_mem_drop hz)
          · exact hb z (List.mem_of_mem_take hz)
        · exact ⟨p7, _, e, e7, hl7, hb7⟩
      refine ⟨l, rfl, ⟨_, SqL.of upd_same⟩, for_list (K := K) (a := l) (xs := [.ref p3, .ref p5, .ref p6, .ref p7])
        (fun i σ H' => Same (upd HY l (.lst [.ref p3, .ref p5, .ref p6, .ref p7])) H' ∧ ∃ r1 r6 r7 r8 r9 r13 r14 r15 : Option V, σ = [some (.ref a), r1, some (.ref f), some (.ref p), some (.ref x), some (.ref t), r6, r7, r8, r9, some (.int (j : Int)), some (.ref p1), some (.ref p2), r13, r14, r15]) ⟨Same.refl _, _, _, _, _, _, _, _, _, rfl⟩ (fun i σ H' _ z => SqL.of (z.1 _ _ upd_same)) ?_ ?_⟩
      · rintro i y σ H' hy ⟨sH, r1, r6, r7, r8, r9, r13, r14, r15, rfl⟩
        obtain ⟨o, ks, rfl, ho, hkl, hkb⟩ := four y (List.mem_of_getElem? hy)
        have sYH := sl.trans sH
        have hoH := sYH _ _ ho
        have hkt : (tp ks).length ≤ 25 := by have := tp_len ks; omega
        refine ⟨rfl, .ref o, rfl, o, ks, rfl, .inl (SqL.of hoH), by omega, fun HA x2 cs2 ds2 rs2 sA nx2 caA run2 nf2 perm2 srt2 => ?_⟩
        have hr2 := run2.len
        have hd2 : ds2.length = cs2.length := perm2.length_eq
        have zr2 : ZZ rs2 := run2.zz (tp_zz ks)
        obtain ⟨dx2, fs2, hx2⟩ := (show ∃ dx fs, HA x2 = some (.ins C dx fs) from let ⟨dx, _, _, _, h, _⟩ := caA; ⟨dx, _, h⟩)
        refine ⟨x2, dx2, fs2, rfl, hx2, x2, ds2, rs2, rfl, caA, by omega, by omega, zr2, fun HB t2 ys2 es2 sB etB paB pmB srB => ?_⟩
        have caB := caY.same (sYH.trans (sA.trans sB))
        obtain ⟨dxB, fsB, hxB⟩ := sat2 caB
        refine ⟨.ref x, rfl, x, dxB, fsB, rfl, hxB, x, ds, rs, rfl, caB, by omega, by omega, zr, fun HC t3 ys3 es3 sC etC paC pmC srC => ?_⟩
        refine ⟨.tuple (dPairs es2), .tuple (dPairs es3), .tup (SqT.of (sC _ _ etB)) (dp_pairs (paB.same sC)), .tup (SqT.of etC) (dp_pairs paC), shaped_prt _, shaped_prt _, ?_⟩
        have sHC := sA.trans (sB.trans sC)
        refine ⟨_, rfl, .ref o, rfl, o, ks, rfl, SqL.of (sHC _ _ hoH), by omega, fun HD td sD ntd etd => ?_⟩
        refine ⟨.ref t, rfl, td, t, _, fT ks, fT load, rfl, rfl, etd, sD _ _ (sHC _ _ (sYH _ _ etY)), rfl, _, rfl, iteNS (congrArg V.bl ?_) ⟨sH.trans (sHC.trans sD), _, _, _, _, _, _, _, _, rfl⟩⟩
        rw [← key_same ⟨⟨cs2, ds2, rs2, run2, nf2, perm2, pmB⟩, srB⟩ ⟨⟨cs, ds, rs, run, nfr, perm, pmC⟩, srC⟩ hkb hb]
        exact ev_pairs es2 es3
      · rintro σ H' ⟨sH, r1, r6, r7, r8, r9, r13, r14, r15, rfl⟩
        exact ⟨smY.trans (sl.trans sH), _, _, _, _, _, _, _, _, _, _, _, _, _, _, _, rfl⟩
end
end E8

namespace E8EndN
open PySem PySem.Spec PyProof.Rows L2 KA KD KM PH PM PA PB PC RM RN RC QE QF QG QH QJ QK QL QT QS GE E7 RE E8
theorem all_mk {l : PySem.W.OpenLaw} {w : World} {K : PySem.W.Frag} {h : Heap} {mg : Str → Option Value} {fa C pO pE f1 f2 f3 fIL f4 f5 f6 f7 fPB f8 f9 f10 f11 f12 f13 f14 fI fO fE fG : Addr} (X : K.In h) (G : h.Ns mainGlobals mg) (hfa : mg "law" = some (.ref fa))
    {od1 an1 od2 an2 od3 an3 odIL anIL od4 an4 od5 an5 od6 an6 od7 an7 odPB anPB od8 an8 od9 an9 od10 an10 od11 an11 od12 an12 od13 an13 od14 an14 odI anI odO anO odE anE odG anG : Option Addr} {sl1 sl2 sl3 slIL sl4 sl5 sl6 sl7 slPB sl8 sl9 sl10 sl11 sl12 sl13 sl14 slI slO slE slG : Array (Option Value)} {oc1 kV1 dc1 pm1 cd1 ct1 oc2 kV2 dc2 pm2 cd2 ct2 oc3 kV3 dc3 pm3 cd3 ct3 ocIL kVIL dcIL pmIL cdIL ctIL oc4 kV4 dc4 pm4 cd4 ct4 oc5 kV5 dc5 pm5 cd5 ct5 oc6 kV6 dc6 pm6 cd6 ct6 oc7 kV7 dc7 pm7 cd7 ct7 ocPB kVPB dcPB pmPB cdPB ctPB oc8 kV8 dc8 pm8 cd8 ct8 oc9 kV9 dc9 pm9 cd9 ct9 oc10 kV10 dc10 pm10 cd10 ct10 oc11 kV11 dc11 pm11 cd11 ct11 oc12 kV12 dc12 pm12 cd12 ct12 oc13 kV13 dc13 pm13 cd13 ct13 oc14 kV14 dc14 pm14 cd14 ct14 ocI kVI dcI pmI cdI ctI ocO kVO dcO pmO cdO ctO ocE kVE dcE pmE cdE ctE ocG kVG dcG pmG cdG ctG : Value} {rO rE : List Value}
    (a1 : PySem.W.nsIn K mainGlobals "contains" = some (some (.ref f1)))
    (l1 : K.lookup f1 = some ⟨oc1, od1, .func (PySem.W.fnOf "contains" "contains" (defArgs sCont) (defBody sCont) (defScope sCont) .none kV1 dc1 pm1 an1 cd1 ct1), sl1⟩)
    (c1 : PySem.W.codeIn K cd1 "contains" = true)
    (k1 : PySem.W.keepIn K (.ref f1) = true)
    (a2 : PySem.W.nsIn K mainGlobals "range_of" = some (some (.ref f2)))
    (l2 : K.lookup f2 = some ⟨oc2, od2, .func (PySem.W.fnOf "range_of" "range_of" (defArgs sRng) (defBody sRng) (defScope sRng) .none kV2 dc2 pm2 an2 cd2 ct2), sl2⟩)
    (c2 : PySem.W.codeIn K cd2 "range_of" = true)
    (k2 : PySem.W.keepIn K (.ref f2) = true)
    (a3 : PySem.W.nsIn K mainGlobals "turning_points" = some (some (.ref f3)))
    (l3 : K.lookup f3 = some ⟨oc3, od3, .func (PySem.W.fnOf "turning_points" "turning_points" (defArgs sTP) (defBody sTP) (defScope sTP) .none kV3 dc3 pm3 an3 cd3 ct3), sl3⟩)
    (c3 : PySem.W.codeIn K cd3 "turning_points" = true)
    (k3 : PySem.W.keepIn K (.ref f3) = true)
    (aIL : PySem.W.nsIn K mainGlobals "is_left_out" = some (some (.ref fIL))) (lIL : K.lookup fIL = some ⟨ocIL, odIL, .func (PySem.W.fnOf "is_left_out" "is_left_out" (defArgs sLO) (defBody sLO) (defScope sLO) .none kVIL dcIL pmIL anIL cdIL ctIL), slIL⟩) (cIL : PySem.W.codeIn K cdIL "is_left_out" = true) (kIL : PySem.W.keepIn K (.ref fIL) = true)
    (a4 : PySem.W.nsIn K mainGlobals "_lies_between" = some (some (.ref f4)))
    (l4 : K.lookup f4 = some ⟨oc4, od4, .func (PySem.W.fnOf "_lies_between" "_lies_between" (defArgs sBtw) (defBody sBtw) (defScope sBtw) .none kV4 dc4 pm4 an4 cd4 ct4), sl4⟩)
    (c4 : PySem.W.codeIn K cd4 "_lies_between" = true)
    (k4 : PySem.W.keepIn K (.ref f4) = true)
    (a5 : PySem.W.nsIn K mainGlobals "swings" = some (some (.ref f5)))
    (l5 : K.lookup f5 = some ⟨oc5, od5, .func (PySem.W.fnOf "swings" "swings" (defArgs sSw) (defBody sSw) (defScope sSw) .none kV5 dc5 pm5 an5 cd5 ct5), sl5⟩)
    (c5 : PySem.W.codeIn K cd5 "swings" = true)
    (k5 : PySem.W.keepIn K (.ref f5) = true)
    (a6 : PySem.W.nsIn K mainGlobals "changes" = some (some (.ref f6)))
    (l6 : K.lookup f6 = some ⟨oc6, od6, .func (PySem.W.fnOf "changes" "changes" (defArgs sCh) (defBody sCh) (defScope sCh) .none kV6 dc6 pm6 an6 cd6 ct6), sl6⟩)
    (c6 : PySem.W.codeIn K cd6 "changes" = true)
    (k6 : PySem.W.keepIn K (.ref f6) = true)
    (a7 : PySem.W.nsIn K mainGlobals "_may_be_taken" = some (some (.ref f7)))
    (l7 : K.lookup f7 = some ⟨oc7, od7, .func (PySem.W.fnOf "_may_be_taken" "_may_be_taken" (defArgs sMT) (defBody sMT) (defScope sMT) .none kV7 dc7 pm7 an7 cd7 ct7), sl7⟩)
    (c7 : PySem.W.codeIn K cd7 "_may_be_taken" = true)
    (k7 : PySem.W.keepIn K (.ref f7) = true)
    (aPB : PySem.W.nsIn K mainGlobals "put_behind" = some (some (.ref fPB))) (lPB : K.lookup fPB = some ⟨ocPB, odPB, .func (PySem.W.fnOf "put_behind" "put_behind" (defArgs sPB) (defBody sPB) (defScope sPB) .none kVPB dcPB pmPB anPB cdPB ctPB), slPB⟩) (cPB : PySem.W.codeIn K cdPB "put_behind" = true) (kPB : PySem.W.keepIn K (.ref fPB) = true)
    (a8 : PySem.W.nsIn K mainGlobals "_counted" = some (some (.ref f8)))
    (l8 : K.lookup f8 = some ⟨oc8, od8, .func (PySem.W.fnOf "_counted" "_counted" (defArgs sCo) (defBody sCo) (defScope sCo) .none kV8 dc8 pm8 an8 cd8 ct8), sl8⟩)
    (c8 : PySem.W.codeIn K cd8 "_counted" = true)
    (k8 : PySem.W.keepIn K (.ref f8) = true)
    (a9 : PySem.W.nsIn K mainGlobals "_law_feed" = some (some (.ref f9)))
    (l9 : K.lookup f9 = some ⟨oc9, od9, .func (PySem.W.fnOf "_law_feed" "_law_feed" (defArgs sFeed) (defBody sFeed) (defScope sFeed) .none kV9 dc9 pm9 an9 cd9 ct9), sl9⟩)
    (c9 : PySem.W.codeIn K cd9 "_law_feed" = true)
    (k9 : PySem.W.keepIn K (.ref f9) = true)
    (a10 : PySem.W.nsIn K mainGlobals "_law_take" = some (some (.ref f10)))
    (l10 : K.lookup f10 = some ⟨oc10, od10, .func (PySem.W.fnOf "_law_take" "_law_take" (defArgs sTake) (defBody sTake) (defScope sTake) .none kV10 dc10 pm10 an10 cd10 ct10), sl10⟩)
    (c10 : PySem.W.codeIn K cd10 "_law_take" = true)
    (k10 : PySem.W.keepIn K (.ref f10) = true)
    (a11 : PySem.W.nsIn K mainGlobals "_law_pick" = some (some (.ref f11)))
    (l11 : K.lookup f11 = some ⟨oc11, od11, .func (PySem.W.fnOf "_law_pick" "_law_pick" (defArgs sPick) (defBody sPick) (defScope sPick) .none kV11 dc11 pm11 an11 cd11 ct11), sl11⟩)
    (c11 : PySem.W.codeIn K cd11 "_law_pick" = true)
    (k11 : PySem.W.keepIn K (.ref f11) = true)
    (a12 : PySem.W.nsIn K mainGlobals "_law_small" = some (some (.ref f12)))
    (l12 : K.lookup f12 = some ⟨oc12, od12, .func (PySem.W.fnOf "_law_small" "_law_small" (defArgs sSmall) (defBody sSmall) (defScope sSmall) .none kV12 dc12 pm12 an12 cd12 ct12), sl12⟩)
    (c12 : PySem.W.codeIn K cd12 "_law_small" = true)
    (k12 : PySem.W.keepIn K (.ref f12) = true)
    (a13 : PySem.W.nsIn K mainGlobals "_law_table" = some (some (.ref f13)))
    (l13 : K.lookup f13 = some ⟨oc13, od13, .func (PySem.W.fnOf "_law_table" "_law_table" (defArgs sTab) (defBody sTab) (defScope sTab) .none kV13 dc13 pm13 an13 cd13 ct13), sl13⟩)
    (c13 : PySem.W.codeIn K cd13 "_law_table" = true)
    (k13 : PySem.W.keepIn K (.ref f13) = true)
    (a14 : PySem.W.nsIn K mainGlobals "law" = some (some (.ref f14)))
    (l14 : K.lookup f14 = some ⟨oc14, od14, .func (PySem.W.fnOf "law" "law" (defArgs sLaw) (defBody sLaw) (defScope sLaw) .none kV14 dc14 pm14 an14 cd14 ct14), sl14⟩)
    (c14 : PySem.W.codeIn K cd14 "law" = true)
    (k14 : PySem.W.keepIn K (.ref f14) = true)
    (aC : PySem.W.nsIn K mainGlobals "Count" = some (some (.ref C)))
    (pg : PySem.W.plainGet K C Str.empty = true)
    (hd : PySem.W.hasDictIn K C = true)
    (po : PySem.W.plainOver K C = true)
    (sa : PySem.W.findIn K (.ref C) "__setattr__" = some (some (.builtin "object.__setattr__")))
    (nC : PySem.W.findIn K (.ref C) "_cycles" = some none)
    (nR : PySem.W.findIn K (.ref C) "_rest" = some none)
    (mk : PySem.W.makesIn K C = true)
    (kc : PySem.W.keepIn K (.ref C) = true)
    (aI : PySem.W.findIn K (.ref C) "__init__" = some (some (.ref fI)))
    (iI : PySem.W.isFn K (.ref fI) = true)
    (lI : K.lookup fI = some ⟨ocI, odI, .func (PySem.W.fnOf "__init__" "Count.__init__" (defArgs sInit) (defBody sInit) (defScope sInit) .none kVI dcI pmI anI cdI ctI), slI⟩)
    (cI : PySem.W.codeIn K cdI "Count.__init__" = true)
    (kI : PySem.W.keepIn K (.ref fI) = true)
    (rd : PySem.W.readsIn K C (.type "type") = true)
    (ga : PySem.W.specialIn K (.ref C) "__getattribute__" = some (some (.builtin "type.__getattribute__")))
    (aO : PySem.W.findCls K (.ref C) (.type "type") "of" = some (.get (.builtin "classmethod.__get__") (.ref pO) .none (.ref C)))
    (rcO : PySem.W.recIn K pO "classmethod" = some (.ref fO :: rO))
    (fiO : PySem.W.fnIn K fO = true)
    (lO : K.lookup fO = some ⟨ocO, odO, .func (PySem.W.fnOf "of" "Count.of" (defArgs sOf) (defBody sOf) (defScope sOf) .none kVO dcO pmO anO cdO ctO), slO⟩)
    (cO : PySem.W.codeIn K cdO "Count.of" = true)
    (kO : PySem.W.keepIn K (.ref fO) = true)
    (aE : PySem.W.findIn K (.ref C) "half_cycles" = some (some (.ref pE)))
    (gE : PySem.W.specialIn K (.ref pE) "__get__" = some (some (.builtin "property.__get__")))
    (tE : PySem.W.takesIn K (.ref pE) = some true)
    (rcE : PySem.W.recIn K pE "property" = some (.ref fE :: rE))
    (lE : K.lookup fE = some ⟨ocE, odE, .func (PySem.W.fnOf "half_cycles" "Count.half_cycles" (defArgs sPH) (defBody sPH) (defScope sPH) .none kVE dcE pmE anE cdE ctE), slE⟩)
    (cE : PySem.W.codeIn K cdE "Count.half_cycles" = true)
    (kE : PySem.W.keepIn K (.ref fE) = true)
    (aG : PySem.W.findIn K (.ref C) "changes" = some (some (.ref fG)))
    (iG : PySem.W.isFn K (.ref fG) = true)
    (lG : K.lookup fG = some ⟨ocG, odG, .func (PySem.W.fnOf "changes" "Count.changes" (defArgs sPG) (defBody sPG) (defScope sPG) .none kVG dcG pmG anG cdG ctG), slG⟩)
    (cG : PySem.W.codeIn K cdG "Count.changes" = true)
    (kG : PySem.W.keepIn K (.ref fG) = true)
    (z1 : PySem.W.nsIn K mainGlobals "len" = some none)
    (z2 : PySem.W.nsIn K mainGlobals "zip" = some none)
    (z3 : PySem.W.nsIn K mainGlobals "max" = some none)
    (z4 : PySem.W.nsIn K mainGlobals "min" = some none)
    (z5 : PySem.W.nsIn K mainGlobals "abs" = some none)
    (z6 : PySem.W.nsIn K mainGlobals "range" = some none)
    (z7 : PySem.W.nsIn K mainGlobals "sorted" = some none)
    (z8 : PySem.W.nsIn K mainGlobals "tuple" = some none) :
    ∃ fd : FuncData, (∀ (s : Shared) (v : Value), BindsTo s fd ⟨[v], []⟩ [("script", v)]) ∧ ∀ base : Heap, K.In base → base.Ns mainGlobals mg → KW.Kept l.prog w K mg base 8 fa fd ["script"] (spLaw K) := by
  have e := hfa.symm.trans (PySem.W.mg_of X G a14)
  cases e
  have F1 := fun_mk (st := sCont) l1 c1 k1
  have F2 := fun_mk (st := sRng) l2 c2 k2
  have F3 := fun_mk (st := sTP) l3 c3 k3
  have FIL := fun_mk (st := sLO) lIL cIL kIL
  have F4 := fun_mk (st := sBtw) l4 c4 k4
  have F5 := fun_mk (st := sSw) l5 c5 k5
  have F6 := fun_mk (st := sCh) l6 c6 k6
  have F7 := fun_mk (st := sMT) l7 c7 k7
  have FPB := fun_mk (st := sPB) lPB cPB kPB
  have F8 := fun_mk (st := sCo) l8 c8 k8
  have F9 := fun_mk (st := sFeed) l9 c9 k9
  have F10 := fun_mk (st := sTake) l10 c10 k10
  have F11 := fun_mk (st := sPick) l11 c11 k11
  have F12 := fun_mk (st := sSmall) l12 c12 k12
  have F13 := fun_mk (st := sTab) l13 c13 k13
  have F14 := fun_mk (st := sLaw) l14 c14 k14
  have FI := fun_mk (st := sInit) lI cI kI
  have FO := fun_mk (st := sOf) lO cO kO
  have FE := fun_mk (st := sPH) lE cE kE
  have FG := fun_mk (st := sPG) lG cG kG
  have b1 := F1.binds (ps := ["outer", "inner"]) fun _ _ _ _ _ _ us hl => match us, hl with | [_, _], _ => rfl
  have b2 := F2.binds (ps := ["one", "other"]) fun _ _ _ _ _ _ us hl => match us, hl with | [_, _], _ => rfl
  have b3 := F3.binds (ps := ["load"]) fun _ _ _ _ _ _ us hl => match us, hl with | [_], _ => rfl
  have bIL := FIL.binds (ps := ["points", "reading"]) fun _ _ _ _ _ _ us hl => match us, hl with | [_, _], _ => rfl
  have b4 := F4.binds (ps := ["reading", "before", "after"]) fun _ _ _ _ _ _ us hl => match us, hl with | [_, _, _], _ => rfl
  have b5 := F5.binds (ps := ["load"]) fun _ _ _ _ _ _ us hl => match us, hl with | [_], _ => rfl
  have b6 := F6.binds (ps := ["load", "low", "high"]) fun _ _ _ _ _ _ us hl => match us, hl with | [_, _, _], _ => rfl
  have b7 := F7.binds (ps := ["points", "place"]) fun _ _ _ _ _ _ us hl => match us, hl with | [_, _], _ => rfl
  have bPB := FPB.binds (ps := ["rest", "reading"]) fun _ _ _ _ _ _ us hl => match us, hl with | [_, _], _ => rfl
  have b8 := F8.binds (ps := ["load"]) fun _ _ _ _ _ _ us hl => match us, hl with | [_], _ => rfl
  have b9 := F9.binds (ps := ["script", "k"]) fun _ _ _ _ _ _ us hl => match us, hl with | [_, _], _ => rfl
  have b10 := F10.binds (ps := ["feed", "many"]) fun _ _ _ _ _ _ us hl => match us, hl with | [_, _], _ => rfl
  have b11 := F11.binds (ps := ["feed", "some"]) fun _ _ _ _ _ _ us hl => match us, hl with | [_, _], _ => rfl
  have b12 := F12.binds (ps := ["feed"]) fun _ _ _ _ _ _ us hl => match us, hl with | [_], _ => rfl
  have b13 := F13.binds (ps := ["load"]) fun _ _ _ _ _ _ us hl => match us, hl with | [_], _ => rfl
  have bI := FI.binds (ps := ["self", "cycles", "rest"]) fun _ _ _ _ _ _ us hl => match us, hl with | [_, _, _], _ => rfl
  have bO := FO.binds (ps := ["cls", "load"]) fun _ _ _ _ _ _ us hl => match us, hl with | [_, _], _ => rfl
  have bE := FE.binds (ps := ["self"]) fun _ _ _ _ _ _ us hl => match us, hl with | [_], _ => rfl
  have bG := FG.binds (ps := ["self", "low", "high"]) fun _ _ _ _ _ _ us hl => match us, hl with | [_, _, _], _ => rfl
  have T : Txt K mg f1 f2 f3 fIL f4 f5 f6 f7 fPB f8 f9 f10 f11 f12 f13 C fI pO fO pE fE fG _ _ _ _ _ _ _ _ _ _ _ _ _ _ _ _ _ _ _ := ⟨F1, PySem.W.mg_of X G a1, k1, b1, F2, PySem.W.mg_of X G a2, k2, b2, F3, PySem.W.mg_of X G a3, k3, b3, FIL, PySem.W.mg_of X G aIL, kIL, bIL, F4, PySem.W.mg_of X G a4, k4, b4, F5, PySem.W.mg_of X G a5, k5, b5, F6, PySem.W.mg_of X G a6, k6, b6, F7, PySem.W.mg_of X G a7, k7, b7, FPB, PySem.W.mg_of X G aPB, kPB, bPB, F8, PySem.W.mg_of X G a8, k8, b8, F9, PySem.W.mg_of X G a9, k9, b9, F10, PySem.W.mg_of X G a10, k10, b10, F11, PySem.W.mg_of X G a11, k11, b11, F12, PySem.W.mg_of X G a12, k12, b12, F13, PySem.W.mg_of X G a13, k13, b13, PySem.W.mg_of X G aC, ⟨⟨pg, hd, po, sa⟩, nC, nR⟩, ⟨mk, aI, iI, kc⟩, FI, bI, ⟨rd, ga⟩, ⟨aO, ⟨_, rcO⟩, fiO⟩, FO, bO, ⟨aE, gE, tE, ⟨_, rcE⟩⟩, FE, bE, ⟨aG, iG, kG⟩, trivial, FG, bG, PySem.W.mg_none_of X G z1, PySem.W.mg_none_of X G z2, PySem.W.mg_none_of X G z3, PySem.W.mg_none_of X G z4, PySem.W.mg_none_of X G z5, PySem.W.mg_none_of X G z6, PySem.W.mg_none_of X G z7, PySem.W.mg_none_of X G z8⟩
  exact ⟨PySem.W.fnOf "law" "law" (defArgs sLaw) (defBody sLaw) (defScope sLaw) .none kV14 dc14 pm14 an14 cd14 ct14, fun s v => .of_eq rfl, fun base _ _ => ok_law F14 T⟩
end E8EndN
open PySem PySem.W PyProof.Rows
set_option maxRecDepth 100000 in
set_option maxHeartbeats 0 in
theorem PySem.Challenge.cw_wearswings_k08_whole_changes_decide_cycl_holds : PySem.Challenge.rw_wearswings_k08_whole_changes_decide_cycl.Holds := by
  w_on; o_law; k_head; (case hw => w_witness2)
  k_fill
  refine KW.walk_kept (l := PySem.Challenge.rw_wearswings_k08_whole_changes_decide_cycl) (n := 63) (k := 8) (x := "script") (sp := E8.spLaw) rfl (by decide) rfl ⟨rfl, by decide, by decide⟩ (fun w h Y => PySem.W.kIn_of Y) ?F (fun K H a ns hl _ hS => ⟨a, ns, rfl, hS, hl, fun _ => rfl⟩)
  case F =>
    intro w mg fa h KX G hmg
    refine' E8EndN.all_mk KX G hmg ?a1 ?l1 ?c1 ?k1 ?a2 ?l2 ?c2 ?k2 ?a3 ?l3 ?c3 ?k3 ?aIL ?lIL ?cIL ?kIL ?a4 ?l4 ?c4 ?k4 ?a5 ?l5 ?c5 ?k5 ?a6 ?l6 ?c6 ?k6 ?a7 ?l7 ?c7 ?k7 ?aPB ?lPB ?cPB ?kPB ?a8 ?l8 ?c8 ?k8 ?a9 ?l9 ?c9 ?k9 ?a10 ?l10 ?c10 ?k10 ?a11 ?l11 ?c11 ?k11 ?a12 ?l12 ?c12 ?k12 ?a13 ?l13 ?c13 ?k13 ?a14 ?l14 ?c14 ?k14 ?aC ?pg ?hd ?po ?sa ?nC ?nR ?mk ?kc ?aI ?iI ?lI ?cI ?kI ?rd ?ga ?aO ?rcO ?fiO ?lO ?cO ?kO ?aE ?gE ?tE ?rcE ?lE ?cE ?kE ?aG ?iG ?lG ?cG ?kG ?z1 ?z2 ?z3 ?z4 ?z5 ?z6 ?z7 ?z8
    (case a1 => k_is)
    (case l1 => k_is)
    (case c1 => k_is)
    (case k1 => k_is)
    (case a2 => k_is)
    (case l2 => k_is)
    (case c2 => k_is)
    (case k2 => k_is)
    (case a3 => k_is)
    (case l3 => k_is)
    (case c3 => k_is)
    (case k3 => k_is)
    (case aIL => k_is)
    (case lIL => k_is)
    (case cIL => k_is)
    (case kIL => k_is)
    (case a4 => k_is)
    (case l4 => k_is)
    (case c4 => k_is)
    (case k4 => k_is)
    (case a5 => k_is)
    (case l5 => k_is)
    (case c5 => k_is)
    (case k5 => k_is)
    (case a6 => k_is)
    (case l6 => k_is)
    (case c6 => k_is)
    (case k6 => k_is)
    (case a7 => k_is)
    (case l7 => k_is)
    (case c7 => k_is)
    (case k7 => k_is)
    (case aPB => k_is)
    (case lPB => k_is)
    (case cPB => k_is)
    (case kPB => k_is)
    (case a8 => k_is)
    (case l8 => k_is)
    (case c8 => k_is)
    (case k8 => k_is)
    (case a9 => k_is)
    (case l9 => k_is)
    (case c9 => k_is)
    (case k9 => k_is)
    (case a10 => k_is)
    (case l10 => k_is)
    (case c10 => k_is)
    (case k10 => k_is)
    (case a11 => k_is)
    (case l11 => k_is)
    (case c11 => k_is)
    (case k11 => k_is)
    (case a12 => k_is)
    (case l12 => k_is)
    (case c12 => k_is)
    (case k12 => k_is)
    (case a13 => k_is)
    (case l13 => k_is)
    (case c13 => k_is)
    (case k13 => k_is)
    (case a14 => k_is)
    (case l14 => k_is)
    (case c14 => k_is)
    (case k14 => k_is)
    (case aC => k_is)
    (case pg => k_is)
    (case hd => k_is)
    (case po => k_is)
    (case sa => k_is)
    (case nC => k_is)
    (case nR => k_is)
    (case mk => k_is)
    (case kc => k_is)
    (case aI => k_is)
    (case iI => k_is)
    (case lI => k_is)
    (case cI => k_is)
    (case kI => k_is)
    (case rd => k_is)
    (case ga => k_is)
    (case aO => k_is)
    (case rcO => k_is)
    (case fiO => k_is)
    (case lO => k_is)
    (case cO => k_is)
    (case kO => k_is)
    (case aE => k_is)
    (case gE => k_is)
    (case tE => k_is)
    (case rcE => k_is)
    (case lE => k_is)
    (case cE => k_is)
    (case kE => k_is)
    (case aG => k_is)
    (case iG => k_is)
    (case lG => k_is)
    (case cG => k_is)
    (case kG => k_is)
    (case z1 => k_is)
    (case z2 => k_is)
    (case z3 => k_is)
    (case z4 => k_is)
    (case z5 => k_is)
    (case z6 => k_is)
    (case z7 => k_is)
    (case z8 => k_is)

