import PyProof.Rows.All
import Wide.All
import OpenK.AllK
import Wide.FinOn
import HandS.ForMost
import HandS.Strs
import HandS.SetFor
import HandS.RaiseMore
import HandS.Wide
import HandS.Style
import HandS.Walk
import PySem.Challenge.RW_wearswings_k02_changes_of_loads
set_option Elab.async false
set_option linter.all false
set_option maxRecDepth 100000
set_option maxHeartbeats 16000000
/-! set(xs) of a list of ints, with the order's ledger kept (for sorted behind it) -/
namespace KS
open PySem PySem.Spec PyProof.Rows L2
abbrev leer (w : World) : Obj := { cls := .type "set", dict := none, data := .set #[] 0 (.fresh 0 0 (!w.params.followText "set-order")) }
section
variable {P : Program} {w : World} {A : Around} {E : Value → Shared → Prop} {s : Shared}
/-- what stands behind set's own __init__ -/
abbrev Made (w : World) (s : Shared) (ns : List Int) (Q : Shared → Prop) : Prop :=
  ∀ (g : Heap) (tk c : Nat), SetR w g s.heap.objs.size (fun j => decide (j ∈ ns)) c → c ≤ ns.length → (∀ b o, s.heap.get? b = some o → g.get? b = some o) → Q { s with heap := g, toks := tk }
set_option maxHeartbeats 6400000 in
theorem set_lst {l : Addr} {its : Array Value} (ns : List Int) {Q : Value → Shared → Prop} (hh : A.handled = none) (hl : s.heap.IsList l its) (hit : IntsAre its.toList ns) (hb : ns.length + 1 < scanBound)
    (h : Made w s ns (Q (.ref s.heap.objs.size))) : wpAny (model P w) A (call (.type "set") [.ref l]) Q E s := by
  have hn : its.size = ns.length := by
    rw [← Array.length_toList]; exact IntsAre.length hit
  obtain ⟨c0, t0, hm⟩ := F.called_set.mro
  have k1 := F.called_set.made; have k2 := F.called_set.sub; have k3 := F.called_set.notType; have k4 := F.called_set.canCreate; have k5 := F.typeCall_set_1 (.ref l)
  refine wpAny_call (codeAny_of_tree (show wpAny _ _ (callAny (.type "set") _) _ _ _ from ?_))
  have uu : A.under (.builtin "type.__call__" ⟨[.type "set", .ref l], []⟩) = A.in1 := Around.under_plain (weight_type_call_type "set" [.ref l] []) rfl
  refine wpAny_pure ⟨Code.quiet_builtin _ (by decide +kernel), codeAny_builtin F.entry_type_call ?_⟩
  rw [show A.under (.builtin "type.__call__" { ({ pos := [Value.ref l] } : Args) with pos := .type "set" :: [Value.ref l] }) = A.in1 from uu]
  repeat (any_goals (first | assumption | wp_step))
  have hs0 : (s.heap.push (leer w)).get? s.heap.objs.size = some (leer w) := Heap.get?_push_size _ rfl
  refine codeAny_mono (code_set_led1 (.ref l) (E := E) (Q₁ := fun x s1 => x = .ref s.heap.objs.size ∧ s1 = { s with heap := s.heap.push (leer w) }) ⟨rfl, rfl⟩) fun r1 s1 e1 => ?_
  match r1, e1 with
  | .error _, e1 => exact e1
  | .ok (.next), e1 => exact e1.elim
  | .ok (.brk), e1 => exact e1.elim
  | .ok (.cont), e1 => exact e1.elim
  | .ok (.ret x), e1 =>
    obtain ⟨rfl, rfl⟩ := e1
    have hT : Shared.TypeIs { s with heap := s.heap.push (leer w) } (.ref s.heap.objs.size) "set" := ⟨_, hs0, rfl⟩
    have j1 := F.called_set.init.lookup; have j2 := F.called_set.init.bind (.ref s.heap.objs.size)
    repeat (any_goals (first | assumption | wp_step))
    refine codeAny_mono (codeAny_call_builtin (R := wants (fun v s2 => v = .none ∧ ∃ g tk c, s2 = { s with heap := g, toks := tk } ∧ SetR w g s.heap.objs.size (fun j => decide (j ∈ ns)) c ∧ c ≤ ns.length ∧ ∀ b o, s.heap.get? b = some o → g.get? b = some o) E)
      F.called_set.init.plain F.entry_set_init (check_set_init_1 hT ?_)) fun r2 s2 e2 => ?_
    · obtain ⟨ol, a1, a2, nl, a3⟩ := hl
      obtain ⟨xc, xd, xt, xs⟩ := ol
      simp only at a2 a3
      subst a2 a3
      have a4 : (s.heap.push (leer w)).get? l = some { cls := .type "list", dict := xd, data := .seq its nl, slots := xs } := Heap.get?_push_of_some _ a1
      have b1 := F.sub_list_set; have b2 := F.sub_list_frozenset; have b3 : (Value.type "list" == Value.type "dict") = false := by decide
      have a5 : (s.heap.push (leer w)).IsList l its := ⟨_, a4, rfl, nl, rfl⟩
      unfold Builtin.«set.__init__» noKeywords Builtin.Frozenset.updateFrom
      generalize hPI : pyIter = PI
      wp_walk
      subst hPI
      refine wpAny_pyIter_list a5 (wpAny_bind (wpAny_runValue ?_))
      have lt := Heap.lt_size a1
      have sz : (s.heap.push (leer w)).objs.size = s.heap.objs.size + 1 := Heap.size_push ..
      have d1 : l ≠ (s.heap.push (leer w)).objs.size := by rw [sz]; exact Nat.ne_of_lt (Nat.lt_succ_of_lt lt)
      have d2 : s.heap.objs.size ∉ [(s.heap.push (leer w)).objs.size, l] := by
        rw [sz]; intro z; rcases List.mem_cons.mp z with z | z
        · exact absurd z (Nat.ne_of_lt (Nat.lt_succ_self _))
        · exact absurd (List.mem_singleton.mp z) (Nat.ne_of_gt lt)
      have vl : ∀ i v, its[i]? = some v → ∃ (k : Int) (t : Tok), ns[i]? = some k ∧ v = Value.int k t := fun i v e => by
        have hi : i < ns.length := by rw [← hn]; exact (Array.getElem?_eq_some_iff.mp e).1
        obtain ⟨t, et⟩ := IntsAre.int_at hit i v (by rw [Array.getElem?_toList]; exact e)
        exact ⟨ns[i], t, List.getElem?_eq_getElem hi, by rw [et, List.getD_eq_getElem?_getD, List.getElem?_eq_getElem hi]; rfl⟩
      have hq : A.in1.in1.in1.handled = none := by simp [hh]
      refine set_update_ints ((Walks.list hq _ l d1 its).toS) s.heap.objs.size d2 ns hn hb vl (its.size - 0) 0 _ (by omega) (Nat.zero_le _) ⟨⟨_, Heap.get?_push_size _ rfl, rfl, rfl⟩, a5.push _⟩
        ⟨0, Nat.le_refl 0, setR_new_at (Heap.get?_push_of_some _ hs0)⟩ fun s3 c3 mv hc3 R3 => ?_
      obtain ⟨g3, gg, dd, tk3, oo⟩ := s3
      obtain rfl : gg = s.gens := mv.gens
      obtain rfl : dd = s.drawn := mv.drawn
      obtain rfl : oo = s.os := mv.os
      refine (show wpAny _ _ _ _ _ _ from wpAny_pure (show wpAny _ _ (ret Value.none) _ _ _ from wpAny_pure ⟨rfl, g3, tk3, c3, rfl, R3, by omega, fun b o e => ?_⟩))
      have hb0 := Heap.lt_size e
      exact mv.heap b o (by rw [sz]; intro z; rcases List.mem_cons.mp z with z | z
                            · exact absurd z (Nat.ne_of_lt hb0)
                            · exact absurd (List.mem_singleton.mp z) (Nat.ne_of_lt (Nat.lt_succ_of_lt hb0))) (Heap.get?_push_of_some _ (Heap.get?_push_of_some _ e))
    · match r2, e2 with
      | .error _, e2 => exact e2
      | .ok (.next), e2 => exact e2.elim
      | .ok (.brk), e2 => exact e2.elim
      | .ok (.cont), e2 => exact e2.elim
      | .ok (.ret y), e2 =>
        obtain ⟨rfl, g, tk, c, rfl, R2, hc, hk⟩ := e2
        repeat (any_goals (first | assumption | wp_step))
        exact h _ _ _ R2 hc hk
end
section
variable {X : Cx}
/-- set(xs) of a list of ints -/
def rSetL (w : World) (K : PySem.W.Frag) : List V → Hp → VK → Prop := fun vs H Q => ∃ (a : Addr) (ns : List Int), vs = [V.ref a] ∧ SqL K H a (ns.map V.int) ∧ ns.length ≤ 1000 ∧
  ∀ (p : Addr) (c : Nat), H p = none → c ≤ ns.length → Q (.ref p) (upd H p (SetO w p (fun j => decide (j ∈ ns)) c))
theorem cr_setL (hc : X.calm = true) : CallR X (.type "set") (rSetL X.w X.K) := by
  intro pins s σ H vs us Q I r h
  obtain ⟨a, ns, rfl, hS, hlen, q⟩ := h
  rw [Vals.ref1 r]
  obtain ⟨its, rv, pl, hz⟩ := I.list hS
  refine set_lst ns (I.ok.hd hc) pl.isList (by simpa using ints_of_vals rv) (by unfold scanBound; omega) fun g tk c R hcn k => ?_
  exact ⟨.ref _, _, I.laid (t' := tk) k (Nat.le_refl _) (setO_new R), rfl, q _ c (I.hok.fresh (Nat.le_refl _)) hcn⟩
end
end KS

/-! repr(xs) of a list of ints; a law's def whose body knows that no repr is under way -/
namespace KG
open PySem PySem.Spec PyProof.Rows L2
/-! ### the text of a list of ints -/
def datL (ns : List Int) : PyData := .list (ns.map PyData.int)
def reprL (ns : List Int) : Str := (datL ns).shown
theorem small_log {i : Int} {k : Nat} (h0 : 0 < k) (h : i.natAbs < 2 ^ k) : i.natAbs.log2 < k := PySem.Flt.log2_lt_of h0 h
theorem show_all : ∀ (ns : List Int), (∀ n ∈ ns, n.natAbs < 2 ^ 40) → PyData.showableAll (ns.map PyData.int) = true
  | [], _ => rfl
  | a :: r, h => by
    have h1 : a.natAbs.log2 < 1920 := Nat.lt_of_lt_of_le (small_log (by decide) (h a List.mem_cons_self)) (by decide)
    have h2 := show_all r fun n hn => h n (List.mem_cons_of_mem _ hn)
    simp only [List.map_cons, PyData.showableAll, PyData.showable, h2, h1, decide_true, Bool.and_self]
theorem nodict_all : ∀ (ns : List Int), PyData.hasDictAll (ns.map PyData.int) = false
  | [] => rfl
  | a :: r => by simp only [List.map_cons, PyData.hasDictAll, PyData.hasDict, nodict_all r, Bool.or_self]
theorem depth_all : ∀ (ns : List Int), PyData.depthAll (ns.map PyData.int) ≤ 1
  | [] => Nat.zero_le _
  | a :: r => by
    have := depth_all r
    simp only [List.map_cons, PyData.depthAll, PyData.depth]
    omega
theorem leaves_all : ∀ (ns : List Int), (∀ n ∈ ns, n.natAbs < 10 ^ 12) → PyData.leavesShortAll 13 (ns.map PyData.int) = true
  | [], _ => rfl
  | a :: r, h => by
    have h2 := leaves_all r fun n hn => h n (List.mem_cons_of_mem _ hn)
    have h1 : (PyData.shown (.int a)).length ≤ 13 := by
      have := PySem.int_text_length_le10 (a := a) (k := 12) (by decide) (h a List.mem_cons_self)
      have e : (PyData.shown (.int a)).length = (toString a).length := by
        simp only [PyData.shown]
        exact PySem.ofString_length _
      omega
    simp only [List.map_cons, PyData.leavesShortAll, PyData.leavesShort, h2, Bool.and_true, decide_eq_true_eq]
    exact h1
theorem weight_all : ∀ (ns : List Int), (∀ n ∈ ns, n.natAbs < 2 ^ 39) → PyData.weightAll (ns.map PyData.int) ≤ 60 * ns.length
  | [], _ => Nat.le_refl _
  | a :: r, h => by
    have h1 := weight_all r fun n hn => h n (List.mem_cons_of_mem _ hn)
    have h2 : a.natAbs.log2 < 39 := small_log (by decide) (h a List.mem_cons_self)
    simp only [List.map_cons, PyData.weightAll, PyData.weight, List.length_cons]
    split <;> omega
theorem repr_fits {ns : List Int} (h : ∀ n ∈ ns, n.natAbs < 2 ^ 39) (hl : ns.length ≤ 2000) : (reprL ns).length ≤ sizeLine := by
  refine PyData.shown_fits (B := 13) (by decide) (by decide) ?_ ?_
  · show PyData.leavesShort 13 (.list _) = true
    simp only [PyData.leavesShort, leaves_all ns fun n hn => Nat.lt_trans (h n hn) (by decide)]
  · show PyData.weight (.list _) ≤ _
    have := weight_all ns h
    simp only [PyData.weight]
    omega
theorem reads_all {h : Heap} : ∀ {us : List Value} {ns : List Int}, IntsAre us ns → ReadsAll h us (ns.map PyData.int) []
  | _, _, .nil => .nil
  | _, _, .cons n t r => by
    have z := ReadsAll.cons (Reads.int (h := h) n t) (reads_all r)
    exact z
section
variable {X : Cx}
/-- repr(xs) of a list of ints, while no repr is under way -/
def rReprL (K : PySem.W.Frag) : List V → Hp → VK → Prop := fun vs H Q => ∃ (a : Addr) (ns : List Int), vs = [V.ref a] ∧ SqL K H a (ns.map V.int) ∧ (∀ n ∈ ns, n.natAbs < 2 ^ 39) ∧ ns.length ≤ 2000 ∧ Q (.str (reprL ns)) H
theorem cr_reprL (hg : X.A.guards = some []) (hu : X.A.units + 100 < cLine) : CallR X (.builtin "repr") (rReprL X.K) := by
  intro pins s σ H vs us Q I r h
  obtain ⟨a, ns, rfl, hS, hb, hl, q⟩ := h
  rw [Vals.ref1 r]
  obtain ⟨its, rv, ⟨o, n, ho, hc, hdn, hd⟩, hz⟩ := I.list hS
  have rd : Reads s.heap (.ref a) (datL ns) [a] := .list ho hc hd (reads_all (by simpa using ints_of_vals rv))
  refine repr_of_reads' rd (by show PyData.showable (.list _) = true; simp only [PyData.showable]; exact show_all ns fun m hm => Nat.lt_trans (hb m hm) (by decide)) (PyData.noDict_hsm (by show PyData.hasDict (.list _) = false; simp only [PyData.hasDict]; exact nodict_all ns)) hg
    (by have := depth_all ns; show X.A.units + (PyData.depth (.list _) + 1) < cLine; simp only [PyData.depth]; omega) (fun _ _ e => e) (fun g u tk k => ?_) (repr_fits hb hl)
  exact ⟨.str (reprL ns), H, I.kept k, ⟨u, rfl⟩, q⟩
end
end KG

/-! the def of the law itself, called where no repr is under way -/
namespace KW
open PySem PySem.Spec PyProof.Rows L2
/-- the def at f keeps sp where it is called with no repr under way -/
def Kept (P : Program) (w : World) (K : PySem.W.Frag) (mg : Str → Option Value) (base : Heap) (k : Nat) (f : Addr) (fd : FuncData) (ps : List Str) (sp : Sp) : Prop :=
  ∀ (A : Around) (outer : List Env) (s : Shared) (H : Hp) (args : Args) (us : List Value) (vs : List V) (Q : VK) (E : XK), A.guards = some [] → Room k A → Env0 P w K mg base A outer s H →
    BindsTo s fd args (ps.zip us) → Vals vs us → sp vs H Q E → codeAny (model P w) A (.call (.ref f) args) (CR CX0 outer P w H s Q E) s
section
variable {P : Program} {w : World} {K : PySem.W.Frag} {mg : Str → Option Value} {base : Heap}
theorem kept_of {x qual : Str} {st : Stmt} {f : Addr} {fd : FuncData} {N ps : List Str} {k : Nat} {sp : Sp} (F : Fun K x qual st f fd) (S : FnScope N ps (defScope st)) (len : ∀ vs H Q E, sp vs H Q E → vs.length = ps.length)
    (hb : ∀ (cdv : Value) (A : Around) (outer : List Env) (s : Shared) (H : Hp) (vs : List V) (Q : VK) (E : XK), A.guards = some [] → Room k (A.deeper (envOfC qual (defScope st) s.heap.objs.size f cdv)) → sp vs H Q E →
      ∃ t, PSs (cxOf CX0 P w K mg base N qual (defScope st) f cdv A outer s H E).nox (defBody st) t ∧ t { nx := fun _ H' => Q .non H', rt := Q } (start N vs) H) : Kept P w K mg base (k + 1) f fd ps sp := by
  obtain ⟨oc, od, kV, doc, pm, an, cdv, ct, osl, e1, lk, hcd⟩ := F.ex
  subst e1
  intro A outer s H args us vs Q E hg hr e0 bnd r hsp
  obtain ⟨t, d, q⟩ := hb cdv A outer s H vs Q E hg (hr.deeper _) hsp
  have lv := len _ _ _ _ hsp
  have kin : K.In s.heap := e0.mod.kin.keeps fun b o e => (e0.bs b o e).1
  have kd : ∀ y ∈ ps.zip us, (defScope st).names.lookup y.1 = some .local ∨ ((defScope st).names.lookup y.1 = some .cell ∧ ((cellsFrom (s.heap.objs.size + 1) (defScope st).names []).lookup y.1).isSome = true) := by
    rintro ⟨n, v⟩ hy
    exact (S.par n (List.of_mem_zip hy).1).imp id fun z => ⟨z, PySem.W.cellsFrom_some _ _ _ (.inl z)⟩
  refine codeAny_call_function hr.depth (kin _ _ lk) rfl S.co S.gen rfl (PySem.W.codeRec_of kin hcd) (bnd _ _ _ _ (wpAny_newFunctionEnv_cells S.kind kd fun env he s1 x1 => ?_))
  subst he
  refine ⟨(e0.mod.nolimit.keeps fun b o e => (e0.bs b o e).1).keeps x1.toInCall.keep, codeAny_func (wpAny_mono (d.nox.run [] s1 (start N vs) H _ (inv_start S hr.hd e0 lv r x1) q) (fun fl s2 z => ?_) fun _ _ z => z)⟩
  match fl, z with
  | .ret u, ⟨v, σ2, H2, J, rv, q2⟩ => exact ⟨v, H2, J.os, J.bare, J.base, J.hok, rv, q2⟩
  | .next, ⟨σ2, H2, J, q2⟩ => exact ⟨V.non, H2, J.os, J.bare, J.base, J.hok, rfl, q2⟩
  | .brk, ⟨_, _, _, q2⟩ => exact q2.elim
  | .cont, ⟨_, _, _, q2⟩ => exact q2.elim
/-- the heap that tracks the script alone, or nothing where it is the text's own -/
def hpOf (K : PySem.W.Frag) (a : Addr) (o : Obj) (xs : List V) : Hp := fun b => if b = a ∧ K.lookup a = none then some (.frz o (.lst xs)) else none
theorem hpOf_some {K : PySem.W.Frag} {a b : Addr} {o : Obj} {xs : List V} {u : HO} (e : hpOf K a o xs b = some u) : b = a ∧ K.lookup a = none ∧ u = .frz o (.lst xs) := by
  unfold hpOf at e
  split at e
  · rename_i z
    exact ⟨z.1, z.2, (Option.some.inj e).symm⟩
  · cases e
theorem run_law {mb : Str → Option Value} {k : Nat} {fa a : Addr} {fd : FuncData} {x : Str} {sp : Sp} {s1 : Shared} {vs : List Value} {ns : List Int}
    (kin : K.In s1.heap) (h1 : s1.heap.Ns mainGlobals mg) (h2 : s1.heap.Ns builtinsNs mb) (h3 : ∀ y : Str, y ≠ "__name__" → mb y = bootBuiltins y) (h4 : s1.heap.NoLimit) (h5 : s1.gens = #[])
    (ha : s1.heap.get? a = some { cls := .type "list", data := .seq vs.toArray }) (hi : IntsAre vs ns) (hl : ns.length ≤ sizeLine) (hr : Room k callerA)
    (F : ∀ bs : Heap, K.In bs → bs.Ns mainGlobals mg → Kept P w K mg bs k fa fd [x] sp) (hbd : ∀ (s : Shared) (u : Value), BindsTo s fd ⟨[u], []⟩ [(x, u)])
    (hsp : ∀ H : Hp, Only H → SqL K H a (ns.map V.int) → sp [.ref a] H (fun v _ => v = .bl true) fun _ _ _ => False) :
    codeAny (model P w) callerA (.call (.ref fa) ⟨[.ref a], []⟩) (fun r s' => r = .ok (.ret (.bool true)) ∧ OldK s1.heap s'.heap ∧ s'.os = s1.os ∧ AllBare s'.gens) s1 := by
  have rv := vals_ints hi
  let ob : Obj := { cls := .type "list", data := .seq vs.toArray }
  generalize hH : hpOf K a ob (ns.map V.int) = H
  have hsome : ∀ {b u}, H b = some u → b = a ∧ K.lookup a = none ∧ u = .frz ob (.lst (ns.map V.int)) := fun {b u} e => hpOf_some (by rw [hH]; exact e)
  have hO : Only H := fun b => by
    cases e : H b with
    | none => exact .inl rfl
    | some u => exact .inr ⟨_, _, by rw [(hsome e).2.2]⟩
  have hS : SqL K H a (ns.map V.int) := by
    cases e : K.lookup a with
    | none => exact .inl (.inr ⟨ob, by rw [← hH]; exact if_pos ⟨rfl, e⟩⟩)
    | some o =>
      have e2 := kin a o e
      rw [ha] at e2
      cases e2
      exact .inr ⟨_, vs.toArray, _, e, rfl, rfl, rfl, by rw [List.size_toArray, hi.length]; exact hl, by simpa using rv⟩
  have hok : HOk P w H s1.heap := fun b u e => by
    obtain ⟨rfl, _, rfl⟩ := hsome e
    exact ⟨ha, by rw [List.length_map]; exact hl, vs, _, rv, ha⟩
  have free : ∀ {b : Addr} {o : Obj} {es : Array DictEntry} {ep : Nat}, s1.heap.get? b = some o → o.data = .dict es ep → H b = none := fun {b o es ep} e d => by
    cases z : H b with
    | none => rfl
    | some u =>
      obtain ⟨rfl, _, _⟩ := hsome z
      rw [ha] at e
      cases e
      cases d
  have toB : ∀ {b : Addr} {m : Str → Option Value}, s1.heap.Ns b m → (hidT s1.heap H).Ns b m := fun {b m} ⟨o, es, ep, e, d, r⟩ => ⟨o, es, ep, hidT_get e (free e d), d, r⟩
  have kB : K.In (hidT s1.heap H) := fun b o e => hidT_get (kin b o e) (by
    cases z : H b with
    | none => rfl
    | some u =>
      obtain ⟨rfl, z2, _⟩ := hsome z
      rw [z2] at e
      cases e)
  obtain ⟨mc, m1, m2⟩ := h4
  have e0 : Env0 P w K mg (hidT s1.heap H) callerA [] s1 H := ⟨rfl, ⟨kB, toB h1, ⟨mb, toB h2, h3⟩, ⟨mc, toB m1, m2⟩⟩, fun b o e => of_hidT e, Nat.le_of_eq (hidT_size _ _), trivial, fun b hb => (List.not_mem_nil (show b ∈ ([] : List Addr) from hb)).elim, hok, .of_eq h5⟩
  refine codeAny_mono (F _ kB (toB h1) callerA [] s1 H ⟨[.ref a], []⟩ [.ref a] [.ref a] _ _ rfl hr e0 (hbd s1 (.ref a)) (.cons rfl .nil) (hsp H hO hS)) fun r s2 z => ?_
  match r, z with
  | .error _, z => exact z.elim
  | .ok .next, z => exact z.elim
  | .ok .brk, z => exact z.elim
  | .ok .cont, z => exact z.elim
  | .ok (.ret u), ⟨v, H2, os, bare, un, hok2, rr, q⟩ =>
    have q2 : v = .bl true := q
    subst q2
    obtain rfl : u = Value.bool true := rr
    refine ⟨rfl, OldK.of_keep fun b o e => ?_, os, bare⟩
    cases z : H b with
    | none => exact un.keep b o e z (fun m => (List.not_mem_nil (show b ∈ ([] : List Addr) from m)).elim) (by simp)
    | some u =>
      obtain ⟨_, _, rfl⟩ := hsome z
      have t1 := (hok b _ z).1
      have t2 := (hok2 b _ (un.frzs b ob _ z)).1
      rw [e] at t1
      rw [t2, ← t1]
/-- the end: the law's promise over the written part alone -/
theorem walk_kept {l : PySem.W.OpenLaw} {n k : Nat} {q : Program} {loose : List Str} {XP : (Str → Option Value) → Heap → Prop} {YP : World → Heap → Prop} {d : DefRec} {KK : Params → PySem.W.Frag} {sp : PySem.W.Frag → Sp} {x : Str}
    (hn : l.most = some n) (hn2 : n ≤ sizeLine) (hdf : d.params.defaults = []) (hr : Room k callerA) (hY : ∀ (w : World) (h : Heap), YP w h → (KK w.params).In h)
    (F : ∀ (w : World) (mg : Str → Option Value) (fa : Addr) (h : Heap), (KK w.params).In h → h.Ns mainGlobals mg → mg d.name = some (.ref fa) →
      ∃ fd : FuncData, (∀ (s : Shared) (u : Value), BindsTo s fd ⟨[u], []⟩ [(x, u)]) ∧ ∀ bs : Heap, (KK w.params).In bs → bs.Ns mainGlobals mg → Kept l.prog w (KK w.params) mg bs k fa fd [x] (sp (KK w.params)))
    (hsp : ∀ (K : PySem.W.Frag) (H : Hp) (a : Addr) (ns : List Int), ns.length ≤ n → Only H → SqL K H a (ns.map V.int) → sp K [.ref a] H (fun v _ => v = .bl true) fun _ _ _ => False) :
    PySem.W.WalkO q loose XP YP l.row.toRowW d [] (fun f vs => PySem.call f vs) := by
  refine Att.attach_call hn hdf fun w s0 s1 mg mb fa o pm cd doc a vs ns G Y ho hd hcd hmg hobj hints hlen hg => ?_
  obtain ⟨fd, hb, hF⟩ := F w mg fa _ (hY w _ Y) G.T.g hmg
  exact run_law (hY w _ Y) G.T.g G.T.b G.T.builtins G.T.nolimit hg hobj hints (Nat.le_trans hlen hn2) hr hF hb fun H hO hS => hsp (KK w.params) H a ns hlen hO hS
end
end KW

/-! changes of a load, as mathematics -/
namespace KM
/-- how often a letter differs from the one before, the first of all being a -/
def cf : Bool → List Bool → Nat
  | _, [] => 0
  | a, b :: r => (if a = b then 0 else 1) + cf b r
def cnt : List Bool → Nat
  | [] => 0
  | a :: r => cf a r
def cfO : Option Bool → List Bool → Nat
  | none, l => cnt l
  | some a, l => cf a l
/-- the letter of a reading: true for L -/
def lett (lo hi : Int) (r : Int) : Option Bool := if r ≤ lo then some true else if hi ≤ r then some false else none
def lets (lo hi : Int) (ns : List Int) : List Bool := ns.filterMap (lett lo hi)
def chg (ns : List Int) (lo hi : Int) : Nat := cnt (lets lo hi ns)
theorem cf_tri (a b : Bool) : ∀ l : List Bool, cf a l ≤ (if a = b then 0 else 1) + cf b l
  | [] => Nat.zero_le _
  | c :: r => by
    simp only [cf]
    cases a <;> cases b <;> cases c <;> simp <;> omega
theorem cf_mono : ∀ {l m : List Bool}, l.Sublist m → ∀ a, cf a l ≤ cf a m := by
  intro l m h
  induction h with
  | slnil => intro a; exact Nat.le_refl _
  | @cons l m b h ih =>
    intro a
    have h1 := cf_tri a b l
    have h2 := ih b
    simp only [cf]
    omega
  | @cons_cons l m b h ih =>
    intro a
    have h2 := ih b
    simp only [cf]
    omega
theorem cnt_mono : ∀ {l m : List Bool}, l.Sublist m → cnt l ≤ cnt m := by
  intro l m h
  induction h with
  | slnil => exact Nat.le_refl _
  | @cons l m b h ih =>
    cases m with
    | nil =>
      cases h
      exact Nat.le_refl _
    | cons d r =>
      show cnt l ≤ (if b = d then 0 else 1) + cf d r
      have : cnt (d :: r) = cf d r := rfl
      omega
  | @cons_cons l m b h ih => exact cf_mono h b
theorem lets_sub {lo hi lo2 hi2 : Int} (h1 : lo ≤ lo2) (h2 : hi2 ≤ hi) (h3 : lo2 < hi2) : ∀ ns : List Int, (lets lo hi ns).Sublist (lets lo2 hi2 ns)
  | [] => .slnil
  | r :: t => by
    have ih := lets_sub h1 h2 h3 t
    have key : lett lo hi r = none ∨ lett lo hi r = lett lo2 hi2 r := by
      unfold lett
      by_cases a : r ≤ lo
      · right
        rw [if_pos a, if_pos (by omega)]
      · rw [if_neg a]
        by_cases b : hi ≤ r
        · right
          rw [if_pos b, if_neg (by omega), if_pos (by omega)]
        · left
          rw [if_neg b]
    show ((r :: t).filterMap (lett lo hi)).Sublist ((r :: t).filterMap (lett lo2 hi2))
    rw [List.filterMap_cons, List.filterMap_cons]
    rcases key with e | e
    · rw [e]
      dsimp only
      cases lett lo2 hi2 r with
      | none => exact ih
      | some b => exact .cons _ ih
    · rw [← e]
      cases lett lo hi r with
      | none => exact ih
      | some b => exact .cons_cons _ ih
theorem chg_range {lo hi lo2 hi2 : Int} (h1 : lo ≤ lo2) (h2 : hi2 ≤ hi) (h3 : lo2 < hi2) (ns : List Int) : chg ns lo hi ≤ chg ns lo2 hi2 := cnt_mono (lets_sub h1 h2 h3 ns)
theorem chg_sub {l m : List Int} (h : l.Sublist m) (lo hi : Int) : chg l lo hi ≤ chg m lo hi := cnt_mono (h.filterMap _)
theorem chg_put (ns : List Int) (k : Nat) (v lo hi : Int) : chg ns lo hi ≤ chg (ns.take k ++ [v] ++ ns.drop k) lo hi := by
  refine chg_sub ?_ lo hi
  have e : ns = ns.take k ++ ns.drop k := (List.take_append_drop k ns).symm
  have h1 : (ns.take k).Sublist (ns.take k ++ [v]) := List.sublist_append_left _ _
  have h2 := h1.append (List.Sublist.refl (ns.drop k))
  rw [List.take_append_drop] at h2
  exact h2
theorem lets_drop {lo hi : Int} {ns : List Int} {i : Nat} {r : Int} (h : ns[i]? = some r) : lets lo hi (ns.drop i) = (match lett lo hi r with | none => lets lo hi (ns.drop (i + 1)) | some b => b :: lets lo hi (ns.drop (i + 1))) := by
  obtain ⟨h1, h2⟩ := List.getElem?_eq_some_iff.mp h
  rw [List.drop_eq_getElem_cons h1, h2]
  unfold lets
  rw [List.filterMap_cons]
  cases lett lo hi r <;> rfl
theorem lets_take {lo hi : Int} {ns : List Int} {i : Nat} {r : Int} (h : ns[i]? = some r) : lets lo hi (ns.take (i + 1)) = (match lett lo hi r with | none => lets lo hi (ns.take i) | some b => lets lo hi (ns.take i) ++ [b]) := by
  rw [List.take_add_one, h]
  unfold lets
  rw [List.filterMap_append]
  show _ ++ List.filterMap _ [r] = _
  rw [List.filterMap_cons]
  cases lett lo hi r with
  | none => simp
  | some b => rfl
theorem lets_len (lo hi : Int) (ns : List Int) : (lets lo hi ns).length ≤ ns.length := List.length_filterMap_le _ _
/-- the number of turns of a zip with itself, one on, whose two differ -/
theorem cnt_drop {l : List Bool} {i : Nat} {a b : Bool} (h1 : l[i]? = some a) (h2 : l[i + 1]? = some b) : cnt (l.drop i) = (if a = b then 0 else 1) + cnt (l.drop (i + 1)) := by
  obtain ⟨k1, e1⟩ := List.getElem?_eq_some_iff.mp h1
  obtain ⟨k2, e2⟩ := List.getElem?_eq_some_iff.mp h2
  rw [List.drop_eq_getElem_cons k1, e1, List.drop_eq_getElem_cons k2, e2]
  rfl
theorem cnt_end {l : List Bool} {i : Nat} (h : l.length ≤ i + 1) : cnt (l.drop i) = 0 := by
  have : (l.drop i).length ≤ 1 := by rw [List.length_drop]; omega
  match l.drop i, this with
  | [], _ => rfl
  | [_], _ => rfl
end KM

/-! changes, and the law's own way of counting -/
namespace KA
open PySem PySem.Spec PyProof.Rows L2 KM
def topS (i : Nat) : Stmt := PySem.Challenge.pw_wearswings_k02_changes_of_loads.main.body.getD i (.Pass ⟨0, 0, 0, 0⟩)
abbrev sCh : Stmt := topS 1
abbrev sDue : Stmt := topS 7
theorem scCh : FnScope ["load", "low", "high", "letters", "reading", "one", "other"] ["load", "low", "high"] (defScope sCh) := ⟨rfl, rfl, rfl, by decide +kernel, rfl, by decide +kernel, by decide +kernel⟩
theorem scDue : FnScope ["load", "low", "high", "found", "last", "reading", "mark"] ["load", "low", "high"] (defScope sDue) := ⟨rfl, rfl, rfl, by decide +kernel, rfl, by decide +kernel, by decide +kernel⟩
/-! ### heaps -/
theorem same_new {H : Hp} {p : Addr} {o : HO} (h : H p = none) : Same H (upd H p o) := fun b x e => by
  rw [upd_ne (ne_of_none e h)]
  exact e
theorem same_again {H0 H : Hp} {p : Addr} {o : HO} (h : H0 p = none) (s : Same H0 H) : Same H0 (upd H p o) := fun b x e => by
  rw [upd_ne (ne_of_none e h)]
  exact s b x e
theorem SqT_same {K : PySem.W.Frag} {H H' : Hp} {a : Addr} {xs : List V} (e : Same H H') (h : SqT K H a xs) : SqT K H' a xs := by
  rcases h with (h | ⟨o, h⟩) | h
  · exact .inl (.inl (e _ _ h))
  · exact .inl (.inr ⟨o, e _ _ h⟩)
  · exact .inr h
theorem int_at {ns : List Int} {i : Nat} {x : V} (h : (ns.map V.int)[i]? = some x) : ∃ r, ns[i]? = some r ∧ x = .int r := by
  rw [List.getElem?_map] at h
  cases e : ns[i]? with
  | none => rw [e] at h; cases h
  | some r => rw [e] at h; exact ⟨r, rfl, (Option.some.inj h).symm⟩
/-! ### letters -/
def ltr (b : Bool) : V := .str (if b = true then ("L" : Str) else ("H" : Str))
theorem ltr_scal (a b : Bool) : scal (ltr a) (ltr b) = true := by cases a <;> cases b <;> rfl
theorem ltr_eq (a b : Bool) : decide (ltr a = ltr b) = decide (a = b) := by
  cases a <;> cases b <;> first | rfl | decide +kernel
theorem cut1 (xs : List V) : cutV xs (some 1) none = xs.drop 1 := by
  unfold cutV
  rw [show HT.sIx xs.length 0 (some 1) = min 1 xs.length from HT.sIx_nat xs.length 0 1, HT.sIx_none]
  cases xs with
  | nil => rfl
  | cons x r =>
    have : min 1 (x :: r).length = 1 := by simp
    rw [this]
    simp
section
variable {P : Program} {w : World} {K : PySem.W.Frag} {mg : Str → Option Value} {base : Heap}
def spCh (K : PySem.W.Frag) : Sp := fun vs H Q _ => ∃ (a : Addr) (ns : List Int) (lo hi : Int), vs = [.ref a, .int lo, .int hi] ∧ SqL K H a (ns.map V.int) ∧ ns.length ≤ 3000 ∧ ∀ H', Same H H' → Q (.int (chg ns lo hi : Nat)) H'
def spChT (K : PySem.W.Frag) : Sp := fun vs H Q _ => ∃ (a : Addr) (ns : List Int) (lo hi : Int), vs = [.ref a, .int lo, .int hi] ∧ SqT K H a (ns.map V.int) ∧ ns.length ≤ 3000 ∧ ∀ H', Same H H' → Q (.int (chg ns lo hi : Nat)) H'
/-- behind the letters: the pairs that differ -/
theorem small3000 {n : Nat} (h : n ≤ 3000) : n < sizeLine := Nat.lt_of_le_of_lt h (by decide)
theorem ok_ch {f : Addr} {fd : FuncData} {k : Nat} (F : Fun K "changes" "changes" sCh f fd) (ml : mg "len" = none) (mz : mg "zip" = none) : FnOk P w K mg base CX0 (k + 1) f fd ["load", "low", "high"] (spCh K) := by
  refine F.ok scCh (fun vs H Q E h => ?_) (fun cdv A outer s H vs Q E hr h => ?_)
  · obtain ⟨a, ns, lo, hi, rfl, _⟩ := h
    rfl
  · obtain ⟨a, ns, lo, hi, rfl, hS, hlen, q⟩ := h
    refine ⟨_, pss_cons (ps_setLc (i := 3) (own := [("reading", 4)]) (g := gName 4) rfl scCh.nd rfl rfl (sw_true rfl rfl rfl (by decide +kernel)) (pi_list (pv 0))
        (blkOk_by (own := [("reading", 4)]) (N := ["load", "low", "high", "letters", "reading", "one", "other"]) (sc := defScope sCh) (by decide +kernel))
        (fun _ _ _ _ _ => pg_name (i := 4) scCh.nd rfl (Or.inl rfl))
        (fun _ _ _ _ _ => pts_one (PW.pt (pw_or (pt_cmpR op_le (pv 4) (pv 1) (nomark _)) (pw_or1 (pt_cmpR op_ge (pv 4) (pv 2) (nomark _))))))
        (fun _ _ _ _ _ => pe_ifExp (pt_cmpR op_le (pv 4) (pv 1) (nomark _)) pe_str pe_str))
      (pss_one (ps_ret (pe_callB call_len_seq (by rfl) ml PySem.boot_len (pa_cons
        (pe_lc (own := [("one", 5), ("other", 6)]) (g := gTup K 2 (gCons (gName 5) (gCons (gName 6) gNil))) rfl scCh.nd (pi_zip (by rfl) mz (pa_cons (pv 3) (pa_cons (pe_slice sl_list (pv 3) (po_some pe_int) po_none) pa_nil)))
          (blkOk_by (own := [("one", 5), ("other", 6)]) (N := ["load", "low", "high", "letters", "reading", "one", "other"]) (sc := defScope sCh) (by decide +kernel))
          (fun _ _ _ _ _ => pg_tup rfl (pgs_cons (pg_name (i := 5) scCh.nd rfl (Or.inl rfl) (Or.inr rfl)) (pgs_cons (pg_name (i := 6) scCh.nd rfl (Or.inl rfl) (Or.inr rfl)) pgs_nil)))
          (fun _ _ _ _ _ => pts_one (pt_cmpR op_ne (pv 5) (pv 6) (nomark _))) (fun _ _ _ _ _ => pv 5)) pa_nil)))), ?_⟩
    refine ⟨.ref a, rfl, a, rfl, ⟨_, hS⟩, fun D nD => lc_list (K := K) (a := a) (xs := ns.map V.int) (fun i H' => H' = upd H D (.lst ((lets lo hi (ns.take i)).map ltr))) ?_ ?_ ?_ ?_⟩
    · rfl
    · rintro i H' _ rfl
      exact (same_new nD).seq hS
    · rintro i x H' hx rfl
      obtain ⟨r, hr2, rfl⟩ := int_at hx
      have et := lets_take (lo := lo) (hi := hi) hr2
      have hin : i < ns.length := (List.getElem?_eq_some_iff.mp hr2).1
      refine ⟨rfl, .int r, rfl, .int lo, rfl, r, lo, rfl, rfl, _, rfl, ite2 (fun e => ?_) (fun e => ?_)⟩
      · have h1 : r ≤ lo := of_decide_eq_true e
        refine iteT ⟨.int r, rfl, .int lo, rfl, r, lo, rfl, rfl, _, rfl, ite2 (fun _ => ?_) (fun z => absurd e z)⟩
        refine ⟨_, upd_same, ?_, ?_⟩
        · rw [List.length_map]
          have := lets_len lo hi (ns.take i)
          rw [List.length_take] at this
          exact small3000 (by omega)
        · rw [upd_upd, et]
          unfold lett
          rw [if_pos h1]
          dsimp only
          rw [List.map_append]
          rfl
      · have h1 : ¬ r ≤ lo := fun z => e (decide_eq_true z)
        refine ⟨.int r, rfl, .int hi, rfl, r, hi, rfl, rfl, _, rfl, ?_⟩
        by_cases h2 : r ≥ hi
        · rw [decide_eq_true h2]
          refine iteT ⟨.int r, rfl, .int lo, rfl, r, lo, rfl, rfl, _, rfl, ite2 (fun z => absurd z e) (fun _ => ?_)⟩
          refine ⟨_, upd_same, ?_, ?_⟩
          · rw [List.length_map]
            have := lets_len lo hi (ns.take i)
            rw [List.length_take] at this
            exact small3000 (by omega)
          · rw [upd_upd, et]
            unfold lett
            rw [if_neg h1, if_pos h2]
            dsimp only
            rw [List.map_append]
            rfl
        · rw [decide_eq_false h2]
          refine iteF ?_
          rw [et]
          unfold lett
          rw [if_neg h1, if_neg h2]
    · rintro H' rfl
      have e0 : ns.take (ns.map V.int).length = ns := by rw [List.length_map]; exact List.take_length
      rw [e0]
      generalize hls : lets lo hi ns = ls
      have hll : ls.length ≤ 3000 := by have := lets_len lo hi ns; rw [hls] at this; omega
      have s1 : Same H (upd H D (.lst (ls.map ltr))) := same_new nD
      have hD : SqL K (upd H D (.lst (ls.map ltr))) D (ls.map ltr) := SqL.of upd_same
      refine ⟨.ref D, rfl, .ref D, rfl, 1, rfl, D, ls.map ltr, rfl, hD, fun c nc => ?_⟩
      rw [cut1]
      have ncD : c ≠ D := fun e => by rw [e, upd_same] at nc; cases nc
      have s2 : Same H (upd (upd H D (.lst (ls.map ltr))) c (.lst ((ls.map ltr).drop 1))) := s1.trans (same_new nc)
      refine ⟨D, c, ls.map ltr, (ls.map ltr).drop 1, rfl, (same_new nc).seq hD, SqL.of upd_same, fun R nR => ?_⟩
      have nRD : R ≠ D := fun e => by rw [e, upd_ne ncD.symm, upd_same] at nR; cases nR
      have nRc : R ≠ c := fun e => by rw [e, upd_same] at nR; cases nR
      have hH2 : H R = none := s2.free nR
      refine lc_it (walk_zip (K := K) (a := D) (b := c) (xs := ls.map ltr) (ys := (ls.map ltr).drop 1) (n := ls.length - 1) (by rw [List.length_drop, List.length_map]; omega))
        (fun i H' => Same H H' ∧ H' D = some (.lst (ls.map ltr)) ∧ H' c = some (.lst ((ls.map ltr).drop 1)) ∧ ∃ acc : List V, H' R = some (.lst acc) ∧ acc.length ≤ i ∧ acc.length + cnt (ls.drop i) = cnt ls) ?_ ?_ ?_ ?_
      · refine ⟨s2.trans (same_new nR), ?_, ?_, [], upd_same, Nat.le_refl _, ?_⟩
        · rw [upd_ne nRD.symm, upd_ne ncD.symm, upd_same]
        · rw [upd_ne nRc.symm, upd_same]
        · show 0 + cnt ls = cnt ls
          omega
      · rintro i H' _ ⟨_, z1, z2, _⟩
        exact ⟨SqL.of z1, SqL.of z2⟩
      · rintro i x H1 H2 hi1 ⟨sm, z1, z2, acc, z3, z4, z5⟩ ⟨T, u, v, rfl, nT, rfl, g1, g2⟩
        have hi2 : i + 1 < ls.length := by omega
        have hi3 : i < ls.length := by omega
        have g1 : (ls.map ltr)[i]? = some u := g1
        have g2 : ((ls.map ltr).drop 1)[i]? = some v := g2
        have eu : u = ltr ls[i] := by
          rw [List.getElem?_map, List.getElem?_eq_getElem hi3] at g1
          exact (Option.some.inj g1).symm
        have ev : v = ltr ls[i + 1] := by
          rw [List.getElem?_drop, List.getElem?_map, Nat.add_comm 1 i, List.getElem?_eq_getElem hi2] at g2
          exact (Option.some.inj g2).symm
        have nTR : R ≠ T := ne_of_none z3 nT
        have nTD : D ≠ T := ne_of_none z1 nT
        have nTc : c ≠ T := ne_of_none z2 nT
        have sT : Same H1 (upd H1 T (.tup [u, v])) := same_new nT
        have cd := cnt_drop (List.getElem?_eq_getElem hi3) (List.getElem?_eq_getElem hi2)
        refine ⟨T, [u, v], rfl, SqT.of upd_same, rfl, u, [v], rfl, v, [], rfl, ?_⟩
        refine ⟨rfl, rfl, u, rfl, v, rfl, by rw [eu, ev]; exact ltr_scal _ _, _, rfl, ?_⟩
        rw [eu, ev, ltr_eq]
        by_cases hq : ls[i] = ls[i + 1]
        · rw [decide_eq_true hq]
          refine iteF ⟨sm.trans (by rw [← eu, ← ev]; exact sT), ?_, ?_, acc, ?_, by omega, ?_⟩
          · rw [upd_ne nTD]; exact z1
          · rw [upd_ne nTc]; exact z2
          · rw [upd_ne nTR]; exact z3
          · rw [if_pos hq] at cd
            omega
        · rw [decide_eq_false hq]
          have z3' : (upd H1 T (.tup [ltr ls[i], ltr ls[i + 1]])) R = some (.lst acc) := by rw [upd_ne nTR]; exact z3
          refine iteT ⟨ltr ls[i], rfl, acc, z3', small3000 (by omega), ?_, ?_, ?_, acc ++ [ltr ls[i]], upd_same, by rw [List.length_append, List.length_singleton]; omega, ?_⟩
          · exact same_again hH2 (sm.trans (by rw [← eu, ← ev]; exact sT))
          · rw [upd_ne nRD.symm, upd_ne nTD]; exact z1
          · rw [upd_ne nRc.symm, upd_ne nTc]; exact z2
          · rw [if_neg hq] at cd
            rw [List.length_append, List.length_singleton]
            omega
      · rintro H' ⟨sm, z1, z2, acc, z3, z4, z5⟩
        have ce : cnt (ls.drop (ls.length - 1)) = 0 := cnt_end (by omega)
        refine ⟨R, acc, rfl, .inl (SqL.of z3), ?_⟩
        have ea : acc.length = chg ns lo hi := by
          show acc.length = cnt (lets lo hi ns)
          rw [hls]
          omega
        rw [ea]
        exact q H' sm
theorem ok_chT {f : Addr} {fd : FuncData} {k : Nat} (F : Fun K "changes" "changes" sCh f fd) (ml : mg "len" = none) (mz : mg "zip" = none) : FnOk P w K mg base CX0 (k + 1) f fd ["load", "low", "high"] (spChT K) := by
  refine F.ok scCh (fun vs H Q E h => ?_) (fun cdv A outer s H vs Q E hr h => ?_)
  · obtain ⟨a, ns, lo, hi, rfl, _⟩ := h
    rfl
  · obtain ⟨a, ns, lo, hi, rfl, hS, hlen, q⟩ := h
    refine ⟨_, pss_cons (ps_setLc (i := 3) (own := [("reading", 4)]) (g := gName 4) rfl scCh.nd rfl rfl (sw_true rfl rfl rfl (by decide +kernel)) (pi_tup (pv 0))
        (blkOk_by (own := [("reading", 4)]) (N := ["load", "low", "high", "letters", "reading", "one", "other"]) (sc := defScope sCh) (by decide +kernel))
        (fun _ _ _ _ _ => pg_name (i := 4) scCh.nd rfl (Or.inl rfl))
        (fun _ _ _ _ _ => pts_one (PW.pt (pw_or (pt_cmpR op_le (pv 4) (pv 1) (nomark _)) (pw_or1 (pt_cmpR op_ge (pv 4) (pv 2) (nomark _))))))
        (fun _ _ _ _ _ => pe_ifExp (pt_cmpR op_le (pv 4) (pv 1) (nomark _)) pe_str pe_str))
      (pss_one (ps_ret (pe_callB call_len_seq (by rfl) ml PySem.boot_len (pa_cons
        (pe_lc (own := [("one", 5), ("other", 6)]) (g := gTup K 2 (gCons (gName 5) (gCons (gName 6) gNil))) rfl scCh.nd (pi_zip (by rfl) mz (pa_cons (pv 3) (pa_cons (pe_slice sl_list (pv 3) (po_some pe_int) po_none) pa_nil)))
          (blkOk_by (own := [("one", 5), ("other", 6)]) (N := ["load", "low", "high", "letters", "reading", "one", "other"]) (sc := defScope sCh) (by decide +kernel))
          (fun _ _ _ _ _ => pg_tup rfl (pgs_cons (pg_name (i := 5) scCh.nd rfl (Or.inl rfl) (Or.inr rfl)) (pgs_cons (pg_name (i := 6) scCh.nd rfl (Or.inl rfl) (Or.inr rfl)) pgs_nil)))
          (fun _ _ _ _ _ => pts_one (pt_cmpR op_ne (pv 5) (pv 6) (nomark _))) (fun _ _ _ _ _ => pv 5)) pa_nil)))), ?_⟩
    refine ⟨.ref a, rfl, a, rfl, ⟨_, hS⟩, fun D nD => lc_tup (K := K) (a := a) (xs := ns.map V.int) (fun i H' => H' = upd H D (.lst ((lets lo hi (ns.take i)).map ltr))) ?_ ?_ ?_ ?_⟩
    · rfl
    · rintro i H' _ rfl
      exact SqT_same (same_new nD) hS
    · rintro i x H' hx rfl
      obtain ⟨r, hr2, rfl⟩ := int_at hx
      have et := lets_take (lo := lo) (hi := hi) hr2
      have hin : i < ns.length := (List.getElem?_eq_some_iff.mp hr2).1
      refine ⟨rfl, .int r, rfl, .int lo, rfl, r, lo, rfl, rfl, _, rfl, ite2 (fun e => ?_) (fun e => ?_)⟩
      · have h1 : r ≤ lo := of_decide_eq_true e
        refine iteT ⟨.int r, rfl, .int lo, rfl, r, lo, rfl, rfl, _, rfl, ite2 (fun _ => ?_) (fun z => absurd e z)⟩
        refine ⟨_, upd_same, ?_, ?_⟩
        · rw [List.length_map]
          have := lets_len lo hi (ns.take i)
          rw [List.length_take] at this
          exact small3000 (by omega)
        · rw [upd_upd, et]
          unfold lett
          rw [if_pos h1]
          dsimp only
          rw [List.map_append]
          rfl
      · have h1 : ¬ r ≤ lo := fun z => e (decide_eq_true z)
        refine ⟨.int r, rfl, .int hi, rfl, r, hi, rfl, rfl, _, rfl, ?_⟩
        by_cases h2 : r ≥ hi
        · rw [decide_eq_true h2]
          refine iteT ⟨.int r, rfl, .int lo, rfl, r, lo, rfl, rfl, _, rfl, ite2 (fun z => absurd z e) (fun _ => ?_)⟩
          refine ⟨_, upd_same, ?_, ?_⟩
          · rw [List.length_map]
            have := lets_len lo hi (ns.take i)
            rw [List.length_take] at this
            exact small3000 (by omega)
          · rw [upd_upd, et]
            unfold lett
            rw [if_neg h1, if_pos h2]
            dsimp only
            rw [List.map_append]
            rfl
        · rw [decide_eq_false h2]
          refine iteF ?_
          rw [et]
          unfold lett
          rw [if_neg h1, if_neg h2]
    · rintro H' rfl
      have e0 : ns.take (ns.map V.int).length = ns := by rw [List.length_map]; exact List.take_length
      rw [e0]
      generalize hls : lets lo hi ns = ls
      have hll : ls.length ≤ 3000 := by have := lets_len lo hi ns; rw [hls] at this; omega
      have s1 : Same H (upd H D (.lst (ls.map ltr))) := same_new nD
      have hD : SqL K (upd H D (.lst (ls.map ltr))) D (ls.map ltr) := SqL.of upd_same
      refine ⟨.ref D, rfl, .ref D, rfl, 1, rfl, D, ls.map ltr, rfl, hD, fun c nc => ?_⟩
      rw [cut1]
      have ncD : c ≠ D := fun e => by rw [e, upd_same] at nc; cases nc
      have s2 : Same H (upd (upd H D (.lst (ls.map ltr))) c (.lst ((ls.map ltr).drop 1))) := s1.trans (same_new nc)
      refine ⟨D, c, ls.map ltr, (ls.map ltr).drop 1, rfl, (same_new nc).seq hD, SqL.of upd_same, fun R nR => ?_⟩
      have nRD : R ≠ D := fun e => by rw [e, upd_ne ncD.symm, upd_same] at nR; cases nR
      have nRc : R ≠ c := fun e => by rw [e, upd_same] at nR; cases nR
      have hH2 : H R = none := s2.free nR
      refine lc_it (walk_zip (K := K) (a := D) (b := c) (xs := ls.map ltr) (ys := (ls.map ltr).drop 1) (n := ls.length - 1) (by rw [List.length_drop, List.length_map]; omega))
        (fun i H' => Same H H' ∧ H' D = some (.lst (ls.map ltr)) ∧ H' c = some (.lst ((ls.map ltr).drop 1)) ∧ ∃ acc : List V, H' R = some (.lst acc) ∧ acc.length ≤ i ∧ acc.length + cnt (ls.drop i) = cnt ls) ?_ ?_ ?_ ?_
      · refine ⟨s2.trans (same_new nR), ?_, ?_, [], upd_same, Nat.le_refl _, ?_⟩
        · rw [upd_ne nRD.symm, upd_ne ncD.symm, upd_same]
        · rw [upd_ne nRc.symm, upd_same]
        · show 0 + cnt ls = cnt ls
          omega
      · rintro i H' _ ⟨_, z1, z2, _⟩
        exact ⟨SqL.of z1, SqL.of z2⟩
      · rintro i x H1 H2 hi1 ⟨sm, z1, z2, acc, z3, z4, z5⟩ ⟨T, u, v, rfl, nT, rfl, g1, g2⟩
        have hi2 : i + 1 < ls.length := by omega
        have hi3 : i < ls.length := by omega
        have g1 : (ls.map ltr)[i]? = some u := g1
        have g2 : ((ls.map ltr).drop 1)[i]? = some v := g2
        have eu : u = ltr ls[i] := by
          rw [List.getElem?_map, List.getElem?_eq_getElem hi3] at g1
          exact (Option.some.inj g1).symm
        have ev : v = ltr ls[i + 1] := by
          rw [List.getElem?_drop, List.getElem?_map, Nat.add_comm 1 i, List.getElem?_eq_getElem hi2] at g2
          exact (Option.some.inj g2).symm
        have nTR : R ≠ T := ne_of_none z3 nT
        have nTD : D ≠ T := ne_of_none z1 nT
        have nTc : c ≠ T := ne_of_none z2 nT
        have sT : Same H1 (upd H1 T (.tup [u, v])) := same_new nT
        have cd := cnt_drop (List.getElem?_eq_getElem hi3) (List.getElem?_eq_getElem hi2)
        refine ⟨T, [u, v], rfl, SqT.of upd_same, rfl, u, [v], rfl, v, [], rfl, ?_⟩
        refine ⟨rfl, rfl, u, rfl, v, rfl, by rw [eu, ev]; exact ltr_scal _ _, _, rfl, ?_⟩
        rw [eu, ev, ltr_eq]
        by_cases hq : ls[i] = ls[i + 1]
        · rw [decide_eq_true hq]
          refine iteF ⟨sm.trans (by rw [← eu, ← ev]; exact sT), ?_, ?_, acc, ?_, by omega, ?_⟩
          · rw [upd_ne nTD]; exact z1
          · rw [upd_ne nTc]; exact z2
          · rw [upd_ne nTR]; exact z3
          · rw [if_pos hq] at cd
            omega
        · rw [decide_eq_false hq]
          have z3' : (upd H1 T (.tup [ltr ls[i], ltr ls[i + 1]])) R = some (.lst acc) := by rw [upd_ne nTR]; exact z3
          refine iteT ⟨ltr ls[i], rfl, acc, z3', small3000 (by omega), ?_, ?_, ?_, acc ++ [ltr ls[i]], upd_same, by rw [List.length_append, List.length_singleton]; omega, ?_⟩
          · exact same_again hH2 (sm.trans (by rw [← eu, ← ev]; exact sT))
          · rw [upd_ne nRD.symm, upd_ne nTD]; exact z1
          · rw [upd_ne nRc.symm, upd_ne nTc]; exact z2
          · rw [if_neg hq] at cd
            rw [List.length_append, List.length_singleton]
            omega
      · rintro H' ⟨sm, z1, z2, acc, z3, z4, z5⟩
        have ce : cnt (ls.drop (ls.length - 1)) = 0 := cnt_end (by omega)
        refine ⟨R, acc, rfl, .inl (SqL.of z3), ?_⟩
        have ea : acc.length = chg ns lo hi := by
          show acc.length = cnt (lets lo hi ns)
          rw [hls]
          omega
        rw [ea]
        exact q H' sm
end
end KA

namespace KB
open PySem PySem.Spec PyProof.Rows L2 KM KA
def lastV : Option Bool → V
  | none => .non
  | some b => .bl (!b)
section
variable {P : Program} {w : World} {K : PySem.W.Frag} {mg : Str → Option Value} {base : Heap}
def spDue (K : PySem.W.Frag) : Sp := fun vs H Q _ => ∃ (a : Addr) (ns : List Int) (lo hi : Int), vs = [.ref a, .int lo, .int hi] ∧ lo < hi ∧ SqL K H a (ns.map V.int) ∧ ∀ H', Same H H' → Q (.int (chg ns lo hi : Nat)) H'
theorem ok_due {f : Addr} {fd : FuncData} {k : Nat} (F : Fun K "_law_due" "_law_due" sDue f fd) (mi : mg "int" = none) : FnOk P w K mg base CX0 (k + 1) f fd ["load", "low", "high"] (spDue K) := by
  refine F.ok scDue (fun vs H Q E h => ?_) (fun cdv A outer s H vs Q E hr h => ?_)
  · obtain ⟨a, ns, lo, hi, rfl, _⟩ := h
    rfl
  · obtain ⟨a, ns, lo, hi, rfl, hlh, hS, q⟩ := h
    refine ⟨_, pss_cons (ps_asg (pe_tup (pa_cons pe_int (pa_cons pe_non pa_nil))) (pg_tup rfl (pgs_cons (pg_name (i := 3) scDue.nd rfl (.inl rfl)) (pgs_cons (pg_name (i := 4) scDue.nd rfl (.inl rfl)) pgs_nil))))
      (pss_cons (ps_for PassesOwn.never rfl (pi_list (pv 0)) (pg_name (i := 5) scDue.nd rfl (.inl rfl))
        (pss_one (ps_if (PW.pt (pw_or (pt_cmpR op_le (pv 5) (pv 1) (nomark _)) (pw_or1 (pt_cmpR op_ge (pv 5) (pv 2) (nomark _)))))
          (pss_cons (ps_set (i := 6) scDue.nd rfl (.inl rfl) (pe_cmpR op_ge (pv 5) (pv 2) (nomark _)))
            (pss_cons (ps_set (i := 3) scDue.nd rfl (.inl rfl) (pe_op op_add (pv 3) (pe_callTy call_int1 (by rfl) mi (by decide +kernel)
              (pa_cons (pe_and (pe_cmpR op_notN (pv 4) pe_non (nomark _)) (pe_one (pe_cmpR op_ne (pv 4) (pv 6) (nomark _)))) pa_nil))))
              (pss_one (ps_set (i := 4) scDue.nd rfl (.inl rfl) (pv 6))))) pss_nil)))
      (pss_one (ps_ret (pv 3)))), ?_⟩
    refine ⟨by show 2 ≤ sizeLine; decide, fun t nt => ?_⟩
    have sm : Same H (upd H t (.tup [.int 0, .non])) := same_new nt
    refine ⟨t, _, rfl, SqT.of upd_same, rfl, _, _, rfl, _, _, rfl, rfl, .ref a, rfl, a, rfl, ⟨_, sm.seq hS⟩, for_list (K := K) (a := a) (xs := ns.map V.int)
      (fun i σ H' => Same H H' ∧ ∃ (o : Option Bool) (fd : Nat) (r5 r6 : Option V), σ = [some (.ref a), some (.int lo), some (.int hi), some (.int fd), some (lastV o), r5, r6] ∧ fd + cfO o (lets lo hi (ns.drop i)) = chg ns lo hi) ?_ ?_ ?_ ?_⟩
    · exact ⟨sm, none, 0, none, none, rfl, by rw [List.drop_zero]; show 0 + KM.cnt (lets lo hi ns) = KM.cnt (lets lo hi ns); omega⟩
    · rintro i σ H' _ ⟨s1, _⟩
      exact s1.seq hS
    · rintro i x σ H' hx ⟨s1, o, fd, r5, r6, rfl, e0⟩
      obtain ⟨r, hr2, rfl⟩ := int_at hx
      have ed := lets_drop (lo := lo) (hi := hi) hr2
      refine ⟨.int r, rfl, .int lo, rfl, r, lo, rfl, rfl, _, rfl, ?_⟩
      by_cases h1 : r ≤ lo
      · rw [decide_eq_true h1]
        have e1 : lett lo hi r = some true := by unfold lett; rw [if_pos h1]
        have e2 : decide (r ≥ hi) = false := decide_eq_false (by omega)
        rw [e1] at ed
        dsimp only at ed
        rw [ed] at e0
        refine iteT (iteT ⟨.int r, rfl, .int hi, rfl, r, hi, rfl, rfl, .int fd, rfl, lastV o, rfl, rfl, ?_⟩)
        have e3 : ¬ hi ≤ r := by omega
        cases o with
        | none => exact ⟨_, rfl, iteF (.inr ⟨_, rfl, _, _, rfl, rfl, _, rfl, s1, some true, fd, some (.int r), some (.bl (decide (r ≥ hi))), by simp [lastV, e3], e0⟩)⟩
        | some c =>
          refine ⟨_, rfl, iteT ⟨.bl (!c), rfl, .bl (decide (r ≥ hi)), rfl, rfl, .inr ⟨_, rfl, _, _, rfl, rfl, _, rfl, s1, some true, fd + (if c = true then 0 else 1), some (.int r), some (.bl (decide (r ≥ hi))), ?_, ?_⟩⟩⟩
          · cases c <;> simp [lastV, e3]
          · have e0 : fd + ((if c = true then 0 else 1) + cf true (lets lo hi (ns.drop (i + 1)))) = chg ns lo hi := e0
            show fd + (if c = true then 0 else 1) + cf true (lets lo hi (ns.drop (i + 1))) = chg ns lo hi
            omega
      · rw [decide_eq_false h1]
        refine iteF ⟨.int r, rfl, .int hi, rfl, r, hi, rfl, rfl, _, rfl, ?_⟩
        by_cases h2 : r ≥ hi
        · rw [decide_eq_true h2]
          have e1 : lett lo hi r = some false := by unfold lett; rw [if_neg h1, if_pos h2]
          rw [e1] at ed
          dsimp only at ed
          rw [ed] at e0
          refine iteT ⟨.int r, rfl, .int hi, rfl, r, hi, rfl, rfl, .int fd, rfl, lastV o, rfl, rfl, ?_⟩
          cases o with
          | none => exact ⟨_, rfl, iteF (.inr ⟨_, rfl, _, _, rfl, rfl, _, rfl, s1, some false, fd, some (.int r), some (.bl (decide (r ≥ hi))), by simp [lastV, h2], e0⟩)⟩
          | some c =>
            refine ⟨_, rfl, iteT ⟨.bl (!c), rfl, .bl (decide (r ≥ hi)), rfl, rfl, .inr ⟨_, rfl, _, _, rfl, rfl, _, rfl, s1, some false, fd + (if c = false then 0 else 1), some (.int r), some (.bl (decide (r ≥ hi))), ?_, ?_⟩⟩⟩
            · cases c <;> simp [lastV, h2]
            · have e0 : fd + ((if c = false then 0 else 1) + cf false (lets lo hi (ns.drop (i + 1)))) = chg ns lo hi := e0
              show fd + (if c = false then 0 else 1) + cf false (lets lo hi (ns.drop (i + 1))) = chg ns lo hi
              omega
        · rw [decide_eq_false h2]
          have e1 : lett lo hi r = none := by unfold lett; rw [if_neg h1, if_neg h2]
          rw [e1] at ed
          dsimp only at ed
          rw [ed] at e0
          exact iteF ⟨s1, o, fd, _, _, rfl, e0⟩
    · rintro σ H' ⟨s1, o, fd, r5, r6, rfl, e0⟩
      have ez : lets lo hi (ns.drop (ns.map V.int).length) = [] := by rw [List.length_map, List.drop_length]; rfl
      rw [ez] at e0
      have e1 : fd = chg ns lo hi := by
        cases o with
        | none => exact e0
        | some c => exact e0
      refine ⟨_, rfl, ?_⟩
      rw [e1]
      exact q H' s1
end
end KB

/-! the law's own drawing: feed, take, pick -/
namespace KD
open PySem PySem.Spec PyProof.Rows L2 KM KA KB
abbrev sFeed : Stmt := topS 3
abbrev sTake : Stmt := topS 4
abbrev sPick : Stmt := topS 5
theorem scFeed : FnScope ["script", "k", "cell", "digits", "state"] ["script", "k"] (defScope sFeed) := ⟨rfl, rfl, rfl, by decide +kernel, rfl, by decide +kernel, by decide +kernel⟩
theorem scTake : FnScope ["feed", "many", "digit"] ["feed", "many"] (defScope sTake) := ⟨rfl, rfl, rfl, by decide +kernel, rfl, by decide +kernel, by decide +kernel⟩
theorem scPick : FnScope ["feed", "some"] ["feed", "some"] (defScope sPick) := ⟨rfl, rfl, rfl, by decide +kernel, rfl, by decide +kernel, by decide +kernel⟩
/-- a feed stands at p -/
def FeedAt (H : Hp) (p : Addr) : Prop := ∃ d st : Int, 0 ≤ d ∧ 0 ≤ st ∧ st < 2305843009213693951 ∧ H p = some (.lst [.int d, .int st])
/-- all that was tracked is as it was, but what stands at f -/
def Ch (f : Addr) (H H' : Hp) : Prop := ∀ b o, b ≠ f → H b = some o → H' b = some o
theorem Ch.refl (f : Addr) (H : Hp) : Ch f H H := fun _ _ _ e => e
theorem Ch.trans {f : Addr} {H H1 H2 : Hp} (a : Ch f H H1) (b : Ch f H1 H2) : Ch f H H2 := fun c o n e => b c o n (a c o n e)
theorem Ch.of_same {f : Addr} {H H' : Hp} (s : Same H H') : Ch f H H' := fun c o _ e => s c o e
theorem Ch.put {f : Addr} {H : Hp} {o : HO} : Ch f H (upd H f o) := fun b x n e => by rw [upd_ne n]; exact e
theorem Ch.new {f p : Addr} {H : Hp} {o : HO} (h : H p = none) : Ch f H (upd H p o) := .of_same (same_new h)
theorem Ch.again {f p : Addr} {H0 H : Hp} {o : HO} (h : H0 p = none) (c : Ch f H0 H) : Ch f H0 (upd H p o) := fun b x n e => by
  rw [upd_ne (ne_of_none e h)]
  exact c b x n e
theorem Ch.free {f p : Addr} {H H' : Hp} (c : Ch f H H') (n : p ≠ f) (h : H' p = none) : H p = none := by
  cases e : H p with
  | none => rfl
  | some o =>
    rw [c p o n e] at h
    cases h
theorem Ch.seq {K : PySem.W.Frag} {f : Addr} {H H' : Hp} {a : Addr} {xs : List V} (c : Ch f H H') (n : a ≠ f) (h : SqL K H a xs) : SqL K H' a xs := by
  rcases h with (h | ⟨o, h⟩) | h
  · exact .inl (.inl (c _ _ n h))
  · exact .inl (.inr ⟨o, c _ _ n h⟩)
  · exact .inr h
/-- what stood ahead of the feed is as it was -/
theorem Ch.old {f : Addr} {H0 H H' : Hp} (c : Ch f H H') (hf : H0 f = none) (s : Same H0 H) : Same H0 H' := fun b o e => c b o (ne_of_none e hf) (s b o e)
theorem FeedAt.ne {H : Hp} {f p : Addr} (h : FeedAt H f) (n : H p = none) : p ≠ f := by
  obtain ⟨d, st, _, _, _, e⟩ := h
  exact fun z => by rw [z, e] at n; cases n
theorem FeedAt.upd {H : Hp} {f p : Addr} {o : HO} (h : FeedAt H f) (n : p ≠ f) : FeedAt (upd H p o) f := by
  obtain ⟨d, st, h1, h2, h3, e⟩ := h
  exact ⟨d, st, h1, h2, h3, by rw [upd_ne n.symm]; exact e⟩
theorem FeedAt.same {H H' : Hp} {f : Addr} (h : FeedAt H f) (s : Same H H') : FeedAt H' f := by
  obtain ⟨d, st, h1, h2, h3, e⟩ := h
  exact ⟨d, st, h1, h2, h3, s _ _ e⟩
section
variable {P : Program} {w : World} {K : PySem.W.Frag} {mg : Str → Option Value} {base : Heap}
def spFeed (K : PySem.W.Frag) : Sp := fun vs H Q _ => ∃ (a : Addr) (ns : List Int) (k : Int), vs = [.ref a, .int k] ∧ SqL K H a (ns.map V.int) ∧ 0 ≤ k ∧ k ≤ 100 ∧
  ∀ H' p, Same H H' → H p = none → FeedAt H' p → Q (.ref p) H'
theorem ok_feed {f : Addr} {fd : FuncData} {k : Nat} (F : Fun K "_law_feed" "_law_feed" sFeed f fd) (ml : mg "len" = none) (mm : mg "max" = none) (ma : mg "abs" = none) : FnOk P w K mg base CX0 (k + 1) f fd ["script", "k"] (spFeed K) := by
  refine F.ok scFeed (fun vs H Q E h => ?_) (fun cdv A outer s H vs Q E hr h => ?_)
  · obtain ⟨a, ns, z, rfl, _⟩ := h
    rfl
  · obtain ⟨a, ns, z, rfl, hS, h0, h1, q⟩ := h
    refine ⟨_, pss_cons (ps_set (i := 2) scFeed.nd rfl (.inl rfl) (pe_ifExp (pt_cmpR op_lt (pv 1) (pe_callB call_len_seq (by rfl) ml PySem.boot_len (pa_cons (pv 0) pa_nil)) (nomark _)) (pe_ix ix_list (pv 0) (pv 1) (fun _ _ => rfl)) (pe_op op_add (pe_op op_mul pe_int (pv 1)) pe_int)))
      (pss_cons (ps_set (i := 3) scFeed.nd rfl (.inl rfl) (pe_callB (call_max2 rfl) (by rfl) mm (by decide +kernel) (pa_cons pe_int (pa_cons (pe_op op_sub (pe_callB call_abs (by rfl) ma (by decide +kernel) (pa_cons (pv 2) pa_nil)) (pe_op op_pow pe_int pe_int)) pa_nil))))
      (pss_cons (ps_set (i := 4) scFeed.nd rfl (.inl rfl) (pe_op op_mod (pe_op op_add (pe_op op_add (pe_op op_mul (pv 2) pe_int) (pe_op op_mul pe_int (pv 1))) pe_int) pe_int))
      (pss_one (ps_ret (pe_lst (pa_cons (pv 3) (pa_cons (pv 4) pa_nil))))))), ?_⟩
    refine ⟨.int z, rfl, .ref a, rfl, a, ns.map V.int, rfl, .inl hS, z, _, rfl, rfl, _, rfl, ite2 (fun e => ?_) (fun e => ?_)⟩
    · have hz : z < ((ns.map V.int).length : Nat) := of_decide_eq_true e
      rw [List.length_map] at hz
      obtain ⟨j, rfl⟩ : ∃ j : Nat, z = (j : Int) := ⟨z.toNat, by omega⟩
      have hj : j < ns.length := by omega
      have gj : (ns.map V.int)[j]? = some (.int ns[j]) := by rw [List.getElem?_map, List.getElem?_eq_getElem hj]; rfl
      refine ⟨.ref a, rfl, .int j, rfl, a, _, _, _, rfl, rfl, hS, atI_nat gj, ?_⟩
      refine ⟨_, rfl, _, rfl, 10, 18, rfl, rfl, ⟨by decide, by decide, by decide⟩, _, _, rfl, rfl, 0, _, rfl, ?_⟩
      refine ⟨_, rfl, _, _, rfl, rfl, .inr ⟨by decide, by decide⟩, .int _, rfl, 7919, _, rfl, rfl, .inl ⟨by decide, by decide⟩, _, _, rfl, rfl, _, _, rfl, rfl, _, _, rfl, rfl, by show (0 : Int) < 2305843009213693951; decide, ?_⟩
      refine ⟨_, rfl, _, rfl, by show 2 ≤ sizeLine; decide, fun p np => q _ p (same_new np) np ⟨_, _, ?_, Int.emod_nonneg _ (by decide), Int.emod_lt_of_pos _ (by decide), upd_same⟩⟩
      split <;> omega
    · refine ⟨.int z, rfl, 83, z, rfl, rfl, .inl ⟨by decide, by decide⟩, _, _, rfl, rfl, ?_⟩
      refine ⟨_, rfl, _, rfl, 10, 18, rfl, rfl, ⟨by decide, by decide, by decide⟩, _, _, rfl, rfl, 0, _, rfl, ?_⟩
      refine ⟨_, rfl, _, _, rfl, rfl, .inr ⟨by decide, by decide⟩, .int _, rfl, 7919, _, rfl, rfl, .inl ⟨by decide, by decide⟩, _, _, rfl, rfl, _, _, rfl, rfl, _, _, rfl, rfl, by show (0 : Int) < 2305843009213693951; decide, ?_⟩
      refine ⟨_, rfl, _, rfl, by show 2 ≤ sizeLine; decide, fun p np => q _ p (same_new np) np ⟨_, _, ?_, Int.emod_nonneg _ (by decide), Int.emod_lt_of_pos _ (by decide), upd_same⟩⟩
      split <;> omega
def spTake : Sp := fun vs H Q _ => ∃ (f : Addr) (m : Int), vs = [.ref f, .int m] ∧ 0 < m ∧ m < 2 ^ 64 ∧ FeedAt H f ∧ ∀ H' r, Ch f H H' → FeedAt H' f → 0 ≤ r → r < m → Q (.int r) H'
theorem ok_take {f : Addr} {fd : FuncData} {k : Nat} (F : Fun K "_law_take" "_law_take" sTake f fd) : FnOk P w K mg base CX0 (k + 1) f fd ["feed", "many"] spTake := by
  refine F.ok scTake (fun vs H Q E h => ?_) (fun cdv A outer s H vs Q E hr h => ?_)
  · obtain ⟨a, m, rfl, _⟩ := h
    rfl
  · obtain ⟨f, m, rfl, m0, m1, ⟨d, st, d0, t0, t1, hf⟩, q⟩ := h
    refine ⟨_, pss_cons (ps_if (pt_cmpR op_gt (pe_ix ix_list (pv 0) pe_int (fun _ _ => rfl)) pe_int (nomark _))
        (pss_cons (ps_set (i := 2) scTake.nd rfl (.inl rfl) (pe_op op_mod (pe_ix ix_list (pv 0) pe_int (fun _ _ => rfl)) (pv 1)))
          (pss_cons (ps_asg (pe_op op_fdivW (pe_ix ix_list (pv 0) pe_int (fun _ _ => rfl)) (pv 1)) (pg_sub (pv 0) pe_int set_list)) (pss_one (ps_ret (pv 2))))) pss_nil)
      (pss_cons (ps_asg (pe_op op_mod (pe_op op_add (pe_op op_mul (pe_ix ix_list (pv 0) pe_int (fun _ _ => rfl)) pe_int) pe_int) pe_int) (pg_sub (pv 0) pe_int set_list))
      (pss_one (ps_ret (pe_op op_mod (pe_op op_fdiv (pe_ix ix_list (pv 0) pe_int (fun _ _ => rfl)) pe_int) (pv 1))))), ?_⟩
    have a0 : atI [V.int d, V.int st] 0 = some (.int d) := rfl
    have a1 : atI [V.int d, V.int st] 1 = some (.int st) := rfl
    refine ⟨.ref f, rfl, f, _, 0, .int d, rfl, rfl, SqL.of hf, a0, d, 0, rfl, rfl, _, rfl, ite2 (fun e => ?_) (fun e => ?_)⟩
    · have hd : d > 0 := of_decide_eq_true e
      refine ⟨.ref f, rfl, f, _, 0, .int d, rfl, rfl, SqL.of hf, a0, .int m, rfl, d, m, rfl, rfl, m0, ?_⟩
      refine ⟨.ref f, rfl, f, _, 0, .int d, rfl, rfl, SqL.of hf, a0, .int m, rfl, d, m, rfl, rfl, wide_div (b := 64) m0 (by omega) (by decide) (by decide), ?_⟩
      refine ⟨.ref f, rfl, f, _, 0, 0, rfl, rfl, hf, rfl, .int (d % m), rfl, ?_⟩
      refine q _ _ Ch.put ⟨d / m, st, Int.ediv_nonneg d0 (by omega), t0, t1, upd_same⟩ (Int.emod_nonneg _ (by omega)) (Int.emod_lt_of_pos _ m0)
    · refine ⟨.ref f, rfl, f, _, 1, .int st, rfl, rfl, SqL.of hf, a1, st, 6364136223846793005, rfl, rfl, .inr ⟨by decide, by decide⟩, _, _, rfl, rfl, _, _, rfl, rfl, by show (0 : Int) < 2305843009213693951; decide, ?_⟩
      refine ⟨.ref f, rfl, f, _, 1, 1, rfl, rfl, hf, rfl, ?_⟩
      refine ⟨.ref f, rfl, f, _, 1, _, rfl, rfl, SqL.of upd_same, rfl, _, 65536, rfl, rfl, ⟨by decide, by decide⟩, .int m, rfl, _, m, rfl, rfl, m0, ?_⟩
      exact q _ _ Ch.put ⟨d, _, d0, Int.emod_nonneg _ (by decide), Int.emod_lt_of_pos _ (by decide), upd_same⟩ (Int.emod_nonneg _ (by omega)) (Int.emod_lt_of_pos _ m0)
def spPick (K : PySem.W.Frag) : Sp := fun vs H Q _ => ∃ (f c : Addr) (xs : List V), vs = [.ref f, .ref c] ∧ c ≠ f ∧ SqL K H c xs ∧ 0 < xs.length ∧ xs.length ≤ 1000 ∧ FeedAt H f ∧
  ∀ H' (j : Nat) v, xs[j]? = some v → Ch f H H' → FeedAt H' f → Q v H'
theorem ok_pick {f fT : Addr} {fd fdT : FuncData} {k : Nat} (F : Fun K "_law_pick" "_law_pick" sPick f fd) (FT : Fun K "_law_take" "_law_take" sTake fT fdT) (gT : mg "_law_take" = some (.ref fT)) (bT : Binds K fdT ["feed", "many"] []) (ml : mg "len" = none) :
    FnOk P w K mg base CX0 (k + 2) f fd ["feed", "some"] (spPick K) := by
  have GT : FnOk P w K mg base CX0 (k + 1) fT fdT ["feed", "many"] spTake := ok_take FT
  refine F.ok scPick (fun vs H Q E h => ?_) (fun cdv A outer s H vs Q E hr h => ?_)
  · obtain ⟨a, m, xs, rfl, _⟩ := h
    rfl
  · obtain ⟨f, c, xs, rfl, ncf, hS, l0, l1, hf, q⟩ := h
    refine ⟨_, pss_one (ps_ret (pe_ix ix_list (pv 1) (pe_call GT hr (by rfl) gT FT.kp bT .nil pass0 (pa_cons (pv 0) (pa_cons (pe_callB call_len_seq (by rfl) ml PySem.boot_len (pa_cons (pv 1) pa_nil)) pa_nil))) (fun _ _ => rfl))), ?_⟩
    refine ⟨.ref c, rfl, .ref f, rfl, .ref c, rfl, c, xs, rfl, .inl hS, f, _, rfl, by omega, by omega, hf, fun H' r ch fe r0 r1 => ?_⟩
    obtain ⟨j, rfl⟩ : ∃ j : Nat, r = (j : Int) := ⟨r.toNat, by omega⟩
    have hj : j < xs.length := by omega
    exact ⟨c, xs, _, xs[j], rfl, rfl, ch.seq ncf hS, atI_nat (List.getElem?_eq_getElem hj), q H' j _ (List.getElem?_eq_getElem hj) ch fe⟩
end
end KD

/-! the law's own loads -/
namespace KL
open PySem PySem.Spec PyProof.Rows L2 KM KA KB KD
abbrev sLoad : Stmt := topS 6
theorem scLoad : FnScope ["feed", "most", "size", "way", "few", "turn", "middle", "step", "found"] ["feed", "most"] (defScope sLoad) := ⟨rfl, rfl, rfl, by decide +kernel, rfl, by decide +kernel, by decide +kernel⟩
theorem small100 {n : Nat} (h : n ≤ 100) : n < sizeLine := Nat.lt_of_le_of_lt h (by decide)
/-- a list of i small ints stands at D, the rest is as it was -/
def Grown (f D : Addr) (H0 : Hp) (i : Nat) (H : Hp) : Prop := Ch f H0 H ∧ FeedAt H f ∧ ∃ ns : List Int, ns.length = i ∧ (∀ n ∈ ns, n.natAbs < 2 ^ 32) ∧ H D = some (.lst (ns.map V.int))
theorem Grown.start {f D : Addr} {H0 H : Hp} (c : Ch f H0 H) (fe : FeedAt H f) (n0 : H0 D = none) (nf : D ≠ f) : Grown f D H0 0 (upd H D (.lst [])) :=
  ⟨Ch.again n0 c, fe.upd nf, [], rfl, fun _ z => (List.not_mem_nil z).elim, upd_same⟩
theorem Grown.turn {f D : Addr} {H0 H : Hp} {i : Nat} (g : Grown f D H0 i H) (n0 : H0 D = none) (nf : D ≠ f) (hi : i ≤ 100) {H1 : Hp} (c : Ch f H H1) (fe : FeedAt H1 f) {r : Int} (hr : r.natAbs < 2 ^ 32) :
    ∃ acc, H1 D = some (.lst acc) ∧ acc.length < sizeLine ∧ Grown f D H0 (i + 1) (upd H1 D (.lst (acc ++ [.int r]))) := by
  obtain ⟨c0, _, ns, hl, hb, e⟩ := g
  refine ⟨ns.map V.int, c _ _ nf e, by rw [List.length_map]; exact small100 (by omega), Ch.again n0 (c0.trans c), fe.upd nf, ns ++ [r], by rw [List.length_append, List.length_singleton, hl], fun n hn => ?_, ?_⟩
  · rcases List.mem_append.mp hn with z | z
    · exact hb n z
    · rw [List.mem_singleton.mp z]; exact hr
  · rw [upd_same, List.map_append]
    rfl
theorem four {a b c d : Int} {j : Nat} {v : V} (h : [V.int a, V.int b, V.int c, V.int d][j]? = some v) : v = .int a ∨ v = .int b ∨ v = .int c ∨ v = .int d := by
  match j, h with
  | 0, h => exact .inl (Option.some.inj h).symm
  | 1, h => exact .inr (.inl (Option.some.inj h).symm)
  | 2, h => exact .inr (.inr (.inl (Option.some.inj h).symm))
  | 3, h => exact .inr (.inr (.inr (Option.some.inj h).symm))
  | n + 4, h => simp at h
theorem three {a b c : Int} {j : Nat} {v : V} (h : [V.int a, V.int b, V.int c][j]? = some v) : v = .int a ∨ v = .int b ∨ v = .int c := by
  match j, h with
  | 0, h => exact .inl (Option.some.inj h).symm
  | 1, h => exact .inr (.inl (Option.some.inj h).symm)
  | 2, h => exact .inr (.inr (Option.some.inj h).symm)
  | n + 3, h => simp at h
section
variable {P : Program} {w : World} {K : PySem.W.Frag} {mg : Str → Option Value} {base : Heap}
def spLoad : Sp := fun vs H Q _ => ∃ (f : Addr) (most : Int), vs = [.ref f, .int most] ∧ 0 ≤ most ∧ most ≤ 99 ∧ FeedAt H f ∧
  ∀ H' p (ns : List Int), Ch f H H' → FeedAt H' f → H p = none → H' p = some (.lst (ns.map V.int)) → (ns.length : Int) ≤ most → (∀ n ∈ ns, n.natAbs < 2 ^ 32) → Q (.ref p) H'
theorem ok_load {f fT fP : Addr} {fd fdT fdP : FuncData} {k : Nat} (F : Fun K "_law_load" "_law_load" sLoad f fd) (FT : Fun K "_law_take" "_law_take" sTake fT fdT) (gT : mg "_law_take" = some (.ref fT)) (bT : Binds K fdT ["feed", "many"] [])
    (FP : Fun K "_law_pick" "_law_pick" sPick fP fdP) (gP : mg "_law_pick" = some (.ref fP)) (bP : Binds K fdP ["feed", "some"] []) (ml : mg "len" = none) (mr : mg "range" = none) (mm : mg "min" = none) :
    FnOk P w K mg base CX0 (k + 3) f fd ["feed", "most"] spLoad := by
  have GT : FnOk P w K mg base CX0 (k + 1) fT fdT ["feed", "many"] spTake := ok_take FT
  have GP : FnOk P w K mg base CX0 (k + 2) fP fdP ["feed", "some"] (spPick K) := ok_pick FP FT gT bT ml
  refine F.ok scLoad (fun vs H Q E h => ?_) (fun cdv A outer s H vs Q E hr h => ?_)
  · obtain ⟨a, m, rfl, _⟩ := h
    rfl
  · obtain ⟨f, most, rfl, m0, m1, hf, q⟩ := h
    have hrT := hr.mono (Nat.le_succ (k + 1))
    refine ⟨_, pss_cons (ps_set (i := 2) scLoad.nd rfl (.inl rfl) (pe_call GT hrT (by rfl) gT FT.kp bT .nil pass0 (pa_cons (pv 0) (pa_cons (pe_op op_add (pv 1) pe_int) pa_nil))))
      (pss_cons (ps_set (i := 3) scLoad.nd rfl (.inl rfl) (pe_call GT hrT (by rfl) gT FT.kp bT .nil pass0 (pa_cons (pv 0) (pa_cons pe_int pa_nil))))
      (pss_cons (ps_if (pt_cmpR op_lt (pv 3) pe_int (nomark _))
        (pss_cons (ps_set (i := 4) scLoad.nd rfl (.inr rfl) (pe_call GP hr (by rfl) gP FP.kp bP .nil pass0 (pa_cons (pv 0) (pa_cons (pe_lst (pa_cons pe_int (pa_cons pe_int (pa_cons pe_int (pa_cons pe_int pa_nil))))) pa_nil))))
          (pss_one (ps_ret (pe_lc (own := [("turn", 5)]) (g := gName 5) rfl scLoad.nd (pi_range1 rfl mr (pa_cons (pv 2) pa_nil)) (blkOk_by (own := [("turn", 5)]) (N := ["feed", "most", "size", "way", "few", "turn", "middle", "step", "found"]) (sc := defScope sLoad) (by decide +kernel))
            (fun _ _ _ _ _ => pg_name (i := 5) scLoad.nd rfl (Or.inl rfl) (Or.inr rfl)) (fun _ _ _ _ _ => pts_nil)
            (fun _ _ _ _ _ => pe_call GT hrT (by rfl) gT FT.kp bT .nil pass0 (pa_cons (pv 0) (pa_cons (pv 4) pa_nil))))))) pss_nil)
      (pss_cons (ps_if (pt_cmpR op_eq (pv 3) pe_int (nomark _))
          (pss_one (ps_ret (pe_lc (own := [("turn", 5)]) (g := gName 5) rfl scLoad.nd (pi_range1 rfl mr (pa_cons (pv 2) pa_nil)) (blkOk_by (own := [("turn", 5)]) (N := ["feed", "most", "size", "way", "few", "turn", "middle", "step", "found"]) (sc := defScope sLoad) (by decide +kernel))
            (fun _ _ _ _ _ => pg_name (i := 5) scLoad.nd rfl (Or.inl rfl) (Or.inr rfl)) (fun _ _ _ _ _ => pts_nil)
            (fun _ _ _ _ _ => pe_op op_sub (pe_call GT hrT (by rfl) gT FT.kp bT .nil pass0 (pa_cons (pv 0) (pa_cons (pe_op op_add (pe_op op_mul pe_int (pe_op op_pow pe_int pe_int)) pe_int) pa_nil))) (pe_op op_pow pe_int pe_int))))) pss_nil)
      (pss_cons (ps_if (pt_cmpR op_eq (pv 3) pe_int (nomark _))
          (pss_cons (ps_par3 (i := 6) (j := 7) (l := 8) (by rfl) scLoad.nd rfl rfl rfl (by decide) (by decide) (by decide) rfl rfl rfl
              (pa_cons (pe_call GT hrT (by rfl) gT FT.kp bT .nil pass0 (pa_cons (pv 0) (pa_cons (pe_op op_add (pv 2) pe_int) pa_nil)))
                (pa_cons (pe_call GP hr (by rfl) gP FP.kp bP .nil pass0 (pa_cons (pv 0) (pa_cons (pe_lst (pa_cons pe_int (pa_cons pe_int (pa_cons (pe_un un_neg pe_int) pa_nil)))) pa_nil)))
                  (pa_cons (pe_lst pa_nil) pa_nil))) (by rfl))
          (pss_cons (ps_for PassesOwn.never rfl (pi_range1 rfl mr (pa_cons (pv 2) pa_nil)) (pg_name (i := 5) scLoad.nd rfl (.inl rfl))
              (pss_cons (ps_expr (pe_bm PySem.F.plainAttrs_list PySem.F.slot_list_append PySem.F.type_list_append mt_append (pv 8) (pa_cons (pe_op op_mul (pv 7) (pe_callB (call_min2 rfl) (by rfl) mm (by decide +kernel) (pa_cons (pv 5) (pa_cons (pv 6) pa_nil)))) pa_nil)))
                (pss_one (ps_set (i := 7) scLoad.nd rfl (.inl rfl) (pe_op op_sub pe_int (pv 7))))))
            (pss_one (ps_ret (pv 8))))) pss_nil)
      (pss_cons (ps_if (pt_cmpR op_eq (pv 3) pe_int (nomark _))
          (pss_one (ps_ret (pe_lc (own := [("turn", 5)]) (g := gName 5) rfl scLoad.nd (pi_range1 rfl mr (pa_cons (pv 2) pa_nil)) (blkOk_by (own := [("turn", 5)]) (N := ["feed", "most", "size", "way", "few", "turn", "middle", "step", "found"]) (sc := defScope sLoad) (by decide +kernel))
            (fun _ _ _ _ _ => pg_name (i := 5) scLoad.nd rfl (Or.inl rfl) (Or.inr rfl)) (fun _ _ _ _ _ => pts_nil)
            (fun _ _ _ _ _ => pe_op op_sub (pe_op op_fdiv (pv 5) pe_int) (pe_call GT hrT (by rfl) gT FT.kp bT .nil pass0 (pa_cons (pv 0) (pa_cons pe_int pa_nil))))))) pss_nil)
      (pss_one (ps_ret (pe_lc (own := [("turn", 5)]) (g := gName 5) rfl scLoad.nd (pi_range1 rfl mr (pa_cons (pv 2) pa_nil)) (blkOk_by (own := [("turn", 5)]) (N := ["feed", "most", "size", "way", "few", "turn", "middle", "step", "found"]) (sc := defScope sLoad) (by decide +kernel))
            (fun _ _ _ _ _ => pg_name (i := 5) scLoad.nd rfl (Or.inl rfl) (Or.inr rfl)) (fun _ _ _ _ _ => pts_nil)
            (fun _ _ _ _ _ => pe_call GP hr (by rfl) gP FP.kp bP .nil pass0 (pa_cons (pv 0) (pa_cons (pe_lst (pa_cons pe_int (pa_cons (pe_un un_neg pe_int) (pa_cons pe_int (pa_cons pe_int pa_nil))))) pa_nil))))))))))), ?_⟩
    -- size
    refine ⟨.ref f, rfl, .int most, rfl, most, 1, rfl, rfl, f, _, rfl, by omega, by omega, hf, fun H1 sz c1 f1 z0 z1 => ?_⟩
    -- way
    refine ⟨.ref f, rfl, f, _, rfl, by decide, by decide, f1, fun H2 way c2 f2 w0 w1 => ?_⟩
    have cc := c1.trans c2
    obtain ⟨n, rfl⟩ : ∃ n : Nat, sz = (n : Int) := ⟨sz.toNat, by omega⟩
    have hn : n ≤ 100 := by omega
    have b62 : -(2 ^ 62) ≤ ((n : Nat) : Int) ∧ ((n : Nat) : Int) < 2 ^ 62 := ⟨by omega, by omega⟩
    have fin : ∀ (D : Addr) (H' : Hp), H D = none → Grown f D H n H' → Q (.ref D) H' := fun D H' n0 g => by
      obtain ⟨c, fe, ns, hl, hb, e⟩ := g
      exact q H' D ns c fe n0 e (by omega) hb
    refine ⟨.int way, rfl, way, 3, rfl, rfl, _, rfl, ite2 (fun _ => ?_) (fun _ => ?_)⟩
    · -- few values
      refine ⟨.ref f, rfl, by decide, fun l nl => ?_⟩
      have nlf := f2.ne nl
      refine ⟨f, l, _, rfl, nlf, SqL.of upd_same, by decide, by decide, f2.upd nlf, fun H3 j v hj c3 f3 => ?_⟩
      have c03 : Ch f H H3 := (Ch.again (cc.free nlf nl) cc).trans c3
      have hv : ∃ few : Int, v = .int few ∧ 0 < few ∧ few < 10 := by
        rcases four hj with e | e | e | e <;> exact ⟨_, e, by decide, by decide⟩
      obtain ⟨few, rfl, p0, p1⟩ := hv
      refine ⟨.int (n : Int), rfl, (n : Int), rfl, b62.1, b62.2, fun D nD => ?_⟩
      have nDf := f3.ne nD
      have n0 := c03.free nDf nD
      refine lc_range (lo := 0) (n := ((n : Int)).toNat) (fun i H' => Grown f D H i H') (Grown.start c03 f3 n0 nDf) (fun i H' hi g => ?_) (fun H' g => fin D H' n0 g)
      refine ⟨rfl, ?_⟩
      refine iteT (B := True) ?_
      refine ⟨.ref f, rfl, .int few, rfl, f, few, rfl, p0, by omega, g.2.1, fun H4 r c4 f4 r0 r1 => g.turn n0 nDf (by omega) c4 f4 (by omega)⟩
    refine ⟨.int way, rfl, rfl, _, rfl, ite2 (fun _ => ?_) (fun _ => ?_)⟩
    · -- great values
      refine ⟨.int (n : Int), rfl, (n : Int), rfl, b62.1, b62.2, fun D nD => ?_⟩
      have nDf := f2.ne nD
      have n0 := cc.free nDf nD
      refine lc_range (lo := 0) (n := ((n : Int)).toNat) (fun i H' => Grown f D H i H') (Grown.start cc f2 n0 nDf) (fun i H' hi g => ?_) (fun H' g => fin D H' n0 g)
      refine ⟨rfl, ?_⟩
      refine iteT (B := True) ?_
      refine ⟨.ref f, rfl, 10, 9, rfl, rfl, ⟨by decide, by decide, by decide⟩, 2, _, rfl, rfl, .inl ⟨by decide, by decide⟩, _, 1, rfl, rfl, f, _, rfl, by decide, by decide, g.2.1, fun H4 r c4 f4 r0 r1 => ?_⟩
      refine ⟨10, 9, rfl, rfl, ⟨by decide, by decide, by decide⟩, r, _, rfl, rfl, g.turn n0 nDf (by omega) c4 f4 ?_⟩
      have e9 : (10 : Int) ^ (9 : Int).toNat = 1000000000 := by decide
      rw [e9] at r1 ⊢
      omega
    refine ⟨.int way, rfl, rfl, _, rfl, ite2 (fun _ => ?_) (fun _ => ?_)⟩
    · -- wider and narrower swings
      refine ⟨.ref f, rfl, .int (n : Int), rfl, (n : Int), 1, rfl, rfl, f, _, rfl, by omega, by omega, f2, fun H3 mid c3 f3 m0 m1 => ?_⟩
      have c03 := cc.trans c3
      refine ⟨.ref f, rfl, 1, rfl, by decide, fun l nl => ?_⟩
      have nlf := f3.ne nl
      refine ⟨f, l, _, rfl, nlf, SqL.of upd_same, by decide, by decide, f3.upd nlf, fun H4 j v hj c4 f4 => ?_⟩
      have c04 : Ch f H H4 := (Ch.again (c03.free nlf nl) c03).trans c4
      have hv : ∃ st : Int, v = .int st ∧ -2 ≤ st ∧ st ≤ 2 := by
        rcases three hj with e | e | e <;> exact ⟨_, e, by decide, by decide⟩
      obtain ⟨st, rfl, p0, p1⟩ := hv
      refine ⟨by decide, fun D nD => ?_⟩
      have nDf := f4.ne nD
      have n0 := c04.free nDf nD
      refine ⟨_, _, _, rfl, .int (n : Int), rfl, (n : Int), rfl, b62.1, b62.2, for_range (lo := 0) (n := ((n : Int)).toNat)
        (fun i σ H' => Grown f D H i H' ∧ ∃ (st : Int) (r5 : Option V), -2 ≤ st ∧ st ≤ 2 ∧ σ = [some (.ref f), some (.int most), some (.int (n : Int)), some (.int way), none, r5, some (.int mid), some (.int st), some (.ref D)]) ?_ ?_ ?_⟩
      · exact ⟨Grown.start c04 f4 n0 nDf, st, none, p0, p1, rfl⟩
      · rintro i σ H' hi ⟨g, st, r5, p0, p1, rfl⟩
        have hi2 : i < 101 := by omega
        obtain ⟨acc, e1, e2, e3⟩ := g.turn n0 nDf (by omega) (Ch.refl f H') g.2.1 (r := st * (if mid < (0 + (i : Int)) then mid else (0 + (i : Int)))) (by
          have hx : 0 ≤ (if mid < (0 + (i : Int)) then mid else (0 + (i : Int))) ∧ (if mid < (0 + (i : Int)) then mid else (0 + (i : Int))) ≤ 200 := by split <;> omega
          generalize (if mid < (0 + (i : Int)) then mid else (0 + (i : Int))) = x at hx
          have hst : st = -2 ∨ st = -1 ∨ st = 0 ∨ st = 1 ∨ st = 2 := by omega
          rcases hst with e | e | e | e | e <;> subst e <;> omega)
        refine ⟨.ref D, rfl, .inl ⟨rfl, _, SqL.of e1⟩, .int st, rfl, .int (0 + (i : Int)), rfl, .int mid, rfl, 0 + (i : Int), mid, rfl, st, _, rfl, rfl, .inl ⟨by omega, by omega⟩, D, acc, _, rfl, rfl, e1, e2, ?_⟩
        exact ⟨.int st, rfl, 0, st, rfl, rfl, e3, 0 - st, _, by omega, by omega, rfl⟩
      · rintro σ H' ⟨g, st, r5, _, _, rfl⟩
        exact ⟨.ref D, rfl, fin D H' n0 g⟩
    refine ⟨.int way, rfl, rfl, _, rfl, ite2 (fun _ => ?_) (fun _ => ?_)⟩
    · -- a climb
      refine ⟨.int (n : Int), rfl, (n : Int), rfl, b62.1, b62.2, fun D nD => ?_⟩
      have nDf := f2.ne nD
      have n0 := cc.free nDf nD
      refine lc_range (lo := 0) (n := ((n : Int)).toNat) (fun i H' => Grown f D H i H') (Grown.start cc f2 n0 nDf) (fun i H' hi g => ?_) (fun H' g => fin D H' n0 g)
      refine ⟨rfl, ?_⟩
      refine iteT (B := True) ?_
      refine ⟨.int (0 + (i : Int)), rfl, 0 + (i : Int), 2, rfl, rfl, ⟨by decide, by decide⟩, .ref f, rfl, f, _, rfl, by decide, by decide, g.2.1, fun H4 r c4 f4 r0 r1 => ?_⟩
      exact ⟨_, r, rfl, rfl, g.turn n0 nDf (by omega) c4 f4 (by omega)⟩
    · refine ⟨.int (n : Int), rfl, (n : Int), rfl, b62.1, b62.2, fun D nD => ?_⟩
      have nDf := f2.ne nD
      have n0 := cc.free nDf nD
      refine lc_range (lo := 0) (n := ((n : Int)).toNat) (fun i H' => Grown f D H i H') (Grown.start cc f2 n0 nDf) (fun i H' hi g => ?_) (fun H' g => fin D H' n0 g)
      refine ⟨rfl, ?_⟩
      refine iteT (B := True) ?_
      refine ⟨.ref f, rfl, 7, rfl, by decide, fun l nl => ?_⟩
      have nlf := g.2.1.ne nl
      refine ⟨f, l, _, rfl, nlf, SqL.of upd_same, by decide, by decide, g.2.1.upd nlf, fun H4 j v hj c4 f4 => ?_⟩
      have hv : ∃ r : Int, v = .int r ∧ r.natAbs < 2 ^ 32 := by
        rcases four hj with e | e | e | e <;> exact ⟨_, e, by decide⟩
      obtain ⟨r, rfl, hr2⟩ := hv
      exact g.turn n0 nDf (by omega) ((Ch.new nl).trans c4) f4 hr2
end
end KL

/-! the law itself -/
namespace KZ
open PySem PySem.Spec PyProof.Rows L2 KM KA KB KD KL
abbrev sLaw : Stmt := topS 8
theorem scLaw : FnScope ["script", "turn", "jagged", "low", "high", "k", "feed", "load", "values", "seen", "again", "ends", "found", "at", "more", "middle", "less"] ["script"] (defScope sLaw) := ⟨rfl, rfl, rfl, by decide +kernel, rfl, by decide +kernel, by decide +kernel⟩
theorem cf_le : ∀ (a : Bool) (l : List Bool), cf a l ≤ l.length
  | _, [] => Nat.le_refl _
  | a, b :: r => by
    have := cf_le b r
    simp only [cf, List.length_cons]
    split <;> omega
theorem chg_le (ns : List Int) (lo hi : Int) : chg ns lo hi ≤ ns.length := by
  have h := lets_len lo hi ns
  unfold chg
  cases e : lets lo hi ns with
  | nil => exact Nat.zero_le _
  | cons a r =>
    have h2 : KM.cnt (a :: r) ≤ r.length := cf_le a r
    rw [e, List.length_cons] at h
    omega
theorem log_small {n : Nat} (h : n ≤ 3000) : ((n : Nat) : Int).natAbs.log2 < 1920 := by
  have h2 : ((n : Nat) : Int).natAbs < 2 ^ 13 := by rw [Int.natAbs_natCast]; omega
  exact Nat.lt_trans (KG.small_log (by decide) h2) (by decide)
theorem cut_to (xs : List V) (k : Nat) (h : k ≤ xs.length) : cutV xs none (some ((k : Nat) : Int)) = xs.take k := by
  unfold cutV
  rw [HT.sIx_none, HT.sIx_nat, Nat.min_eq_left h]
  simp
theorem cut_from (xs : List V) (k : Nat) (h : k ≤ xs.length) : cutV xs (some ((k : Nat) : Int)) none = xs.drop k := by
  unfold cutV
  rw [HT.sIx_nat, HT.sIx_none, Nat.min_eq_left h]
  rw [List.take_of_length_le (by rw [List.length_drop]; omega)]
theorem pair_of {ns : List Int} {x y : Int} (h : ns.Perm [x, y]) : ∃ a b, ns = [a, b] ∧ (a = x ∨ a = y) ∧ (b = x ∨ b = y) := by
  have hl := h.length_eq
  match ns, hl, h with
  | [a, b], _, h =>
    have ha : a ∈ [x, y] := h.mem_iff.mp (by simp)
    have hb : b ∈ [x, y] := h.mem_iff.mp (by simp)
    exact ⟨a, b, rfl, by simpa using ha, by simpa using hb⟩
/-- within the innermost loops -/
structure Inr (H0 : Hp) (f p v : Addr) (load vals : List Int) (H : Hp) : Prop where
  sm : Same H0 H
  fe : FeedAt H f
  hp : H p = some (.lst (load.map V.int))
  hv : H v = some (.lst (vals.map V.int))
theorem Inr.ch {H0 : Hp} {f p v : Addr} {load vals : List Int} {H H' : Hp} (I : Inr H0 f p v load vals H) (hf : H0 f = none) (np : p ≠ f) (nv : v ≠ f) (c : Ch f H H') (fe : FeedAt H' f) : Inr H0 f p v load vals H' :=
  ⟨c.old hf I.sm, fe, c _ _ np I.hp, c _ _ nv I.hv⟩
theorem Inr.same {H0 : Hp} {f p v : Addr} {load vals : List Int} {H H' : Hp} (I : Inr H0 f p v load vals H) (s : Same H H') : Inr H0 f p v load vals H' :=
  ⟨I.sm.trans s, I.fe.same s, s _ _ I.hp, s _ _ I.hv⟩
theorem four_new {H : Hp} {l p2 ps v : Addr} {o1 o2 o3 o4 : HO} (h1 : H l = none) (h2 : upd H l o1 p2 = none) (h3 : upd (upd H l o1) p2 o2 ps = none) (h4 : upd (upd (upd H l o1) p2 o2) ps o3 v = none) :
    Same H (upd (upd (upd H l o1) p2 o2) ps o3) ∧ Same H (upd (upd (upd (upd H l o1) p2 o2) ps o3) v o4) :=
  ⟨((same_new h1).trans (same_new h2)).trans (same_new h3), (((same_new h1).trans (same_new h2)).trans (same_new h3)).trans (same_new h4)⟩
theorem two_new {H : Hp} {l e : Addr} {o1 o2 : HO} (h1 : H l = none) (h2 : upd H l o1 e = none) : Same H (upd (upd H l o1) e o2) := (same_new h1).trans (same_new h2)
def Sm (n : Int) : Prop := n.natAbs < 2 ^ 32
end KZ

namespace KQ
open PySem PySem.Spec PyProof.Rows L2 KM KA KB KD KL KZ
/-- what the top has written -/
structure Txt (K : PySem.W.Frag) (mg : Str → Option Value) (fC fF fT fP fL fU : Addr) (dC dF dT dP dL dU : FuncData) : Prop where
  FC : Fun K "changes" "changes" sCh fC dC
  FF : Fun K "_law_feed" "_law_feed" sFeed fF dF
  FT : Fun K "_law_take" "_law_take" sTake fT dT
  FP : Fun K "_law_pick" "_law_pick" sPick fP dP
  FL : Fun K "_law_load" "_law_load" sLoad fL dL
  FU : Fun K "_law_due" "_law_due" sDue fU dU
  gC : mg "changes" = some (.ref fC)
  gF : mg "_law_feed" = some (.ref fF)
  gT : mg "_law_take" = some (.ref fT)
  gP : mg "_law_pick" = some (.ref fP)
  gL : mg "_law_load" = some (.ref fL)
  gU : mg "_law_due" = some (.ref fU)
  bC : Binds K dC ["load", "low", "high"] []
  bF : Binds K dF ["script", "k"] []
  bT : Binds K dT ["feed", "many"] []
  bP : Binds K dP ["feed", "some"] []
  bL : Binds K dL ["feed", "most"] []
  bU : Binds K dU ["load", "low", "high"] []
  len : mg "len" = none
  zip : mg "zip" = none
  max : mg "max" = none
  min : mg "min" = none
  abs : mg "abs" = none
  int : mg "int" = none
  range : mg "range" = none
  sorted : mg "sorted" = none
  set : mg "set" = none
  repr : mg "repr" = none
  tuple : mg "tuple" = none
def spLaw (K : PySem.W.Frag) : Sp := fun vs H Q _ => ∃ (a : Addr) (ns : List Int), vs = [.ref a] ∧ SqL K H a (ns.map V.int) ∧ ns.length ≤ 63 ∧ ∀ H', Q (.bl true) H'
section
variable {P : Program} {w : World} {K : PySem.W.Frag} {mg : Str → Option Value} {base : Heap} {fC fF fT fP fL fU : Addr} {dC dF dT dP dL dU : FuncData}
theorem ok_law {f : Addr} {fd : FuncData} (F : Fun K "law" "law" sLaw f fd) (T : Txt K mg fC fF fT fP fL fU dC dF dT dP dL dU) : KW.Kept P w K mg base 4 f fd ["script"] (spLaw K) := by
  have GC : FnOk P w K mg base CX0 1 fC dC ["load", "low", "high"] (spCh K) := ok_ch T.FC T.len T.zip
  have GCT : FnOk P w K mg base CX0 1 fC dC ["load", "low", "high"] (spChT K) := ok_chT T.FC T.len T.zip
  have GU : FnOk P w K mg base CX0 1 fU dU ["load", "low", "high"] (spDue K) := ok_due T.FU T.int
  have GF : FnOk P w K mg base CX0 1 fF dF ["script", "k"] (spFeed K) := ok_feed T.FF T.len T.max T.abs
  have GT : FnOk P w K mg base CX0 1 fT dT ["feed", "many"] spTake := ok_take T.FT
  have GP : FnOk P w K mg base CX0 2 fP dP ["feed", "some"] (spPick K) := ok_pick T.FP T.FT T.gT T.bT T.len
  have GL : FnOk P w K mg base CX0 3 fL dL ["feed", "most"] spLoad := ok_load T.FL T.FT T.gT T.bT T.FP T.gP T.bP T.len T.range T.min
  refine KW.kept_of F scLaw (fun vs H Q E h => ?_) (fun cdv A outer s H vs Q E hgA hr h => ?_)
  · obtain ⟨a, ns, rfl, _⟩ := h
    rfl
  · obtain ⟨a, ns, rfl, hS, hlen, q⟩ := h
    have h3 := hr
    have h2 := hr.mono (show 2 ≤ 3 by decide)
    have h1 := hr.mono (show 1 ≤ 3 by decide)
    have hg : (A.deeper (envOfC "law" (defScope sLaw) s.heap.objs.size f cdv)).guards = some [] := hgA
    have hu : (A.deeper (envOfC "law" (defScope sLaw) s.heap.objs.size f cdv)).units + 100 < cLine := by have := hr.un; omega
    refine ⟨_, (pss_cons (ps_setLc (i := 2) (own := [("turn", 1)]) (g := gName 1) rfl scLaw.nd rfl rfl (sw_true rfl rfl rfl (by decide +kernel)) (pi_range1 rfl T.range (pa_cons pe_int pa_nil)) (blkOk_by (own := [("turn", 1)]) (N := ["script", "turn", "jagged", "low", "high", "k", "feed", "load", "values", "seen", "again", "ends", "found", "at", "more", "middle", "less"]) (sc := defScope sLaw) (by decide +kernel))
      (fun _ _ _ _ _ => pg_name (i := 1) scLaw.nd rfl (Or.inl rfl) (Or.inr rfl)) (fun _ _ _ _ _ => pts_nil)
      (fun _ _ _ _ _ => (pe_op op_sub (pe_op op_sub (pe_op op_mul pe_int (pv 1)) (pe_op op_mul (pe_op op_fdiv (pe_op op_mul pe_int (pv 1)) pe_int) pe_int)) pe_int)))
      (pss_cons (ps_for PassesOwn.never rfl (pi_list (pe_lst (pa_cons (pe_tup (pa_cons (pe_un un_neg pe_int) (pa_cons pe_int pa_nil))) (pa_cons (pe_tup (pa_cons pe_int (pa_cons pe_int pa_nil))) (pa_cons (pe_tup (pa_cons (pe_un un_neg pe_int) (pa_cons pe_int pa_nil))) (pa_cons (pe_tup (pa_cons (pe_un un_neg pe_int) (pa_cons pe_int pa_nil))) pa_nil)))))) (pg_tup rfl (pgs_cons (pg_name (i := 3) scLaw.nd rfl (.inl rfl)) (pgs_cons (pg_name (i := 4) scLaw.nd rfl (.inl rfl)) pgs_nil)))
      (pss_one (ps_if (pt_cmpR op_ne (pe_call GC h1 (by rfl) T.gC T.FC.kp T.bC .nil pass0 (pa_cons (pv 2) (pa_cons (pv 3) (pa_cons (pv 4) pa_nil)))) (pe_call GU h1 (by rfl) T.gU T.FU.kp T.bU .nil pass0 (pa_cons (pv 2) (pa_cons (pv 3) (pa_cons (pv 4) pa_nil)))) (nomark _)) (pss_one (ps_ret pe_bl)) pss_nil)))
      (pss_cons (ps_for PassesOwn.never rfl (pi_range1 rfl T.range (pa_cons (pe_callB (call_max2 rfl) (by rfl) T.max (by decide +kernel) (pa_cons pe_int (pa_cons (pe_callB (call_min2 rfl) (by rfl) T.min (by decide +kernel) (pa_cons pe_int (pa_cons (pe_callB call_len_seq (by rfl) T.len PySem.boot_len (pa_cons (pv 0) pa_nil)) pa_nil))) pa_nil))) pa_nil)) (pg_name (i := 5) scLaw.nd rfl (.inl rfl))
      (pss_cons (ps_set (i := 6) scLaw.nd rfl (.inl rfl) (pe_call GF h1 (by rfl) T.gF T.FF.kp T.bF .nil pass0 (pa_cons (pv 0) (pa_cons (pv 5) pa_nil))))
      (pss_one (ps_for PassesOwn.never rfl (pi_range1 rfl T.range (pa_cons pe_int pa_nil)) (pg_name (i := 1) scLaw.nd rfl (.inl rfl))
      (pss_cons (ps_set (i := 7) scLaw.nd rfl (.inl rfl) (pe_call GL h3 (by rfl) T.gL T.FL.kp T.bL .nil pass0 (pa_cons (pv 6) (pa_cons pe_int pa_nil))))
      (pss_cons (ps_set (i := 8) scLaw.nd rfl (.inl rfl) (pe_callB (cr_sortedSet rfl) (by rfl) T.sorted (by decide +kernel) (pa_cons (pe_callTy (KS.cr_setL rfl) (by rfl) T.set (by decide +kernel) (pa_cons (pe_op op_cat (pv 7) (pe_lst (pa_cons pe_int (pa_cons pe_int (pa_cons pe_int (pa_cons (pe_un un_neg (pe_op op_pow pe_int pe_int)) (pa_cons (pe_op op_pow pe_int pe_int) pa_nil))))))) pa_nil)) pa_nil)))
      (pss_cons (ps_set (i := 9) scLaw.nd rfl (.inl rfl) (pe_callB (KG.cr_reprL hg hu) (by rfl) T.repr (by decide +kernel) (pa_cons (pv 7) pa_nil)))
      (pss_one (ps_for PassesOwn.never rfl (pi_range1 rfl T.range (pa_cons pe_int pa_nil)) (pg_name (i := 10) scLaw.nd rfl (.inl rfl))
      (pss_cons (ps_set (i := 11) scLaw.nd rfl (.inl rfl) (pe_callB cr_sorted (by rfl) T.sorted (by decide +kernel) (pa_cons (pe_lst (pa_cons (pe_call GP h2 (by rfl) T.gP T.FP.kp T.bP .nil pass0 (pa_cons (pv 6) (pa_cons (pv 8) pa_nil))) (pa_cons (pe_call GP h2 (by rfl) T.gP T.FP.kp T.bP .nil pass0 (pa_cons (pv 6) (pa_cons (pv 8) pa_nil))) pa_nil))) pa_nil)))
      (pss_cons (ps_set (i := 3) scLaw.nd rfl (.inl rfl) (pe_op op_sub (pe_ix ix_list (pv 11) pe_int (fun _ _ => rfl)) (pe_call GT h1 (by rfl) T.gT T.FT.kp T.bT .nil pass0 (pa_cons (pv 6) (pa_cons pe_int pa_nil)))))
      (pss_cons (ps_set (i := 4) scLaw.nd rfl (.inl rfl) (pe_callB (call_max2 rfl) (by rfl) T.max (by decide +kernel) (pa_cons (pe_op op_add (pv 3) pe_int) (pa_cons (pe_op op_sub (pe_op op_add (pe_ix ix_list (pv 11) pe_int (fun _ _ => rfl)) (pe_call GT h1 (by rfl) T.gT T.FT.kp T.bT .nil pass0 (pa_cons (pv 6) (pa_cons pe_int pa_nil)))) pe_int) pa_nil))))
      (pss_cons (ps_set (i := 12) scLaw.nd rfl (.inl rfl) (pe_call GC h1 (by rfl) T.gC T.FC.kp T.bC .nil pass0 (pa_cons (pv 7) (pa_cons (pv 3) (pa_cons (pv 4) pa_nil)))))
      (pss_cons (ps_if (PW.pt (pw_or (pt_cmpR op_ne (pe_callB SkE.call_repr_int (by rfl) T.repr (by decide +kernel) (pa_cons (pv 12) pa_nil)) (pe_callB SkE.call_repr_int (by rfl) T.repr (by decide +kernel) (pa_cons (pe_call GU h1 (by rfl) T.gU T.FU.kp T.bU .nil pass0 (pa_cons (pv 7) (pa_cons (pv 3) (pa_cons (pv 4) pa_nil)))) pa_nil)) (nomark _)) (pw_or1 (pt_cmpR op_ne (pe_callB (KG.cr_reprL hg hu) (by rfl) T.repr (by decide +kernel) (pa_cons (pv 7) pa_nil)) (pv 9) (nomark _))))) (pss_one (ps_ret pe_bl)) pss_nil)
      (pss_cons (ps_set (i := 13) scLaw.nd rfl (.inl rfl) (pe_call GT h1 (by rfl) T.gT T.FT.kp T.bT .nil pass0 (pa_cons (pv 6) (pa_cons (pe_op op_add (pe_callB call_len_seq (by rfl) T.len PySem.boot_len (pa_cons (pv 7) pa_nil)) pe_int) pa_nil))))
      (pss_cons (ps_set (i := 14) scLaw.nd rfl (.inl rfl) (pe_op op_cat (pe_op op_cat (pe_slice sl_list (pv 7) po_none (po_some (pv 13))) (pe_lst (pa_cons (pe_call GP h2 (by rfl) T.gP T.FP.kp T.bP .nil pass0 (pa_cons (pv 6) (pa_cons (pv 8) pa_nil))) pa_nil))) (pe_slice sl_list (pv 7) (po_some (pv 13)) po_none)))
      (pss_cons (ps_if (pt_cmpR op_lt (pe_call GCT h1 (by rfl) T.gC T.FC.kp T.bC .nil pass0 (pa_cons (pe_callTy call_tuple_of (by rfl) T.tuple (by decide +kernel) (pa_cons (pv 14) pa_nil)) (pa_cons (pv 3) (pa_cons (pv 4) pa_nil)))) (pv 12) (nomark _)) (pss_one (ps_ret pe_bl)) pss_nil)
      (pss_cons (ps_set (i := 15) scLaw.nd rfl (.inl rfl) (pe_op op_add (pv 3) (pe_call GT h1 (by rfl) T.gT T.FT.kp T.bT .nil pass0 (pa_cons (pv 6) (pa_cons (pe_op op_sub (pv 4) (pv 3)) pa_nil)))))
      (pss_one (ps_for PassesOwn.never rfl (pi_list (pe_lst (pa_cons (pe_tup (pa_cons (pv 15) (pa_cons (pv 4) pa_nil))) (pa_cons (pe_tup (pa_cons (pv 3) (pa_cons (pe_op op_add (pv 15) pe_int) pa_nil))) pa_nil)))) (pg_name (i := 16) scLaw.nd rfl (.inl rfl))
      (pss_one (ps_if (pt_cmpR op_lt (pe_call GC h1 (by rfl) T.gC T.FC.kp T.bC .nil pass0 (pa_cons (pv 7) (pa_cons (pe_ix ix_tup (pv 16) pe_int (fun _ _ => rfl)) (pa_cons (pe_ix ix_tup (pv 16) pe_int (fun _ _ => rfl)) pa_nil)))) (pv 12) (nomark _)) (pss_one (ps_ret pe_bl)) pss_nil))))))))))))))))))))))
      (pss_one (ps_ret pe_bl))))), ?_⟩
    -- jagged
    refine ⟨2000, rfl, by decide, by decide, fun J nJ => lc_range (lo := 0) (n := (2000 : Int).toNat) (fun i H' => ∃ js : List Int, js.length = i ∧ H' = upd H J (.lst (js.map V.int))) ?_ ?_ ?_⟩
    · exact ⟨[], rfl, rfl⟩
    · rintro i H' hi ⟨js, rfl, rfl⟩
      have hi2 : js.length < 2000 := hi
      refine ⟨rfl, ?_⟩
      refine iteT (B := True) ?_
      refine ⟨.int (0 + (js.length : Int)), rfl, 37, _, rfl, rfl, .inl ⟨by decide, by decide⟩, .int (0 + (js.length : Int)), rfl, 37, _, rfl, rfl, .inl ⟨by decide, by decide⟩, _, 101, rfl, rfl, ⟨by decide, by decide⟩, _, 101, rfl, rfl, .inr ⟨by decide, by decide⟩, _, _, rfl, rfl, _, 50, rfl, rfl,
        js.map V.int, upd_same, by rw [List.length_map]; exact small3000 (by omega), js ++ [37 * (0 + (js.length : Int)) - 37 * (0 + (js.length : Int)) / 101 * 101 - 50], by rw [List.length_append, List.length_singleton], ?_⟩
      rw [upd_upd, List.map_append]
      rfl
    rintro HJ ⟨js, hjs, rfl⟩
    have hjs2 : js.length = 2000 := hjs
    -- the four ranges
    refine ⟨40, rfl, by decide, fun T1 n1 => ⟨by decide, fun T2 n2 => ⟨51, rfl, by decide, fun T3 n3 => ⟨20, rfl, by decide, fun T4 n4 => ⟨by show 4 ≤ sizeLine; decide, fun L nL => ?_⟩⟩⟩⟩⟩
    have s0 : Same H (upd H J (.lst (js.map V.int))) := same_new nJ
    have s5 := same_new (o := .lst [.ref T1, .ref T2, .ref T3, .ref T4]) nL
    have s4 := (same_new (o := .tup [.int (-20), .int 45]) n4).trans s5
    have s3 := (same_new (o := .tup [.int (-51), .int 51]) n3).trans s4
    have s2 := (same_new (o := .tup [.int 0, .int 1]) n2).trans s3
    have s1 := (same_new (o := .tup [.int (-40), .int 40]) n1).trans s2
    refine ⟨L, rfl, ⟨_, SqL.of upd_same⟩, ?_⟩
    have g1 := s2 T1 _ upd_same
    have g2 := s3 T2 _ upd_same
    have g3 := s4 T3 _ upd_same
    have g4 := s5 T4 _ upd_same
    have gL := upd_same (H := (upd (upd (upd (upd (upd H J (.lst (js.map V.int))) T1 (.tup [.int (-40), .int 40])) T2 (.tup [.int 0, .int 1])) T3 (.tup [.int (-51), .int 51])) T4 (.tup [.int (-20), .int 45]))) (a := L) (o := .lst [.ref T1, .ref T2, .ref T3, .ref T4])
    have gJ := s1 J _ upd_same
    have s01 := s0.trans s1
    generalize upd (upd (upd (upd (upd (upd H J (.lst (js.map V.int))) T1 (.tup [.int (-40), .int 40])) T2 (.tup [.int 0, .int 1])) T3 (.tup [.int (-51), .int 51])) T4 (.tup [.int (-20), .int 45])) L (.lst [.ref T1, .ref T2, .ref T3, .ref T4]) = Hq at g1 g2 g3 g4 gL gJ s01 ⊢
    refine for_list (K := K) (a := L) (xs := [.ref T1, .ref T2, .ref T3, .ref T4]) (fun i σ H' => Same Hq H' ∧ ∃ r3 r4 : Option V, σ = [some (.ref a), none, some (.ref J), r3, r4, none, none, none, none, none, none, none, none, none, none, none, none]) ?_ ?_ ?_ ?_
    · exact ⟨Same.refl _, none, none, rfl⟩
    · rintro i σ H' _ ⟨sm, _⟩
      exact SqL.of (sm _ _ gL)
    · rintro i x σ H' hx ⟨sm, r3, r4, rfl⟩
      obtain ⟨T, u, v, rfl, hT, huv⟩ : ∃ (T : Addr) (u v : Int), x = .ref T ∧ Hq T = some (.tup [.int u, .int v]) ∧ u < v := by
        match i, hx with
        | 0, hx => exact ⟨T1, _, _, (Option.some.inj hx).symm, g1, by decide⟩
        | 1, hx => exact ⟨T2, _, _, (Option.some.inj hx).symm, g2, by decide⟩
        | 2, hx => exact ⟨T3, _, _, (Option.some.inj hx).symm, g3, by decide⟩
        | 3, hx => exact ⟨T4, _, _, (Option.some.inj hx).symm, g4, by decide⟩
        | n + 4, hx => simp at hx
      refine ⟨T, [.int u, .int v], rfl, SqT.of (sm _ _ hT), rfl, .int u, [.int v], rfl, .int v, [], rfl, rfl, ?_⟩
      refine ⟨.ref J, rfl, .int u, rfl, .int v, rfl, J, js, u, v, rfl, SqL.of (sm _ _ gJ), by omega, fun H1 t1 => ?_⟩
      refine ⟨.ref J, rfl, .int u, rfl, .int v, rfl, J, js, u, v, rfl, huv, SqL.of (t1 _ _ (sm _ _ gJ)), fun H2 t2 => ?_⟩
      exact ⟨rfl, _, rfl, iteNS rfl ⟨sm.trans (t1.trans t2), _, _, rfl⟩⟩
    rintro σ H' ⟨smq, r3, r4, rfl⟩
    have sm := s01.trans smq
    clear smq g1 g2 g3 g4 gL gJ s01
    -- for k
    refine ⟨.ref a, rfl, a, ns.map V.int, rfl, .inl (sm.seq hS), 6, ((ns.map V.int).length : Int), rfl, 2, _, rfl, _, rfl, ?_⟩
    generalize hm : (if (if ((ns.map V.int).length : Int) < 6 then ((ns.map V.int).length : Int) else 6) > 2 then (if ((ns.map V.int).length : Int) < 6 then ((ns.map V.int).length : Int) else 6) else 2) = m
    have m0 : 0 ≤ m ∧ m ≤ 6 := by subst hm; split <;> split <;> omega
    refine ⟨by omega, by omega, for_range (lo := 0) (n := m.toNat) (fun i σ H' => Same H H' ∧ ∃ r1 r3 r4 r5 r6 r7 r8 r9 r10 r11 r12 r13 r14 r15 r16 : Option V,
      σ = [some (.ref a), r1, some (.ref J), r3, r4, r5, r6, r7, r8, r9, r10, r11, r12, r13, r14, r15, r16]) ⟨sm, _, _, _, _, _, _, _, _, _, _, _, _, _, _, _, rfl⟩ ?_ (fun σ H' _ => q H')⟩
    clear sm
    rintro i σ H' hi ⟨sm, r1, r3, r4, r5, r6, r7, r8, r9, r10, r11, r12, r13, r14, r15, r16, rfl⟩
    refine ⟨.ref a, rfl, .int (0 + (i : Int)), rfl, a, ns, 0 + (i : Int), rfl, sm.seq hS, by omega, by omega, fun H1 f s1 nf fe => ?_⟩
    have hf0 : H f = none := sm.free nf
    -- for turn
    refine ⟨6, rfl, by decide, by decide, for_range (lo := 0) (n := (6 : Int).toNat) (fun j σ H' => Same H H' ∧ FeedAt H' f ∧ ∃ r1 r3 r4 r5 r7 r8 r9 r10 r11 r12 r13 r14 r15 r16 : Option V,
      σ = [some (.ref a), r1, some (.ref J), r3, r4, r5, some (.ref f), r7, r8, r9, r10, r11, r12, r13, r14, r15, r16]) ⟨sm.trans s1, fe, _, _, _, _, _, _, _, _, _, _, _, _, _, _, rfl⟩ ?_ ?_⟩
    case refine_2 =>
      rintro σ H' ⟨sm, _, r1, r3, r4, r5, r7, r8, r9, r10, r11, r12, r13, r14, r15, r16, rfl⟩
      exact ⟨sm, _, _, _, _, _, _, _, _, _, _, _, _, _, _, _, rfl⟩
    clear sm fe
    rintro j σ H3 hj ⟨sm, fe, r1, r3, r4, r5, r7, r8, r9, r10, r11, r12, r13, r14, r15, r16, rfl⟩
    -- load
    refine ⟨.ref f, rfl, f, 15, rfl, by decide, by decide, fe, fun H4 p load c4 fe4 np0 hp hl hb => ?_⟩
    have np : p ≠ f := fe.ne np0
    have sm4 : Same H H4 := c4.old hf0 sm
    -- values
    refine ⟨.ref p, rfl, 10, 9, rfl, rfl, ⟨by decide, by decide, by decide⟩, _, rfl, 10, 9, rfl, rfl, ⟨by decide, by decide, by decide⟩, by decide, fun l nl => ?_⟩
    have npl : p ≠ l := ne_of_none hp nl
    refine ⟨p, l, _, _, rfl, rfl, by rw [upd_ne npl]; exact hp, upd_same, by rw [List.length_map]; exact Nat.le_of_lt (small100 (by show load.length + 5 ≤ 100; omega)), fun p2 n2 => ?_⟩
    refine ⟨p2, load ++ [0, 1, 5, -(10 ^ (9 : Int).toNat), 10 ^ (9 : Int).toNat], rfl, SqL.of (by rw [upd_same, List.map_append]; rfl), by rw [List.length_append]; show load.length + 5 ≤ 1000; omega, fun ps c nps hc => ?_⟩
    have hc2 : c ≤ load.length + 5 := by rw [List.length_append] at hc; exact hc
    refine ⟨ps, _, c, rfl, upd_same, by omega, fun vals v asc mem hlv nv => ?_⟩
    obtain ⟨sA, sV⟩ := four_new (o4 := .lst (vals.map V.int)) nl n2 nps nv
    have nvf : v ≠ f := (fe4.same sA).ne nv
    have inr0 : Inr H f p v load vals _ := ⟨sm4.trans sV, fe4.same sV, sV _ _ hp, upd_same⟩
    have v0 : 0 < vals.length := by
      have : (0 : Int) ∈ vals := (mem 0).mpr (decide_eq_true (by simp))
      exact List.length_pos_of_mem this
    have vb : ∀ n ∈ vals, n.natAbs < 2 ^ 32 := fun n hn => by
      have hz := of_decide_eq_true ((mem n).mp hn)
      rcases List.mem_append.mp hz with z | z
      · exact hb n z
      · have e9 : (10 : Int) ^ (9 : Int).toNat = 1000000000 := by decide
        rw [e9] at z
        simp only [List.mem_cons, List.not_mem_nil, or_false] at z
        rcases z with e | e | e | e | e <;> subst e <;> decide
    have v1 : vals.length ≤ 1000 := by omega
    clear sV sA mem asc hlv
    -- seen
    refine ⟨.ref p, rfl, p, load, rfl, SqL.of inr0.hp, fun n hn => Nat.lt_trans (hb n hn) (by decide), by omega, ?_⟩
    have nvp : True := trivial
    -- for again
    refine ⟨6, rfl, by decide, by decide, for_range (lo := 0) (n := (6 : Int).toNat) (fun _ σ H' => Inr H f p v load vals H' ∧ ∃ r1 r3 r4 r5 r10 r11 r12 r13 r14 r15 r16 : Option V,
      σ = [some (.ref a), r1, some (.ref J), r3, r4, r5, some (.ref f), some (.ref p), some (.ref v), some (.str (KG.reprL load)), r10, r11, r12, r13, r14, r15, r16]) ⟨inr0, _, _, _, _, _, _, _, _, _, _, _, rfl⟩ ?_ ?_⟩
    case refine_2 =>
      rintro σ H' ⟨I, r1, r3, r4, r5, r10, r11, r12, r13, r14, r15, r16, rfl⟩
      exact ⟨I.sm, I.fe, _, _, _, _, _, _, _, _, _, _, _, _, _, _, rfl⟩
    clear inr0
    rintro t σ H6 _ ⟨I6, r1, r3, r4, r5, r10, r11, r12, r13, r14, r15, r16, rfl⟩
    -- ends
    refine ⟨.ref f, rfl, .ref v, rfl, f, v, vals.map V.int, rfl, nvf, SqL.of I6.hv, by rw [List.length_map]; exact v0, by rw [List.length_map]; exact v1, I6.fe, fun H7 j1 x1 e1 c7 fe7 => ?_⟩
    have I7 := I6.ch hf0 np nvf c7 fe7
    obtain ⟨x, ex, rfl⟩ := int_at e1
    refine ⟨.ref f, rfl, .ref v, rfl, f, v, vals.map V.int, rfl, nvf, SqL.of I7.hv, by rw [List.length_map]; exact v0, by rw [List.length_map]; exact v1, I7.fe, fun H8 j2 x2 e2 c8 fe8 => ?_⟩
    have I8 := I7.ch hf0 np nvf c8 fe8
    obtain ⟨y, ey, rfl⟩ := int_at e2
    have bx : x.natAbs < 2 ^ 32 := vb x (List.mem_of_getElem? ex)
    have bY : y.natAbs < 2 ^ 32 := vb y (List.mem_of_getElem? ey)
    refine ⟨by show 2 ≤ sizeLine; decide, fun l2 nl2 => ?_⟩
    refine ⟨l2, [x, y], rfl, SqL.of upd_same, by show 2 < 64; decide, fun es e pe asc ne => ?_⟩
    obtain ⟨a0, a1, rfl, ha0, ha1⟩ := pair_of pe
    have b0 : a0.natAbs < 2 ^ 32 := by rcases ha0 with z | z <;> rw [z] <;> assumption
    have b1 : a1.natAbs < 2 ^ 32 := by rcases ha1 with z | z <;> rw [z] <;> assumption
    have nef : e ≠ f := (I8.fe.same (same_new nl2)).ne ne
    have I9 := I8.same (two_new (o2 := .lst ([a0, a1].map V.int)) nl2 ne)
    -- low
    refine ⟨.ref e, rfl, e, _, 0, .int a0, rfl, rfl, SqL.of upd_same, rfl, .ref f, rfl, f, 2, rfl, by decide, by decide, I9.fe, fun H10 r1 c10 fe10 p0 p1 => ?_⟩
    have I10 := I9.ch hf0 np nvf c10 fe10
    have he10 := c10 e _ nef upd_same
    refine ⟨a0, r1, rfl, rfl, ?_⟩
    -- high
    refine ⟨.int (a0 - r1), rfl, a0 - r1, 1, rfl, rfl, .ref e, rfl, e, _, 1, .int a1, rfl, rfl, SqL.of he10, rfl, .ref f, rfl, f, 3, rfl, by decide, by decide, I10.fe, fun H11 r2 c11 fe11 p2 p3 => ?_⟩
    have I11 := I10.ch hf0 np nvf c11 fe11
    refine ⟨a1, r2, rfl, rfl, a1 + r2, 1, rfl, rfl, a0 - r1 + 1, a1 + r2 - 1, rfl, ?_⟩
    dsimp only
    generalize hlo : a0 - r1 = lo
    generalize hhi : (if a1 + r2 - 1 > lo + 1 then a1 + r2 - 1 else lo + 1) = hi
    have hlh : lo < hi := by rw [← hhi]; split <;> omega
    have hsz : hi - lo < 2 ^ 60 := by rw [← hhi]; split <;> omega
    clear hlo hhi he10 c10 c11 I9 I10 I8 I7 c7 c8
    -- found
    refine ⟨.ref p, rfl, .int lo, rfl, .int hi, rfl, p, load, lo, hi, rfl, SqL.of I11.hp, by omega, fun H12 s12 => ?_⟩
    have I12 := I11.same s12
    have hc3 : chg load lo hi ≤ 3000 := by have := chg_le load lo hi; omega
    refine ⟨_, rfl, _, rfl, log_small hc3, .ref p, rfl, .int lo, rfl, .int hi, rfl, p, load, lo, hi, rfl, hlh, SqL.of I12.hp, fun H13 s13 => ?_⟩
    have I13 := I12.same s13
    refine ⟨_, rfl, log_small hc3, rfl, _, rfl, iteNS rfl ?_⟩
    refine ⟨.ref p, rfl, p, load, rfl, SqL.of I13.hp, fun n hn => Nat.lt_trans (hb n hn) (by decide), by omega, .str (KG.reprL load), rfl, rfl, _, rfl, iteNS rfl ?_⟩
    -- at
    refine ⟨.ref f, rfl, .ref p, rfl, p, load.map V.int, rfl, .inl (SqL.of I13.hp), ((load.map V.int).length : Int), 1, rfl, rfl, f, _, rfl, by omega, by rw [List.length_map]; omega, I13.fe, fun H14 at' c14 fe14 t0 t1 => ?_⟩
    have I14 := I13.ch hf0 np nvf c14 fe14
    obtain ⟨k, rfl⟩ : ∃ k : Nat, at' = (k : Int) := ⟨at'.toNat, by omega⟩
    have hk : k ≤ (load.map V.int).length := by omega
    -- more
    refine ⟨.ref p, rfl, .int (k : Int), rfl, (k : Int), rfl, p, load.map V.int, rfl, SqL.of I14.hp, fun q1 nq1 => ?_⟩
    have I15 := I14.same (same_new (o := .lst (cutV (load.map V.int) none (some (k : Int)))) nq1)
    refine ⟨.ref f, rfl, .ref v, rfl, f, v, vals.map V.int, rfl, nvf, SqL.of I15.hv, by rw [List.length_map]; exact v0, by rw [List.length_map]; exact v1, I15.fe, fun H16 j3 x3 e3 c16 fe16 => ?_⟩
    have I16 := I15.ch hf0 np nvf c16 fe16
    obtain ⟨u, eu, rfl⟩ := int_at e3
    have hq1 := c16 q1 _ (I14.fe.ne nq1) upd_same
    rw [cut_to _ _ hk] at hq1
    refine ⟨by show 1 ≤ sizeLine; decide, fun l3 nl3 => ?_⟩
    have nql : q1 ≠ l3 := ne_of_none hq1 nl3
    have lk : ((load.map V.int).take k).length ≤ 15 := by rw [List.length_take, List.length_map]; omega
    have ld : ((load.map V.int).drop k).length ≤ 15 := by rw [List.length_drop, List.length_map]; omega
    refine ⟨q1, l3, _, _, rfl, rfl, by rw [upd_ne nql]; exact hq1, upd_same, Nat.le_of_lt (small100 (by show ((load.map V.int).take k).length + 1 ≤ 100; omega)), fun q2 nq2 => ?_⟩
    have I17 := I16.same (two_new (o1 := .lst [.int u]) (o2 := .lst ((load.map V.int).take k ++ [.int u])) nl3 nq2)
    refine ⟨.ref p, rfl, .int (k : Int), rfl, (k : Int), rfl, p, load.map V.int, rfl, SqL.of I17.hp, fun q3 nq3 => ?_⟩
    rw [cut_from _ _ hk] at *
    have nq23 : q2 ≠ q3 := ne_of_none upd_same nq3
    have hq2 : ((load.map V.int).take k ++ [V.int u]).length ≤ 16 := by rw [List.length_append, List.length_singleton]; omega
    refine ⟨q2, q3, _, _, rfl, rfl, by rw [upd_ne nq23, upd_same], upd_same, Nat.le_of_lt (small100 (by omega)), fun q4 nq4 => ?_⟩
    have I18 := I17.same (two_new (o1 := .lst ((load.map V.int).drop k)) (o2 := .lst (((load.map V.int).take k ++ [V.int u]) ++ (load.map V.int).drop k)) nq3 nq4)
    have em : ((load.map V.int).take k ++ [V.int u]) ++ (load.map V.int).drop k = (load.take k ++ [u] ++ load.drop k).map V.int := by simp [List.map_append, List.map_take, List.map_drop]
    -- changes(tuple(more), low, high) < found
    refine ⟨.ref q4, rfl, q4, _, rfl, .inl ⟨SqL.of upd_same, fun t4 nt4 => ?_⟩⟩
    have I19 := I18.same (same_new (o := .tup (((load.map V.int).take k ++ [V.int u]) ++ (load.map V.int).drop k)) nt4)
    refine ⟨.int lo, rfl, .int hi, rfl, t4, load.take k ++ [u] ++ load.drop k, lo, hi, rfl, SqT.of (by rw [upd_same, em]), by rw [List.length_append, List.length_append, List.length_take, List.length_drop, List.length_singleton]; omega, fun H20 s20 => ?_⟩
    have I20 := I19.same s20
    have hput := chg_put load k u lo hi
    refine ⟨_, rfl, _, _, rfl, rfl, _, rfl, ite2 (fun z => absurd (of_decide_eq_true z) (by omega)) (fun _ => ?_)⟩
    -- middle
    refine ⟨.int lo, rfl, .ref f, rfl, .int hi, rfl, .int lo, rfl, hi, lo, rfl, rfl, f, _, rfl, by omega, by omega, I20.fe, fun H21 r3' c21 fe21 m1 m2 => ?_⟩
    have I21 := I20.ch hf0 np nvf c21 fe21
    refine ⟨lo, r3', rfl, rfl, ?_⟩
    -- for less
    refine ⟨.int (lo + r3'), rfl, .int hi, rfl, by show 2 ≤ sizeLine; decide, fun T1 nT1 => ⟨.int lo, rfl, .int (lo + r3'), rfl, lo + r3', 1, rfl, rfl, by show 2 ≤ sizeLine; decide, fun T2 nT2 => ⟨by show 2 ≤ sizeLine; decide, fun L3 nL3 => ?_⟩⟩⟩
    have z1 := (same_new (o := .tup [.int lo, .int (lo + r3' + 1)]) nT2).trans (same_new (o := .lst [.ref T1, .ref T2]) nL3)
    have I22 := I21.same ((same_new (o := .tup [.int (lo + r3'), .int hi]) nT1).trans z1)
    have d1 := z1 T1 _ upd_same
    have d2 := same_new (o := .lst [.ref T1, .ref T2]) nL3 T2 _ upd_same
    have d3 := upd_same (H := (upd (upd H21 T1 (.tup [.int (lo + r3'), .int hi])) T2 (.tup [.int lo, .int (lo + r3' + 1)]))) (a := L3) (o := .lst [.ref T1, .ref T2])
    refine ⟨L3, rfl, ⟨_, SqL.of upd_same⟩, ?_⟩
    generalize upd (upd (upd H21 T1 (.tup [.int (lo + r3'), .int hi])) T2 (.tup [.int lo, .int (lo + r3' + 1)])) L3 (.lst [.ref T1, .ref T2]) = Hz at I22 d1 d2 d3 ⊢
    refine for_list (K := K) (a := L3) (xs := [.ref T1, .ref T2]) (fun _ σ H' => Same Hz H' ∧ ∃ r1 r3 r4 r5 r10 r11 r13 r14 r15 r16 : Option V,
      σ = [some (.ref a), r1, some (.ref J), r3, r4, r5, some (.ref f), some (.ref p), some (.ref v), some (.str (KG.reprL load)), r10, r11, some (.int (chg load lo hi : Nat)), r13, r14, r15, r16]) ?_ ?_ ?_ ?_
    · exact ⟨Same.refl _, _, _, _, _, _, _, _, _, _, _, rfl⟩
    · rintro i σ H' _ ⟨sm, _⟩
      exact SqL.of (sm _ _ d3)
    · rintro i x' σ H' hx' ⟨smz, r1, r3, r4, r5, r10, r11, r13, r14, r15, r16, rfl⟩
      obtain ⟨T5, a', b', rfl, hT, hch⟩ : ∃ (T5 : Addr) (a' b' : Int), x' = .ref T5 ∧ Hz T5 = some (.tup [.int a', .int b']) ∧ chg load lo hi ≤ chg load a' b' := by
        match i, hx' with
        | 0, hx' => exact ⟨T1, _, _, (Option.some.inj hx').symm, d1, chg_range (by omega) (Int.le_refl _) (by omega) load⟩
        | 1, hx' => exact ⟨T2, _, _, (Option.some.inj hx').symm, d2, chg_range (Int.le_refl _) (by omega) (by omega) load⟩
        | n + 2, hx' => simp at hx'
      have hT' := smz _ _ hT
      refine ⟨.ref p, rfl, .ref T5, rfl, T5, _, 0, .int a', rfl, rfl, SqT.of hT', rfl, .ref T5, rfl, T5, _, 1, .int b', rfl, rfl, SqT.of hT', rfl, p, load, a', b', rfl, SqL.of (smz _ _ I22.hp), by omega, fun H23 s23 => ?_⟩
      exact ⟨_, rfl, _, _, rfl, rfl, _, rfl, ite2 (fun z => absurd (of_decide_eq_true z) (by omega)) (fun _ => ⟨smz.trans s23, _, _, _, _, _, _, _, _, _, _, rfl⟩)⟩
    · rintro σ H' ⟨smz, r1, r3, r4, r5, r10, r11, r13, r14, r15, r16, rfl⟩
      exact ⟨I22.same smz, _, _, _, _, _, _, _, _, _, _, _, rfl⟩
end
end KQ

namespace KE2
open PySem PySem.Spec PyProof.Rows L2 KM KA KB KD KL KZ KQ
theorem all_mk {l : PySem.W.OpenLaw} {w : World} {K : PySem.W.Frag} {h : Heap} {mg : Str → Option Value} {fa f1 f2 f3 f4 f5 f6 f7 : Addr} (X : K.In h) (G : h.Ns mainGlobals mg) (hfa : mg "law" = some (.ref fa))
    {od1 an1 od2 an2 od3 an3 od4 an4 od5 an5 od6 an6 od7 an7 : Option Addr} {sl1 sl2 sl3 sl4 sl5 sl6 sl7 : Array (Option Value)} {oc1 kV1 dc1 pm1 cd1 ct1 oc2 kV2 dc2 pm2 cd2 ct2 oc3 kV3 dc3 pm3 cd3 ct3 oc4 kV4 dc4 pm4 cd4 ct4 oc5 kV5 dc5 pm5 cd5 ct5 oc6 kV6 dc6 pm6 cd6 ct6 oc7 kV7 dc7 pm7 cd7 ct7 : Value}
    (a1 : PySem.W.nsIn K mainGlobals "changes" = some (some (.ref f1))) (l1 : K.lookup f1 = some ⟨oc1, od1, .func (PySem.W.fnOf "changes" "changes" (defArgs sCh) (defBody sCh) (defScope sCh) .none kV1 dc1 pm1 an1 cd1 ct1), sl1⟩) (c1 : PySem.W.codeIn K cd1 "changes" = true) (k1 : PySem.W.keepIn K (.ref f1) = true)
    (a2 : PySem.W.nsIn K mainGlobals "_law_feed" = some (some (.ref f2))) (l2 : K.lookup f2 = some ⟨oc2, od2, .func (PySem.W.fnOf "_law_feed" "_law_feed" (defArgs sFeed) (defBody sFeed) (defScope sFeed) .none kV2 dc2 pm2 an2 cd2 ct2), sl2⟩) (c2 : PySem.W.codeIn K cd2 "_law_feed" = true) (k2 : PySem.W.keepIn K (.ref f2) = true)
    (a3 : PySem.W.nsIn K mainGlobals "_law_take" = some (some (.ref f3))) (l3 : K.lookup f3 = some ⟨oc3, od3, .func (PySem.W.fnOf "_law_take" "_law_take" (defArgs sTake) (defBody sTake) (defScope sTake) .none kV3 dc3 pm3 an3 cd3 ct3), sl3⟩) (c3 : PySem.W.codeIn K cd3 "_law_take" = true) (k3 : PySem.W.keepIn K (.ref f3) = true)
    (a4 : PySem.W.nsIn K mainGlobals "_law_pick" = some (some (.ref f4))) (l4 : K.lookup f4 = some ⟨oc4, od4, .func (PySem.W.fnOf "_law_pick" "_law_pick" (defArgs sPick) (defBody sPick) (defScope sPick) .none kV4 dc4 pm4 an4 cd4 ct4), sl4⟩) (c4 : PySem.W.codeIn K cd4 "_law_pick" = true) (k4 : PySem.W.keepIn K (.ref f4) = true)
    (a5 : PySem.W.nsIn K mainGlobals "_law_load" = some (some (.ref f5))) (l5 : K.lookup f5 = some ⟨oc5, od5, .func (PySem.W.fnOf "_law_load" "_law_load" (defArgs sLoad) (defBody sLoad) (defScope sLoad) .none kV5 dc5 pm5 an5 cd5 ct5), sl5⟩) (c5 : PySem.W.codeIn K cd5 "_law_load" = true) (k5 : PySem.W.keepIn K (.ref f5) = true)
    (a6 : PySem.W.nsIn K mainGlobals "_law_due" = some (some (.ref f6))) (l6 : K.lookup f6 = some ⟨oc6, od6, .func (PySem.W.fnOf "_law_due" "_law_due" (defArgs sDue) (defBody sDue) (defScope sDue) .none kV6 dc6 pm6 an6 cd6 ct6), sl6⟩) (c6 : PySem.W.codeIn K cd6 "_law_due" = true) (k6 : PySem.W.keepIn K (.ref f6) = true)
    (a7 : PySem.W.nsIn K mainGlobals "law" = some (some (.ref f7))) (l7 : K.lookup f7 = some ⟨oc7, od7, .func (PySem.W.fnOf "law" "law" (defArgs sLaw) (defBody sLaw) (defScope sLaw) .none kV7 dc7 pm7 an7 cd7 ct7), sl7⟩) (c7 : PySem.W.codeIn K cd7 "law" = true) (k7 : PySem.W.keepIn K (.ref f7) = true)
    (z1 : PySem.W.nsIn K mainGlobals "len" = some none) (z2 : PySem.W.nsIn K mainGlobals "zip" = some none) (z3 : PySem.W.nsIn K mainGlobals "max" = some none) (z4 : PySem.W.nsIn K mainGlobals "min" = some none) (z5 : PySem.W.nsIn K mainGlobals "abs" = some none) (z6 : PySem.W.nsIn K mainGlobals "int" = some none) (z7 : PySem.W.nsIn K mainGlobals "range" = some none) (z8 : PySem.W.nsIn K mainGlobals "sorted" = some none) (z9 : PySem.W.nsIn K mainGlobals "set" = some none) (z10 : PySem.W.nsIn K mainGlobals "repr" = some none) (z11 : PySem.W.nsIn K mainGlobals "tuple" = some none) :
    ∃ fd : FuncData, (∀ (s : Shared) (v : Value), BindsTo s fd ⟨[v], []⟩ [("script", v)]) ∧ ∀ base : Heap, K.In base → base.Ns mainGlobals mg → KW.Kept l.prog w K mg base 4 fa fd ["script"] (spLaw K) := by
  have e := hfa.symm.trans (PySem.W.mg_of X G a7)
  cases e
  have F1 := fun_mk (st := sCh) l1 c1 k1
  have F2 := fun_mk (st := sFeed) l2 c2 k2
  have F3 := fun_mk (st := sTake) l3 c3 k3
  have F4 := fun_mk (st := sPick) l4 c4 k4
  have F5 := fun_mk (st := sLoad) l5 c5 k5
  have F6 := fun_mk (st := sDue) l6 c6 k6
  have F7 := fun_mk (st := sLaw) l7 c7 k7
  have b1 := F1.binds (ps := ["load", "low", "high"]) fun _ _ _ _ _ _ us hl => match us, hl with | [_, _, _], _ => rfl
  have b2 := F2.binds (ps := ["script", "k"]) fun _ _ _ _ _ _ us hl => match us, hl with | [_, _], _ => rfl
  have b3 := F3.binds (ps := ["feed", "many"]) fun _ _ _ _ _ _ us hl => match us, hl with | [_, _], _ => rfl
  have b4 := F4.binds (ps := ["feed", "some"]) fun _ _ _ _ _ _ us hl => match us, hl with | [_, _], _ => rfl
  have b5 := F5.binds (ps := ["feed", "most"]) fun _ _ _ _ _ _ us hl => match us, hl with | [_, _], _ => rfl
  have b6 := F6.binds (ps := ["load", "low", "high"]) fun _ _ _ _ _ _ us hl => match us, hl with | [_, _, _], _ => rfl
  have T : Txt K mg f1 f2 f3 f4 f5 f6 _ _ _ _ _ _ := ⟨F1, F2, F3, F4, F5, F6, PySem.W.mg_of X G a1, PySem.W.mg_of X G a2, PySem.W.mg_of X G a3, PySem.W.mg_of X G a4, PySem.W.mg_of X G a5, PySem.W.mg_of X G a6, b1, b2, b3, b4, b5, b6, PySem.W.mg_none_of X G z1, PySem.W.mg_none_of X G z2, PySem.W.mg_none_of X G z3, PySem.W.mg_none_of X G z4, PySem.W.mg_none_of X G z5, PySem.W.mg_none_of X G z6, PySem.W.mg_none_of X G z7, PySem.W.mg_none_of X G z8, PySem.W.mg_none_of X G z9, PySem.W.mg_none_of X G z10, PySem.W.mg_none_of X G z11⟩
  exact ⟨PySem.W.fnOf "law" "law" (defArgs sLaw) (defBody sLaw) (defScope sLaw) .none kV7 dc7 pm7 an7 cd7 ct7, fun s v => .of_eq rfl, fun base _ _ => ok_law F7 T⟩
end KE2
open PySem PySem.W PyProof.Rows
set_option maxRecDepth 100000 in
set_option maxHeartbeats 0 in
theorem PySem.Challenge.cw_wearswings_k02_changes_of_loads_holds : PySem.Challenge.rw_wearswings_k02_changes_of_loads.Holds := by
  w_on; o_law; k_head; (case hw => w_witness2)
  k_fill
  refine KW.walk_kept (l := PySem.Challenge.rw_wearswings_k02_changes_of_loads) (n := 63) (k := 4) (x := "script") (sp := KQ.spLaw) rfl (by decide) rfl ⟨rfl, by decide, by decide⟩ (fun w h Y => PySem.W.kIn_of Y) ?F (fun K H a ns hl _ hS => ⟨a, ns, rfl, hS, hl, fun _ => rfl⟩)
  case F =>
    intro w mg fa h KX G hmg
    refine' KE2.all_mk KX G hmg ?a1 ?l1 ?c1 ?k1 ?a2 ?l2 ?c2 ?k2 ?a3 ?l3 ?c3 ?k3 ?a4 ?l4 ?c4 ?k4 ?a5 ?l5 ?c5 ?k5 ?a6 ?l6 ?c6 ?k6 ?a7 ?l7 ?c7 ?k7 ?z1 ?z2 ?z3 ?z4 ?z5 ?z6 ?z7 ?z8 ?z9 ?z10 ?z11
    (case a1 => k_is)
    (case l1 => k_is)
    (case c1 => k_is)
    (case k1 => k_is)
    (case a2 => k_is)
    (case l2 => k_is)
    (case c2 => k_is)
    (case k2 => k_is)
    (case a3 => k_is)
    (case l3 => k_is)
    (case c3 => k_is)
    (case k3 => k_is)
    (case a4 => k_is)
    (case l4 => k_is)
    (case c4 => k_is)
    (case k4 => k_is)
    (case a5 => k_is)
    (case l5 => k_is)
    (case c5 => k_is)
    (case k5 => k_is)
    (case a6 => k_is)
    (case l6 => k_is)
    (case c6 => k_is)
    (case k6 => k_is)
    (case a7 => k_is)
    (case l7 => k_is)
    (case c7 => k_is)
    (case k7 => k_is)
    (case z1 => k_is)
    (case z2 => k_is)
    (case z3 => k_is)
    (case z4 => k_is)
    (case z5 => k_is)
    (case z6 => k_is)
    (case z7 => k_is)
    (case z8 => k_is)
    (case z9 => k_is)
    (case z10 => k_is)
    (case z11 => k_is)

