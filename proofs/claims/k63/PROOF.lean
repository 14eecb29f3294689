import PyProof.Rows.All
import Wide.All
import OpenK.AllK
import Wide.FinOn
import KE.GoesEnum
import HandS.ForMost
import HandS.Conv
import HandS.Defaults
import HandS.Walk
import HandS.WideBits
import HandS.IsInst
import HandS.TupAny
import HandS.Style
import HandS.TupLe
import HandS.Head0
import HandS.Head1
import HandS.Head2
import HandS.HeadEnd
import HandS.HeadHook1
import HandS.HeadHook2
import HandS.FStrTup
import HandS.Codes
import HandS.TupMul
import HandS.ReplaceLit
import HandS.ReplaceList
import HandS.Strs
import KE.KRevSl
import HandS.Rev
import KE.DataMinMax
import HandS.Wide
import HandS.SetFor
import HandS.TupLen
import HandS.RevTup
import PyProof.JoinWalk
import KE.BitLaws
import PyProof.Rows.TupDisplay
import HandS.TupSets
import HandS.Deep
import HandS.MakeKwOnly
import KE.SortData
import PyProof.WalksS
import KE.KeyNested
import HandS.Iter
import HandS.Zip
import KE.GoesZip
import KE.GoesMore
import HandS.DictComp
import HandS.WordsDict
import KE.DataFind
import PyProof.AutoSeq1
import HandS.Set
import PySem.Challenge.RW_lastpasses_k63_possible_kinds
set_option Elab.async false
set_option linter.all false
set_option maxRecDepth 100000
set_option maxHeartbeats 4000000
namespace Lp
open PySem PySem.Spec PyProof.Rows L2
/-! ### enumerate of a tuple -/
theorem meetsEnum1 {v : Value} {o : Obj} {C : Heap → Prop} (B : Begins v o C) :
    Meets (Builtin.«enumerate.__new__» ⟨[.type "enumerate", v], []⟩) (fun _ R s => C s.heap ∧
      R (.ok (.ret (.ref (s.heap.push o).objs.size)))
        { s with heap := (s.heap.push o).push { cls := .type "enumerate", data := .fields #[.none, .bool false, .ref s.heap.objs.size, rawInt 0, .none, .none] } }) :=
  .of_wp fun prog w A R s hc => by
    obtain ⟨hp, gn, dn, tk, os⟩ := s
    obtain ⟨c1, hc⟩ := hc
    have hsub := sub_enumerate
    have qi : ∀ {A2 : Around} {E2 : Value → Shared → Prop} {Q2 : Value → Shared → Prop}, Q2 (.ref hp.objs.size) ⟨hp.push o, gn, dn, tk, os⟩ → wpAny (model prog w) A2 (pyIter v) Q2 E2 ⟨hp, gn, dn, tk, os⟩ :=
      fun q => B.iter prog w _ _ ⟨hp, gn, dn, tk, os⟩ _ c1 q
    wp_walk using qi
    refine wpAny_stack_any fun stk => wpAny_pure ?_
    split
    · rename_i cc _ _ _ _ _
      cases (cc == Value.type "enumerate")
      · wp_walk using qi
        exact ⟨_, rfl, hc⟩
      · wp_walk using qi
        exact ⟨_, rfl, hc⟩
    · wp_walk using qi
      exact ⟨_, rfl, hc⟩
section
variable {prog : Program} {w : World} {A : Around} {E : Value → Shared → Prop} {s : Shared}
theorem callEnum1 {v : Value} {o : Obj} {C : Heap → Prop} {Q : Value → Shared → Prop} (B : Begins v o C) (c1 : C s.heap)
    (hq : ∀ h2, IsEnum h2 (s.heap.objs.size + 1) s.heap.objs.size 0 .none → h2.get? s.heap.objs.size = some o → h2.objs.size = s.heap.objs.size + 2 →
      (∀ b u, s.heap.get? b = some u → h2.get? b = some u) → Q (.ref (s.heap.objs.size + 1)) { s with heap := h2 }) :
    wpAny (model prog w) A (call (.type "enumerate") [v]) Q E s := by
  refine callType_new F.called_enumerate (by decide) (F.typeCall_enumerate_1 _) (F.newCall_enumerate_1 _) (fun ob => F.args_object_init_2 ob _) F.entry_enumerate_new (meetsEnum1 B) ⟨c1, ?_⟩
  have sz : (s.heap.push o).objs.size = s.heap.objs.size + 1 := Heap.size_push ..
  show _ ∧ _
  rw [sz]
  have en : IsEnum ((s.heap.push o).push { cls := .type "enumerate", data := .fields #[.none, .bool false, .ref s.heap.objs.size, rawInt 0, .none, .none] }) (s.heap.objs.size + 1) s.heap.objs.size 0 .none := by
    have z := Heap.get?_push_size (s.heap.push o) (o := { cls := .type "enumerate", data := .fields #[.none, .bool false, .ref s.heap.objs.size, rawInt 0, .none, .none] }) rfl
    rw [sz] at z
    exact z
  refine ⟨⟨_, en, rfl⟩, hq _ en (Heap.get?_push_of_some _ (Heap.get?_push_size _ B.free)) (by rw [Heap.size_push, sz]) fun b u x => Heap.get?_push_of_some _ (Heap.get?_push_of_some _ x)⟩
end
/-- what is fed at each place, each in a new pair with its number -/
def ItE (go stop : Nat → Hp → Prop) (is : Nat → Hp → V → Prop) : It where
  go := go
  stop := stop
  yld := fun i H v H' => ∃ T x, v = .ref T ∧ H T = none ∧ is i H x ∧ H' = upd H T (.tup [.int (i : Nat), x])
/-- the iterator at `it` (its state at place i: st i) feeds the enumerate at e -/
structure Feed (P : Program) (w : World) (K : PySem.W.Frag) (e it : Addr) (st : Nat → Heap → Prop) (go stop : Nat → Hp → Prop) (is : Nat → Hp → V → Prop) : Prop where
  apart : e ≠ it
  lives : ∀ i h, st i h → ∃ o, h.get? it = some o ∧ ∀ v, o.data ≠ .cell v
  stays : ∀ i h g, st i h → (∀ o, h.get? it = some o → g.get? it = some o) → st i g
  more : ∀ X : Cx, X.prog = P → X.w = w → X.K = K → X.calm = true → ∀ i pins s σ H, Inv X pins σ H s → st i s.heap → go i H →
    ∃ n fp Y S, Draws P w X.A.in1 it fp n Y S ∧ i < n ∧ S i s.heap ∧ e ∉ fp ∧ (∀ h, S (i + 1) h → st (i + 1) h) ∧ ∀ v, Y i v → ∃ x, RelV x v ∧ is i H x
  ends : ∀ X : Cx, X.prog = P → X.w = w → X.K = K → X.calm = true → ∀ i pins s σ H, Inv X pins σ H s → st i s.heap → stop i H →
    ∃ fp Y S, Draws P w X.A.in1 it fp i Y S ∧ S i s.heap
theorem turnE {P : Program} {w : World} {K : PySem.W.Frag} {e it : Addr} {st : Nat → Heap → Prop} {go stop : Nat → Hp → Prop} {is : Nat → Hp → V → Prop} (F : Feed P w K e it st go stop is) {l : List Expr} {c : Nat} {q : Pos} :
    Turn P w K (.Tuple l c q) (ItE go stop is) [e, it] e (fun i h => (∃ last, IsEnum h e it ((i : Nat) : Int) last) ∧ st i h) where
  mem := by simp
  obj := by
    rintro i h ⟨⟨last, en⟩, b⟩ x hx
    have two : x = e ∨ x = it := by simpa using hx
    rcases two with rfl | rfl
    · exact ⟨_, en, fun _ z => nomatch z⟩
    · exact F.lives i h b
  keep := by
    rintro i h g ⟨⟨last, en⟩, b⟩ k
    exact ⟨⟨last, k e (by simp) _ en⟩, F.stays i h g b (k it (by simp))⟩
  item := by
    rintro X rfl rfl rfl calm i pins s σ H _ I fr ⟨⟨last, en⟩, b⟩ g
    obtain ⟨n, fp, Y, S, D, lt, at_, out, nxt, val⟩ := F.more X rfl rfl rfl calm i pins s σ H I b g
    refine wpAny_pyNext_enum_itemD D en at_ lt F.apart out fun u h1 tk hu eo at1 pair size old => ⟨_, rfl, ?_⟩
    obtain ⟨x, rx, ix⟩ := val u hu
    have inOld : ∀ {b : Addr} {o : Obj}, s.heap.get? b = some o → b ≠ s.heap.objs.size := fun q z => Nat.lt_irrefl _ (z ▸ Heap.lt_size q)
    have eOld := inOld en
    obtain ⟨oi, hi, _⟩ := F.lives i s.heap b
    have iOld := inOld hi
    refine wpAny_letOwnedTupleGo_enum (s := { s with heap := h1, toks := tk + 1 }) eo fun h2 en2 same => ?_
    have pair2 : h2.get? s.heap.objs.size = some { cls := .type "tuple", data := .seq #[.int i tk, u] } := (same.2 _ eOld.symm).trans pair
    have rest : ∀ b o, b ∉ [e, it] → s.heap.get? b = some o → h2.get? b = some o := fun b o nb q => by
      have hb : b ≠ e ∧ b ≠ it := by simpa using nb
      rw [same.2 b hb.1]
      exact old b o hb.1 hb.2 q
    have J := I.turnedNew (t' := tk + 1) (h' := h2) (ob := .tup [.int (i : Nat), x]) rest fr (Nat.le_refl s.heap.objs.size) ⟨(by decide : 2 ≤ sizeLine), [.int i tk, u], .cons ⟨tk, rfl⟩ (.cons rx .nil), _, pair2, rfl, _, rfl⟩
    refine ⟨.ref s.heap.objs.size, _, J, rfl, ⟨_, x, rfl, I.hok.fresh (Nat.le_refl _), ix, rfl⟩, ⟨⟨u, by push_cast; exact en2⟩, F.stays _ h1 h2 (nxt h1 at1) fun o q => (same.2 it F.apart.symm).trans q⟩, fun y hy => ?_⟩
    have two : y = e ∨ y = it := by simpa using hy
    have yo : y ≠ s.heap.objs.size := by rcases two with rfl | rfl <;> assumption
    rw [upd_ne yo]
    exact (fr y hy).1
  done := by
    rintro X rfl rfl rfl calm i pins s σ H _ I fr ⟨⟨last, en⟩, b⟩ g
    obtain ⟨fp, Y, S, D, at_⟩ := F.ends X rfl rfl rfl calm i pins s σ H I b g
    obtain ⟨u0, u1, _, u3, u4, u5⟩ := fr it (by simp)
    exact wpAny_pyNext_enum_endD D en at_ fun h1 same => ⟨rfl, I.turned (t' := s.toks) (fun b o nb q => same b o nb q) u0 u1 u3 u4 u5⟩
  self := fun _ _ _ _ _ z q => let ⟨⟨_, en⟩, _⟩ := z; wpAny_pyIter_enum en q
/-- for i, x in enumerate(..): n things are fed, Pv holds between the turns -/
theorem walkE {go stop : Nat → Hp → Prop} {is : Nat → Hp → V → Prop} {g : TG} {tb : TS} {D : Ends} {σ : L2.St} {H : Hp} (n : Nat) (Pv : Nat → L2.St → Hp → Prop) (first : Pv 0 σ H) (on : ∀ i σ H, i < n → Pv i σ H → go i H) (off : ∀ σ H, Pv n σ H → stop n H)
    (turn : ∀ i x T σ H, i < n → is i H x → Pv i σ H → H T = none → g (.ref T) σ (upd H T (.tup [.int (i : Nat), x])) fun σ2 H2 => tb { D with nx := Pv (i + 1), ct := Pv (i + 1), bk := D.nx } σ2 H2) (last : ∀ σ H, Pv n σ H → D.nx σ H) :
    tFor (fun _ H R => R (ItE go stop is) H) g tb D σ H := by
  refine ⟨fun i m σ H => i + m = n ∧ Pv i σ H, ⟨n, Nat.zero_add n, first⟩, fun i m σ H z => ?_⟩
  obtain ⟨e, p⟩ := z
  cases m with
  | zero =>
    have : i = n := e
    subst this
    exact .inl ⟨off σ H p, last σ H p⟩
  | succ m =>
    have lt : i < n := by omega
    refine .inr ⟨on i σ H lt p, Pv (i + 1), fun _ _ p2 => ⟨m, Nat.lt_succ_self m, by omega, p2⟩, fun v H2 y => ?_⟩
    obtain ⟨T, x, rfl, new, ix, rfl⟩ := y
    exact turn i x T σ H lt ix p new
/-! #### .. of a tuple -/
def goT (K : PySem.W.Frag) (a : Addr) : Nat → Hp → Prop := fun i H => ∃ (xs : List V) (x : V), SqT K H a xs ∧ xs[i]? = some x
def stopT (K : PySem.W.Frag) (a : Addr) : Nat → Hp → Prop := fun i H => ∃ xs : List V, SqT K H a xs ∧ xs.length ≤ i
def isT (K : PySem.W.Frag) (a : Addr) : Nat → Hp → V → Prop := fun i H x => ∀ xs, SqT K H a xs → xs[i]? = some x
theorem feedT {P : Program} {w : World} {K : PySem.W.Frag} {a e it : Addr} (n1 : e ≠ it) (n2 : a ≠ it) (n3 : a ≠ e) : Feed P w K e it (fun i h => h.IsTupleIter it a i) (goT K a) (stopT K a) (isT K a) where
  apart := n1
  lives := fun i h z => let ⟨o, ho, _, hd⟩ := z; ⟨o, ho, fun v q => by rw [hd] at q; cases q⟩
  stays := fun i h g z k => z.at k
  more := by
    rintro X rfl rfl rfl calm i pins s σ H I at_ ⟨xs, x, hq, hx⟩
    obtain ⟨us, rs, tup, _⟩ := I.tuple hq
    obtain ⟨u, hu, ru⟩ := rs.get hx
    have hu2 : us.toArray[i]? = some u := by simpa using hu
    refine ⟨_, _, _, _, Draws.tuple (A := X.A.in1) (I.ok.hd calm) it a n2 us.toArray, (Array.getElem?_eq_some_iff.mp hu2).1, ⟨at_, tup⟩, by simp [n1, n3.symm], fun h z => z.1, fun v hv => ⟨x, ?_, fun ys hy => ?_⟩⟩
    · rw [Option.some.inj (hv.symm.trans hu2)]
      exact ru
    · rw [I.tuple_inj hy hq]
      exact hx
  ends := by
    rintro X rfl rfl rfl calm i pins s σ H I at_ ⟨xs, hq, hx⟩
    obtain ⟨us, rs, tup, _⟩ := I.tuple hq
    have none_ : us.toArray[i]? = none := by
      rw [Array.getElem?_eq_none_iff, List.size_toArray, ← rs.length]
      exact hx
    exact ⟨[it, a], fun _ _ => False, fun j h => j = i ∧ h.IsTupleIter it a i ∧ h.IsTuple a us.toArray,
      { live := fun _ _ z => let ⟨o, ho, _⟩ := z.2.1; ⟨o, ho⟩
        frame := fun _ _ _ z k => ⟨z.1, z.2.1.at (k it (by simp)), z.2.2.at (k a (by simp))⟩
        item := fun j _ _ _ lt z _ => absurd z.1 (Nat.ne_of_lt lt)
        done := fun _ _ _ z q => wpAny_nextOf_tuple_end (A := X.A.in1) (I.ok.hd calm) z.2.1 z.2.2 none_ q }, rfl, at_, tup⟩
def iEnumT (K : PySem.W.Frag) (ta : TA) : TI := fun σ H R => ta σ H fun vs H1 => ∃ a xs, vs = [.ref a] ∧ SqT K H1 a xs ∧ R (ItE (goT K a) (stopT K a) (isT K a)) H1
theorem pi_enumT {X : Cx} {x : Expr} {ta : TA} {p pos q : Pos} {l : List Expr} {c : Nat} (hg : Gl X "enumerate") (hm : X.mg "enumerate" = none) (ha : PA X [x] ta)
    (hs : starEach [x] X.env = [(false, eval x X.env)] := by rfl) : PI X (.Tuple l c q) (.Call (.Name "enumerate" p) [x] [] pos) (iEnumT X.K ta) := ⟨fun pins s σ H R I h => by
  refine Call_ (ld_blt I hg hm boot_enumerate (PyProof.Rows.callWith_type1 (wpAny_mono (ha.run pos pins s σ H _ I h) (fun us s1 z => ?_) fun _ _ z => z) hs rfl))
  obtain ⟨vs, H1, I1, rs, a, xs, rfl, hq, r⟩ := z
  rw [Vals.ref1 rs]
  obtain ⟨us', _, tup, _⟩ := I1.tuple hq
  have al := tup.lt
  refine callEnum1 (begins_tuple a us'.toArray) tup fun h2 en fed size old => wpAny_pyIter_enum en ?_
  have new : ∀ b ∈ [s1.heap.objs.size + 1, s1.heap.objs.size], s1.heap.objs.size ≤ b := fun b hb => by
    have two : b = s1.heap.objs.size + 1 ∨ b = s1.heap.objs.size := by simpa using hb
    omega
  exact ⟨_, _, _, _, H1, rfl, I1.kept (h' := h2) (t' := s1.toks) old, turnE (feedT (a := a) (e := s1.heap.objs.size + 1) (it := s1.heap.objs.size) (Nat.succ_ne_self _) (Nat.ne_of_lt al) (Nat.ne_of_lt (Nat.lt_succ_of_lt al))), ⟨⟨.none, en⟩, ⟨_, fed, rfl, rfl⟩⟩, fun b hb => I1.fpOk (new b hb) (I1.hok.fresh (new b hb)), r⟩⟩
theorem walk_enumT {K : PySem.W.Frag} {a : Addr} {xs : List V} {g : TG} {tb : TS} {D : Ends} {σ : L2.St} {H : Hp} (Pv : Nat → L2.St → Hp → Prop) (h0 : Pv 0 σ H) (hq : ∀ i σ H, i ≤ xs.length → Pv i σ H → SqT K H a xs)
    (hs : ∀ i x T σ H, xs[i]? = some x → Pv i σ H → H T = none → g (.ref T) σ (upd H T (.tup [.int (i : Nat), x])) fun σ2 H2 => tb { D with nx := Pv (i + 1), ct := Pv (i + 1), bk := D.nx } σ2 H2) (hd : ∀ σ H, Pv xs.length σ H → D.nx σ H) :
    tFor (fun _ H R => R (ItE (goT K a) (stopT K a) (isT K a)) H) g tb D σ H :=
  walkE xs.length Pv h0 (fun i σ H lt p => ⟨xs, xs[i], hq i σ H (Nat.le_of_lt lt) p, List.getElem?_eq_getElem lt⟩) (fun σ H p => ⟨xs, hq _ σ H (Nat.le_refl _) p, Nat.le_refl _⟩)
    (fun i x T σ H lt ix p n => hs i x T σ H (ix xs (hq i σ H (Nat.le_of_lt lt) p)) p n) hd
/-! ### defs by their names -/
abbrev FnP (K : PySem.W.Frag) (x : Str) (st : Stmt) (f : Addr) (fd : FuncData) : Prop := FunD K x x (defArgs st) (defBody st) (defScope st) [] [] f fd
/-- the def st stands under its name x -/
structure Df (K : PySem.W.Frag) (mg : Str → Option Value) (x : Str) (st : Stmt) : Prop where
  ex : ∃ f fd, FnP K x st f fd ∧ mg x = some (.ref f)
/-- what is called by the name x keeps sp -/
structure Cl (P : Program) (w : World) (K : PySem.W.Frag) (mg : Str → Option Value) (base : Heap) (k : Nat) (x : Str) (st : Stmt) (ps : List Str) (sp : Sp) : Prop where
  ex : ∃ f fd, FnP K x st f fd ∧ FnOk P w K mg base CX0 k f fd ps sp ∧ mg x = some (.ref f) ∧ Binds K fd ps []
section
variable {P : Program} {w : World} {K : PySem.W.Frag} {mg : Str → Option Value} {base : Heap} {x : Str} {st : Stmt} {N ps ks : List Str} {k : Nat} {sp : Sp}
theorem Df.ok (D : Df K mg x st) (S : FnScope N ps (defScope st))
    (bd : ∀ (kV doc pm : Value) (an : Option Addr) (cdv ct : Value) (us : List Value), us.length = ps.length → bindArgs (PySem.W.fnOf x x (defArgs st) (defBody st) (defScope st) .none kV doc pm an cdv ct) ⟨us, []⟩ = pure (ps.zip us))
    (len : ∀ vs H Q E, sp vs H Q E → vs.length = ps.length)
    (body : ∀ (f : Addr) (cdv : Value) (A : Around) (outer : List Env) (s : Shared) (H : Hp) (vs : List V) (Q : VK) (E : XK), Room k (A.deeper (envOfC x (defScope st) s.heap.objs.size f cdv)) → sp vs H Q E →
      ∃ t, PSs (cxOf CX0 P w K mg base N x (defScope st) f cdv A outer s H E).nox (defBody st) t ∧ t { nx := fun _ H' => Q .non H', rt := Q } (start N vs) H) : Cl P w K mg base (k + 1) x st ps sp := by
  obtain ⟨f, fd, F, hm⟩ := D.ex
  refine ⟨f, fd, F, F.ok S len fun cdv A outer s H vs Q E hr h => ?_, hm, F.bindsN bd⟩
  obtain ⟨t, h1, h2⟩ := body f cdv A outer s H vs Q E hr h
  exact ⟨t, h1.nox, h2⟩
theorem Cl.imp {sp' : Sp} (c : Cl P w K mg base k x st ps sp) (h : ∀ vs H Q E, sp' vs H Q E → sp vs H Q E) : Cl P w K mg base k x st ps sp' := by
  obtain ⟨f, fd, F, G, hm, b⟩ := c.ex
  exact ⟨f, fd, F, G.imp h, hm, b⟩
end
section
variable {X : Cx} {x : Str} {st : Stmt} {ps ks : List Str} {j k : Nat} {sp : Sp} {e : Expr} {es : List Expr} {kws : List Keyword} {t tk : TA} {p pos : Pos}
/-- f(e, ..) -/
theorem pe_u (c : Cl X.prog X.w X.K X.mg X.base k x st ps sp) (hr : Room j X.A) (hk : k ≤ j) (hg : Gl X x) (ha : PA X (e :: es) t)
    (hdb : (x == ("__debug__" : Str)) = false := by decide) (he : starEach (e :: es) X.env = (false, eval e X.env) :: starEach es X.env := by rfl) (hpl : (backTo pos (starEach es X.env)).any (·.1) = false := by rfl) :
    PE X (.Call (.Name x p) (e :: es) [] pos) (tCall sp [] E0 t) := by
  obtain ⟨f, fd, F, G, hm, b⟩ := c.ex
  exact pe_call G (hr.mono hk) hg hm F.kp b .nil pass0 ha hdb he hpl
def tKw (n : Nat) (sp : Sp) (g : List V → List V) (tk : TA) : TE := fun σ H Q => tk σ H fun zs H2 => zs.length = n ∧ sp (g zs) H2 Q E0
/-- f(k = e, ..) -/
theorem pe_uk (g : {α : Type} → List α → List α) (c : Cl X.prog X.w X.K X.mg X.base k x st ps sp) (hr : Room j X.A) (hk : k ≤ j) (hg : Gl X x)
    (bd : ∀ (kV doc pm : Value) (an : Option Addr) (cdv ct : Value) (ws : List Value), ws.length = ks.length → bindArgs (PySem.W.fnOf x x (defArgs st) (defBody st) (defScope st) .none kV doc pm an cdv ct) ⟨[], ks.zip ws⟩ = pure (ps.zip (g ws)))
    (rel : ∀ {zs : List V} {ws : List Value}, Vals zs ws → Vals (g zs) (g ws)) (hkw : PK X kws tk)
    (hall : (backToKw pos (keywordEach kws X.env)).all (·.1.isSome) = true := by rfl) (hks : (backToKw pos (keywordEach kws X.env)).filterMap (·.1) = ks := by rfl)
    (hdb : (x == ("__debug__" : Str)) = false := by decide) (hpl : ((backTo pos (starEach [] X.env)).any (·.1) || (backToKw pos (keywordEach kws X.env)).any (·.1.isNone)) = false := by rfl) :
    PE X (.Call (.Name x p) [] kws pos) (tKw ks.length sp g tk) := by
  obtain ⟨f, fd, F, G, hm, b⟩ := c.ex
  have kb : KBn X.K fd ps 0 ks (fun _ ws => g ws) (fun _ zs => g zs) := by
    obtain ⟨oc, od, dV, kV, doc, pm, an, cdv, ct, osl, rfl, lk, hcd, hD, hK⟩ := F.ex
    rcases hD with ⟨_, rfl⟩ | ⟨z, _⟩
    · refine ⟨fun s us ws X1 l1 l2 => ?_, fun _ r => rel r⟩
      have e0 : us = [] := List.length_eq_zero_iff.mp l1
      subst e0
      exact .of_eq (bd kV doc pm an cdv ct ws l2)
    · exact absurd rfl z
  refine ⟨fun pins s σ H Q I h => ?_⟩
  refine wpAny_Call_Name_kw (ld_glob I hg hm ?_ hdb)
  refine PySem.W.callWith_KW0 (h₀ := X.base) I.ok.mod.kin F.kp hall (thn (hkw.run pos pins s σ H _ I h) fun ws s2 ⟨zs, H2, I2, rz, l2, q2⟩ => ⟨I2.kIn, ?_⟩) hpl
  rw [hks]
  exact run_fnN G (hr.mono hk) kb pass0 I2 .nil rz rfl l2 q2
end
def swap2 {α : Type} : List α → List α
  | [a, b] => [b, a]
  | l => l
theorem rel_swap2 {zs : List V} {ws : List Value} (r : Vals zs ws) : Vals (swap2 zs) (swap2 ws) := by
  cases r with
  | nil => exact .nil
  | cons a r =>
    cases r with
    | nil => exact .cons a .nil
    | cons b r =>
      cases r with
      | nil => exact .cons b (.cons a .nil)
      | cons c r => exact .cons a (.cons b (.cons c r))
/-! ### rules whose readings name K alone (for the elements of comprehensions) -/
abbrev rLenS (K : PySem.W.Frag) : List V → Hp → VK → Prop := fun xs H Q => ∃ p ys, xs = [.ref p] ∧ (SqL K H p ys ∨ SqT K H p ys) ∧ Q (.int ys.length) H
theorem call_lenS {X : Cx} : CallR X (.builtin "len") (rLenS X.K) := call_len_seq
/-! ### a text times a number -/
theorem op_mul_str {X : Cx} : OpR X (binaryOp .Mult) (fun x y H Q => ∃ (z : Str) (n : Int), x = .str z ∧ y = .int n ∧ 1 ≤ n ∧ n ≤ 1000 ∧ z.length ≤ 1000 ∧ Q (.str (Txt.mul z n)) H) := by
  intro pins s σ H x y v u Q I rx ry h
  obtain ⟨z, n, rfl, rfl, h1, h2, h3, q⟩ := h
  obtain ⟨t, rfl⟩ := rx
  obtain ⟨t', rfl⟩ := ry
  refine SB.mul ⟨?_, fun _ _ => ?_, fun _ _ => ?_⟩ fun t2 k2 => ⟨.str (Txt.mul z n), H, I.tok k2, ⟨t2, rfl⟩, q⟩
  · rw [Bool.or_eq_false_iff]
    exact ⟨decide_eq_false (by omega), decide_eq_false (by omega)⟩
  · have e : (1000 : Int) ≤ (2 ^ 63 - 1) / n := Int.le_ediv_of_mul_le (by omega) (by omega)
    omega
  · unfold PySem.Builtin.Str.tooLong
    have e : z.length * n.toNat ≤ 1000 * 1000 := Nat.mul_le_mul h3 (by omega)
    exact decide_eq_false (by rw [Nat.not_lt]; exact Nat.le_trans e (by decide))
/-! ### heaps, pools, rows -/
theorem same_upd {H : Hp} {p : Addr} {o : HO} (h : H p = none) : Same H (upd H p o) := fun b x e => by
  rw [upd_ne (ne_of_none e h)]
  exact e
/-- all but a is as it was -/
def Kp (a : Addr) (H H' : Hp) : Prop := ∀ b o, H b = some o → b ≠ a → H' b = some o
theorem Kp.refl (a : Addr) (H : Hp) : Kp a H H := fun _ _ e _ => e
theorem Kp.trans {a : Addr} {H H1 H2 : Hp} (x : Kp a H H1) (y : Kp a H1 H2) : Kp a H H2 := fun b o e ne => y b o (x b o e ne) ne
theorem Kp.of_same {a : Addr} {H H1 : Hp} (x : Same H H1) : Kp a H H1 := fun b o e _ => x b o e
theorem Kp.upd {a p : Addr} {H H1 : Hp} {o : HO} (x : Kp a H H1) (h : H p = none) : Kp a H (L2.upd H1 p o) := fun b u e ne => by
  rw [upd_ne (ne_of_none e h)]
  exact x b u e ne
theorem Kp.free {a p : Addr} {H H1 : Hp} (x : Kp a H H1) (h : H1 p = none) (ne : p ≠ a) : H p = none := by
  cases e : H p with
  | none => rfl
  | some o =>
    rw [x p o e ne] at h
    cases h
/-- the pool at a -/
def Pool (H : Hp) (a : Addr) : Prop := ∃ s d n : Int, H a = some (.lst [.int s, .int d, .int n]) ∧ 0 ≤ s ∧ s < 2147483399 ∧ 0 ≤ d
theorem Pool.of {H H' : Hp} {a : Addr} (p : Pool H a) (e : ∀ o, H a = some o → H' a = some o) : Pool H' a := by
  obtain ⟨s, d, n, h, r⟩ := p
  exact ⟨s, d, n, e _ h, r⟩
theorem Pool.ne {H : Hp} {a p : Addr} (x : Pool H a) (h : H p = none) : p ≠ a := fun e => by
  obtain ⟨s, d, n, g, _⟩ := x
  subst e
  rw [h] at g
  cases g
theorem Pool.upd {H : Hp} {a p : Addr} {o : HO} (x : Pool H a) (ne : a ≠ p) : Pool (L2.upd H p o) a := x.of fun u e => by
  rw [upd_ne ne]
  exact e
/-- a row of people -/
structure Row (ns : List Int) : Prop where
  pos : 1 ≤ ns.length
  most : ns.length ≤ 12
  nd : ns.Nodup
  rng : ∀ x ∈ ns, 1 ≤ x ∧ x ≤ 999
theorem small_div {i j : Int} (h1 : 0 < j) (h2 : j ≤ 1000000) : Builtin.divisionGoesByPylong i j = false := by
  have hj : j.natAbs.log2 ≤ 20 := by
    have : j.natAbs < 2 ^ 21 := by omega
    have h3 := (Nat.log2_lt (by omega)).mpr this
    omega
  have h0 : ¬ (j == 0) = true := by simpa using (show j ≠ 0 by omega)
  show (decide ((if j == 0 then 0 else j.natAbs.log2 / 30 + 1) > 300) && _) = false
  rw [if_neg h0]
  have h4 : ¬ (j.natAbs.log2 / 30 + 1 > 300) := by omega
  rw [decide_eq_false h4]
  rfl
/-! ### ranges as lists of ints -/
def rg (a b : Int) : List Int := (List.range (b - a).toNat).map fun i => a + (i : Nat)
theorem rgV_rg (a b : Int) : rgV a b = (rg a b).map V.int := by
  unfold rgV rg
  rw [List.map_map]
  rfl
theorem rg_len (a b : Int) : (rg a b).length = (b - a).toNat := by
  unfold rg
  rw [List.length_map, List.length_range]
theorem rg_mem {a b x : Int} (h : x ∈ rg a b) : a ≤ x ∧ x < b := by
  unfold rg at h
  obtain ⟨i, hi, rfl⟩ := List.mem_map.mp h
  have := List.mem_range.mp hi
  omega
theorem nodup_map_inj {α β : Type} {f : α → β} (hf : ∀ x y, f x = f y → x = y) : ∀ {l : List α}, l.Nodup → (l.map f).Nodup
  | [], _ => List.nodup_nil
  | a :: l, h => by
    rw [List.map_cons, List.nodup_cons]
    rw [List.nodup_cons] at h
    refine ⟨fun hm => ?_, nodup_map_inj hf h.2⟩
    obtain ⟨y, hy, e⟩ := List.mem_map.mp hm
    rw [hf y a e] at hy
    exact h.1 hy
theorem rg_nodup (a b : Int) : (rg a b).Nodup := nodup_map_inj (fun x y e => by omega) List.nodup_range
theorem erase_perm : ∀ (l : List Int) (k : Nat) (h : k < l.length), (l[k] :: l.eraseIdx k).Perm l
  | a :: l, 0, _ => .refl _
  | a :: l, k + 1, h => by
    show (l[k]'(Nat.lt_of_succ_lt_succ h) :: a :: l.eraseIdx k).Perm (a :: l)
    exact (List.Perm.swap ..).trans (.cons a (erase_perm l k (Nat.lt_of_succ_lt_succ h)))
theorem eraseI : ∀ {l : List Int} {k : Nat}, (l.map V.int).eraseIdx k = (l.eraseIdx k).map V.int
  | [], _ => rfl
  | _ :: _, 0 => rfl
  | a :: l, k + 1 => by
    show V.int a :: (l.map V.int).eraseIdx k = V.int a :: (l.eraseIdx k).map V.int
    rw [eraseI]
/-- one is taken out of the left ones -/
theorem take_perm {taken left : List Int} {k : Nat} (h : k < left.length) : ((taken ++ [left[k]]) ++ left.eraseIdx k).Perm (taken ++ left) := by
  rw [List.append_assoc]
  exact (erase_perm left k h).append_left taken
theorem getI {l : List Int} {k : Nat} (h : k < l.length) : (l.map V.int)[k]? = some (.int l[k]) := by
  rw [List.getElem?_map, List.getElem?_eq_getElem h]
  rfl
theorem len_lt {n : Nat} (h : n ≤ 100000) : n < sizeLine := Nat.lt_of_le_of_lt h (by decide)
theorem seqIx {i : Int} {n : Nat} (h0 : 0 ≤ i) (h1 : i < n) : seqIndex? i n = some i.toNat := PySem.seqIndex_of h0 h1
/-! ### enumerate of a text -/
def goS (z : Str) : Nat → Hp → Prop := fun i _ => i < z.cps.size
def stopS (z : Str) : Nat → Hp → Prop := fun i _ => z.cps.size ≤ i
def isS (z : Str) : Nat → Hp → V → Prop := fun i _ x => ∃ c, z.cps[i]? = some c ∧ x = .str ⟨#[c]⟩
theorem feedS {P : Program} {w : World} {K : PySem.W.Frag} {z : Str} {t : Tok} {e it : Addr} (ne : e ≠ it) : Feed P w K e it (fun i h => h.IsStrIter it (strIterType z) z t i) (goS z) (stopS z) (isS z) where
  apart := ne
  lives := fun i h y => let ⟨o, ho, _, hd⟩ := y; ⟨o, ho, fun v q => by rw [hd] at q; cases q⟩
  stays := fun i h g y k => let ⟨o, ho, r⟩ := y; ⟨o, k o ho, r⟩
  more := by
    rintro X rfl rfl rfl calm i pins s σ H I at_ lt
    exact ⟨_, _, _, _, Draws.text (A := X.A.in1) (I.ok.hd calm) it z t, lt, at_, by simp [ne], fun h y => y, fun v ⟨c, u, hc, ev⟩ => ⟨.str ⟨#[c]⟩, ⟨u, ev⟩, c, hc, rfl⟩⟩
  ends := by
    rintro X rfl rfl rfl calm i pins s σ H I at_ le
    have none_ : z.cps[i]? = none := Array.getElem?_eq_none_iff.mpr le
    exact ⟨[it], fun _ _ => False, fun j h => j = i ∧ h.IsStrIter it (strIterType z) z t i,
      { live := fun _ _ y => let ⟨o, ho, _⟩ := y.2; ⟨o, ho⟩
        frame := fun _ _ _ y k => ⟨y.1, let ⟨o, ho, r⟩ := y.2; ⟨o, k it (by simp) o ho, r⟩⟩
        item := fun j _ _ _ lt y _ => absurd y.1 (Nat.ne_of_lt lt)
        done := fun _ _ _ y q => by
          have it2 := y.2
          unfold strIterType at it2
          split at it2
          · exact wpAny_nextOf_ascii_end (A := X.A.in1) (I.ok.hd calm) it2 none_ q
          · exact wpAny_nextOf_wide_end (A := X.A.in1) (I.ok.hd calm) it2 none_ q }, rfl, at_⟩
def iEnumS (ta : TA) : TI := fun σ H R => ta σ H fun vs H1 => ∃ z, vs = [.str z] ∧ R (ItE (goS z) (stopS z) (isS z)) H1
theorem pi_enumS {X : Cx} {x : Expr} {ta : TA} {p pos q : Pos} {l : List Expr} {c : Nat} (hg : Gl X "enumerate") (hm : X.mg "enumerate" = none) (ha : PA X [x] ta)
    (hs : starEach [x] X.env = [(false, eval x X.env)] := by rfl) : PI X (.Tuple l c q) (.Call (.Name "enumerate" p) [x] [] pos) (iEnumS ta) := ⟨fun pins s σ H R I h => by
  refine Call_ (ld_blt I hg hm boot_enumerate (PyProof.Rows.callWith_type1 (wpAny_mono (ha.run pos pins s σ H _ I h) (fun us s1 y => ?_) fun _ _ y => y) hs rfl))
  obtain ⟨vs, H1, I1, rs, z, rfl, r⟩ := y
  obtain ⟨t, rfl⟩ : ∃ t, us = [.str z t] := by
    match us, rs with
    | [_], .cons ⟨t, rfl⟩ .nil => exact ⟨t, rfl⟩
  refine callEnum1 (begins_text z t) trivial fun h2 en fed size old => wpAny_pyIter_enum en ?_
  have new : ∀ b ∈ [s1.heap.objs.size + 1, s1.heap.objs.size], s1.heap.objs.size ≤ b := fun b hb => by
    have two : b = s1.heap.objs.size + 1 ∨ b = s1.heap.objs.size := by simpa using hb
    omega
  exact ⟨_, _, _, _, H1, rfl, I1.kept (h' := h2) (t' := s1.toks) old, turnE (feedS (z := z) (t := t) (e := s1.heap.objs.size + 1) (it := s1.heap.objs.size) (Nat.succ_ne_self _)), ⟨⟨.none, en⟩, ⟨_, fed, rfl, rfl⟩⟩, fun b hb => I1.fpOk (new b hb) (I1.hok.fresh (new b hb)), r⟩⟩
theorem walk_enumS {z : Str} {g : TG} {tb : TS} {D : Ends} {σ : L2.St} {H : Hp} (Pv : Nat → L2.St → Hp → Prop) (h0 : Pv 0 σ H)
    (hs : ∀ i c T σ H, z.cps[i]? = some c → Pv i σ H → H T = none → g (.ref T) σ (upd H T (.tup [.int (i : Nat), .str ⟨#[c]⟩])) fun σ2 H2 => tb { D with nx := Pv (i + 1), ct := Pv (i + 1), bk := D.nx } σ2 H2) (hd : ∀ σ H, Pv z.cps.size σ H → D.nx σ H) :
    tFor (fun _ H R => R (ItE (goS z) (stopS z) (isS z)) H) g tb D σ H :=
  walkE z.cps.size Pv h0 (fun i σ H lt _ => lt) (fun σ H _ => Nat.le_refl _) (fun i x T σ H _ ix p n => by
    obtain ⟨c, hc, rfl⟩ := ix
    exact hs i c T σ H hc p n) hd
/-! ### kinds of values -/
def Tys : List String := ["NoneType", "int", "bool", "str", "list", "tuple", "dict"]
/-- v is of the built-in type T -/
structure Tv (K : PySem.W.Frag) (H : Hp) (v : V) (T : String) : Prop where
  ty : TyX K H v (.type T)
  mem : T ∈ Tys
theorem Tv.same {K : PySem.W.Frag} {H H' : Hp} {v : V} {T : String} (t : Tv K H v T) (e : Same H H') : Tv K H' v T := by
  refine ⟨?_, t.mem⟩
  cases t.ty with
  | base b =>
    cases b with
    | non => exact .base .non
    | bl x => exact .base (.bl x)
    | int i => exact .base (.int i)
    | str x => exact .base (.str x)
    | flt x => exact .base (.flt x)
    | lst h => exact .base (.lst (e _ _ h))
    | frz h => exact .base (.frz (e _ _ h))
    | tup h => exact .base (.tup (e _ _ h))
    | dK h => exact .base (.dK (e _ _ h))
    | dT h => exact .base (.dT (e _ _ h))
  | byt b => exact .byt b
  | set h => exact .set (e _ _ h)
  | kList h c => exact .kList h c
  | kTuple h c => exact .kTuple h c
  | kDict h c => exact .kDict h c
  | fTuple h => exact .fTuple (e _ _ h)
  | fDict h => exact .fDict (e _ _ h)
theorem Tv.int {K : PySem.W.Frag} {H : Hp} (i : Int) : Tv K H (.int i) "int" := ⟨.base (.int i), by decide⟩
theorem Tv.int_of {K : PySem.W.Frag} {H : Hp} {v : V} (t : Tv K H v "int") : ∃ i, v = .int i := by
  generalize hT : Value.type "int" = u at *
  have ty := t.ty
  rw [hT] at ty
  cases ty with
  | base b =>
    cases b with
    | int i => exact ⟨i, rfl⟩
    | _ => first | exact absurd (Value.type.inj hT) (by decide) | exact nomatch hT
  | _ => exact absurd (Value.type.inj hT) (by decide)
theorem Tv.of_int {K : PySem.W.Frag} {H : Hp} {i : Int} {T : String} (t : Tv K H (.int i) T) : T = "int" := by
  cases t.ty with
  | base b =>
    cases b with
    | int i => rfl
theorem SqT.same {K : PySem.W.Frag} {H H' : Hp} {a : Addr} {xs : List V} (e : Same H H') (h : SqT K H a xs) : SqT K H' a xs := by
  rcases h with (h | ⟨o, h⟩) | h
  · exact .inl (.inl (e _ _ h))
  · exact .inl (.inr ⟨o, e _ _ h⟩)
  · exact .inr h
theorem Tv.tup {K : PySem.W.Frag} {H : Hp} {a : Addr} {xs : List V} (h : SqT K H a xs) : Tv K H (.ref a) "tuple" := by
  refine ⟨?_, by decide⟩
  rcases h with (h | ⟨o, h⟩) | ⟨o, its, n, h, c, _⟩
  · exact .base (.tup h)
  · exact .fTuple h
  · exact .kTuple h c
theorem kit_int {K : PySem.W.Frag} {T : String} (h : T ∈ Tys) : PySem.W.kitOne K (.type T) (.type "int") = some (decide (T = "int") || decide (T = "bool")) := by
  have hs : ∀ S ∈ Tys, kitB S "int" = some (decide (S = "int") || decide (S = "bool")) := by decide +kernel
  exact kit_ty (hs T h)
theorem kit_bool {K : PySem.W.Frag} {T : String} (h : T ∈ Tys) : PySem.W.kitOne K (.type T) (.type "bool") = some (decide (T = "bool")) := by
  have hs : ∀ S ∈ Tys, kitB S "bool" = some (decide (S = "bool")) := by decide +kernel
  exact kit_ty (hs T h)
theorem kit_tuple {K : PySem.W.Frag} {T : String} (h : T ∈ Tys) : PySem.W.kitOne K (.type T) (.type "tuple") = some (decide (T = "tuple")) := by
  have hs : ∀ S ∈ Tys, kitB S "tuple" = some (decide (S = "tuple")) := by decide +kernel
  exact kit_ty (hs T h)
theorem kit_str {K : PySem.W.Frag} {T : String} (h : T ∈ Tys) : PySem.W.kitOne K (.type T) (.type "str") = some (decide (T = "str")) := by
  have hs : ∀ S ∈ Tys, kitB S "str" = some (decide (S = "str")) := by decide +kernel
  exact kit_ty (hs T h)
def heightB : V → Bool
  | .int i => decide (1 ≤ i) && decide (i ≤ 999)
  | _ => false
/-- the i-th is a height that stands not earlier -/
def okAt (xs : List V) (i : Nat) : Bool := match xs[i]? with
  | some x => heightB x && !inV x (xs.take i)
  | none => true
theorem heightB_int {x : V} (h : heightB x = true) : ∃ i, x = .int i ∧ 1 ≤ i ∧ i ≤ 999 := by
  cases x with
  | int i =>
    have h2 : (decide (1 ≤ i) && decide (i ≤ 999)) = true := h
    rw [Bool.and_eq_true] at h2
    exact ⟨i, rfl, of_decide_eq_true h2.1, of_decide_eq_true h2.2⟩
  | _ => cases h
theorem flat_of_ok {xs : List V} {i : Nat} (hi : i ≤ xs.length) (h : ∀ j < i, okAt xs j = true) : (xs.take i).all flatV = true := by
  rw [List.all_eq_true]
  intro x hx
  obtain ⟨j, hj, e⟩ := List.mem_take_iff_getElem.mp hx
  have hj2 : j < i := by omega
  have o := h j hj2
  unfold okAt at o
  rw [List.getElem?_eq_getElem (by omega)] at o
  have o2 := (Bool.and_eq_true_iff.mp o).1
  rw [e] at o2
  obtain ⟨n, rfl, _⟩ := heightB_int o2
  rfl
theorem inV_ints {n : Int} {ms : List Int} : inV (.int n) (ms.map V.int) = decide (n ∈ ms) := by
  unfold inV
  rw [List.any_map]
  by_cases h : n ∈ ms
  · rw [decide_eq_true h, List.any_eq_true]
    exact ⟨n, h, by show (n == n) = true; exact beq_self_eq_true n⟩
  · rw [decide_eq_false h, List.any_eq_false]
    intro x hx e
    have e2 : (x == n) = true := e
    rw [eq_of_beq e2] at hx
    exact h hx
theorem Row.ok {ns : List Int} (r : Row ns) (i : Nat) : okAt (ns.map V.int) i = true := by
  unfold okAt
  by_cases h : i < ns.length
  · rw [getI h]
    show (heightB (.int ns[i]) && !inV (.int ns[i]) ((ns.map V.int).take i)) = true
    have g := r.rng ns[i] (List.getElem_mem h)
    have e1 : heightB (.int ns[i]) = true := by
      show (decide (1 ≤ ns[i]) && decide (ns[i] ≤ 999)) = true
      rw [decide_eq_true g.1, decide_eq_true g.2]
      rfl
    rw [e1, ← List.map_take, inV_ints]
    have hn : ns[i] ∉ ns.take i := fun hm => by
      obtain ⟨j, hj, e⟩ := List.mem_take_iff_getElem.mp hm
      have := (List.getElem_inj r.nd).mp e
      omega
    rw [decide_eq_false hn]
    rfl
  · rw [List.getElem?_eq_none_iff.mpr (by rw [List.length_map]; omega)]
end Lp
namespace Lp
open PySem PySem.Spec PyProof.Rows L2
/-! ### the mathematics of passes -/
def code : Bool → Nat
  | true => 84
  | false => 83
/-- the text of a word -/
def wd (bs : List Bool) : Str := ⟨(bs.map code).toArray⟩
abbrev ltr (b : Bool) : Str := ⟨#[code b]⟩
theorem ltrT : Str.ofString "T" = ltr true := by decide +kernel
theorem ltrS : Str.ofString "S" = ltr false := by decide +kernel
theorem ltr_inj {a b : Bool} (h : ltr a = ltr b) : a = b := by
  cases a <;> cases b <;> first | rfl | exact absurd h (by decide +kernel)
theorem wd_len (bs : List Bool) : (wd bs).length = bs.length := by
  show (bs.map code).toArray.size = _
  rw [List.size_toArray, List.length_map]
theorem wd_get {bs : List Bool} {i c : Nat} (h : (wd bs).cps[i]? = some c) : ∃ b, bs[i]? = some b ∧ c = code b := by
  have h2 : (bs.map code)[i]? = some c := by
    rw [← List.getElem?_toArray]
    exact h
  rw [List.getElem?_map] at h2
  obtain ⟨b, e1, e2⟩ := Option.map_eq_some_iff.mp h2
  exact ⟨b, e1, e2.symm⟩
theorem wd_app (a b : List Bool) : wd a ++ wd b = wd (a ++ b) := by
  show (⟨(a.map code).toArray ++ (b.map code).toArray⟩ : Str) = ⟨((a ++ b).map code).toArray⟩
  rw [List.map_append, List.append_toArray]
def takes (b : Bool) (p s : Int) : Bool := if b then decide (s < p) else decide (p < s)
def stepW (b : Bool) (st : List Int × List Int × Int) (p : Int) : List Int × List Int × Int :=
  if takes b p st.2.2 = true then (st.1 ++ [st.2.2], st.2.1 ++ [st.2.2], p) else (st.1 ++ [p], st.2.1, st.2.2)
def runW (b : Bool) (x : Int) (xs : List Int) : List Int × List Int × Int := xs.foldl (stepW b) ([], [], x)
def passL (b : Bool) : List Int → List Int
  | [] => []
  | x :: xs => (runW b x xs).1 ++ [(runW b x xs).2.2]
def seatL (b : Bool) : List Int → List Int
  | [] => []
  | x :: xs => (runW b x xs).2.1 ++ [(runW b x xs).2.2]
def afterL (bs : List Bool) (ns : List Int) : List Int := bs.foldl (fun acc b => passL b acc) ns
theorem runW_perm (b : Bool) : ∀ (xs l s : List Int) (x : Int), ((xs.foldl (stepW b) (l, s, x)).1 ++ [(xs.foldl (stepW b) (l, s, x)).2.2]).Perm (l ++ x :: xs)
  | [], l, s, x => .refl _
  | p :: xs, l, s, x => by
    rw [List.foldl_cons, show stepW b (l, s, x) p = (if takes b p x = true then (l ++ [x], s ++ [x], p) else (l ++ [p], s, x)) from rfl]
    split
    · refine (runW_perm b xs _ _ _).trans ?_
      rw [List.append_assoc]
      exact .refl _
    · refine (runW_perm b xs _ _ _).trans ?_
      rw [List.append_assoc]
      exact (List.Perm.swap x p xs).append_left l
theorem passL_perm (b : Bool) : ∀ ns : List Int, (passL b ns).Perm ns
  | [] => .refl _
  | x :: xs => runW_perm b xs [] [] x
theorem Row.perm {ns ms : List Int} (r : Row ns) (h : ms.Perm ns) : Row ms :=
  ⟨by rw [h.length_eq]; exact r.pos, by rw [h.length_eq]; exact r.most, h.nodup_iff.mpr r.nd, fun x hx => r.rng x (h.mem_iff.mp hx)⟩
theorem Row.pass {ns : List Int} (r : Row ns) (b : Bool) : Row (passL b ns) := r.perm (passL_perm b ns)
theorem afterL_perm : ∀ (bs : List Bool) (ns : List Int), (afterL bs ns).Perm ns
  | [], ns => .refl _
  | b :: bs, ns => (afterL_perm bs (passL b ns)).trans (passL_perm b ns)
theorem Row.after {ns : List Int} (r : Row ns) (bs : List Bool) : Row (afterL bs ns) := r.perm (afterL_perm bs ns)
theorem afterL_app (a b : List Bool) (ns : List Int) : afterL (a ++ b) ns = afterL b (afterL a ns) := List.foldl_append ..
theorem afterL_take {bs : List Bool} {i : Nat} {b : Bool} (h : bs[i]? = some b) (ns : List Int) : afterL (bs.take (i + 1)) ns = passL b (afterL (bs.take i) ns) := by
  rw [List.take_add_one, h, afterL_app]
  rfl
theorem seatL_ne {b : Bool} {ns : List Int} (h : ns ≠ []) : seatL b ns ≠ [] := by
  cases ns with
  | nil => exact absurd rfl h
  | cons x xs =>
    unfold seatL
    simp
theorem runW_len (b : Bool) : ∀ (xs l s : List Int) (x : Int), (xs.foldl (stepW b) (l, s, x)).1.length = l.length + xs.length ∧ (xs.foldl (stepW b) (l, s, x)).2.1.length ≤ s.length + xs.length
  | [], l, s, x => ⟨rfl, Nat.le_refl _⟩
  | p :: xs, l, s, x => by
    rw [List.foldl_cons, show stepW b (l, s, x) p = (if takes b p x = true then (l ++ [x], s ++ [x], p) else (l ++ [p], s, x)) from rfl]
    split
    · have := runW_len b xs (l ++ [x]) (s ++ [x]) p
      simp only [List.length_append, List.length_cons, List.length_nil] at this ⊢
      omega
    · have := runW_len b xs (l ++ [p]) s x
      simp only [List.length_append, List.length_cons, List.length_nil] at this ⊢
      omega
theorem fold_take {α β : Type} {f : α → β → α} {xs : List β} {i : Nat} {x : β} {z : α} (h : xs[i]? = some x) : (xs.take (i + 1)).foldl f z = f ((xs.take i).foldl f z) x := by
  rw [List.take_add_one, h, List.foldl_append]
  rfl
theorem cut1 {x : V} {xs : List V} : cutV (x :: xs) (some 1) none = xs := by
  unfold cutV
  rw [show HT.sIx (x :: xs).length 0 (some 1) = min 1 (x :: xs).length from HT.sIx_nat (x :: xs).length 0 1, HT.sIx_none, List.length_cons, Nat.min_eq_left (by omega)]
  show (xs.take (xs.length + 1 - 1)) = xs
  rw [Nat.add_sub_cancel]
  exact List.take_length
def kindB (z : Str) : Bool := decide (z = ltr false) || decide (z = ltr true)
theorem kindB_ltr (b : Bool) : kindB (ltr b) = true := by cases b <;> decide +kernel
theorem inV_kinds (z : Str) : inV (.str z) [.str (ltr false), .str (ltr true)] = kindB z := by
  show ((ltr false == z) || ((ltr true == z) || false)) = kindB z
  unfold kindB
  rw [Bool.or_false]
  have h : ∀ a : Str, (a == z) = decide (z = a) := fun a => by
    by_cases e : z = a
    · subst e
      rw [decide_eq_true rfl, beq_self_eq_true]
    · rw [decide_eq_false e]
      exact beq_eq_false_iff_ne.mpr (Ne.symm e)
  rw [h, h]
theorem nw1 {n : Nat} (h : 1 ≤ n) : HT.sIx n 0 (some 1) ≠ 0 := by
  rw [show HT.sIx n 0 (some 1) = min 1 n from HT.sIx_nat n 0 1]
  omega
theorem cutS_take (bs : List Bool) (k : Nat) : cutS (wd bs) none (some (k : Nat)) = wd (bs.take k) := by
  unfold cutS
  rw [HT.sIx_none, HT.sIx_nat, wd_len]
  show (⟨((bs.map code).take (min k bs.length - 0)).toArray⟩ : Str) = ⟨((bs.take k).map code).toArray⟩
  rw [Nat.sub_zero, List.map_take]
  congr 2
  by_cases h : k ≤ bs.length
  · rw [Nat.min_eq_left h]
  · rw [Nat.min_eq_right (by omega), List.take_of_length_le (by rw [List.length_map]; omega), List.take_of_length_le (by rw [List.length_map]; omega)]
theorem foldl_single (c : Nat) : ∀ (n : Nat) (acc : Array Nat), (List.replicate n #[c]).foldl (· ++ ·) acc = acc ++ (List.replicate n c).toArray
  | 0, acc => by simp
  | n + 1, acc => by
    rw [List.replicate_succ, List.foldl_cons, foldl_single c n, List.replicate_succ]
    apply Array.ext'
    simp
theorem mul_ltr (b : Bool) (n : Nat) : Txt.mul (ltr b) ((n + 1 : Nat) : Int) = wd (List.replicate (n + 1) b) := by
  unfold Txt.mul
  rw [if_neg (by omega)]
  have e2 : wd (List.replicate (n + 1) b) = ⟨(List.replicate (n + 1) (code b)).toArray⟩ := by
    unfold wd
    rw [List.map_replicate]
  rw [e2]
  split
  · rename_i h
    rcases Bool.or_eq_true_iff.mp h with z | z
    · have := eq_of_beq z
      have hn : n = 0 := by omega
      subst hn
      rfl
    · have : (1 == 0) = true := z
      cases this
  · rw [Int.toNat_natCast]
    congr 1
    rw [foldl_single]
    simp
theorem Dp_ints {K : PySem.W.Frag} {H : Hp} : ∀ ns : List Int, DpAll K H (ns.map V.int) (ns.map PyData.int)
  | [] => .nil
  | n :: ns => .cons (.int n) (Dp_ints ns)
theorem Dp_row {K : PySem.W.Frag} {H : Hp} {a : Addr} {ns : List Int} (h : SqT K H a (ns.map V.int)) : Dp K H (.ref a) (.tuple (ns.map PyData.int)) := .tup h (Dp_ints ns)
theorem Dp_list {K : PySem.W.Frag} {H : Hp} {a : Addr} {ns : List Int} (h : SqL K H a (ns.map V.int)) : Dp K H (.ref a) (.list (ns.map PyData.int)) := .lst h (Dp_ints ns)
theorem lay_ints : ∀ ns : List Int, PyData.canLayAll0 (ns.map PyData.int) = true
  | [] => by simp only [List.map_nil, PyData.canLayAll0]
  | n :: ns => by simp only [List.map_cons, PyData.canLayAll0, PyData.canLay0, Bool.true_and, lay_ints ns]
theorem depth_ints : ∀ ns : List Int, PyData.depthAll (ns.map PyData.int) = 0
  | [] => by simp only [List.map_nil, PyData.depthAll]
  | n :: ns => by simp only [List.map_cons, PyData.depthAll, PyData.depth, depth_ints ns, Nat.max_self]
theorem lay_row (ns : List Int) : (PyData.tuple (ns.map PyData.int)).canLay0 = true := by simp only [PyData.canLay0, lay_ints]
theorem shaped_row (ns : List Int) : SeqAt.shaped (.tuple (ns.map PyData.int)) = true := by
  unfold SeqAt.shaped
  simp only [PyData.canLay0, PyData.depth, lay_ints, depth_ints]
  decide
theorem lay_list (ns : List Int) : (PyData.list (ns.map PyData.int)).canLay0 = true := by simp only [PyData.canLay0, lay_ints]
theorem shaped_list (ns : List Int) : SeqAt.shaped (.list (ns.map PyData.int)) = true := by
  unfold SeqAt.shaped
  simp only [PyData.canLay0, PyData.depth, lay_ints, depth_ints]
  decide
theorem eqv_row (ns : List Int) : PyData.eqv (.tuple (ns.map PyData.int)) (.tuple (ns.map PyData.int)) = true := SeqAt.eqv_refl _ (lay_row ns)
theorem eqv_list (ns : List Int) : PyData.eqv (.list (ns.map PyData.int)) (.list (ns.map PyData.int)) = true := SeqAt.eqv_refl _ (lay_list ns)
theorem all_true (n : Nat) : (List.replicate n true).all id = true := by
  rw [List.all_eq_true]
  intro x hx
  rw [(List.mem_replicate.mp hx).2]
  rfl
end Lp
/-! ### sorted of a tuple of ints -/
namespace Lp
open PySem PySem.Spec PyProof.Rows L2
section
variable {prog : Program} {w : World} {A : Around} {E : Value → Shared → Prop} {s : Shared}
/-- sorted(t): the items are gathered (the heap grows to some g), laid into a new list, and that list is put in order -/
theorem sortedT {t : Addr} {us : List Value} {ns : List Int} {Q : Value → Shared → Prop} (tup : s.heap.IsTuple t us.toArray) (nums : IntsAre us ns) (few : us.length < 64)
    (q : ∀ (g : Heap) (out : Array Value) (ms : List Int), (∀ b o, s.heap.get? b = some o → g.get? b = some o) → IntsAre out.toList ms → ms.Perm ns → ms.Pairwise (· ≤ ·) →
      Q (.ref g.objs.size) { s with heap := sortedHeap (g.push (seqObj "list" us.toArray 0)) g.objs.size us out }) :
    wpAny (model prog w) A (call (.builtin "sorted") [.ref t]) Q E s := by
  obtain ⟨o, ho, cls, m, dat⟩ := tup
  have small : us.toArray.size ≤ sizeLine := by
    rw [List.size_toArray]
    exact Nat.le_of_lt (len_lt (Nat.le_trans (Nat.le_of_lt few) (by decide)))
  refine Calls.call_function_entry kind_sorted plain_sorted entry_sorted (args_sorted1 (.ref t)) ?_
  unfold Builtin.«sorted»
  refine wpAny_bind (m := checkCount "sorted" 1 1 1) (wpAny_pure (wpAny_bind (wpAny_collect_seq t (.inr rfl) ho cls dat (fun g old => ?_) small)))
  refine wpAny_bind (wpAny_newList ?_ (by rw [← List.size_toArray]; exact small))
  have new : (g.push (seqObj "list" us.toArray 0)).get? g.objs.size = some (seqObj "list" us.toArray 0) := Heap.get?_push_size g rfl
  exact wpAny_bind (wpAny_holding (wpAny_call_entry slot_list_sort ⟨_, new, rfl⟩ entry_list_sort (list_sort_tree new nums few fun out ms i1 i2 i3 => ⟨_, rfl, wpAny_pure ⟨_, rfl, q g out ms old i1 i2 i3⟩⟩) (args_list_sort (.ref g.objs.size))))
end
def rSortedTp (K : PySem.W.Frag) : List V → Hp → VK → Prop := fun vs H Q => ∃ (a : Addr) (ns : List Int), vs = [V.ref a] ∧ SqT K H a (ns.map V.int) ∧ ns.length < 64 ∧
  ∀ (ms : List Int) (p : Addr), ms.Perm ns → ms.Pairwise (· ≤ ·) → H p = none → Q (.ref p) (upd H p (.lst (ms.map V.int)))
theorem cr_sortedTp {X : Cx} : CallR X (.builtin "sorted") (rSortedTp X.K) := fun pins s σ H vs us Q I r h => by
  obtain ⟨a, ns, rfl, sq, few, q⟩ := h
  obtain ⟨its, rv, tup, _⟩ := I.tuple sq
  rw [Vals.ref1 r]
  have nums := rv.ints
  refine sortedT tup nums (nums.length ▸ few) fun g out ms old i1 i2 i3 => ?_
  have I1 : Inv X pins σ H { s with heap := g } := I.kept (t' := s.toks) old
  have size : (ms.map V.int).length ≤ sizeLine := by
    rw [List.length_map, i2.length_eq]
    exact Nat.le_of_lt (len_lt (by omega))
  obtain ⟨ep, there⟩ := PyProof.Rows.sortedHeap_at (vs := its) (out := out) (Heap.get?_push_size g rfl : (g.push (seqObj "list" its.toArray 0)).get? g.objs.size = some (seqObj "list" its.toArray 0))
  have J := I1.laid (t' := s.toks) (a := g.objs.size) (o := .lst (ms.map V.int)) (h' := sortedHeap (g.push (seqObj "list" its.toArray 0)) g.objs.size its out) (fun b u z => by
    have lt := Heap.lt_size z
    rw [PyProof.Rows.sortedHeap_old (Nat.ne_of_lt lt) (by rw [size_push']; exact Nat.lt_succ_of_lt lt)]
    exact Heap.get?_push_of_some _ z) (Nat.le_refl _) ⟨size, out.toList, ep, vals_of_ints i1, there⟩
  exact ⟨.ref g.objs.size, _, J, rfl, q ms _ i2 i3 (I1.hok.fresh (Nat.le_refl _))⟩
end Lp
/-! ### promises of defs that are called where no repr is under way -/
namespace Lp
open PySem PySem.Spec PyProof.Rows L2
structure FnG (P : Program) (w : World) (K : PySem.W.Frag) (mg : Str → Option Value) (base : Heap) (k : Nat) (f : Addr) (fd : FuncData) (ps : List Str) (sp : Sp) : Prop where
  len : ∀ vs H Q E, sp vs H Q E → vs.length = ps.length
  run : ∀ (A : Around) (outer : List Env) (s : Shared) (H : Hp) (args : Args) (us : List Value) (vs : List V) (Q : VK) (E : XK), Room k A → A.guards = some [] → Env0 P w K mg base A outer s H →
    BindsTo s fd args (ps.zip us) → Vals vs us → sp vs H Q E → codeAny (model P w) A (.call (.ref f) args) (CR CX0 outer P w H s Q E) s
structure ClG (P : Program) (w : World) (K : PySem.W.Frag) (mg : Str → Option Value) (base : Heap) (k : Nat) (x : Str) (st : Stmt) (ps : List Str) (sp : Sp) : Prop where
  ex : ∃ f fd, FnP K x st f fd ∧ FnG P w K mg base k f fd ps sp ∧ mg x = some (.ref f) ∧ Binds K fd ps []
section
variable {P : Program} {w : World} {K : PySem.W.Frag} {mg : Str → Option Value} {base : Heap} {x : Str} {st : Stmt} {N ps : List Str} {k : Nat} {sp : Sp} {f : Addr}
theorem Df.okG (D : Df K mg x st) (S : FnScope N ps (defScope st))
    (bd : ∀ (kV doc pm : Value) (an : Option Addr) (cdv ct : Value) (us : List Value), us.length = ps.length → bindArgs (PySem.W.fnOf x x (defArgs st) (defBody st) (defScope st) .none kV doc pm an cdv ct) ⟨us, []⟩ = pure (ps.zip us))
    (len : ∀ vs H Q E, sp vs H Q E → vs.length = ps.length)
    (body : ∀ (f : Addr) (cdv : Value) (A : Around) (outer : List Env) (s : Shared) (H : Hp) (vs : List V) (Q : VK) (E : XK), Room k (A.deeper (envOfC x (defScope st) s.heap.objs.size f cdv)) → A.guards = some [] → sp vs H Q E →
      ∃ t, PSs (cxOf CX0 P w K mg base N x (defScope st) f cdv A outer s H E).nox (defBody st) t ∧ t { nx := fun _ H' => Q .non H', rt := Q } (start N vs) H) : ClG P w K mg base (k + 1) x st ps sp := by
  obtain ⟨f, fd, F, hm⟩ := D.ex
  refine ⟨f, fd, F, ?_, hm, F.bindsN bd⟩
  obtain ⟨oc, od, dV, kV, doc, pm, an, cdv, ct, osl, rfl, lk, hcd, _, _⟩ := F.ex
  refine ⟨len, fun A outer s H args us vs Q E hr hgd e0 hb rel hsp => ?_⟩
  have ln := len _ _ _ _ hsp
  have kx : K.In s.heap := e0.mod.kin.keeps fun b o e => (e0.bs b o e).1
  have nl : s.heap.NoLimit := e0.mod.nolimit.keeps fun b o e => (e0.bs b o e).1
  have kinds : ∀ y ∈ ps.zip us, (defScope st).names.lookup y.1 = some .local ∨ ((defScope st).names.lookup y.1 = some .cell ∧ ((cellsFrom (s.heap.objs.size + 1) (defScope st).names []).lookup y.1).isSome = true) := fun y hy => by
    obtain ⟨nm, vl⟩ := y
    rcases S.par nm (List.of_mem_zip hy).1 with z | z
    · exact Or.inl z
    · exact Or.inr ⟨z, PySem.W.cellsFrom_some _ _ _ (Or.inl z)⟩
  refine codeAny_call_function hr.depth (kx _ _ lk) rfl S.co S.gen rfl (PySem.W.codeRec_of kx hcd) (hb _ _ _ _ ?_)
  refine wpAny_newFunctionEnv_cells S.kind kinds fun env henv s1 xc => ?_
  subst henv
  refine ⟨nl.keeps xc.toInCall.keep, codeAny_func ?_⟩
  obtain ⟨t, ht, hq⟩ := body f cdv A outer s H vs Q E (hr.deeper _) hgd hsp
  have ini : L2.Inv (cxOf CX0 P w K mg base N x (defScope st) f cdv A outer s H E) [] (start N vs) H s1 := inv_start S hr.hd e0 ln rel xc
  refine wpAny_mono (ht.nox.run [] s1 (start N vs) H _ ini hq) (fun fl s2 hs => ?_) fun e s2 hs => hs
  have back : ∀ {σ2 : L2.St} {H2 : Hp} {v : V} {u : Value}, L2.Inv (cxOf CX0 P w K mg base N x (defScope st) f cdv A outer s H E) [] σ2 H2 s2 → RelV v u → Q v H2 → CE outer P w H s Q u s2 :=
    fun {σ2 H2 v u} J rv q => ⟨v, H2, J.os, J.bare, J.base, J.hok, rv, q⟩
  cases fl with
  | ret u =>
    obtain ⟨v, σ2, H2, J, rv, q⟩ := hs
    exact back J rv q
  | next =>
    obtain ⟨σ2, H2, J, q⟩ := hs
    exact back (v := V.non) (u := Value.none) J rfl q
  | brk =>
    obtain ⟨_, _, _, q⟩ := hs
    exact q.elim
  | cont =>
    obtain ⟨_, _, _, q⟩ := hs
    exact q.elim
theorem ClG.last (D : Df K mg x st) (hf : mg x = some (.ref f)) (c : ∀ base, ClG P w K mg base k x st ps sp) : ∃ fd, FnP K x st f fd ∧ ∀ base, FnG P w K mg base k f fd ps sp := by
  obtain ⟨f0, fd0, F0, m0⟩ := D.ex
  have e0 : f0 = f := Value.ref.inj (Option.some.inj (m0.symm.trans hf))
  subst e0
  refine ⟨fd0, F0, fun base => ?_⟩
  obtain ⟨f1, fd1, F1, G1, m1, _⟩ := (c base).ex
  have e1 : f1 = f0 := Value.ref.inj (Option.some.inj (m1.symm.trans hf))
  subst e1
  obtain ⟨_, _, _, _, _, _, _, _, _, _, _, l0, _⟩ := F0.ex
  obtain ⟨_, _, _, _, _, _, _, _, _, _, _, l1, _⟩ := F1.ex
  have e2 := l0.symm.trans l1
  simp only [Option.some.injEq, Obj.mk.injEq, Data.func.injEq] at e2
  rw [e2.2.2.1]
  exact G1
end
section
variable {X : Cx} {x : Str} {st : Stmt} {ps ks : List Str} {j k : Nat} {sp : Sp} {e : Expr} {es : List Expr} {t : TA} {p pos : Pos}
theorem pe_ug (c : ClG X.prog X.w X.K X.mg X.base k x st ps sp) (hr : Room j X.A) (hgd : X.A.guards = some []) (hk : k ≤ j) (hg : Gl X x) (ha : PA X (e :: es) t)
    (hdb : (x == ("__debug__" : Str)) = false := by decide) (he : starEach (e :: es) X.env = (false, eval e X.env) :: starEach es X.env := by rfl) (hpl : (backTo pos (starEach es X.env)).any (·.1) = false := by rfl) :
    PE X (.Call (.Name x p) (e :: es) [] pos) (tCall sp [] E0 t) := by
  obtain ⟨f, fd, F, G, hm, b⟩ := c.ex
  refine ⟨fun pins s σ H Q I h => wpAny_Call_Name_kw (ld_glob I hg hm ?_ hdb)⟩
  refine PySem.W.callWith_K (h₀ := X.base) I.ok.mod.kin F.kp (thn (ha.run pos pins s σ H _ I h) fun us s1 ⟨vs, H1, I1, rel, q⟩ => ⟨I1.kIn, ?_⟩) he hpl
  have q1 : sp vs H1 Q E0 := by
    have z : sp (vs ++ []) H1 Q E0 := q
    rw [List.append_nil] at z
    exact z
  have ln : (us ++ []).length = ps.length := by
    rw [List.append_nil, ← rel.length]
    exact G.len _ _ _ _ q1
  have bd := b s1 us I1.kIn ln
  rw [List.append_nil] at bd
  refine wpAny_call (codeAny_mono (G.run X.A X.stack s1 H1 ⟨us, []⟩ us vs Q E0 (hr.mono hk) hgd I1.env0 bd rel q1) fun res s2 hq => ?_)
  cases res with
  | error er => exact hq.elim
  | ok fl =>
    cases fl with
    | ret u => exact I1.after hq
    | next => exact hq.elim
    | brk => exact hq.elim
    | cont => exact hq.elim
end
/-- the law's own call, no repr under way -/
theorem lawCallG {P : Program} {w : World} {K : PySem.W.Frag} {mg mb : Str → Option Value} {k : Nat} {fa a : Addr} {fd : FuncData} {x : Str} {sp : Sp} {s1 : Shared} {vs : List Value} {ns : List Int}
    (kx : K.In s1.heap) (gns : s1.heap.Ns mainGlobals mg) (bns : s1.heap.Ns builtinsNs mb) (bbt : ∀ x : Str, x ≠ "__name__" → mb x = bootBuiltins x) (nlim : s1.heap.NoLimit) (gen0 : s1.gens = #[])
    (hob : s1.heap.get? a = some { cls := .type "list", data := .seq vs.toArray }) (hint : IntsAre vs ns) (hlen : ns.length ≤ sizeLine) (hr : Room k callerA)
    (F : ∀ base : Heap, FnG P w K mg base k fa fd [x] sp) (hbind : ∀ (s : Shared) (u : Value), BindsTo s fd ⟨[u], []⟩ [(x, u)])
    (hsp : ∀ H : Hp, SqL K H a (ns.map V.int) → sp [.ref a] H (fun v _ => v = .bl true) fun _ _ _ => False) :
    codeAny (model P w) callerA (.call (.ref fa) ⟨[.ref a], []⟩) (fun r s' => r = .ok (.ret (.bool true)) ∧ OldK s1.heap s'.heap ∧ s'.os = s1.os ∧ AllBare s'.gens) s1 := by
  have rel := vals_ints hint
  have lv := hint.length
  have main : ∀ H : Hp, SqL K H a (ns.map V.int) → HOk P w H s1.heap → (∀ b u, H b = some u → b = a ∧ K.lookup a = none ∧ ∃ xs, u = .frz { cls := .type "list", data := .seq vs.toArray } (.lst xs)) →
      codeAny (model P w) callerA (.call (.ref fa) ⟨[.ref a], []⟩) (fun r s' => r = .ok (.ret (.bool true)) ∧ OldK s1.heap s'.heap ∧ s'.os = s1.os ∧ AllBare s'.gens) s1 := by
    intro H hS hok only
    have free : ∀ {b : Addr} {o : Obj}, s1.heap.get? b = some o → o ≠ { cls := .type "list", data := .seq vs.toArray } → H b = none := fun {b o} e ne => by
      cases hb : H b with
      | none => rfl
      | some u =>
        obtain ⟨rfl, _, _⟩ := only b u hb
        rw [hob] at e
        exact absurd (Option.some.inj e).symm ne
    have nsk : ∀ {b : Addr} {m : Str → Option Value}, s1.heap.Ns b m → (hidT s1.heap H).Ns b m := fun {b m} z => by
      obtain ⟨o, es, ep, e, d, r⟩ := z
      exact ⟨o, es, ep, hidT_get e (free e fun q => by rw [q] at d; cases d), d, r⟩
    have kb : K.In (hidT s1.heap H) := fun b o e => hidT_get (kx b o e) (by
      cases hb : H b with
      | none => rfl
      | some u =>
        obtain ⟨rfl, z, _⟩ := only b u hb
        rw [z] at e
        cases e)
    obtain ⟨mc, c1, c2⟩ := nlim
    have md : Mod K mg (hidT s1.heap H) := ⟨kb, nsk gns, ⟨mb, nsk bns, bbt⟩, ⟨mc, nsk c1, c2⟩⟩
    have en : Env0 P w K mg (hidT s1.heap H) callerA [] s1 H := ⟨rfl, md, fun b o e => of_hidT e, Nat.le_of_eq (hidT_size _ _), trivial, fun b hb => absurd (show b ∈ ([] : List Addr) from hb) List.not_mem_nil, hok, .of_eq gen0⟩
    refine codeAny_mono ((F _).run callerA [] s1 H ⟨[.ref a], []⟩ [.ref a] [.ref a] _ _ hr rfl en (hbind s1 (.ref a)) (.cons rfl .nil) (hsp H hS)) fun r s2 h => ?_
    cases r with
    | error e => exact h.elim
    | ok fl =>
      cases fl with
      | next => exact h.elim
      | brk => exact h.elim
      | cont => exact h.elim
      | ret u =>
        obtain ⟨v, H2, os, bare, un, hok2, rv, q⟩ := h
        have q2 : v = .bl true := q
        subst q2
        obtain rfl : u = Value.bool true := rv
        refine ⟨rfl, OldK.of_keep fun b o e => ?_, os, bare⟩
        cases hb : H b with
        | none => exact un.keep b o e hb (fun z => absurd (show b ∈ ([] : List Addr) from z) List.not_mem_nil) List.not_mem_nil
        | some u =>
          obtain ⟨_, _, xs, rfl⟩ := only b u hb
          obtain ⟨z1, _⟩ := hok b _ hb
          obtain ⟨z2, _⟩ := hok2 b _ (un.frzs b _ _ hb)
          rw [z1] at e
          cases e
          exact z2
  cases hk : K.lookup a with
  | some o =>
    have e := kx a o hk
    rw [hob] at e
    cases e
    refine main (fun _ => none) (.inr ⟨_, vs.toArray, _, hk, rfl, rfl, rfl, by rw [List.size_toArray, lv]; exact hlen, by simpa using rel⟩) (fun b u z => nomatch z) fun b u z => nomatch z
  | none =>
    refine main (fun b => if b = a then some (.frz { cls := .type "list", data := .seq vs.toArray } (.lst (ns.map V.int))) else none) (.inl (.inr ⟨_, if_pos rfl⟩)) (fun b u z => ?_) fun b u z => ?_
    · by_cases hb : b = a
      · have z2 := (if_pos hb).symm.trans z
        cases z2
        subst hb
        exact ⟨hob, by rw [List.length_map]; exact hlen, vs, _, rel, hob⟩
      · have z2 := (if_neg hb).symm.trans z
        cases z2
    · by_cases hb : b = a
      · have z2 := (if_pos hb).symm.trans z
        cases z2
        exact ⟨hb, hk, _, rfl⟩
      · have z2 := (if_neg hb).symm.trans z
        cases z2
theorem walkG {l : PySem.W.OpenLaw} {n k : Nat} {q : Program} {loose : List Str} {XP : (Str → Option Value) → Heap → Prop} {YP : World → Heap → Prop} {d : DefRec} {x : Str}
    (hn : l.most = some n) (hn2 : n ≤ sizeLine) (hdf : d.params.defaults = []) (hr : Room k callerA)
    (F : ∀ (w : World) (mg : Str → Option Value) (fa : Addr) (h : Heap), YP w h → h.Ns mainGlobals mg → mg d.name = some (.ref fa) →
      ∃ (K : PySem.W.Frag) (fd : FuncData) (sp : Sp), K.In h ∧ (∀ (s : Shared) (u : Value), BindsTo s fd ⟨[u], []⟩ [(x, u)]) ∧
        (∀ (H : Hp) (a : Addr) (ns : List Int), ns.length ≤ n → SqL K H a (ns.map V.int) → sp [.ref a] H (fun v _ => v = .bl true) fun _ _ _ => False) ∧ ∀ base : Heap, FnG l.prog w K mg base k fa fd [x] sp) :
    PySem.W.WalkO q loose XP YP l.row.toRowW d [] (fun f vs => PySem.call f vs) := by
  refine Att.attach_call hn hdf fun w s0 s1 mg mb fa o pm cd doc a vs ns G Y ho hd hcd hmg hobj hints hlen hg => ?_
  obtain ⟨K, fd, sp, kx, hb, hsp, hF⟩ := F w mg fa _ Y G.T.g hmg
  exact lawCallG kx G.T.g G.T.b G.T.builtins G.T.nolimit hg hobj hints (Nat.le_trans hlen hn2) hr hF hb fun H hS => hsp H a ns hlen hS
/-! ### repr of data -/
def rReprD (K : PySem.W.Frag) : List V → Hp → VK → Prop := fun xs H Q => ∃ (v : V) (d : PyData), xs = [v] ∧ Dp K H v d ∧ d.canLay0 = true ∧ d.depth ≤ 60 ∧ d.showable = true ∧ d.shown.length ≤ sizeLine ∧ Q (.str d.shown) H
theorem call_reprD {X : Cx} {k : Nat} (hr : Room k X.A) (hgd : X.A.guards = some []) : CallR X (.builtin "repr") (rReprD X.K) := by
  intro pins s σ H xs us Q I r h
  obtain ⟨v, d, rfl, hd, hl, hdp, hs, hz, q⟩ := h
  obtain ⟨u, rfl, rv⟩ := vals1 r
  have fin : ∀ (h' : Heap) (t : Tok) (tk : Tok), (∀ b o, s.heap.get? b = some o → h'.get? b = some o) → EP X pins σ Q (.str d.shown t) { s with heap := h', toks := tk } := fun h' t tk hk =>
    ⟨.str d.shown, H, I.kept (t' := tk) hk, ⟨t, rfl⟩, q⟩
  have fin0 : ∀ (t tk : Tok), EP X pins σ Q (.str d.shown t) { s with toks := tk } := fun t tk => fin s.heap t tk fun _ _ e => e
  have hu := hr.un
  obtain ⟨as, rd⟩ := Dp.reads I d v u hd rv
  cases hd with
  | non =>
    cases rv
    exact PySem.P.repr_of_none (fin0 _ _)
  | bl b =>
    cases rv
    have z := fin0 s.toks (s.toks + 1)
    cases b <;> exact PySem.P.repr_of_bool z
  | int i =>
    obtain ⟨t, rfl⟩ := rv
    have hs2 : i.natAbs.log2 < 1920 := of_decide_eq_true hs
    exact PySem.P.repr_of_int hs2 (fin0 _ _)
  | str x =>
    obtain ⟨t, rfl⟩ := rv
    exact PySem.P.repr_of_str (fin0 _ _) hz
  | lst _ _ =>
    cases rv
    exact repr_of_reads' rd hs (PyData.noDict_hsm (PyData.hasDict_of_canLay _ hl)) hgd (by omega) (fun _ _ e => e) (fun h' t tk hk => fin h' t tk hk) hz
  | tup _ _ =>
    cases rv
    exact repr_of_reads' rd hs (PyData.noDict_hsm (PyData.hasDict_of_canLay _ hl)) hgd (by omega) (fun _ _ e => e) (fun h' t tk hk => fin h' t tk hk) hz
end Lp
namespace Lp
open PySem PySem.Spec PyProof.Rows L2
/-! ### parts of a text -/
def lcScope : Expr → Scope
  | .ListComp _ _ sc _ => sc
  | _ => { kind := .function, names := [], isGenerator := false, isCoroutine := false }
def asgVal : Stmt → Expr
  | .Assign _ v _ => v
  | _ => .Constant .none 0 ⟨0, 0, 0, 0⟩
/-! ### ranks and signs -/
def rk (ns : List Int) (x : Int) : Int := 1 + ((ns.filter fun y => decide (y < x)).length : Nat)
def ranksL (ns : List Int) : List Int := ns.map (rk ns)
theorem filter_lt_none : ∀ {l : List Int} {x : Int}, (∀ y ∈ l, x ≤ y) → (l.filter fun y => decide (y < x)) = []
  | [], _, _ => rfl
  | a :: l, x, h => by
    rw [List.filter_cons, decide_eq_false (by have := h a (List.mem_cons_self ..); omega)]
    exact filter_lt_none fun y hy => h y (List.mem_cons_of_mem _ hy)
theorem filter_sorted : ∀ {l : List Int} {j : Nat} (h : j < l.length), l.Pairwise (· ≤ ·) → l.Nodup → (l.filter fun y => decide (y < l[j])).length = j
  | a :: l, 0, _, hp, _ => by
    rw [List.pairwise_cons] at hp
    show ((a :: l).filter fun y => decide (y < a)).length = 0
    rw [filter_lt_none fun y hy => ?_]
    · rfl
    · rcases List.mem_cons.mp hy with z | z
      · omega
      · exact hp.1 y z
  | a :: l, j + 1, h, hp, hn => by
    rw [List.pairwise_cons] at hp
    rw [List.nodup_cons] at hn
    have h2 : j < l.length := Nat.lt_of_succ_lt_succ h
    show ((a :: l).filter fun y => decide (y < l[j])).length = j + 1
    have hm : l[j] ∈ l := List.getElem_mem h2
    have lt : a < l[j] := by
      have := hp.1 _ hm
      rcases Int.lt_or_eq_of_le this with z | z
      · exact z
      · rw [z] at hn
        exact absurd hm hn.1
    rw [List.filter_cons, decide_eq_true lt]
    show ((l.filter fun y => decide (y < l[j])).length) + 1 = j + 1
    rw [filter_sorted h2 hp.2 hn.2]
theorem rk_sorted {ns ms : List Int} (hp : ms.Perm ns) (hs : ms.Pairwise (· ≤ ·)) (hn : ms.Nodup) {j : Nat} (h : j < ms.length) : rk ns ms[j] = 1 + (j : Nat) := by
  unfold rk
  rw [← (hp.filter fun y => decide (y < ms[j])).length_eq, filter_sorted h hs hn]
def sg (b : Bool) : Str := if b then Str.ofString "1" else Str.ofString "0"
def sgL (ns : List Int) (h : Int) : List Str := ns.map fun x => sg (decide (h ≤ x))
def signS (ns : List Int) (h : Int) : Str := Txt.join (Str.ofString "") (sgL ns h)
theorem sgL_len (ns : List Int) (h : Int) : ((sgL ns h).map (·.length)).sum + (sgL ns h).length * (Str.ofString "").length ≤ ns.length := by
  have e0 : (Str.ofString "").length = 0 := by decide +kernel
  rw [e0, Nat.mul_zero, Nat.add_zero]
  unfold sgL
  induction ns with
  | nil => exact Nat.le_refl _
  | cons a l ih =>
    rw [List.map_cons, List.map_cons, List.sum_cons, List.length_cons]
    have e1 : (sg (decide (h ≤ a))).length = 1 := by
      unfold sg
      split <;> decide +kernel
    rw [e1]
    omega
theorem take_succ_map {α β : Type} {f : α → β} {l : List α} {i : Nat} (h : i < l.length) : ((l.take (i + 1)).map f) = (l.take i).map f ++ [f l[i]] := by
  rw [List.take_add_one, List.getElem?_eq_getElem h, List.map_append]
  rfl
theorem take_succ_filter {p : Int → Bool} {l : List Int} {i : Nat} (h : i < l.length) : ((l.take (i + 1)).filter p) = if p l[i] = true then (l.take i).filter p ++ [l[i]] else (l.take i).filter p := by
  rw [List.take_add_one, List.getElem?_eq_getElem h, List.filter_append]
  show _ ++ ([l[i]].filter p) = _
  cases hp : p l[i] with
  | true => rw [if_pos rfl]; simp [hp]
  | false => rw [if_neg (by decide)]; simp [hp]
end Lp
namespace Lp
open PySem PySem.Spec PyProof.Rows L2
/-! ### repr of rows -/
abbrev rowS (ns : List Int) : Str := (PyData.tuple (ns.map PyData.int)).shown
theorem small_log {x : Int} (h : 1 ≤ x ∧ x ≤ 999) : x.natAbs.log2 < 1920 := by
  have h1 : x.natAbs < 2 ^ 10 := by omega
  have h2 := (Nat.log2_lt (by omega)).mpr h1
  omega
theorem showable_ints : ∀ {ns : List Int}, (∀ x ∈ ns, x.natAbs.log2 < 1920) → PyData.showableAll (ns.map PyData.int) = true
  | [], _ => by simp only [List.map_nil, PyData.showableAll]
  | n :: ns, h => by
    simp only [List.map_cons, PyData.showableAll, PyData.showable, Bool.and_eq_true]
    exact ⟨decide_eq_true (h n (List.mem_cons_self ..)), showable_ints fun x hx => h x (List.mem_cons_of_mem _ hx)⟩
theorem piled_ints : ∀ {ns : List Int}, (∀ x ∈ ns, x.natAbs.log2 < 1920) → piled (PyData.shownAll (ns.map PyData.int)) ≤ 1923 * ns.length
  | [], _ => by simp only [List.map_nil, PyData.shownAll, piled_nil, List.length_nil]; omega
  | n :: ns, h => by
    simp only [List.map_cons, PyData.shownAll, PyData.shown, piled_cons, List.length_cons]
    have h1 := int_text_len_1921 (h n (List.mem_cons_self ..))
    have h2 := piled_ints fun x hx => h x (List.mem_cons_of_mem _ hx)
    have h3 : (toString n : Str).length ≤ 1921 := h1
    omega
theorem row_dep (ns : List Int) : (PyData.tuple (ns.map PyData.int)).depth ≤ 60 := by
  simp only [PyData.depth, depth_ints]
  decide
theorem row_showI {ns : List Int} (hx : ∀ x ∈ ns, x.natAbs.log2 < 1920) : (PyData.tuple (ns.map PyData.int)).showable = true := by
  simp only [PyData.showable]
  exact showable_ints hx
theorem row_lenI {ns : List Int} (hl : ns.length ≤ 1000) (hx : ∀ x ∈ ns, x.natAbs.log2 < 1920) : (PyData.tuple (ns.map PyData.int)).shown.length ≤ sizeLine := by
  simp only [PyData.shown]
  have h1 := fmt_text (PyData.shownAll (ns.map PyData.int))
  have h2 := piled_ints hx
  rw [sizeLine_eq]
  omega
theorem row_show {ns : List Int} (r : Row ns) : (PyData.tuple (ns.map PyData.int)).showable = true := row_showI fun x hx => small_log (r.rng x hx)
theorem row_len {ns : List Int} (r : Row ns) : (PyData.tuple (ns.map PyData.int)).shown.length ≤ sizeLine := row_lenI (Nat.le_trans r.most (by decide)) fun x hx => small_log (r.rng x hx)
theorem run_mem (b : Bool) : ∀ (xs l s : List Int) (x : Int), (xs.foldl (stepW b) (l, s, x)).2.2 ∈ x :: xs
  | [], l, s, x => List.mem_cons_self ..
  | p :: xs, l, s, x => by
    rw [List.foldl_cons, show stepW b (l, s, x) p = (if takes b p x = true then (l ++ [x], s ++ [x], p) else (l ++ [p], s, x)) from rfl]
    split
    · exact List.mem_cons_of_mem _ (run_mem b xs _ _ p)
    · rcases List.mem_cons.mp (run_mem b xs (l ++ [p]) s x) with z | z
      · rw [z]
        exact List.mem_cons_self ..
      · exact List.mem_cons_of_mem _ (List.mem_cons_of_mem _ z)
theorem takes_eq {b : Bool} {p s : Int} (h : p ≠ s) : takes b p s = (decide (s < p) == b) := by
  unfold takes
  cases b with
  | true =>
    rw [if_pos rfl]
    cases decide (s < p) <;> rfl
  | false =>
    rw [if_neg (by decide)]
    by_cases z : s < p
    · rw [decide_eq_true z, decide_eq_false (by omega)]
      rfl
    · rw [decide_eq_false z, decide_eq_true (by omega)]
      rfl
theorem kindT (b : Bool) : decide (V.str (ltr b) = V.str (Str.ofString "T")) = b := by
  rw [ltrT]
  cases b with
  | true => exact decide_eq_true rfl
  | false => exact decide_eq_false fun z => absurd (ltr_inj (V.str.inj z)) (by decide)
theorem bl_eq (x y : Bool) : decide (V.bl x = V.bl y) = (x == y) := by
  cases x <;> cases y <;> rfl
end Lp
namespace Lp
open PySem PySem.Spec PyProof.Rows L2
/-! ### who sits down -/
def recB (b : Bool) (E : List Int) (p : Int) : Bool := E.all fun o => decide (o < p) == b
def dueUp (b : Bool) (ns : List Int) : Nat → List Int
  | 0 => []
  | i + 1 => if recB b (ns.take i) (ns.getD i 0) = true then dueUp b ns i ++ [ns.getD i 0] else dueUp b ns i
/-- s is the greatest (the least) so far -/
def Ext (b : Bool) (s : Int) (E : List Int) : Prop := s ∈ E ∧ ∀ o ∈ E, if b then o ≤ s else s ≤ o
theorem recB_takes {b : Bool} {s p : Int} {E : List Int} (h : Ext b s E) (hp : p ∉ E) : recB b E p = takes b p s := by
  obtain ⟨hs, he⟩ := h
  unfold recB takes
  cases b with
  | true =>
    rw [if_pos rfl]
    by_cases z : s < p
    · rw [decide_eq_true z, List.all_eq_true]
      intro o ho
      have h1 : o ≤ s := he o ho
      rw [decide_eq_true (by omega)]
      rfl
    · rw [decide_eq_false z, List.all_eq_false]
      refine ⟨s, hs, ?_⟩
      rw [decide_eq_false z]
      decide
  | false =>
    rw [if_neg (by decide)]
    have ne : p ≠ s := fun e => hp (e ▸ hs)
    by_cases z : p < s
    · rw [decide_eq_true z, List.all_eq_true]
      intro o ho
      have h1 : s ≤ o := he o ho
      rw [decide_eq_false (by omega)]
      rfl
    · rw [decide_eq_false z, List.all_eq_false]
      refine ⟨s, hs, ?_⟩
      rw [decide_eq_true (by omega)]
      decide
theorem run_ext (b : Bool) (x : Int) (xs : List Int) : ∀ i, i ≤ xs.length → Ext b ((xs.take i).foldl (stepW b) ([], [], x)).2.2 (x :: xs.take i)
  | 0, _ => ⟨List.mem_cons_self .., fun o ho => by
      rw [List.take_zero] at ho
      rw [List.mem_singleton.mp ho]
      show if b then x ≤ x else x ≤ x
      split <;> exact Int.le_refl _⟩
  | i + 1, h => by
    have lt : i < xs.length := h
    obtain ⟨hs, he⟩ := run_ext b x xs i (Nat.le_of_lt lt)
    rw [fold_take (List.getElem?_eq_getElem lt)]
    have tk : x :: xs.take (i + 1) = (x :: xs.take i) ++ [xs[i]] := by
      rw [List.take_add_one, List.getElem?_eq_getElem lt]
      rfl
    rw [tk]
    generalize (xs.take i).foldl (stepW b) ([], [], x) = r at hs he
    rw [show stepW b r xs[i] = (if takes b xs[i] r.2.2 = true then (r.1 ++ [r.2.2], r.2.1 ++ [r.2.2], xs[i]) else (r.1 ++ [xs[i]], r.2.1, r.2.2)) from rfl]
    by_cases ht : takes b xs[i] r.2.2 = true
    · rw [if_pos ht]
      refine ⟨List.mem_append_right _ (List.mem_singleton_self _), fun o ho => ?_⟩
      show if b then o ≤ xs[i] else xs[i] ≤ o
      unfold takes at ht
      cases b with
      | true =>
        rw [if_pos rfl] at ht ⊢
        have h1 := of_decide_eq_true ht
        rcases List.mem_append.mp ho with z | z
        · have h2 : o ≤ r.2.2 := he o z
          omega
        · rw [List.mem_singleton.mp z]
          omega
      | false =>
        rw [if_neg (by decide)] at ht ⊢
        have h1 := of_decide_eq_true ht
        rcases List.mem_append.mp ho with z | z
        · have h2 : r.2.2 ≤ o := he o z
          omega
        · rw [List.mem_singleton.mp z]
          omega
    · rw [if_neg ht]
      refine ⟨List.mem_append_left _ hs, fun o ho => ?_⟩
      show if b then o ≤ r.2.2 else r.2.2 ≤ o
      unfold takes at ht
      cases b with
      | true =>
        rw [if_pos rfl] at ht ⊢
        have h1 : ¬ r.2.2 < xs[i] := fun z => ht (decide_eq_true z)
        rcases List.mem_append.mp ho with z | z
        · exact he o z
        · rw [List.mem_singleton.mp z]
          omega
      | false =>
        rw [if_neg (by decide)] at ht ⊢
        have h1 : ¬ xs[i] < r.2.2 := fun z => ht (decide_eq_true z)
        rcases List.mem_append.mp ho with z | z
        · exact he o z
        · rw [List.mem_singleton.mp z]
          omega
theorem dueUp_run (b : Bool) {x : Int} {xs : List Int} (nd : (x :: xs).Nodup) : ∀ i, i ≤ xs.length → dueUp b (x :: xs) (i + 1) = ((xs.take i).foldl (stepW b) ([], [], x)).2.1 ++ [((xs.take i).foldl (stepW b) ([], [], x)).2.2]
  | 0, _ => rfl
  | i + 1, h => by
    have lt : i < xs.length := h
    have ih := dueUp_run b nd i (Nat.le_of_lt lt)
    have ex := run_ext b x xs i (Nat.le_of_lt lt)
    have gd : (x :: xs).getD (i + 1) 0 = xs[i] := by
      rw [List.getD_cons_succ, List.getD_eq_getElem?_getD, List.getElem?_eq_getElem lt]
      rfl
    have hp : xs[i] ∉ x :: xs.take i := fun hm => by
      rw [List.nodup_cons] at nd
      rcases List.mem_cons.mp hm with z | z
      · rw [← z] at nd
        exact nd.1 (List.getElem_mem lt)
      · obtain ⟨j, hj, e⟩ := List.mem_take_iff_getElem.mp z
        have := (List.getElem_inj nd.2).mp e
        omega
    show (if recB b ((x :: xs).take (i + 1)) ((x :: xs).getD (i + 1) 0) = true then dueUp b (x :: xs) (i + 1) ++ [(x :: xs).getD (i + 1) 0] else dueUp b (x :: xs) (i + 1)) = _
    rw [gd, show (x :: xs).take (i + 1) = x :: xs.take i from rfl, recB_takes ex hp, ih, fold_take (List.getElem?_eq_getElem lt)]
    generalize (xs.take i).foldl (stepW b) ([], [], x) = r
    rw [show stepW b r xs[i] = (if takes b xs[i] r.2.2 = true then (r.1 ++ [r.2.2], r.2.1 ++ [r.2.2], xs[i]) else (r.1 ++ [xs[i]], r.2.1, r.2.2)) from rfl]
    split <;> rfl
theorem dueUp_seat (b : Bool) {ns : List Int} (r : Row ns) : dueUp b ns ns.length = seatL b ns := by
  cases ns with
  | nil => exact absurd r.pos (by decide)
  | cons x xs =>
    have z := dueUp_run b r.nd xs.length (Nat.le_refl _)
    rw [List.take_length] at z
    exact z
theorem dueUp_len (b : Bool) (ns : List Int) : ∀ i, (dueUp b ns i).length ≤ i
  | 0 => Nat.le_refl _
  | i + 1 => by
    have := dueUp_len b ns i
    unfold dueUp
    split
    · rw [List.length_append]
      show _ + 1 ≤ _
      omega
    · omega
theorem dueUp_succ (b : Bool) {ns : List Int} {i : Nat} (h : i < ns.length) : dueUp b ns (i + 1) = if recB b (ns.take i) ns[i] = true then dueUp b ns i ++ [ns[i]] else dueUp b ns i := by
  have gd : ns.getD i 0 = ns[i] := by
    rw [List.getD_eq_getElem?_getD, List.getElem?_eq_getElem h]
    rfl
  show (if recB b (ns.take i) (ns.getD i 0) = true then dueUp b ns i ++ [ns.getD i 0] else dueUp b ns i) = _
  rw [gd]
/-- the last of the row behind a pass is the last who sat -/
theorem lasts (b : Bool) {ns : List Int} (h : 1 ≤ ns.length) : ∃ (z : Int) (ps ss : List Int), passL b ns = ps ++ [z] ∧ seatL b ns = ss ++ [z] := by
  cases ns with
  | nil => exact absurd h (by decide)
  | cons x xs => exact ⟨_, _, _, rfl, rfl⟩
theorem seat_mem (b : Bool) {ns : List Int} (r : Row ns) : ∀ x ∈ seatL b ns, x ∈ ns := by
  rw [← dueUp_seat b r]
  have go : ∀ i, i ≤ ns.length → ∀ x ∈ dueUp b ns i, x ∈ ns := by
    intro i
    induction i with
    | zero => intro _ x hx; cases hx
    | succ i ih =>
      intro h x hx
      rw [dueUp_succ b h] at hx
      split at hx
      · rcases List.mem_append.mp hx with z | z
        · exact ih (Nat.le_of_succ_le h) x z
        · rw [List.mem_singleton.mp z]
          exact List.getElem_mem _
      · exact ih (Nat.le_of_succ_le h) x hx
  exact go _ (Nat.le_refl _)
theorem seat_log (b : Bool) {ns : List Int} (r : Row ns) : ∀ x ∈ seatL b ns, x.natAbs.log2 < 1920 := fun x hx => small_log (r.rng x (seat_mem b r x hx))
theorem seat_le (b : Bool) {ns : List Int} (r : Row ns) : (seatL b ns).length ≤ 1000 := by
  rw [← dueUp_seat b r]
  have h1 := dueUp_len b ns ns.length
  have h2 := r.most
  omega
theorem all_recB (b : Bool) (E : List Int) (p : Int) : (E.map fun o => decide (o < p) == b).all id = recB b E p := by
  rw [List.all_map]
  rfl
end Lp
namespace Lp
open PySem PySem.Spec PyProof.Rows L2
/-! ### texts of words -/
theorem fold_ltr : ∀ (bs : List Bool) (acc : Array Nat), (bs.map ltr).foldl (fun acc p => acc ++ (Str.ofString "").cps ++ p.cps) acc = acc ++ (bs.map code).toArray
  | [], acc => by simp
  | b :: bs, acc => by
    rw [List.map_cons, List.foldl_cons, fold_ltr bs]
    have e0 : (Str.ofString "").cps = #[] := by decide +kernel
    rw [e0]
    apply Array.ext'
    simp
theorem join_wd : ∀ bs : List Bool, Txt.join (Str.ofString "") (bs.map ltr) = wd bs
  | [] => by decide +kernel
  | b :: bs => by
    show (⟨(bs.map ltr).foldl (fun acc p => acc ++ (Str.ofString "").cps ++ p.cps) (ltr b).cps⟩ : Str) = wd (b :: bs)
    rw [fold_ltr]
    show (⟨#[code b] ++ (bs.map code).toArray⟩ : Str) = ⟨((b :: bs).map code).toArray⟩
    congr 1
    apply Array.ext'
    simp
theorem fold_wd (bs : List Bool) : ∀ (n : Nat) (acc : Array Nat), (List.replicate n (wd bs).cps).foldl (· ++ ·) acc = acc ++ ((List.replicate n bs).flatten.map code).toArray
  | 0, acc => by simp
  | n + 1, acc => by
    rw [List.replicate_succ, List.foldl_cons, fold_wd bs n, List.replicate_succ]
    apply Array.ext'
    simp [wd]
theorem mul_wd {bs : List Bool} {n : Nat} (hn : 2 ≤ n) (hb : bs ≠ []) : Txt.mul (wd bs) ((n : Nat) : Int) = wd (List.replicate n bs).flatten := by
  unfold Txt.mul
  rw [if_neg (by omega)]
  have e1 : ((((n : Nat) : Int) == 1) || ((wd bs).length == 0)) = false := by
    rw [Bool.or_eq_false_iff]
    refine ⟨beq_eq_false_iff_ne.mpr (by omega), beq_eq_false_iff_ne.mpr ?_⟩
    rw [wd_len]
    intro z
    exact hb (List.length_eq_zero_iff.mp z)
  rw [if_neg (by rw [e1]; decide), Int.toNat_natCast, fold_wd]
  unfold wd
  congr 1
  simp
theorem sumlen_ltr (bs : List Bool) : ((bs.map ltr).map (·.length)).sum + (bs.map ltr).length * (Str.ofString "").length = bs.length := by
  have e0 : (Str.ofString "").length = 0 := by decide +kernel
  rw [e0, Nat.mul_zero, Nat.add_zero]
  induction bs with
  | nil => rfl
  | cons b bs ih =>
    rw [List.map_cons, List.map_cons, List.sum_cons, ih, List.length_cons]
    show 1 + bs.length = bs.length + 1
    omega
theorem flat_len (n : Nat) (bs : List Bool) : (List.replicate n bs).flatten.length = n * bs.length := by
  induction n with
  | zero => simp
  | succ n ih =>
    rw [List.replicate_succ, List.flatten_cons, List.length_append, ih, Nat.succ_mul]
    omega
theorem wdTTSTS : Str.ofString "TTSTS" = wd [true, true, false, true, false] := by decide +kernel
theorem wdS : Str.ofString "S" = wd [false] := by decide +kernel
theorem wdNil : Str.ofString "" = wd [] := by decide +kernel
theorem ltr_wd (b : Bool) : ltr b = wd [b] := rfl
end Lp
namespace Lp
open PySem PySem.Spec PyProof.Rows L2
/-! ### rows told -/
def rowB (xs : List V) : Bool := decide (1 ≤ xs.length) && (decide (xs.length ≤ 12) && (List.range xs.length).all (okAt xs))
theorem rowB_true {xs : List V} (h1 : 1 ≤ xs.length) (h2 : xs.length ≤ 12) (h : ∀ i, i < xs.length → okAt xs i = true) : rowB xs = true := by
  unfold rowB
  rw [decide_eq_true h1, decide_eq_true h2, Bool.true_and, Bool.true_and, List.all_eq_true]
  exact fun i hi => h i (List.mem_range.mp hi)
theorem rowB_bad {xs : List V} {i : Nat} (hi : i < xs.length) (h : okAt xs i = false) : rowB xs = false := by
  unfold rowB
  have e : (List.range xs.length).all (okAt xs) = false := by
    rw [List.all_eq_false]
    exact ⟨i, List.mem_range.mpr hi, by rw [h]; decide⟩
  rw [e, Bool.and_false, Bool.and_false]
theorem rowB_len {xs : List V} (h : ¬ (1 ≤ xs.length ∧ xs.length ≤ 12)) : rowB xs = false := by
  unfold rowB
  by_cases h1 : 1 ≤ xs.length
  · rw [decide_eq_false (fun z => h ⟨h1, z⟩), Bool.false_and, Bool.and_false]
  · rw [decide_eq_false h1, Bool.false_and]
theorem Row.rowB {ns : List Int} (r : Row ns) : rowB (ns.map V.int) = true :=
  rowB_true (by rw [List.length_map]; exact r.pos) (by rw [List.length_map]; exact r.most) fun i _ => r.ok i
/-! ### odd values -/
theorem Tv.kp {K : PySem.W.Frag} {a : Addr} {H H' : Hp} {v : V} {T : String} (t : Tv K H v T) (ne : v ≠ .ref a) (e : Kp a H H') : Tv K H' v T := by
  refine ⟨?_, t.mem⟩
  have go : ∀ {b : Addr} {o : HO}, v = .ref b → H b = some o → H' b = some o := fun {b o} ev h => e b o h fun z => ne (by rw [ev, z])
  cases t.ty with
  | base b =>
    cases b with
    | non => exact .base .non
    | bl x => exact .base (.bl x)
    | int i => exact .base (.int i)
    | str x => exact .base (.str x)
    | flt x => exact .base (.flt x)
    | lst h => exact .base (.lst (go rfl h))
    | frz h => exact .base (.frz (go rfl h))
    | tup h => exact .base (.tup (go rfl h))
    | dK h => exact .base (.dK (go rfl h))
    | dT h => exact .base (.dT (go rfl h))
  | byt b => exact .byt b
  | set h => exact .set (go rfl h)
  | kList h c => exact .kList h c
  | kTuple h c => exact .kTuple h c
  | kDict h c => exact .kDict h c
  | fTuple h => exact .fTuple (go rfl h)
  | fDict h => exact .fDict (go rfl h)
/-- typed, and not the pool itself -/
structure Od (K : PySem.W.Frag) (a : Addr) (H : Hp) (v : V) : Prop where
  ty : ∃ T, Tv K H v T
  ne : v ≠ .ref a
theorem Od.kp {K : PySem.W.Frag} {a : Addr} {H H' : Hp} {v : V} (o : Od K a H v) (e : Kp a H H') : Od K a H' v := by
  obtain ⟨⟨T, t⟩, ne⟩ := o
  exact ⟨⟨T, t.kp ne e⟩, ne⟩
theorem Od.int {K : PySem.W.Frag} {a : Addr} {H : Hp} (i : Int) : Od K a H (.int i) := ⟨⟨_, Tv.int i⟩, fun z => nomatch z⟩
theorem Od.bl {K : PySem.W.Frag} {a : Addr} {H : Hp} (b : Bool) : Od K a H (.bl b) := ⟨⟨"bool", .base (.bl b), by decide⟩, fun z => nomatch z⟩
theorem Od.non {K : PySem.W.Frag} {a : Addr} {H : Hp} : Od K a H .non := ⟨⟨"NoneType", .base .non, by decide⟩, fun z => nomatch z⟩
theorem Od.str {K : PySem.W.Frag} {a : Addr} {H : Hp} (x : Str) : Od K a H (.str x) := ⟨⟨"str", .base (.str x), by decide⟩, fun z => nomatch z⟩
theorem Od.ref {K : PySem.W.Frag} {a b : Addr} {H : Hp} {T : String} (t : Tv K H (.ref b) T) (ne : b ≠ a) : Od K a H (.ref b) := ⟨⟨T, t⟩, fun z => ne (V.ref.inj z)⟩
theorem Tv.lst {K : PySem.W.Frag} {b : Addr} {H : Hp} {xs : List V} (h : H b = some (.lst xs)) : Tv K H (.ref b) "list" := ⟨.base (.lst h), by decide⟩
theorem Tv.dct {K : PySem.W.Frag} {b : Addr} {H : Hp} {kvs : List (Key × V)} (h : H b = some (.dK kvs)) : Tv K H (.ref b) "dict" := ⟨.base (.dK h), by decide⟩
/-- what may be asked: no tuple, or a tuple of such -/
def Askd (K : PySem.W.Frag) (a : Addr) (H : Hp) (v : V) : Prop := (∃ T, Tv K H v T ∧ T ≠ "tuple" ∧ v ≠ .ref a) ∨ ∃ (b : Addr) (xs : List V), v = .ref b ∧ b ≠ a ∧ SqT K H b xs ∧ xs.length ≤ 1000 ∧ ∀ x ∈ xs, Od K a H x
theorem Askd.tup {K : PySem.W.Frag} {a b : Addr} {H : Hp} {xs : List V} (h : H b = some (.tup xs)) (ne : b ≠ a) (hl : xs.length ≤ 1000) (hx : ∀ x ∈ xs, Od K a H x) : Askd K a H (.ref b) := .inr ⟨b, xs, rfl, ne, .inl (.inl h), hl, hx⟩
theorem od_upd {K : PySem.W.Frag} {a p : Addr} {H : Hp} {o : HO} {v : V} (h : Od K a H v) (np : H p = none) : Od K a (upd H p o) v := h.kp (.of_same (same_upd np))
theorem od_ints {K : PySem.W.Frag} {a : Addr} {H : Hp} {ns : List Int} : ∀ x ∈ ns.map V.int, Od K a H x := fun x hx => by
  obtain ⟨n, _, rfl⟩ := List.mem_map.mp hx
  exact Od.int n
/-- a draw's place in a list -/
theorem pick {xs : List V} {d : Int} {n : Nat} (h0 : 0 ≤ d) (h1 : d < n) (hn : xs.length = n) : ∃ v, atI xs d = some v ∧ v ∈ xs := by
  have lt : d.toNat < xs.length := by omega
  obtain ⟨k, rfl⟩ : ∃ k : Nat, d = (k : Nat) := ⟨d.toNat, by omega⟩
  have lk : k < xs.length := by omega
  exact ⟨xs[k], atI_nat (List.getElem?_eq_getElem lk), List.getElem_mem lk⟩
theorem cut_mem {xs : List V} {lo hi : Option Int} {x : V} (h : x ∈ cutV xs lo hi) : x ∈ xs := List.mem_of_mem_drop (List.mem_of_mem_take h)
theorem cut_len (xs : List V) (lo hi : Option Int) : (cutV xs lo hi).length ≤ xs.length := by
  unfold cutV
  rw [List.length_take, List.length_drop]
  omega
theorem notwhole_hi {n k : Nat} (h : k < n) (lo : Option Int) : ¬ (HT.sIx n 0 lo = 0 ∧ HT.sIx n n (some (k : Nat)) = n) := fun z => by
  have e := z.2
  rw [HT.sIx_nat] at e
  omega
theorem SqT.kp {K : PySem.W.Frag} {a b : Addr} {H H' : Hp} {xs : List V} (e : Kp a H H') (ne : b ≠ a) (h : SqT K H b xs) : SqT K H' b xs := by
  rcases h with (h | ⟨o, h⟩) | h
  · exact .inl (.inl (e _ _ h ne))
  · exact .inl (.inr ⟨o, e _ _ h ne⟩)
  · exact .inr h
theorem Askd.kp {K : PySem.W.Frag} {a : Addr} {H H' : Hp} {v : V} (h : Askd K a H v) (e : Kp a H H') : Askd K a H' v := by
  rcases h with ⟨T, t, nt, ne⟩ | ⟨b, xs, rfl, ne, hS, hl, hx⟩
  · exact .inl ⟨T, t.kp ne e, nt, ne⟩
  · exact .inr ⟨b, xs, rfl, ne, SqT.kp e ne hS, hl, fun x hm => (hx x hm).kp e⟩
section
variable {X : Cx}
def rCatB (K : PySem.W.Frag) : R2 := fun x y H Q => ∃ a b xs ys, x = .ref a ∧ y = .ref b ∧ SqT K H a xs ∧ SqT K H b ys ∧ xs.length + ys.length ≤ sizeLine ∧
  ∀ (p : Addr) (G : Hp), Same H G → SqT K G p (xs ++ ys) → (p = a ∨ p = b ∨ H p = none) → Q (.ref p) G
theorem op_catB : OpR X (binaryOp .Add) (rCatB X.K) := by
  intro pins s σ H x y v u Q I rx ry h
  obtain ⟨a, b, xs, ys, rfl, rfl, ha, hb, hz, q⟩ := h
  refine op_catA pins s σ H _ _ v u Q I rx ry ⟨a, b, xs, ys, rfl, rfl, ha, hb, hz, fun e => ?_, fun _ e => ?_, fun _ _ p np => ?_⟩
  · subst e
    exact q b H (Same.refl H) hb (.inr (.inl rfl))
  · subst e
    refine q a H (Same.refl H) ?_ (.inl rfl)
    rw [List.append_nil]
    exact ha
  · exact q p _ (same_upd np) (.inl (.inl upd_same)) (.inr (.inr np))
def rSlB' (K : PySem.W.Frag) : V → Option Int → Option Int → Hp → VK → Prop := fun x lo hi H Q => ∃ a xs, x = .ref a ∧ SqT K H a xs ∧
  ∀ (p : Addr) (G : Hp), Same H G → SqT K G p (cutV xs lo hi) → (p = a ∨ H p = none) → Q (.ref p) G
theorem cut_whole {xs : List V} {lo hi : Option Int} (h : HT.sIx xs.length 0 lo = 0 ∧ HT.sIx xs.length xs.length hi = xs.length) : cutV xs lo hi = xs := by
  unfold cutV
  rw [h.1, h.2, Nat.sub_zero]
  show xs.take xs.length = xs
  exact List.take_length
theorem sl_tupB : SlR X (rSlB' X.K) := by
  intro pins s σ H x v vl vu lo hi sl Q I rx hs pl pu h
  obtain ⟨a, xs, rfl, ha, q⟩ := h
  refine sl_tupA pins s σ H _ v vl vu lo hi sl Q I rx hs pl pu ⟨a, xs, rfl, ha, fun z => ?_, fun _ p np => ?_⟩
  · refine q a H (Same.refl H) ?_ (.inl rfl)
    rw [cut_whole z]
    exact ha
  · exact q p _ (same_upd np) (.inl (.inl upd_same)) (.inr np)
end
end Lp
namespace Lp
open PySem PySem.Spec PyProof.Rows L2
/-! ### behind a written number a token is out
PR, PRs, PRS: as the library's readings of an expression, of arguments, of a statement, and the end says besides that some token is out. -/
section
variable {X : Cx} {e o i : Expr} {es : List Expr} {te ti : TE} {ta : TA} {pos p : Pos}
abbrev out1 (s : Shared) : Prop := 1 ≤ s.toks
def PR (X : Cx) (e : Expr) (t : TE) : Prop :=
  ∀ pins s σ H (Q : VK), Inv X pins σ H s → t σ H Q → wpAny (model X.prog X.w) X.A (eval e X.env) (fun u s' => out1 s' ∧ EP X pins σ Q u s') X.xe s
def PRs (X : Cx) (es : List Expr) (t : TA) : Prop :=
  ∀ at_ pins s σ H (Q : List V → Hp → Prop), Inv X pins σ H s → t σ H Q → wpAny (model X.prog X.w) X.A (spliced (backTo at_ (starEach es X.env))) (fun us s' => out1 s' ∧ AP X pins σ Q us s') X.xe s
def PRS (X : Cx) (st : Stmt) (t : TS) : Prop :=
  ∀ pins s σ H (D : Ends), Inv X pins σ H s → t D σ H → wpAny (model X.prog X.w) X.A (exec st X.env) (fun f s' => out1 s' ∧ SP X pins D f s') X.xe s
/-- once out, a token stays out -/
theorem stays {α : Type} {t : Sem α} {Q : α → Shared → Prop} {E : Value → Shared → Prop} {s : Shared} (k : out1 s) (h : wpAny (model X.prog X.w) X.A t Q E s) : wpAny (model X.prog X.w) X.A t (fun a s' => out1 s' ∧ Q a s') E s :=
  wpAny_mono (PySem.wpAny_toks_of k h) (fun _ _ z => z) fun _ _ z => z.2
theorem pr_int {n : Int} {j : Nat} : PR X (.Constant (.int n) j pos) (tC (.int n)) := fun _ s _ H _ I q => wpAny_Constant_int ⟨(Nat.succ_le_succ (Nat.zero_le s.toks) : 1 ≤ s.toks + 1), .int n, H, I.tok _, ⟨_, rfl⟩, q⟩
theorem prs_here (a : PR X e te) (r : PA X es ta) (hs : starEach (e :: es) X.env = (false, eval e X.env) :: starEach es X.env := by rfl) : PRs X (e :: es) (tCons te ta) := fun at_ pins s σ H Q I h => by
  rw [hs]
  refine Calls.spliced_cons (wpAny_mono (a pins s σ H _ I h) (fun u s1 z => ?_) fun _ _ z => z)
  obtain ⟨k, x, H1, I1, rx, q⟩ := z
  refine wpAny_mono (stays k (r.run at_ pins s1 σ H1 _ I1 q)) (fun us s2 z2 => ?_) fun _ _ z2 => z2
  exact ⟨z2.1, let ⟨xs, H2, I2, rs, q2⟩ := z2.2; ⟨x :: xs, H2, I2, .cons rx rs, q2⟩⟩
theorem prs_later (a : PE X e te) (r : PRs X es ta) (hs : starEach (e :: es) X.env = (false, eval e X.env) :: starEach es X.env := by rfl) : PRs X (e :: es) (tCons te ta) := fun at_ pins s σ H Q I h => by
  rw [hs]
  refine Calls.spliced_cons (wpAny_mono (a.run pins s σ H _ I h) (fun u s1 z => ?_) fun _ _ z => z)
  obtain ⟨x, H1, I1, rx, q⟩ := z
  refine wpAny_mono (r at_ pins s1 σ H1 _ I1 q) (fun us s2 z2 => ?_) fun _ _ z2 => z2
  exact ⟨z2.1, let ⟨xs, H2, I2, rs, q2⟩ := z2.2; ⟨x :: xs, H2, I2, .cons rx rs, q2⟩⟩
/-- f(..), one of its arguments with a written number -/
theorem pr_call {k j : Nat} {x : Str} {st : Stmt} {ps : List Str} {sp : Sp} (c : Cl X.prog X.w X.K X.mg X.base k x st ps sp) (hr : Room j X.A) (hk : k ≤ j) (hg : Gl X x) (a : PRs X (e :: es) ta)
    (hdb : (x == ("__debug__" : Str)) = false := by decide) (h1 : starEach (e :: es) X.env = (false, eval e X.env) :: starEach es X.env := by rfl) (h2 : (backTo pos (starEach es X.env)).any (·.1) = false := by rfl) :
    PR X (.Call (.Name x p) (e :: es) [] pos) (tCall sp [] E0 ta) := fun pins s σ H Q I h => by
  obtain ⟨f, fd, F, G, hm, b⟩ := c.ex
  have args := wpAny_mono (a pos pins s σ H _ I h) (E' := X.xe) (Q' := fun us s1 => X.K.In s1.heap ∧ wpAny (model X.prog X.w) X.A (call (.ref f) us) (fun u s' => out1 s' ∧ EP X pins σ Q u s') X.xe s1) (fun us s1 z => by
    obtain ⟨k1, vs, H1, I1, rs, q⟩ := z
    exact ⟨I1.kIn, stays k1 (run_fn G (hr.mono hk) b .nil pass0 I1 rs q)⟩) fun _ _ z => z
  exact wpAny_Call_Name_kw (ld_glob I hg hm (PySem.W.callWith_K (h₀ := X.base) I.ok.mod.kin F.kp args h1 h2) hdb)
/-- x = e -/
theorem pr_set {n : Nat} {x : Str} {pos' : Pos} (hN : X.N.Nodup) (hi : X.N[n]? = some x) (hx : Loc X.env.scope x) (a : PR X e te) (hs : swapsWith e (some (.Name x pos')) pos.line X.env = pure false := by rfl)
    (hf : X.fn x = true ∨ X.env.scope.names.lookup x = some .local := by first | exact .inl rfl | exact .inr rfl) : PRS X (.Assign [.Name x pos'] e pos) (tAsg te (gName n)) := fun pins s σ H D I h =>
  wpAny_Assign_Name (wpAny_mono (a pins s σ H _ I h) (fun u s1 z => by
    obtain ⟨k, y, H1, I1, ry, q⟩ := z
    exact stays k (store_ok I1 hN hi hx ry (fun s2 I2 => ⟨_, H1, I2, q⟩) hf)) fun _ _ z => z) hs
theorem pss_out {st : Stmt} {rest : List Stmt} {t u : TS} (a : PRS X st t) (r : PSsT X rest u) : PSs X (st :: rest) (tSeq t u) := ⟨fun pins s σ H D I h => by
  refine wpAny_execs_cons (wpAny_mono (a pins s σ H { D with nx := u D } I h) (fun f s1 z => ?_) fun _ _ z => z)
  obtain ⟨k, z⟩ := z
  cases f
  case next =>
    obtain ⟨σ1, H1, I1, q⟩ := z
    exact r pins s1 σ1 H1 D k I1 q
  all_goals exact z⟩
/-- o[i], o with a written number -/
theorem pr_ix {r : V → V → Hp → VK → Prop} (hr : IxR X r) (a : PR X o te) (b : PE X i ti) (hs : PlainIx i) : PR X (.Subscript o i pos) (tOp r te ti) := fun pins s σ H Q I h =>
  Subscript_ (wpAny_mono (a pins s σ H _ I h) (fun v s1 z => by
    obtain ⟨k, x, H1, I1, rx, q⟩ := z
    refine wpAny_mono (stays k (b.run pins s1 σ H1 _ I1 q)) (fun u s2 z2 => ?_) fun _ _ z2 => z2
    obtain ⟨k2, y, H2, I2, ry, q2⟩ := z2
    exact stays k2 (hr o i pins s2 σ H2 x y v u Q I2 rx ry q2 (hs _ _))) fun _ _ z => z)
/-- [e, ..] -/
theorem pr_lst (a : PRs X es ta) : PR X (.List es pos) (tLst ta) := fun pins s σ H Q I h =>
  wpAny_List_spliced (wpAny_mono (a pos pins s σ H _ I h) (fun us s1 z => by
    obtain ⟨k, vs, H1, I1, rs, small, q⟩ := z
    have len : us.length ≤ sizeLine := rs.length ▸ small
    have new := I1.hok.fresh (Nat.le_refl s1.heap.objs.size)
    have J := I1.laid (t' := s1.toks) (o := .lst vs) (h' := s1.heap.push { cls := .type "list", data := .seq us.toArray 0 }) (fun _ _ z => Heap.get?_push_of_some _ z) (Nat.le_refl _) ⟨small, us, 0, rs, Heap.get?_push_size _ rfl⟩
    exact ⟨len, k, .ref s1.heap.objs.size, upd H1 s1.heap.objs.size (.lst vs), J, rfl, q _ new⟩) fun _ _ z => z)
end
/-! ### a, b = x, y, one token out -/
theorem two_of {v w : V} {us : List Value} (r : Vals [v, w] us) : ∃ u1 u2, us = [u1, u2] ∧ RelV v u1 ∧ RelV w u2 := by
  match us, r with
  | [u1, u2], .cons p (.cons q .nil) => exact ⟨u1, u2, rfl, p, q⟩
theorem pst_par {X : Cx} {n m : Nat} {x y : Str} {e1 e2 : Expr} {ta : TA} {p1 p2 p3 p4 pos : Pos} {c1 c2} (calm : X.calm = true) (nd : X.N.Nodup) (hn : X.N[n]? = some x) (hm : X.N[m]? = some y) (ne : n ≠ m)
    (lx : X.env.scope.names.lookup x = some .local) (ly : X.env.scope.names.lookup y = some .local) (a : PAT X [e1, e2] ta)
    (sw : swappedStores [.Tuple [.Name x p1, .Name y p2] c1 p3] (.Tuple [e1, e2] c2 p4) X.env = pure (some [x, y])) (so : swapsWithSole [.Tuple [.Name x p1, .Name y p2] c1 p3] (.Tuple [e1, e2] c2 p4) pos.line X.env = pure false := by rfl) :
    PST X (.Assign [.Tuple [.Name x p1, .Name y p2] c1 p3] (.Tuple [e1, e2] c2 p4) pos) (tPar n m ta) := fun pins s σ H D k I h => by
  -- what is stored, once both values stand
  have stores : ∀ (u1 u2 : Value) (s1 : Shared) (v w : V) (H1 : Hp), Inv X pins σ H1 s1 → RelV v u1 → RelV w u2 → D.nx ((σ.set n (some v)).set m (some w)) H1 →
      wpAny (model X.prog X.w) X.A (assignInOrder [fun z => bindName X.env y z, fun z => bindName X.env x z] [u2, u1] >>= fun _ => pure Flow.next) (SP X pins D) X.xe s1 := fun u1 u2 s1 v w H1 I1 r1 r2 q =>
    wpAny_bind (assignInOrder_cons (wpAny_bindName (store_ok I1 nd hm (.inl ly) r2 (fun s2 I2 => assignInOrder_cons (wpAny_bindName (store_ok I2 nd hn (.inl lx) r1 (fun s3 I3 => assignInOrder_nil (wpAny_pure
      ⟨_, H1, by rw [List.set_comm _ _ ne]; exact I3, q⟩)) (.inr lx)))) (.inr ly))))
  -- the pair is made and taken apart
  have made : ∀ (u1 u2 : Value) (s1 : Shared) (v w : V) (H1 : Hp), Inv X pins σ H1 s1 → RelV v u1 → RelV w u2 → D.nx ((σ.set n (some v)).set m (some w)) H1 →
      wpAny (model X.prog X.w) X.A (do rule "assign.swapped-stores"; let its ← unpackItems (.ref s1.heap.objs.size) 2 none; assignInOrder [fun z => bindName X.env y z, fun z => bindName X.env x z] its.reverse; pure Flow.next) (SP X pins D) X.xe
        { s1 with heap := s1.heap.push { cls := .type "tuple", data := .seq [u1, u2].toArray } } := fun u1 u2 s1 v w H1 I1 r1 r2 q => by
    have I2 := I1.kept (h' := s1.heap.push { cls := .type "tuple", data := .seq [u1, u2].toArray }) (t' := s1.toks) fun _ _ z => Heap.get?_push_of_some _ z
    refine wpAny_bind (wpAny_rule (wpAny_bind (unpackItems_tuple (items := #[u1, u2]) (I1.ok.hd calm) (IsTup.new s1.heap _) fun h2 same => ?_)))
    exact stores u1 u2 _ v w H1 (I2.kept (h' := h2) (t' := s1.toks) fun b o z => same b o (Nat.ne_of_lt (Heap.lt_size z)) z) r1 r2 q
  rw [exec_Assign_arm]
  refine wpAny_bind (wpAny_standAt ?_)
  rw [so]
  refine wpAny_bind (wpAny_pure ?_)
  simp only [Bool.false_eq_true, if_false]
  refine wpAny_bind (Tuple_ (wpAny_mono (a _ pins s σ H _ k I h) (fun us s1 z => ?_) fun _ _ z => z))
  obtain ⟨vs, H1, I1, rs, v, w, ev, q⟩ := z
  subst ev
  obtain ⟨u1, u2, eu, r1, r2⟩ := two_of rs
  subst eu
  refine wpAny_newObj_type ?_ (show [u1, u2].length ≤ sizeLine by show 2 ≤ sizeLine; decide)
  rw [sw]
  exact wpAny_bind (wpAny_pure (made u1 u2 s1 v w H1 I1 r1 r2 q))
theorem uni {k : Nat} {A : Around} (hr : Room k A) : A.units + 1 < cLine := by have := hr.un; omega
/-! ### texts of signs -/
def sgc : Bool → Nat
  | true => 49
  | false => 48
def sw (bs : List Bool) : Str := ⟨(bs.map sgc).toArray⟩
abbrev sl (b : Bool) : Str := ⟨#[sgc b]⟩
theorem sl1 : Str.ofString "1" = sl true := by decide +kernel
theorem sl0 : Str.ofString "0" = sl false := by decide +kernel
theorem sl_inj {a b : Bool} (h : sl a = sl b) : a = b := by
  cases a <;> cases b <;> first | rfl | exact absurd h (by decide +kernel)
theorem sw_len (bs : List Bool) : (sw bs).length = bs.length := by
  show (bs.map sgc).toArray.size = _
  rw [List.size_toArray, List.length_map]
theorem sw_get {bs : List Bool} {i c : Nat} (h : (sw bs).cps[i]? = some c) : ∃ b, bs[i]? = some b ∧ c = sgc b := by
  have h2 : (bs.map sgc)[i]? = some c := by
    rw [← List.getElem?_toArray]
    exact h
  rw [List.getElem?_map] at h2
  obtain ⟨b, e1, e2⟩ := Option.map_eq_some_iff.mp h2
  exact ⟨b, e1, e2.symm⟩
theorem sw_app (a b : List Bool) : sw a ++ sw b = sw (a ++ b) := by
  show (⟨(a.map sgc).toArray ++ (b.map sgc).toArray⟩ : Str) = ⟨((a ++ b).map sgc).toArray⟩
  rw [List.map_append, List.append_toArray]
theorem sw_nil : Str.ofString "" = sw [] := by decide +kernel
theorem sw_one (b : Bool) : sl b = sw [b] := by cases b <;> rfl
/-- the text behind replace of S, then of T -/
theorem repl1 (c d : Nat) : ∀ l : List Nat, StrLaws.replL [c] [d] l = l.map fun x => if x = c then d else x
  | [] => StrLaws.replL_nil
  | x :: l => by
    by_cases e : x = c
    · subst e
      rw [StrLaws.replL_hit (by simp) (by rfl), List.map_cons, if_pos rfl]
      exact congrArg (d :: ·) (repl1 x d l)
    · rw [StrLaws.replL_miss (y := [c]) (fun h => e (by have h2 : [x] = [c] := h; exact List.head_eq_of_cons_eq h2)), List.map_cons, if_neg e, repl1 c d l]
theorem repl_bits (bs : List Bool) : Txt.replace (Txt.replace (wd bs) (Str.ofString "S") (Str.ofString "0")) (Str.ofString "T") (Str.ofString "1") = sw bs := by
  have eS : Str.ofString "S" = ⟨#[83]⟩ := by decide +kernel
  have eT : Str.ofString "T" = ⟨#[84]⟩ := by decide +kernel
  have e0 : Str.ofString "0" = ⟨#[48]⟩ := by decide +kernel
  have e1 : Str.ofString "1" = ⟨#[49]⟩ := by decide +kernel
  have ext : ∀ {a b : Str}, a.cps.toList = b.cps.toList → a = b := fun {a b} h => by
    cases a; cases b
    exact congrArg Str.mk (Array.ext' h)
  apply ext
  rw [eS, eT, e0, e1, StrLaws.replace_list (by show 1 ≤ 1; decide), StrLaws.replace_list (by show 1 ≤ 1; decide)]
  show StrLaws.replL [84] [49] (StrLaws.replL [83] [48] (bs.map code).toArray.toList) = (bs.map sgc).toArray.toList
  rw [repl1, repl1, List.map_map, List.toList_toArray, List.toList_toArray, List.map_map]
  apply List.map_congr_left
  intro b _
  cases b <;> rfl
theorem repl_len (bs : List Bool) : (Txt.replace (wd bs) (Str.ofString "S") (Str.ofString "0")).length = bs.length := by
  have eS : Str.ofString "S" = ⟨#[83]⟩ := by decide +kernel
  have e0 : Str.ofString "0" = ⟨#[48]⟩ := by decide +kernel
  rw [eS, e0]
  show (Txt.replace (wd bs) ⟨#[83]⟩ ⟨#[48]⟩).cps.size = _
  rw [← Array.length_toList, StrLaws.replace_list (by show 1 ≤ 1; decide)]
  show (StrLaws.replL [83] [48] (bs.map code).toArray.toList).length = _
  rw [repl1, List.length_map, List.toList_toArray, List.length_map]
theorem count_sw (bs : List Bool) (b : Bool) : Txt.count (sw bs) (sl b) = (bs.count b : Nat) := by
  rw [show (sl b) = ⟨#[sgc b]⟩ from rfl, PyProof.Rows.count_cnt]
  show PyProof.Rows.cnt (sgc b) (bs.map sgc).toArray.toList = _
  rw [List.toList_toArray]
  induction bs with
  | nil => rfl
  | cons a l ih =>
    rw [List.map_cons, PyProof.Rows.cnt_cons, ih, List.count_cons]
    cases a <;> cases b <;> simp [sgc] <;> omega
/-! ### the signs of a row -/
def sgn (h : Int) (ns : List Int) : List Bool := ns.map fun x => decide (h ≤ x)
theorem fold_sl : ∀ (l : List Bool) (acc : Array Nat), (l.map sl).foldl (fun acc p => acc ++ (Str.ofString "").cps ++ p.cps) acc = acc ++ (l.map sgc).toArray
  | [], acc => by simp
  | b :: l, acc => by
    rw [List.map_cons, List.foldl_cons, fold_sl l, show (Str.ofString "").cps = #[] by decide +kernel]
    apply Array.ext'
    simp
theorem join_sl : ∀ l : List Bool, Txt.join (Str.ofString "") (l.map sl) = sw l
  | [] => by decide +kernel
  | b :: l => by
    show (⟨(l.map sl).foldl (fun acc p => acc ++ (Str.ofString "").cps ++ p.cps) (sl b).cps⟩ : Str) = sw (b :: l)
    rw [fold_sl]
    show (⟨#[sgc b] ++ (l.map sgc).toArray⟩ : Str) = ⟨((b :: l).map sgc).toArray⟩
    congr 1
    apply Array.ext'
    simp
theorem signS_sw (ns : List Int) (h : Int) : signS ns h = sw (sgn h ns) := by
  unfold signS sgL sgn
  rw [← join_sl, List.map_map]
  congr 1
  apply List.map_congr_left
  intro x _
  show sg (decide (h ≤ x)) = sl (decide (h ≤ x))
  cases decide (h ≤ x) <;> decide +kernel
theorem seat_sgn (b : Bool) (h : Int) : ∀ (xs l s : List Int) (x : Int), sgn h ((xs.foldl (stepW b) (l, s, x)).1 ++ [(xs.foldl (stepW b) (l, s, x)).2.2]) = sgn h l ++ (sgn h (x :: xs) ++ [b]).erase b
  | [], l, s, x => by
    show sgn h (l ++ [x]) = sgn h l ++ (decide (h ≤ x) :: [b]).erase b
    unfold sgn
    rw [List.map_append]
    congr 1
    by_cases hx : h ≤ x <;> cases b <;> simp [hx]
  | p :: xs, l, s, x => by
    rw [List.foldl_cons, show stepW b (l, s, x) p = (if takes b p x = true then (l ++ [x], s ++ [x], p) else (l ++ [p], s, x)) from rfl]
    have key : ∀ (a c : Int), sgn h (l ++ [a]) ++ (sgn h (c :: xs) ++ [b]).erase b = sgn h l ++ (decide (h ≤ a) :: (decide (h ≤ c) :: (sgn h xs ++ [b])).erase b) := fun a c => by
      unfold sgn
      rw [List.map_append, List.append_assoc]
      rfl
    split
    · rename_i ht
      rw [seat_sgn b h xs, key]
      congr 1
      show _ = (decide (h ≤ x) :: decide (h ≤ p) :: (sgn h xs ++ [b])).erase b
      generalize sgn h xs ++ [b] = R
      unfold takes at ht
      cases b
      · have : p < x := by simpa using ht
        by_cases h1 : h ≤ x <;> by_cases h2 : h ≤ p <;> simp [h1, h2] <;> omega
      · have : x < p := by simpa using ht
        by_cases h1 : h ≤ x <;> by_cases h2 : h ≤ p <;> simp [h1, h2] <;> omega
    · rename_i ht
      rw [seat_sgn b h xs, key]
      congr 1
      show _ = (decide (h ≤ x) :: decide (h ≤ p) :: (sgn h xs ++ [b])).erase b
      generalize sgn h xs ++ [b] = R
      unfold takes at ht
      cases b
      · have : x ≤ p := by simpa using ht
        by_cases h1 : h ≤ x <;> by_cases h2 : h ≤ p <;> simp [h1, h2] <;> omega
      · have : p ≤ x := by simpa using ht
        by_cases h1 : h ≤ x <;> by_cases h2 : h ≤ p <;> simp [h1, h2] <;> omega
theorem pass_sgn (b : Bool) (h : Int) {ns : List Int} (hn : ns ≠ []) : sgn h (passL b ns) = (sgn h ns ++ [b]).erase b := by
  cases ns with
  | nil => exact absurd rfl hn
  | cons x xs => exact (seat_sgn b h xs [] [] x).trans (List.nil_append _)
/-- the first z zeros and the first o ones left out -/
def dropN : Nat → Nat → List Bool → List Bool
  | _, _, [] => []
  | 0, o, false :: r => false :: dropN 0 o r
  | z + 1, o, false :: r => dropN z o r
  | z, 0, true :: r => true :: dropN z 0 r
  | z, o + 1, true :: r => dropN z o r
theorem dropN_f : ∀ (z o : Nat) (l : List Bool), dropN (z + 1) o l = dropN z o (l.erase false)
  | z, o, [] => by simp [dropN]
  | z, o, false :: r => by simp [dropN]
  | z, 0, true :: r => by
    rw [show (true :: r).erase false = true :: r.erase false by simp]
    rw [dropN, dropN, dropN_f z 0 r]
  | z, o + 1, true :: r => by
    rw [show (true :: r).erase false = true :: r.erase false by simp]
    rw [dropN, dropN, dropN_f z o r]
theorem dropN_t : ∀ (z o : Nat) (l : List Bool), dropN z (o + 1) l = dropN z o (l.erase true)
  | z, o, [] => by simp [dropN]
  | z, o, true :: r => by
    rw [show (true :: r).erase true = r by simp, dropN]
  | 0, o, false :: r => by
    rw [show (false :: r).erase true = false :: r.erase true by simp]
    rw [dropN, dropN, dropN_t 0 o r]
  | z + 1, o, false :: r => by
    rw [show (false :: r).erase true = false :: r.erase true by simp]
    rw [dropN, dropN, dropN_t z o r]
theorem dropN_0 : ∀ l : List Bool, dropN 0 0 l = l
  | [] => rfl
  | false :: r => by rw [dropN, dropN_0 r]
  | true :: r => by rw [dropN, dropN_0 r]
theorem after_sgn (h : Int) : ∀ (bs : List Bool) (ns : List Int), ns ≠ [] → sgn h (afterL bs ns) = dropN (bs.count false) (bs.count true) (sgn h ns ++ bs)
  | [], ns, _ => by
    rw [List.append_nil]
    exact (dropN_0 _).symm
  | b :: bs, ns, hn => by
    have hn2 : passL b ns ≠ [] := fun z => hn (by
      have := (passL_perm b ns).length_eq
      rw [z] at this
      exact List.length_eq_zero_iff.mp this.symm)
    rw [show afterL (b :: bs) ns = afterL bs (passL b ns) from rfl, after_sgn h bs _ hn2, pass_sgn b h hn]
    have ea : (sgn h ns ++ [b]).erase b ++ bs = (sgn h ns ++ b :: bs).erase b := by
      rw [← List.erase_append_left _ (by simp), List.append_assoc]
      rfl
    rw [ea]
    cases b
    · rw [← dropN_f]
      congr 1 <;> simp
    · rw [← dropN_t]
      congr 1 <;> simp
/-- the loop's state after i signs: how many of each are still to be left out, and what was kept -/
def stepN (st : Nat × Nat × List Bool) : Bool → Nat × Nat × List Bool
  | false => if 0 < st.1 then (st.1 - 1, st.2.1, st.2.2) else (st.1, st.2.1, st.2.2 ++ [false])
  | true => if 0 < st.2.1 then (st.1, st.2.1 - 1, st.2.2) else (st.1, st.2.1, st.2.2 ++ [true])
theorem fold_dropN : ∀ (l : List Bool) (z o : Nat) (acc : List Bool), (l.foldl stepN (z, o, acc)).2.2 = acc ++ dropN z o l
  | [], z, o, acc => (List.append_nil _).symm
  | false :: r, 0, o, acc => by
    rw [List.foldl_cons, show stepN (0, o, acc) false = (0, o, acc ++ [false]) from rfl, fold_dropN r, dropN, List.append_assoc]
    rfl
  | false :: r, z + 1, o, acc => by
    rw [List.foldl_cons, show stepN (z + 1, o, acc) false = (z, o, acc) from rfl, fold_dropN r, dropN]
  | true :: r, z, 0, acc => by
    rw [List.foldl_cons, show stepN (z, 0, acc) true = (z, 0, acc ++ [true]) from rfl, fold_dropN r, dropN, List.append_assoc]
    rfl
  | true :: r, z, o + 1, acc => by
    rw [List.foldl_cons, show stepN (z, o + 1, acc) true = (z, o, acc) from rfl, fold_dropN r, dropN]
theorem fold_len : ∀ (l : List Bool) (st : Nat × Nat × List Bool), (l.foldl stepN st).2.2.length ≤ st.2.2.length + l.length
  | [], _ => Nat.le_refl _
  | b :: r, st => by
    rw [List.foldl_cons]
    have := fold_len r (stepN st b)
    have h1 : (stepN st b).2.2.length ≤ st.2.2.length + 1 := by
      cases b
      · show (if 0 < st.1 then (st.1 - 1, st.2.1, st.2.2) else (st.1, st.2.1, st.2.2 ++ [false])).2.2.length ≤ _
        split <;> simp
      · show (if 0 < st.2.1 then (st.1, st.2.1 - 1, st.2.2) else (st.1, st.2.1, st.2.2 ++ [true])).2.2.length ≤ _
        split <;> simp
    rw [List.length_cons]
    omega
/-- the table of two counts -/
def dk (z o : Int) : List (Key × V) := [(.inr (sl false), .int z), (.inr (sl true), .int o)]
theorem mk2 (z o : Int) : mergeK [] [(.inr (Str.ofString "0"), .int z), (.inr (Str.ofString "1"), .int o)] = dk z o := by
  rw [sl0, sl1]
  rfl
theorem dk_get (z o : Int) (b : Bool) : valV (dk z o) (.inr (sl b)) = some (.int (if b then o else z)) := by
  cases b <;> rfl
theorem dk_put0 (z o v : Int) : putK (dk z o) (.inr (sl false)) (.int v) = dk v o := rfl
theorem dk_put1 (z o v : Int) : putK (dk z o) (.inr (sl true)) (.int v) = dk z v := rfl
theorem one0 : (Str.ofString "0").length = 1 := by decide +kernel
theorem one1 : (Str.ofString "1").length = 1 := by decide +kernel
end Lp
/-! ### the mathematics of words: the row is forgotten, the last letters tell (no program is spoken of) -/
namespace Lp
open PySem PySem.Spec PyProof.Rows L2
theorem dropN_app : ∀ (l m : List Bool) (a b : Nat), dropN a b (l ++ m) = dropN a b l ++ dropN (a - l.count false) (b - l.count true) m
  | [], m, a, b => by simp [dropN]
  | false :: l, m, 0, b => by
    rw [List.cons_append, dropN, dropN, dropN_app l m 0 b]
    simp
  | false :: l, m, a + 1, b => by
    rw [List.cons_append, dropN, dropN, dropN_app l m a b]
    simp
  | true :: l, m, a, 0 => by
    rw [List.cons_append, dropN, dropN, dropN_app l m a 0]
    simp
  | true :: l, m, a, b + 1 => by
    rw [List.cons_append, dropN, dropN, dropN_app l m a b]
    simp
theorem dropN_zeros : ∀ (l : List Bool) (a b : Nat), l.count false ≤ a → dropN a b l = List.replicate (l.count true - b) true
  | [], a, b, _ => by simp [dropN]
  | false :: l, 0, b, h => by simp at h
  | false :: l, a + 1, b, h => by
    rw [dropN, dropN_zeros l a b (by simpa using h)]
    simp
  | true :: l, a, 0, h => by
    rw [dropN, dropN_zeros l a 0 (by simpa using h)]
    simp [List.replicate_succ]
  | true :: l, a, b + 1, h => by
    rw [dropN, dropN_zeros l a b (by simpa using h)]
    simp
theorem dropN_ones : ∀ (l : List Bool) (a b : Nat), l.count true ≤ b → dropN a b l = List.replicate (l.count false - a) false
  | [], a, b, _ => by simp [dropN]
  | true :: l, a, 0, h => by simp at h
  | true :: l, a, b + 1, h => by
    rw [dropN, dropN_ones l a b (by simpa using h)]
    simp
  | false :: l, 0, b, h => by
    rw [dropN, dropN_ones l 0 b (by simpa using h)]
    simp [List.replicate_succ]
  | false :: l, a + 1, b, h => by
    rw [dropN, dropN_ones l a b (by simpa using h)]
    simp
/-- as many letters as people less one: the signs ahead of them are forgotten -/
theorem forget {l m : List Bool} {a b : Nat} (e0 : l.count false = m.count false) (e1 : l.count true = m.count true) (h : l.count false + l.count true ≤ a + b + 1) : dropN a b l = dropN a b m := by
  by_cases h0 : l.count false ≤ a
  · rw [dropN_zeros l a b h0, dropN_zeros m a b (by omega), e1]
  · have h1 : l.count true ≤ b := by omega
    rw [dropN_ones l a b h1, dropN_ones m a b (by omega), e0]
theorem count_two (l : List Bool) : l.count false + l.count true = l.length := by
  induction l with
  | nil => rfl
  | cons b l ih => cases b <;> simp <;> omega
theorem sgn_len (h : Int) (ns : List Int) : (sgn h ns).length = ns.length := List.length_map ..
theorem sgn_perm {h : Int} {ms ns : List Int} (p : ms.Perm ns) : (sgn h ms).Perm (sgn h ns) := p.map _
theorem sgn_inj : ∀ {xs ys : List Int}, xs.length = ys.length → (∀ h, sgn h xs = sgn h ys) → xs = ys
  | [], [], _, _ => rfl
  | x :: xs, y :: ys, hl, hs => by
    have hd : ∀ h, decide (h ≤ x) = decide (h ≤ y) ∧ sgn h xs = sgn h ys := fun h => by
      have := hs h
      simp only [sgn, List.map_cons, List.cons.injEq] at this
      exact this
    have e1 := (hd x).1
    have e2 := (hd y).1
    have hxy : x = y := by
      simp at e1 e2
      omega
    rw [hxy, sgn_inj (Nat.succ.inj hl) fun h => (hd h).2]
theorem afterL_len (bs : List Bool) (ns : List Int) : (afterL bs ns).length = ns.length := (afterL_perm bs ns).length_eq
theorem afterL_nil : ∀ bs : List Bool, afterL bs [] = []
  | [] => rfl
  | b :: bs => afterL_nil bs
/-- behind n - 1 passes the order ahead of them is forgotten -/
theorem after_forget {bs : List Bool} {ms ns : List Int} (p : ms.Perm ns) (h : ns.length ≤ bs.length + 1) : afterL bs ms = afterL bs ns := by
  by_cases hn : ns = []
  · subst hn
    rw [List.perm_nil.mp p]
  have hm : ms ≠ [] := fun z => hn (List.perm_nil.mp (z ▸ p.symm))
  refine sgn_inj (by rw [afterL_len, afterL_len, p.length_eq]) fun t => ?_
  rw [after_sgn t bs ms hm, after_sgn t bs ns hn, dropN_app, dropN_app]
  have c0 : (sgn t ms).count false = (sgn t ns).count false := (sgn_perm p).count_eq false
  have c1 : (sgn t ms).count true = (sgn t ns).count true := (sgn_perm p).count_eq true
  rw [c0, c1]
  congr 1
  refine forget c0 c1 ?_
  have l1 := count_two (sgn t ms)
  rw [sgn_len, p.length_eq] at l1
  have l2 := count_two bs
  omega
/-- the last n - 1 letters tell -/
theorem after_last {a b : List Bool} {ns : List Int} (h : ns.length ≤ b.length + 1) : afterL (a ++ b) ns = afterL b ns := by
  rw [afterL_app]
  exact after_forget (afterL_perm a ns) h
theorem after_drop {bs : List Bool} {ns : List Int} : afterL (bs.drop (bs.length + 1 - ns.length)) ns = afterL bs ns := by
  by_cases h : bs.length + 1 ≤ ns.length
  · rw [show bs.length + 1 - ns.length = 0 by omega, List.drop_zero]
  · by_cases hn : ns = []
    · subst hn
      rw [afterL_nil, afterL_nil]
    · have n1 : 0 < ns.length := List.length_pos_iff.mpr hn
      conv => rhs; rw [← List.take_append_drop (bs.length + 1 - ns.length) bs]
      rw [after_last]
      rw [List.length_drop]
      omega
theorem dropN_0x (o : Nat) : ∀ z c0 c1 : Nat, dropN c0 c1 (List.replicate z false ++ List.replicate o true) = List.replicate (z - c0) false ++ List.replicate (o - c1) true := fun z c0 c1 => by
  rw [dropN_app]
  have k0 : (List.replicate z false).count true = 0 := by simp [List.count_replicate]
  have k1 : (List.replicate o true).count false = 0 := by simp [List.count_replicate]
  rw [dropN_ones _ c0 c1 (by omega), dropN_zeros _ _ _ (by omega)]
  simp [List.count_replicate]
theorem dropN_1x (o : Nat) : ∀ z c0 c1 : Nat, dropN c0 c1 (List.replicate o true ++ List.replicate z false) = List.replicate (o - c1) true ++ List.replicate (z - c0) false := fun z c0 c1 => by
  rw [dropN_app]
  have k0 : (List.replicate o true).count false = 0 := by simp [List.count_replicate]
  have k1 : (List.replicate z false).count true = 0 := by simp [List.count_replicate]
  rw [dropN_zeros _ c0 c1 (by omega), dropN_ones _ _ _ (by omega)]
  simp [List.count_replicate]
theorem sgn_all {t : Int} : ∀ {l : List Int} (b : Bool), (∀ x ∈ l, decide (t ≤ x) = b) → sgn t l = List.replicate l.length b
  | [], b, _ => rfl
  | x :: l, b, h => by
    show decide (t ≤ x) :: sgn t l = _
    rw [h x (List.mem_cons_self ..), sgn_all b fun y hy => h y (List.mem_cons_of_mem _ hy)]
    rfl
/-- fewer letters: the ascending row and the descending one stay apart -/
theorem after_apart {bs : List Bool} {ns : List Int} (hs : ns.Pairwise (· < ·)) (h : bs.length + 2 ≤ ns.length) : afterL bs ns ≠ afterL bs ns.reverse := by
  intro e
  have cb := count_two bs
  have hz : bs.count false + 1 < ns.length := by omega
  generalize hzz : bs.count false + 1 = z at hz
  have hn : ns ≠ [] := fun q => by
    rw [q] at hz
    exact absurd hz (Nat.not_lt_zero _)
  have hr : ns.reverse ≠ [] := fun q => hn (List.reverse_eq_nil_iff.mp q)
  have e2 := congrArg (sgn ns[z]) e
  rw [after_sgn _ bs ns hn, after_sgn _ bs ns.reverse hr] at e2
  have s1 : sgn ns[z] ns = List.replicate z false ++ List.replicate (ns.length - z) true := by
    have hsp : ns = ns.take z ++ ns.drop z := (List.take_append_drop z ns).symm
    have g := List.pairwise_iff_getElem.mp hs
    have f1 : sgn ns[z] (ns.take z) = List.replicate z false := by
      have := sgn_all (t := ns[z]) (l := ns.take z) false fun x hx => by
        obtain ⟨i, hi, ex⟩ := List.mem_iff_getElem.mp hx
        rw [List.length_take] at hi
        rw [← ex, List.getElem_take]
        have := g i z (by omega) hz (by omega)
        exact decide_eq_false (by omega)
      rw [this, List.length_take, Nat.min_eq_left (by omega)]
    have f2 : sgn ns[z] (ns.drop z) = List.replicate (ns.length - z) true := by
      have := sgn_all (t := ns[z]) (l := ns.drop z) true fun x hx => by
        obtain ⟨i, hi, ex⟩ := List.mem_iff_getElem.mp hx
        rw [List.length_drop] at hi
        rw [← ex, List.getElem_drop]
        by_cases h0 : i = 0
        · subst h0
          simp
        · have := g z (z + i) hz (by omega) (by omega)
          exact decide_eq_true (by omega)
      rw [this, List.length_drop]
    have f3 : sgn ns[z] (ns.take z ++ ns.drop z) = sgn ns[z] (ns.take z) ++ sgn ns[z] (ns.drop z) := List.map_append ..
    rw [List.take_append_drop] at f3
    rw [f3, f1, f2]
  have s2 : sgn ns[z] ns.reverse = List.replicate (ns.length - z) true ++ List.replicate z false := by
    have : sgn ns[z] ns.reverse = (sgn ns[z] ns).reverse := List.map_reverse ..
    rw [this, s1, List.reverse_append, List.reverse_replicate, List.reverse_replicate]
  rw [dropN_app, dropN_app, s1, s2, dropN_0x, dropN_1x] at e2
  have z1 : z - bs.count false = 1 := by omega
  obtain ⟨k, hk⟩ : ∃ k, ns.length - z - bs.count true = k + 1 := ⟨ns.length - z - bs.count true - 1, by omega⟩
  rw [z1, hk, List.replicate_succ] at e2
  simp [List.replicate_succ] at e2
/-! ### the last pass, read backwards -/
theorem ends_max {w : List Bool} {ns : List Int} {M : Int} (hM : M ∈ ns) (top : ∀ x ∈ ns, x ≤ M) (h : ns.length ≤ w.length + 2) : afterL (w ++ [true]) ns = afterL w (ns.erase M) ++ [M] := by
  have hn : ns ≠ [] := List.ne_nil_of_mem hM
  have pe : (M :: ns.erase M).Perm ns := (List.perm_cons_erase hM).symm
  have le := pe.length_eq
  rw [List.length_cons] at le
  refine sgn_inj (by rw [afterL_len, List.length_append, afterL_len, ← le]; rfl) fun t => ?_
  rw [after_sgn t _ ns hn]
  have app : sgn t (afterL w (ns.erase M) ++ [M]) = sgn t (afterL w (ns.erase M)) ++ [decide (t ≤ M)] := List.map_append ..
  have rest : sgn t (afterL w (ns.erase M)) = dropN (w.count false) (w.count true) (sgn t (ns.erase M) ++ w) := by
    by_cases hr : ns.erase M = []
    · rw [hr, afterL_nil]
      have : dropN (w.count false) (w.count true) w = [] := by rw [dropN_zeros _ _ _ (Nat.le_refl _), Nat.sub_self]; rfl
      exact this.symm
    · exact after_sgn t w _ hr
  rw [app, rest]
  have k0 : (w ++ [true]).count false = w.count false := by simp
  have k1 : (w ++ [true]).count true = w.count true + 1 := by simp
  rw [k0, k1]
  have c0 : (sgn t ns).count false = ((decide (t ≤ M)) :: sgn t (ns.erase M)).count false := ((sgn_perm pe).count_eq false).symm
  have c1 : (sgn t ns).count true = ((decide (t ≤ M)) :: sgn t (ns.erase M)).count true := ((sgn_perm pe).count_eq true).symm
  have cl := count_two (sgn t (ns.erase M))
  rw [sgn_len] at cl
  have cw := count_two w
  by_cases hd : t ≤ M
  · rw [decide_eq_true hd] at c0 c1 ⊢
    have d0 : (sgn t ns).count false = (sgn t (ns.erase M)).count false := by rw [c0]; simp
    have d1 : (sgn t ns).count true = (sgn t (ns.erase M)).count true + 1 := by rw [c1]; simp
    have mem : true ∈ sgn t ns := List.count_pos_iff.mp (by omega)
    rw [dropN_t, List.erase_append_left _ mem, dropN_app, dropN_app (sgn t (ns.erase M)) w]
    have f0 : ((sgn t ns).erase true).count false = (sgn t (ns.erase M)).count false := by rw [List.count_erase_of_ne (by decide), d0]
    have f1 : ((sgn t ns).erase true).count true = (sgn t (ns.erase M)).count true := by rw [List.count_erase_self, d1]; omega
    rw [f0, f1, forget f0 f1 (by omega), dropN_app w [true]]
    have z0 : w.count false - (sgn t (ns.erase M)).count false - w.count false = 0 := by omega
    have z1 : w.count true - (sgn t (ns.erase M)).count true - w.count true = 0 := by omega
    rw [z0, z1, ← List.append_assoc]
    rfl
  · rw [decide_eq_false hd] at c0 c1 ⊢
    have d0 : (sgn t ns).count false = (sgn t (ns.erase M)).count false + 1 := by rw [c0]; simp
    have d1 : (sgn t ns).count true = 0 := by
      rw [List.count_eq_zero]
      intro z
      obtain ⟨x, hx, ex⟩ := List.mem_map.mp z
      have := top x hx
      have : t ≤ x := of_decide_eq_true ex
      omega
    have d2 : (sgn t (ns.erase M)).count true = 0 := by
      have : (sgn t ns).count true = (sgn t (ns.erase M)).count true := by rw [c1]; simp
      omega
    rw [dropN_ones _ _ _ (by simp [d1]), dropN_ones _ _ _ (by simp [d2])]
    have e1 : (sgn t ns ++ (w ++ [true])).count false - w.count false = (sgn t (ns.erase M)).count false + 1 := by simp [d0]
    have e2 : (sgn t (ns.erase M) ++ w).count false - w.count false = (sgn t (ns.erase M)).count false := by simp
    rw [e1, e2, List.replicate_succ']
theorem ends_min {w : List Bool} {ns : List Int} {m : Int} (hm : m ∈ ns) (low : ∀ x ∈ ns, m ≤ x) (h : ns.length ≤ w.length + 2) : afterL (w ++ [false]) ns = afterL w (ns.erase m) ++ [m] := by
  have hn : ns ≠ [] := List.ne_nil_of_mem hm
  have pe : (m :: ns.erase m).Perm ns := (List.perm_cons_erase hm).symm
  have le := pe.length_eq
  rw [List.length_cons] at le
  refine sgn_inj (by rw [afterL_len, List.length_append, afterL_len, ← le]; rfl) fun t => ?_
  rw [after_sgn t _ ns hn]
  have app : sgn t (afterL w (ns.erase m) ++ [m]) = sgn t (afterL w (ns.erase m)) ++ [decide (t ≤ m)] := List.map_append ..
  have rest : sgn t (afterL w (ns.erase m)) = dropN (w.count false) (w.count true) (sgn t (ns.erase m) ++ w) := by
    by_cases hr : ns.erase m = []
    · rw [hr, afterL_nil]
      have : dropN (w.count false) (w.count true) w = [] := by rw [dropN_zeros _ _ _ (Nat.le_refl _), Nat.sub_self]; rfl
      exact this.symm
    · exact after_sgn t w _ hr
  rw [app, rest]
  have k0 : (w ++ [false]).count false = w.count false + 1 := by simp
  have k1 : (w ++ [false]).count true = w.count true := by simp
  rw [k0, k1]
  have c0 : (sgn t ns).count false = ((decide (t ≤ m)) :: sgn t (ns.erase m)).count false := ((sgn_perm pe).count_eq false).symm
  have c1 : (sgn t ns).count true = ((decide (t ≤ m)) :: sgn t (ns.erase m)).count true := ((sgn_perm pe).count_eq true).symm
  have cl := count_two (sgn t (ns.erase m))
  rw [sgn_len] at cl
  have cw := count_two w
  by_cases hd : t ≤ m
  · rw [decide_eq_true hd] at c0 c1 ⊢
    have d0 : (sgn t ns).count false = 0 := by
      rw [List.count_eq_zero]
      intro z
      obtain ⟨x, hx, ex⟩ := List.mem_map.mp z
      have := low x hx
      have : ¬ t ≤ x := of_decide_eq_false ex
      omega
    have d1 : (sgn t ns).count true = (sgn t (ns.erase m)).count true + 1 := by rw [c1]; simp
    have d2 : (sgn t (ns.erase m)).count false = 0 := by
      have : (sgn t ns).count false = (sgn t (ns.erase m)).count false := by rw [c0]; simp
      omega
    rw [dropN_zeros _ _ _ (by simp [d0]), dropN_zeros _ _ _ (by simp [d2])]
    have e1 : (sgn t ns ++ (w ++ [false])).count true - w.count true = (sgn t (ns.erase m)).count true + 1 := by simp [d1]
    have e2 : (sgn t (ns.erase m) ++ w).count true - w.count true = (sgn t (ns.erase m)).count true := by simp
    rw [e1, e2, List.replicate_succ']
  · rw [decide_eq_false hd] at c0 c1 ⊢
    have d0 : (sgn t ns).count false = (sgn t (ns.erase m)).count false + 1 := by rw [c0]; simp
    have d1 : (sgn t ns).count true = (sgn t (ns.erase m)).count true := by rw [c1]; simp
    have mem : false ∈ sgn t ns := List.count_pos_iff.mp (by omega)
    rw [dropN_f, List.erase_append_left _ mem, dropN_app, dropN_app (sgn t (ns.erase m)) w]
    have f0 : ((sgn t ns).erase false).count false = (sgn t (ns.erase m)).count false := by rw [List.count_erase_self, d0]; omega
    have f1 : ((sgn t ns).erase false).count true = (sgn t (ns.erase m)).count true := by rw [List.count_erase_of_ne (by decide), d1]
    rw [f0, f1, forget f0 f1 (by omega), dropN_app w [false]]
    have z0 : w.count false - (sgn t (ns.erase m)).count false - w.count false = 0 := by omega
    have z1 : w.count true - (sgn t (ns.erase m)).count true - w.count true = 0 := by omega
    rw [z0, z1, ← List.append_assoc]
    rfl
/-! ### how many of each kind, not their order, tells who stays in front -/
theorem dropN_len : ∀ (l : List Bool) (a b : Nat), (dropN a b l).length = (l.count false - a) + (l.count true - b)
  | [], a, b => by simp [dropN]
  | false :: l, 0, b => by rw [dropN, List.length_cons, dropN_len l 0 b]; simp; omega
  | false :: l, a + 1, b => by rw [dropN, dropN_len l a b]; simp
  | true :: l, a, 0 => by rw [dropN, List.length_cons, dropN_len l a 0]; simp; omega
  | true :: l, a, b + 1 => by rw [dropN, dropN_len l a b]; simp
theorem kept_any {v w : List Bool} {ns : List Int} (e0 : v.count false = w.count false) (e1 : v.count true = w.count true) : (afterL v ns).take (ns.length - v.length) = (afterL w ns).take (ns.length - v.length) := by
  by_cases hn : ns = []
  · subst hn
    rw [afterL_nil, afterL_nil]
  refine sgn_inj (by rw [List.length_take, List.length_take, afterL_len, afterL_len]) fun t => ?_
  have tk : ∀ (k : Nat) (l : List Int), sgn t (l.take k) = (sgn t l).take k := fun k l => List.map_take ..
  rw [tk, tk, after_sgn t v ns hn, after_sgn t w ns hn, dropN_app, dropN_app, e0, e1]
  have ln := dropN_len (sgn t ns) (w.count false) (w.count true)
  have c1 := count_two (sgn t ns)
  have c2 := count_two v
  rw [sgn_len] at c1
  have le : ns.length - v.length ≤ (dropN (w.count false) (w.count true) (sgn t ns)).length := by omega
  rw [List.take_append_of_le_length le, List.take_append_of_le_length le]
/-! ### final rows, read from the last letter on -/
/-- the word backwards, the heights ascending -/
def finR : List Bool → List Int → List Int
  | _, [] => []
  | _, [x] => [x]
  | [], hs => hs
  | true :: r, x :: y :: l => finR r ((x :: y :: l).dropLast) ++ [(x :: y :: l).getLast (by simp)]
  | false :: r, x :: y :: l => finR r (y :: l) ++ [x]
theorem after_one (w : List Bool) (x : Int) : afterL w [x] = [x] := List.perm_singleton.mp (afterL_perm w [x])
theorem after_fin : ∀ (r : List Bool) (hs ns : List Int), hs.Pairwise (· < ·) → ns.Perm hs → hs.length ≤ r.length + 1 → afterL r.reverse ns = finR r hs
  | r, [], ns, _, p, _ => by
    rw [List.perm_nil.mp p, afterL_nil]
    cases r with
    | nil => rfl
    | cons b r => cases b <;> rfl
  | r, [x], ns, _, p, _ => by
    rw [List.perm_singleton.mp p, after_one]
    cases r with
    | nil => rfl
    | cons b r => cases b <;> rfl
  | [], x :: y :: l, ns, _, _, h => by simp at h
  | true :: r, x :: y :: l, ns, hs, p, h => by
    rw [List.reverse_cons]
    have ne : x :: y :: l ≠ [] := by simp
    generalize hM : (x :: y :: l).getLast ne = M
    have sp : (x :: y :: l).dropLast ++ [M] = x :: y :: l := by rw [← hM]; exact List.dropLast_concat_getLast ne
    have pw : ((x :: y :: l).dropLast ++ [M]).Pairwise (· < ·) := by rw [sp]; exact hs
    rw [List.pairwise_append] at pw
    have memM : M ∈ ns := p.mem_iff.mpr (by rw [← sp]; simp)
    have top : ∀ z ∈ ns, z ≤ M := fun z hz => by
      have := p.mem_iff.mp hz
      rw [← sp] at this
      rcases List.mem_append.mp this with q | q
      · exact Int.le_of_lt (pw.2.2 z q M (by simp))
      · rw [List.mem_singleton.mp q]
        exact Int.le_refl _
    have hl : ns.length ≤ r.reverse.length + 2 := by rw [p.length_eq, List.length_reverse]; simpa using h
    have pe : (ns.erase M).Perm (x :: y :: l).dropLast := by
      have := p.erase M
      rw [← sp] at this
      refine this.trans ?_
      have nm : M ∉ (x :: y :: l).dropLast := fun z => by
        have := pw.2.2 M z M (by simp)
        omega
      rw [List.erase_append_right _ nm]
      simp
    rw [ends_max memM top hl]
    show _ = finR r ((x :: y :: l).dropLast) ++ [(x :: y :: l).getLast ne]
    rw [hM, after_fin r _ _ pw.1 pe (by simp at h ⊢; omega)]
  | false :: r, x :: y :: l, ns, hs, p, h => by
    rw [List.reverse_cons]
    have pw := hs
    rw [List.pairwise_cons] at pw
    have memx : x ∈ ns := p.mem_iff.mpr (by simp)
    have low : ∀ z ∈ ns, x ≤ z := fun z hz => by
      rcases List.mem_cons.mp (p.mem_iff.mp hz) with q | q
      · omega
      · exact Int.le_of_lt (pw.1 z q)
    have hl : ns.length ≤ r.reverse.length + 2 := by rw [p.length_eq, List.length_reverse]; simpa using h
    have pe : (ns.erase x).Perm (y :: l) := by
      have := p.erase x
      simpa using this
    rw [ends_min memx low hl, after_fin r _ _ pw.2 pe (by simp at h ⊢; omega)]
    rfl
/-! ### desks -/
theorem sgn_sorted {t : Int} : ∀ {l : List Int}, l.Pairwise (· ≤ ·) → sgn t l = List.replicate ((sgn t l).count false) false ++ List.replicate ((sgn t l).count true) true
  | [], _ => rfl
  | x :: l, h => by
    rw [List.pairwise_cons] at h
    have ih := sgn_sorted (t := t) h.2
    by_cases hx : t ≤ x
    · have al : sgn t (x :: l) = List.replicate (x :: l).length true := sgn_all true fun y hy => by
        rcases List.mem_cons.mp hy with q | q
        · rw [q]; exact decide_eq_true hx
        · have := h.1 y q
          exact decide_eq_true (by omega)
      rw [al]
      simp [List.count_replicate]
    · have e : sgn t (x :: l) = false :: sgn t l := by
        show decide (t ≤ x) :: sgn t l = _
        rw [decide_eq_false hx]
      rw [e]
      have c0 : (false :: sgn t l).count false = (sgn t l).count false + 1 := by simp
      have c1 : (false :: sgn t l).count true = (sgn t l).count true := by simp
      rw [c0, c1, List.replicate_succ, List.cons_append, ← ih]
/-- signs of people who come to a desk with s short seats and t tall ones, a zeros and b ones there -/
def deskB (s t : Nat) : Nat → Nat → List Bool → List Bool
  | a, b, [] => List.replicate (min (s - a) b) true ++ List.replicate (min a s) false ++ (List.replicate (a - s) false ++ List.replicate (b - (s - a)) true)
  | a, b, false :: r => if s + t < a + 1 + b then (if s < a + 1 then false :: deskB s t a b r else true :: deskB s t (a + 1) (b - 1) r) else deskB s t (a + 1) b r
  | a, b, true :: r => if s + t < a + (b + 1) then (if s < a then false :: deskB s t (a - 1) (b + 1) r else true :: deskB s t a b r) else deskB s t a (b + 1) r
def deskG (s t a b : Nat) (l : List Bool) : List Bool :=
  List.replicate (a - s) false ++ (List.replicate (b - t) true ++ (dropN (s - a) (t - b) l ++ (List.replicate (min s (a + l.count false)) false ++ List.replicate (min t (b + l.count true)) true)))
theorem rep_glue {α : Type} (x : α) (m n : Nat) (l : List α) : List.replicate m x ++ (List.replicate n x ++ l) = List.replicate (m + n) x ++ l := by
  rw [← List.append_assoc, List.replicate_append_replicate]
theorem deskB_eq (s t : Nat) : ∀ (l : List Bool) (a b : Nat), a + b ≤ s + t → s + t ≤ a + b + l.length → deskB s t a b l = deskG s t a b l
  | [], a, b, h1, h2 => by
    have e : a + b = s + t := by simp at h2; omega
    unfold deskB deskG
    rw [dropN, List.nil_append]
    by_cases ha : a ≤ s
    · rw [show min (s - a) b = s - a by omega, show min a s = a by omega, show a - s = 0 by omega, show b - (s - a) = t by omega, show b - t = s - a by omega]
      simp [List.append_assoc, show min s a = a by omega, show min t b = t by omega]
    · rw [show s - a = 0 by omega, show min a s = s by omega, show b - t = 0 by omega]
      simp only [Nat.zero_min, List.replicate_zero, List.nil_append, Nat.sub_zero, List.count_nil, Nat.add_zero]
      rw [show min s a = s by omega, show min t b = b by omega, rep_glue, rep_glue, Nat.add_comm]
  | false :: r, a, b, h1, h2 => by
    rw [List.length_cons] at h2
    unfold deskB
    by_cases hf : s + t < a + 1 + b
    · rw [if_pos hf]
      by_cases ha : s < a + 1
      · rw [if_pos ha, deskB_eq s t r a b h1 (by omega)]
        unfold deskG
        have m0 : min s (a + (false :: r).count false) = min s (a + r.count false) := by simp; omega
        have m1 : (false :: r).count true = r.count true := by simp
        rw [m0, m1, show s - a = 0 by omega, show b - t = 0 by omega, dropN]
        simp only [List.replicate_zero, List.nil_append, List.cons_append]
        rw [← List.cons_append, ← List.replicate_succ, List.replicate_succ', List.append_assoc]
        rfl
      · rw [if_neg ha, deskB_eq s t r (a + 1) (b - 1) (by omega) (by omega)]
        unfold deskG
        have m0 : a + (false :: r).count false = a + 1 + r.count false := by simp; omega
        have m1 : (false :: r).count true = r.count true := by simp
        obtain ⟨k, hk⟩ : ∃ k, s - a = k + 1 := ⟨s - a - 1, by omega⟩
        rw [m0, m1, hk, dropN, show a + 1 - s = 0 by omega, show a - s = 0 by omega, show t - (b - 1) = 0 by omega, show t - b = 0 by omega, show s - (a + 1) = k by omega, show b - t = (b - 1 - t) + 1 by omega, List.replicate_succ,
          show min t (b - 1 + r.count true) = min t (b + r.count true) by omega]
        rfl
    · rw [if_neg hf, deskB_eq s t r (a + 1) b (by omega) (by omega)]
      unfold deskG
      have m0 : a + (false :: r).count false = a + 1 + r.count false := by simp; omega
      have m1 : (false :: r).count true = r.count true := by simp
      rw [m0, m1]
      by_cases ha : a < s
      · obtain ⟨k, hk⟩ : ∃ k, s - a = k + 1 := ⟨s - a - 1, by omega⟩
        rw [hk, dropN, show a + 1 - s = 0 by omega, show a - s = 0 by omega, show s - (a + 1) = k by omega]
      · rw [show s - a = 0 by omega, show s - (a + 1) = 0 by omega, dropN, show b - t = 0 by omega, show a + 1 - s = (a - s) + 1 by omega, List.replicate_succ', List.append_assoc]
        rfl
  | true :: r, a, b, h1, h2 => by
    rw [List.length_cons] at h2
    unfold deskB
    have m0 : (true :: r).count false = r.count false := by simp
    by_cases hf : s + t < a + (b + 1)
    · rw [if_pos hf]
      by_cases ha : s < a
      · rw [if_pos ha, deskB_eq s t r (a - 1) (b + 1) (by omega) (by omega)]
        unfold deskG
        have m1 : b + (true :: r).count true = b + 1 + r.count true := by simp; omega
        obtain ⟨k, hk⟩ : ∃ k, t - b = k + 1 := ⟨t - b - 1, by omega⟩
        rw [m0, m1, hk, dropN, show s - a = 0 by omega, show s - (a - 1) = 0 by omega, show b + 1 - t = 0 by omega, show b - t = 0 by omega, show t - (b + 1) = k by omega, show a - s = (a - 1 - s) + 1 by omega, List.replicate_succ,
          show min s (a - 1 + r.count false) = min s (a + r.count false) by omega]
        rfl
      · rw [if_neg ha, deskB_eq s t r a b h1 (by omega)]
        unfold deskG
        have m1 : min t (b + (true :: r).count true) = min t (b + r.count true) := by simp; omega
        rw [m0, m1, show a - s = 0 by omega, show t - b = 0 by omega, dropN]
        simp only [List.replicate_zero, List.nil_append, List.cons_append]
        rw [← List.cons_append, ← List.replicate_succ, List.replicate_succ', List.append_assoc]
        rfl
    · rw [if_neg hf, deskB_eq s t r a (b + 1) (by omega) (by omega)]
      unfold deskG
      have m1 : b + (true :: r).count true = b + 1 + r.count true := by simp; omega
      rw [m0, m1]
      by_cases hb : b < t
      · obtain ⟨k, hk⟩ : ∃ k, t - b = k + 1 := ⟨t - b - 1, by omega⟩
        rw [hk, dropN, show b + 1 - t = 0 by omega, show b - t = 0 by omega, show t - (b + 1) = k by omega]
      · rw [show t - b = 0 by omega, show t - (b + 1) = 0 by omega, dropN, show a - s = 0 by omega, show b + 1 - t = (b - t) + 1 by omega, List.replicate_succ', List.append_assoc]
        rfl
/-- who leaves when one too many is there: exactly s are shorter -/
def leaver (s : Nat) (l : List Int) : Int := (l.find? fun x => decide ((l.filter fun y => decide (y < x)).length = s)).getD 0
/-- d are at the desk, the others come -/
def deskGo (s t : Nat) : List Int → List Int → List Int
  | d, [] => ((d.mergeSort fun x y => decide (x ≤ y)).take s).reverse ++ (d.mergeSort fun x y => decide (x ≤ y)).drop s
  | d, p :: r => if s + t < d.length + 1 then leaver s (d ++ [p]) :: deskGo s t ((d ++ [p]).erase (leaver s (d ++ [p]))) r else deskGo s t (d ++ [p]) r
theorem sort_ok (l : List Int) : (l.mergeSort fun x y => decide (x ≤ y)).Perm l ∧ (l.mergeSort fun x y => decide (x ≤ y)).Pairwise (· ≤ ·) := by
  refine ⟨List.mergeSort_perm .., ?_⟩
  have := List.pairwise_mergeSort (le := fun x y : Int => decide (x ≤ y)) (fun a b c h1 h2 => by simp at h1 h2 ⊢; omega) (fun a b => by simp; omega) l
  exact this.imp fun h => by simpa using h
theorem leaver_ok {s : Nat} {l : List Int} (nd : l.Nodup) (h : s < l.length) : leaver s l ∈ l ∧ (l.filter fun y => decide (y < leaver s l)).length = s := by
  obtain ⟨p, so⟩ := sort_ok l
  generalize l.mergeSort (fun x y => decide (x ≤ y)) = m at p so
  have hm : s < m.length := by rw [p.length_eq]; exact h
  have fx := filter_sorted hm so (p.nodup_iff.mpr nd)
  rw [(p.filter _).length_eq] at fx
  unfold leaver
  cases e : l.find? fun x => decide ((l.filter fun y => decide (y < x)).length = s) with
  | none =>
    have := List.find?_eq_none.mp e m[s] (p.mem_iff.mp (List.getElem_mem hm))
    exact absurd (decide_eq_true fx) this
  | some z =>
    have q := List.find?_some (p := fun x => decide ((l.filter fun y => decide (y < x)).length = s)) e
    exact ⟨List.mem_of_find?_eq_some e, of_decide_eq_true q⟩
theorem zeros_count (h : Int) (l : List Int) : (sgn h l).count false = (l.filter fun y => decide (y < h)).length := by
  induction l with
  | nil => rfl
  | cons x l ih =>
    show (decide (h ≤ x) :: sgn h l).count false = _
    by_cases hx : h ≤ x
    · rw [List.filter_cons, decide_eq_true hx, decide_eq_false (by omega : ¬ x < h)]
      simpa using ih
    · rw [List.filter_cons, decide_eq_false hx, decide_eq_true (by omega : x < h)]
      simp [ih]
theorem below_or_at (x : Int) : ∀ l : List Int, (l.filter fun y => decide (y < x + 1)).length = (l.filter fun y => decide (y < x)).length + l.count x
  | [] => rfl
  | y :: l => by
    have ih := below_or_at x l
    rw [List.filter_cons, List.filter_cons, List.count_cons]
    by_cases h1 : y < x
    · rw [decide_eq_true h1, decide_eq_true (by omega : y < x + 1)]
      have : (y == x) = false := beq_eq_false_iff_ne.mpr (by omega)
      simp [this, ih]
      omega
    · by_cases h2 : y = x
      · subst h2
        rw [decide_eq_false h1, decide_eq_true (by omega : y < y + 1)]
        simp [ih]
        omega
      · rw [decide_eq_false h1, decide_eq_false (by omega : ¬ y < x + 1)]
        have : (y == x) = false := beq_eq_false_iff_ne.mpr h2
        simp [this, ih]
theorem below_mono {a b : Int} (h : a ≤ b) (l : List Int) : (l.filter fun y => decide (y < a)).length ≤ (l.filter fun y => decide (y < b)).length := by
  rw [← List.countP_eq_length_filter, ← List.countP_eq_length_filter]
  exact List.countP_mono_left fun x _ hx => by simp at hx ⊢; omega
theorem leaver_sgn {s : Nat} {l : List Int} (nd : l.Nodup) (h : s < l.length) (t : Int) : decide (t ≤ leaver s l) = decide ((sgn t l).count false ≤ s) := by
  obtain ⟨mem, cnt⟩ := leaver_ok nd h
  rw [zeros_count]
  by_cases ht : t ≤ leaver s l
  · rw [decide_eq_true ht]
    have := below_mono ht l
    exact (decide_eq_true (by omega)).symm
  · rw [decide_eq_false ht]
    have h1 := below_or_at (leaver s l) l
    have h2 : 1 ≤ l.count (leaver s l) := List.count_pos_iff.mpr mem
    have h3 := below_mono (by omega : leaver s l + 1 ≤ t) l
    exact (decide_eq_false (by omega)).symm
theorem sgn_erase {l : List Int} {x : Int} (h : x ∈ l) (t : Int) (b : Bool) : (sgn t l).count b = (sgn t (l.erase x)).count b + (if decide (t ≤ x) = b then 1 else 0) := by
  have p := sgn_perm (h := t) (List.perm_cons_erase h)
  rw [p.count_eq b]
  show (decide (t ≤ x) :: sgn t (l.erase x)).count b = _
  rw [List.count_cons]
  congr 1
  cases decide (t ≤ x) <;> cases b <;> rfl
theorem desk_sgn (s t : Nat) (u : Int) : ∀ (r d : List Int), (d ++ r).Nodup → d.length ≤ s + t → s + t ≤ d.length + r.length → sgn u (deskGo s t d r) = deskB s t ((sgn u d).count false) ((sgn u d).count true) (sgn u r)
  | [], d, _, h1, h2 => by
    obtain ⟨p, so⟩ := sort_ok d
    unfold deskGo
    generalize d.mergeSort (fun x y => decide (x ≤ y)) = m at p so
    have pc := sgn_perm (h := u) p
    have ss := sgn_sorted (t := u) so
    rw [pc.count_eq false, pc.count_eq true] at ss
    have e : sgn u ((m.take s).reverse ++ m.drop s) = ((sgn u m).take s).reverse ++ (sgn u m).drop s := by
      unfold sgn
      rw [List.map_append, List.map_reverse, List.map_take, List.map_drop]
    rw [e, ss]
    show _ = deskB s t _ _ []
    unfold deskB
    generalize (sgn u d).count false = a
    generalize (sgn u d).count true = b
    rw [List.take_append, List.drop_append, List.take_replicate, List.take_replicate, List.drop_replicate, List.drop_replicate, List.length_replicate, List.reverse_append, List.reverse_replicate, List.reverse_replicate, Nat.min_comm s a]
  | p :: r, d, nd, h1, h2 => by
    rw [List.length_cons] at h2
    have nd2 : ((d ++ [p]) ++ r).Nodup := by simpa using nd
    have nd3 : (d ++ [p]).Nodup := (List.nodup_append.mp nd2).1
    have cc := count_two (sgn u d)
    rw [sgn_len] at cc
    have sap : sgn u (d ++ [p]) = sgn u d ++ [decide (u ≤ p)] := List.map_append ..
    have a0 : (sgn u (d ++ [p])).count false = (sgn u d).count false + (if decide (u ≤ p) = false then 1 else 0) := by
      rw [sap, List.count_append]
      cases decide (u ≤ p) <;> rfl
    have a1 : (sgn u (d ++ [p])).count true = (sgn u d).count true + (if decide (u ≤ p) = true then 1 else 0) := by
      rw [sap, List.count_append]
      cases decide (u ≤ p) <;> rfl
    have hr : sgn u (p :: r) = decide (u ≤ p) :: sgn u r := rfl
    have len : (d ++ [p]).length = d.length + 1 := by simp
    rw [hr]
    unfold deskGo
    by_cases hf : s + t < d.length + 1
    · rw [if_pos hf]
      have lt : s < (d ++ [p]).length := by omega
      obtain ⟨mem, _⟩ := leaver_ok nd3 lt
      have ls := leaver_sgn nd3 lt u
      have er0 := sgn_erase mem u false
      have er1 := sgn_erase mem u true
      generalize hx : leaver s (d ++ [p]) = x at *
      have sub : ((d ++ [p]).erase x ++ r).Sublist (d ++ [p] ++ r) := List.Sublist.append (List.erase_sublist ..) (List.Sublist.refl _)
      have el : ((d ++ [p]).erase x).length = d.length := by rw [List.length_erase_of_mem mem, len]; rfl
      have ih := desk_sgn s t u r ((d ++ [p]).erase x) (sub.nodup nd2) (by omega) (by omega)
      show decide (u ≤ x) :: sgn u (deskGo s t ((d ++ [p]).erase x) r) = _
      rw [ih]
      generalize sgn u r = R
      generalize (sgn u d).count false = a at *
      generalize (sgn u d).count true = b at *
      cases hp : decide (u ≤ p)
      · rw [hp] at a0 a1
        simp only [if_true, Bool.false_eq_true, if_false, Nat.add_zero] at a0 a1
        rw [a0] at ls er0
        rw [a1] at er1
        show _ = deskB s t a b (false :: R)
        conv => rhs; unfold deskB
        rw [if_pos (by omega)]
        by_cases hs : s < a + 1
        · rw [decide_eq_false (by omega : ¬ a + 1 ≤ s)] at ls
          rw [ls] at er0 er1 ⊢
          simp at er0 er1
          rw [if_pos hs, ← er0, ← er1]
        · rw [decide_eq_true (by omega : a + 1 ≤ s)] at ls
          rw [ls] at er0 er1 ⊢
          simp at er0 er1
          rw [if_neg hs, ← er0, show b - 1 = (sgn u ((d ++ [p]).erase x)).count true by omega]
      · rw [hp] at a0 a1
        simp only [if_true, Bool.true_eq_false, if_false, Nat.add_zero] at a0 a1
        rw [a0] at ls er0
        rw [a1] at er1
        show _ = deskB s t a b (true :: R)
        conv => rhs; unfold deskB
        rw [if_pos (by omega)]
        by_cases hs : s < a
        · rw [decide_eq_false (by omega : ¬ a ≤ s)] at ls
          rw [ls] at er0 er1 ⊢
          simp at er0 er1
          rw [if_pos hs, ← er1, show a - 1 = (sgn u ((d ++ [p]).erase x)).count false by omega]
        · rw [decide_eq_true (by omega : a ≤ s)] at ls
          rw [ls] at er0 er1 ⊢
          simp at er0 er1
          rw [if_neg hs, ← er0, ← er1]
    · rw [if_neg hf, desk_sgn s t u r (d ++ [p]) nd2 (by omega) (by omega), a0, a1]
      cases hp : decide (u ≤ p)
      · show deskB s t ((sgn u d).count false + 1) ((sgn u d).count true) (sgn u r) = deskB s t _ _ (false :: sgn u r)
        conv => rhs; unfold deskB
        rw [if_neg (by omega)]
      · show deskB s t ((sgn u d).count false) ((sgn u d).count true + 1) (sgn u r) = deskB s t _ _ (true :: sgn u r)
        conv => rhs; unfold deskB
        rw [if_neg (by omega)]
/-- a desk is its passes -/
theorem desk_passes {s t : Nat} {ns : List Int} (nd : ns.Nodup) (h : s + t ≤ ns.length) : deskGo s t [] ns = afterL (List.replicate s false ++ List.replicate t true) ns := by
  by_cases hn : ns = []
  · subst hn
    rw [afterL_nil]
    have hs : s = 0 := by simp at h; omega
    subst hs
    unfold deskGo
    simp [List.mergeSort]
  have key : ∀ u, sgn u (deskGo s t [] ns) = sgn u (afterL (List.replicate s false ++ List.replicate t true) ns) := fun u => by
    rw [desk_sgn s t u ns [] (by simpa using nd) (Nat.zero_le _) (by simpa using h), after_sgn u _ ns hn]
    show deskB s t 0 0 (sgn u ns) = _
    rw [deskB_eq s t _ 0 0 (Nat.zero_le _) (by rw [sgn_len]; simpa using h)]
    have c0 : (List.replicate s false ++ List.replicate t true).count false = s := by simp [List.count_replicate]
    have c1 : (List.replicate s false ++ List.replicate t true).count true = t := by simp [List.count_replicate]
    rw [c0, c1, dropN_app, dropN_0x]
    unfold deskG
    simp only [Nat.zero_sub, List.replicate_zero, List.nil_append, Nat.sub_zero, Nat.zero_add]
    rw [show s - (s - (sgn u ns).count false) = min s ((sgn u ns).count false) by omega, show t - (t - (sgn u ns).count true) = min t ((sgn u ns).count true) by omega]
  refine sgn_inj ?_ key
  have := congrArg List.length (key 0)
  rwa [sgn_len, sgn_len] at this
end Lp
namespace Lp
open PySem PySem.Spec PyProof.Rows L2
/-! ### desks with the numbers of arrivals -/
theorem below_inj {l : List Int} {x y : Int} (hx : x ∈ l) (hy : y ∈ l) (h : (l.filter fun z => decide (z < x)).length = (l.filter fun z => decide (z < y)).length) : x = y := by
  have h1 := below_or_at x l
  have h2 := below_or_at y l
  have c1 : 1 ≤ l.count x := List.count_pos_iff.mpr hx
  have c2 : 1 ≤ l.count y := List.count_pos_iff.mpr hy
  rcases Int.lt_trichotomy x y with z | z | z
  · have := below_mono (by omega : x + 1 ≤ y) l
    omega
  · exact z
  · have := below_mono (by omega : y + 1 ≤ x) l
    omega
theorem leaver_at {s : Nat} {d ds : List Int} (p : ds.Perm d) (so : ds.Pairwise (· ≤ ·)) (nd : d.Nodup) (h : s < ds.length) : ds[s] = leaver s d := by
  have hd : s < d.length := by rw [← p.length_eq]; exact h
  obtain ⟨mem, cnt⟩ := leaver_ok nd hd
  refine below_inj (p.mem_iff.mp (List.getElem_mem h)) mem ?_
  rw [cnt, ← (p.filter _).length_eq]
  exact filter_sorted h so (p.nodup_iff.mpr nd)
theorem erase_at : ∀ {l : List Int} {k : Nat} (h : k < l.length), l.Nodup → l.eraseIdx k = l.erase l[k]
  | a :: l, 0, _, _ => by simp
  | a :: l, k + 1, h, nd => by
    rw [List.nodup_cons] at nd
    have hk : k < l.length := Nat.lt_of_succ_lt_succ h
    have ne : (a == (a :: l)[k + 1]) = false := by
      show (a == l[k]) = false
      exact beq_eq_false_iff_ne.mpr fun e => nd.1 (e ▸ List.getElem_mem hk)
    rw [List.erase_cons, ne]
    show a :: l.eraseIdx k = a :: l.erase l[k]
    rw [erase_at hk nd.2]
theorem sorted_uniq {a b : List Int} (p : a.Perm b) (ha : a.Pairwise (· ≤ ·)) (hb : b.Pairwise (· ≤ ·)) : a = b :=
  p.eq_of_pairwise (fun x y _ _ h1 h2 => by omega) ha hb
/-- the people of an ascending list as they leave at last -/
def lastGo (s : Nat) (ds : List Int) : List Int := (ds.take s).reverse ++ ds.drop s
def stepD (s t : Nat) (st : List (Int × Int) × List Int × Nat) (p : Int) : List (Int × Int) × List Int × Nat :=
  if s + t < st.2.1.length + 1 then (st.1 ++ [(((st.2.2 + 1 : Nat) : Int), leaver s (st.2.1 ++ [p]))], (st.2.1 ++ [p]).erase (leaver s (st.2.1 ++ [p])), st.2.2 + 1)
  else (st.1, st.2.1 ++ [p], st.2.2 + 1)
def runD (s t : Nat) (ns : List Int) : List (Int × Int) × List Int × Nat := ns.foldl (stepD s t) ([], [], 0)
def sortL (l : List Int) : List Int := l.mergeSort fun x y => decide (x ≤ y)
def depL (s t : Nat) (ns : List Int) : List (Int × Int) := (runD s t ns).1 ++ (lastGo s (sortL (runD s t ns).2.1)).map fun p => ((ns.length : Int), p)
theorem depGo (s t : Nat) : ∀ (r d : List Int) (l : List (Int × Int)) (k : Nat), ((r.foldl (stepD s t) (l, d, k)).1.map (·.2)) ++ lastGo s (sortL (r.foldl (stepD s t) (l, d, k)).2.1) = l.map (·.2) ++ deskGo s t d r
  | [], d, l, k => rfl
  | p :: r, d, l, k => by
    rw [List.foldl_cons, show stepD s t (l, d, k) p = (if s + t < d.length + 1 then (l ++ [(((k + 1 : Nat) : Int), leaver s (d ++ [p]))], (d ++ [p]).erase (leaver s (d ++ [p])), k + 1) else (l, d ++ [p], k + 1)) from rfl, deskGo]
    split
    · rw [depGo s t r, List.map_append, List.append_assoc]
      rfl
    · rw [depGo s t r]
theorem depL_desk (s t : Nat) (ns : List Int) : (depL s t ns).map (·.2) = deskGo s t [] ns := by
  have := depGo s t ns [] [] 0
  unfold depL runD
  rw [List.map_append, List.map_map, show ((fun x : Int × Int => x.2) ∘ fun p => ((ns.length : Int), p)) = id from rfl, List.map_id]
  exact this
theorem runD_take {s t : Nat} {ns : List Int} {i : Nat} (h : i < ns.length) : runD s t (ns.take (i + 1)) = stepD s t (runD s t (ns.take i)) ns[i] := fold_take (List.getElem?_eq_getElem h)
/-- who is at the desk, of those who came -/
theorem runD_desk (s t : Nat) : ∀ (r d : List Int) (l : List (Int × Int)) (k : Nat), (d ++ r).Nodup → d.length ≤ s + t → (r.foldl (stepD s t) (l, d, k)).2.1.Nodup ∧ (∀ x ∈ (r.foldl (stepD s t) (l, d, k)).2.1, x ∈ d ++ r) ∧ (r.foldl (stepD s t) (l, d, k)).2.1.length ≤ s + t ∧ (r.foldl (stepD s t) (l, d, k)).2.2 = k + r.length
  | [], d, l, k, nd, hd => by
    rw [List.append_nil] at nd ⊢
    exact ⟨nd, fun x hx => hx, hd, rfl⟩
  | p :: r, d, l, k, nd, hd => by
    have nd2 : ((d ++ [p]) ++ r).Nodup := by rw [List.append_assoc]; exact nd
    have ndp : (d ++ [p]).Nodup := (List.nodup_append.mp nd2).1
    rw [List.foldl_cons, show stepD s t (l, d, k) p = (if s + t < d.length + 1 then (l ++ [(((k + 1 : Nat) : Int), leaver s (d ++ [p]))], (d ++ [p]).erase (leaver s (d ++ [p])), k + 1) else (l, d ++ [p], k + 1)) from rfl]
    split
    · rename_i hlt
      have hs : s < (d ++ [p]).length := by
        rw [List.length_append]
        show s < d.length + 1
        omega
      obtain ⟨mem, _⟩ := leaver_ok ndp hs
      have sub : ((d ++ [p]).erase (leaver s (d ++ [p])) ++ r).Sublist ((d ++ [p]) ++ r) := (List.erase_sublist ..).append_right r
      obtain ⟨h1, h2, h3, h4⟩ := runD_desk s t r ((d ++ [p]).erase (leaver s (d ++ [p]))) (l ++ [(((k + 1 : Nat) : Int), leaver s (d ++ [p]))]) (k + 1) (nd2.sublist sub) (by
        rw [List.length_erase_of_mem mem, List.length_append]
        show d.length + 1 - 1 ≤ s + t
        omega)
      refine ⟨h1, fun x hx => ?_, h3, by rw [h4, List.length_cons]; omega⟩
      have := sub.mem (h2 x hx)
      rw [List.append_assoc] at this
      exact this
    · rename_i hlt
      obtain ⟨h1, h2, h3, h4⟩ := runD_desk s t r (d ++ [p]) l (k + 1) nd2 (by
        rw [List.length_append]
        show d.length + 1 ≤ s + t
        omega)
      refine ⟨h1, fun x hx => ?_, h3, by rw [h4, List.length_cons]; omega⟩
      have := h2 x hx
      rw [List.append_assoc] at this
      exact this
theorem runD_ok {s t : Nat} {ns : List Int} (nd : ns.Nodup) (i : Nat) : (runD s t (ns.take i)).2.1.Nodup ∧ (∀ x ∈ (runD s t (ns.take i)).2.1, x ∈ ns.take i) ∧ (runD s t (ns.take i)).2.1.length ≤ s + t ∧ (runD s t (ns.take i)).2.2 = (ns.take i).length := by
  obtain ⟨h1, h2, h3, h4⟩ := runD_desk s t (ns.take i) [] [] 0 (by rw [List.nil_append]; exact nd.sublist (List.take_sublist ..)) (Nat.zero_le _)
  exact ⟨h1, fun x hx => by simpa using h2 x hx, h3, by unfold runD; rw [h4]; omega⟩
/-- pairs of numbers in the heap -/
def PairsAt (H : Hp) : List Addr → List (Int × Int) → Prop
  | [], [] => True
  | r :: rs, p :: ps => H r = some (.tup [.int p.1, .int p.2]) ∧ PairsAt H rs ps
  | [], _ :: _ => False
  | _ :: _, [] => False
theorem PairsAt.keep {H H' : Hp} : ∀ {rs : List Addr} {ps : List (Int × Int)}, PairsAt H rs ps → (∀ r ∈ rs, ∀ o, H r = some o → H' r = some o) → PairsAt H' rs ps
  | [], [], _, _ => trivial
  | r :: rs, p :: ps, h, e => ⟨e r (List.mem_cons_self ..) _ h.1, PairsAt.keep h.2 fun x hx => e x (List.mem_cons_of_mem _ hx)⟩
theorem PairsAt.same {H H' : Hp} {rs : List Addr} {ps : List (Int × Int)} (h : PairsAt H rs ps) (e : Same H H') : PairsAt H' rs ps := h.keep fun _ _ o z => e _ o z
theorem PairsAt.snoc {H : Hp} {r : Addr} {p : Int × Int} : ∀ {rs : List Addr} {ps : List (Int × Int)}, PairsAt H rs ps → H r = some (.tup [.int p.1, .int p.2]) → PairsAt H (rs ++ [r]) (ps ++ [p])
  | [], [], _, e => ⟨e, trivial⟩
  | _ :: _, _ :: _, h, e => ⟨h.1, PairsAt.snoc h.2 e⟩
theorem PairsAt.len {H : Hp} : ∀ {rs : List Addr} {ps : List (Int × Int)}, PairsAt H rs ps → rs.length = ps.length
  | [], [], _ => rfl
  | _ :: _, _ :: _, h => by rw [List.length_cons, List.length_cons, PairsAt.len h.2]
theorem PairsAt.get {H : Hp} : ∀ {rs : List Addr} {ps : List (Int × Int)} {i : Nat} {r : Addr}, PairsAt H rs ps → rs[i]? = some r → ∃ p, ps[i]? = some p ∧ H r = some (.tup [.int p.1, .int p.2])
  | r :: rs, p :: ps, 0, r', h, e => ⟨p, rfl, by rw [← Option.some.inj e]; exact h.1⟩
  | r :: rs, p :: ps, i + 1, r', h, e => PairsAt.get (i := i) h.2 e
theorem PairsAt.app {H : Hp} : ∀ {rs qs : List Addr} {ps os : List (Int × Int)}, PairsAt H rs ps → PairsAt H qs os → PairsAt H (rs ++ qs) (ps ++ os)
  | [], _, [], _, _, h => h
  | _ :: _, _, _ :: _, _, h, g => ⟨h.1, PairsAt.app h.2 g⟩
theorem cutT (ns : List Int) (k : Nat) : cutV (ns.map V.int) none (some (k : Nat)) = (ns.take k).map V.int := by
  unfold cutV
  rw [HT.sIx_none, HT.sIx_nat, List.length_map]
  show ((ns.map V.int).take (min k ns.length - 0)) = _
  rw [Nat.sub_zero, List.map_take]
  by_cases h : k ≤ ns.length
  · rw [Nat.min_eq_left h]
  · rw [Nat.min_eq_right (by omega), List.take_of_length_le (by rw [List.length_map]; omega), List.take_of_length_le (by rw [List.length_map]; omega)]
theorem cutD (ns : List Int) (k : Nat) : cutV (ns.map V.int) (some (k : Nat)) none = (ns.drop k).map V.int := by
  unfold cutV
  rw [HT.sIx_none, HT.sIx_nat, List.length_map]
  show (((ns.map V.int).drop (min k ns.length)).take (ns.length - min k ns.length)) = _
  rw [List.map_drop]
  by_cases h : k ≤ ns.length
  · rw [Nat.min_eq_left h, List.take_of_length_le (by rw [List.length_drop, List.length_map]; omega)]
  · rw [Nat.min_eq_right (by omega), List.drop_of_length_le (by rw [List.length_map]; omega), List.drop_of_length_le (by rw [List.length_map]; omega)]
    exact List.take_nil
end Lp
namespace Lp
open PySem PySem.Spec PyProof.Rows L2
/-! ### the head's facts -/
def mkD (x : Str) (st : Stmt) : He.DefD := ⟨(x, none), x, x, defArgs st, defBody st, defScope st, [], []⟩
def obL (n : Nat) (fa : List He.Fa) (fn : List He.DefD) (ex : PySem.W.Frag → Bool) (g : Addr → Option Obj) : He.AlD × Bool := (He.obsDG n fa fn g, ex (He.frG g (He.asD g n)))
def hookL (n : Nat) (fa : List He.Fa) (fn : List He.DefD) (ex : PySem.W.Frag → Bool) : PySem.W.Hook where
  α := He.AlD × Bool
  obs := fun s => obL n fa fn ex s.heap.get?
  val := fun _ => (He.valD fn, true)
  says := fun _ h => ∃ K : PySem.W.Frag, K.In h ∧ He.SaysD fa fn K ∧ ex K = true
  of := fun _ s e => ⟨He.frG s.heap.get? (He.asD s.heap.get? n), He.frG_in, congrArg (fun z : He.AlD × Bool => z.1) e, congrArg (fun z : He.AlD × Bool => z.2) e⟩
  keeps := fun _ _ _ ⟨K, hK, c, x⟩ k => ⟨K, PySem.W.Frag.In.keeps hK k, c, x⟩
theorem obL_eq {n : Nat} {fa : List He.Fa} {fn : List He.DefD} {ex : PySem.W.Frag → Bool} {g : Addr → Option Obj} {s : Shared} (h : ∀ a, g a = s.heap.get? a) : obL n fa fn ex g = (hookL n fa fn ex).obs s := by
  have e : g = s.heap.get? := funext h
  rw [e]
  rfl
section
variable {P : Program} {w : World} {K : PySem.W.Frag} {mg : Str → Option Value} {h : Heap} {fa : List He.Fa} {fn : List He.DefD} {x : Str} {st : Stmt} {ps : List Str} {sp : Sp} {k : Nat} {f : Addr}
theorem Df.of (X : K.In h) (G : h.Ns mainGlobals mg) (c : He.SaysD fa fn K) (i : Nat) (hi : fn[i]? = some (mkD x st)) (hj : fa[i]? = some (.glo x)) : Df K mg x st := by
  obtain ⟨fd, F⟩ := c.def_ i hi
  exact ⟨_, fd, F, He.glo_ok X G (c.fact i hj)⟩
theorem Cl.last (D : Df K mg x st) (hf : mg x = some (.ref f)) (c : ∀ base, Cl P w K mg base k x st ps sp) : ∃ fd, FnP K x st f fd ∧ ∀ base, FnOk P w K mg base CX0 k f fd ps sp := by
  obtain ⟨f0, fd0, F0, m0⟩ := D.ex
  have e0 : f0 = f := Value.ref.inj (Option.some.inj (m0.symm.trans hf))
  subst e0
  refine ⟨fd0, F0, fun base => ?_⟩
  obtain ⟨f1, fd1, F1, G1, m1, _⟩ := (c base).ex
  have e1 : f1 = f0 := Value.ref.inj (Option.some.inj (m1.symm.trans hf))
  subst e1
  obtain ⟨_, _, _, _, _, _, _, _, _, _, _, l0, _⟩ := F0.ex
  obtain ⟨_, _, _, _, _, _, _, _, _, _, _, l1, _⟩ := F1.ex
  have e2 := l0.symm.trans l1
  simp only [Option.some.injEq, Obj.mk.injEq, Data.func.injEq] at e2
  rw [e2.2.2.1]
  exact G1
end
/-- a written tuple whose object has no dict -/
def tupN (K : PySem.W.Frag) (x : Str) : Bool := match K.lookup (He.ga K x) with
  | some o => decide (o.cls = .type "tuple") && o.dict.isNone
  | none => false
theorem tupN_ok {K : PySem.W.Frag} {x : Str} (h : tupN K x = true) : ∃ o, K.lookup (He.ga K x) = some o ∧ o.cls = .type "tuple" ∧ o.dict = none := by
  unfold tupN at h
  cases e : K.lookup (He.ga K x) with
  | none => rw [e] at h; cases h
  | some o =>
    rw [e] at h
    have h2 : (decide (o.cls = .type "tuple") && o.dict.isNone) = true := h
    rw [Bool.and_eq_true] at h2
    exact ⟨o, rfl, of_decide_eq_true h2.1, Option.isNone_iff_eq_none.mp h2.2⟩
end Lp
namespace Lp
open PySem PySem.Spec PyProof.Rows L2
/-! ### lists of texts as data -/
theorem strOk_wd (bs : List Bool) : PyData.strOk (wd bs) = true := by
  show ((bs.map code).toArray.all (· < 0x110000)) = true
  rw [List.all_toArray, List.all_eq_true]
  intro c hc
  obtain ⟨b, _, rfl⟩ := List.mem_map.mp hc
  cases b <;> decide
abbrev vW (bs : List Bool) : V := .str (wd bs)
abbrev dW (bs : List Bool) : PyData := .str (wd bs)
theorem Dp_wds {K : PySem.W.Frag} {H : Hp} : ∀ zs : List (List Bool), DpAll K H (zs.map vW) (zs.map dW)
  | [] => .nil
  | z :: zs => .cons (.str (wd z)) (Dp_wds zs)
theorem lay_wds : ∀ zs : List (List Bool), PyData.canLayAll0 (zs.map dW) = true
  | [] => by simp only [List.map_nil, PyData.canLayAll0]
  | n :: ns => by simp only [List.map_cons, PyData.canLayAll0, PyData.canLay0, strOk_wd, Bool.true_and, lay_wds ns]
theorem depth_wds : ∀ zs : List (List Bool), PyData.depthAll (zs.map dW) = 0
  | [] => by simp only [List.map_nil, PyData.depthAll]
  | n :: ns => by simp only [List.map_cons, PyData.depthAll, PyData.depth, depth_wds ns, Nat.max_self]
theorem shaped_wds (zs : List (List Bool)) : SeqAt.shaped (.list (zs.map dW)) = true := by
  unfold SeqAt.shaped
  simp only [PyData.canLay0, PyData.depth, lay_wds, depth_wds]
  decide
theorem eqv_wds (zs : List (List Bool)) : PyData.eqv (.list (zs.map dW)) (.list (zs.map dW)) = true := SeqAt.eqv_refl _ (by simp only [PyData.canLay0, lay_wds])
theorem Dp_texts {K : PySem.W.Frag} {H : Hp} {a : Addr} {zs : List (List Bool)} (h : SqL K H a (zs.map vW)) : Dp K H (.ref a) (.list (zs.map dW)) := .lst h (Dp_wds zs)
theorem neV (v : V) : (!decide (v = v)) = false := by rw [decide_eq_true rfl]; rfl
theorem Pool.row {H : Hp} {a p : Addr} {xs : List V} (x : Pool H a) (h : H p = some (.tup xs)) : p ≠ a := fun e => by
  obtain ⟨s, d, n, g, _⟩ := x
  subst e
  rw [h] at g
  cases g
theorem SqL.kp {K : PySem.W.Frag} {a b : Addr} {H H' : Hp} {xs : List V} (e : Kp a H H') (ne : b ≠ a) (h : SqL K H b xs) : SqL K H' b xs := by
  rcases h with (h | ⟨o, h⟩) | h
  · exact .inl (.inl (e _ _ h ne))
  · exact .inl (.inr ⟨o, e _ _ h ne⟩)
  · exact .inr h
theorem SqT.pool {K : PySem.W.Frag} {a b : Addr} {H H' : Hp} {xs : List V} (h : SqT K H b xs) (x : Pool H a) (e : Kp a H H') : SqT K H' b xs := by
  obtain ⟨_, _, _, g, _⟩ := x
  rcases h with (h | ⟨o, h⟩) | h
  · exact .inl (.inl (e _ _ h fun z => by subst z; rw [h] at g; cases g))
  · exact .inl (.inr ⟨o, e _ _ h fun z => by subst z; rw [h] at g; cases g⟩)
  · exact .inr h
theorem SqL.fresh {K : PySem.W.Frag} {a b : Addr} {H H' G : Hp} {xs : List V} (h : SqL K H a xs) (nb : H b = none) (s : Same H H') (k : Kp b H' G) : SqL K G a xs := by
  rcases h with (h | ⟨o, h⟩) | h
  · exact .inl (.inl (k _ _ (s _ _ h) (ne_of_none h nb)))
  · exact .inl (.inr ⟨o, k _ _ (s _ _ h) (ne_of_none h nb)⟩)
  · exact .inr h
theorem getN {M : List Nat} {i : Nat} (h : i < M.length) : (M.map fun m => V.int (m : Nat))[i]? = some (.int (M[i] : Nat)) := by
  rw [List.getElem?_map, List.getElem?_eq_getElem h]
  rfl
theorem atST (d : Int) (h0 : 0 ≤ d) (h1 : d < 2) : atI (Str.ofString "ST").cps.toList d = some (code (decide (d = 1))) := by
  have h : d = 0 ∨ d = 1 := by omega
  rcases h with rfl | rfl <;> decide +kernel
theorem cutS_drop (bs : List Bool) (k : Nat) : cutS (wd bs) (some (k : Nat)) none = wd (bs.drop k) := by
  unfold cutS
  rw [HT.sIx_none, HT.sIx_nat, wd_len]
  show (⟨(((bs.map code).drop (min k bs.length)).take (bs.length - min k bs.length)).toArray⟩ : Str) = ⟨((bs.drop k).map code).toArray⟩
  rw [List.map_drop]
  congr 2
  by_cases h : k ≤ bs.length
  · rw [Nat.min_eq_left h, List.take_of_length_le (by rw [List.length_drop, List.length_map]; omega)]
  · rw [Nat.min_eq_right (by omega), List.drop_of_length_le (by rw [List.length_map]; omega), List.drop_of_length_le (by rw [List.length_map]; omega)]
    exact List.take_nil
theorem cutS_mid (bs : List Bool) (i j : Nat) : cutS (wd bs) (some (i : Nat)) (some (j : Nat)) = wd ((bs.drop (min i bs.length)).take (min j bs.length - min i bs.length)) := by
  unfold cutS
  rw [HT.sIx_nat, HT.sIx_nat, wd_len]
  show (⟨(((bs.map code).drop (min i bs.length)).take (min j bs.length - min i bs.length)).toArray⟩ : Str) = ⟨(((bs.drop (min i bs.length)).take (min j bs.length - min i bs.length)).map code).toArray⟩
  rw [List.map_take, List.map_drop]
/-- the last m - 1 letters -/
def lastN (m : Nat) (bs : List Bool) : List Bool := bs.drop (bs.length + 1 - m)
theorem lastN_len (m : Nat) (bs : List Bool) : (lastN m bs).length = min bs.length (m - 1) := by
  unfold lastN
  rw [List.length_drop]
  omega
theorem lastN_lastN {m : Nat} (hm : 1 ≤ m) (bs : List Bool) : lastN m (lastN m bs) = lastN m bs := by
  have h : (lastN m bs).length + 1 - m = 0 := by
    rw [lastN_len]
    omega
  show (lastN m bs).drop ((lastN m bs).length + 1 - m) = _
  rw [h]
  rfl
theorem after_lastN {ns : List Int} {m : Nat} (h : ns.length = m) (bs : List Bool) : afterL (lastN m bs) ns = afterL bs ns := by
  rw [← h]
  exact after_drop
theorem wd_inj {a b : List Bool} (h : wd a = wd b) : a = b := by
  have h1 : (a.map code).toArray = (b.map code).toArray := congrArg Str.cps h
  have h2 : a.map code = b.map code := by simpa using congrArg Array.toList h1
  refine List.map_inj_right (fun x y e => ?_) |>.mp h2
  cases x <;> cases y <;> first | rfl | exact absurd e (by decide)
/-! ### list of a text -/
theorem letters_rel {bs : List Bool} {acc : Array Value} (items : ItemsOf (SignAt (wd bs)) acc (wd bs).cps.size) : Vals (bs.map fun b => V.str (ltr b)) acc.toList := by
  have sz : acc.toList.length = (bs.map fun b => V.str (ltr b)).length := by
    rw [List.length_map, Array.length_toList, items.1]
    exact wd_len bs
  refine vals_of_at sz.symm fun j x u hx hu => ?_
  obtain ⟨c, tk, hc, rfl⟩ := items.2 j u (by simpa using hu)
  obtain ⟨b, hb, rfl⟩ := wd_get hc
  rw [List.getElem?_map, hb] at hx
  rw [← Option.some.inj hx]
  exact ⟨tk, rfl⟩
def rListW : List V → Hp → VK → Prop := fun xs H Q => ∃ bs : List Bool, xs = [.str (wd bs)] ∧ bs.length ≤ 1000 ∧ ∀ l, H l = none → Q (.ref l) (upd H l (.lst (bs.map fun b => V.str (ltr b))))
theorem cr_listW {X : Cx} (calm : X.calm = true) : CallR X (.type "list") rListW := fun pins s σ H xs us Q I r h => by
  obtain ⟨bs, rfl, hl, q⟩ := h
  obtain ⟨u, rfl, tk0, rfl⟩ := vals1 r
  have fits : (wd bs).cps.size ≤ sizeLine := Nat.le_trans (Nat.le_of_eq (wd_len bs)) (Nat.le_of_lt (len_lt (by omega)))
  refine call_list_str (hn := fits) (I.ok.hd calm) (wd bs) tk0 fun h2 tk acc c keep at_ items => ?_
  have new : ObjOk X.prog X.w (upd H s.heap.objs.size (.lst (bs.map fun b => V.str (ltr b)))) h2 s.heap.objs.size (.lst (bs.map fun b => V.str (ltr b))) :=
    ⟨by rw [List.length_map]; exact Nat.le_of_lt (len_lt (by omega)), acc.toList, c, letters_rel items, by simpa using at_⟩
  exact ⟨.ref s.heap.objs.size, _, I.laid (t' := tk) keep (Nat.le_refl _) new, rfl, q _ (I.hok.fresh (Nat.le_refl _))⟩
/-! ### a letter times a number -/
theorem mul_ltr0 (b : Bool) (n : Nat) : Txt.mul (ltr b) ((n : Nat) : Int) = wd (List.replicate n b) := by
  cases n with
  | zero => rfl
  | succ n => exact mul_ltr b n
theorem op_mulL {X : Cx} : OpR X (binaryOp .Mult) (fun x y H Q => ∃ (b : Bool) (n : Nat), x = .str (ltr b) ∧ y = .int (n : Nat) ∧ n ≤ 1000 ∧ Q (.str (wd (List.replicate n b))) H) := by
  intro pins s σ H x y v u Q I rx ry h
  obtain ⟨b, n, rfl, rfl, h2, q⟩ := h
  obtain ⟨t, rfl⟩ := rx
  obtain ⟨t', rfl⟩ := ry
  rw [← mul_ltr0] at q
  refine SB.mul ⟨?_, fun h1 _ => ?_, fun h1 _ => ?_⟩ fun t2 k2 => ⟨.str _, H, I.tok k2, ⟨t2, rfl⟩, q⟩
  · rw [Bool.or_eq_false_iff]
    exact ⟨decide_eq_false (by omega), decide_eq_false (by omega)⟩
  · have e : (1000 : Int) ≤ (2 ^ 63 - 1) / (n : Nat) := Int.le_ediv_of_mul_le (by omega) (by omega)
    have e1 : (ltr b).length = 1 := rfl
    rw [e1]
    omega
  · have e1 : (ltr b).length = 1 := rfl
    rw [e1]
    unfold PySem.Builtin.Str.tooLong
    exact decide_eq_false (by rw [Nat.not_lt, Nat.one_mul]; exact Nat.le_trans (by omega : _ ≤ 1000) (by decide))
/-! ### three names in another order -/
def rev3 {α : Type} : List α → List α
  | [a, b, c] => [c, b, a]
  | l => l
def rotL3 {α : Type} : List α → List α
  | [a, b, c] => [b, c, a]
  | l => l
def rotR3 {α : Type} : List α → List α
  | [a, b, c] => [c, a, b]
  | l => l
theorem three_of {zs : List V} {ws : List Value} (r : Vals zs ws) : (∃ a b c x y z, zs = [a, b, c] ∧ ws = [x, y, z] ∧ RelV a x ∧ RelV b y ∧ RelV c z) ∨ (zs.length ≠ 3 ∧ ws.length ≠ 3) := by
  have l := r.length
  by_cases h : zs.length = 3
  · match zs, ws, r, h with
    | [a, b, c], [x, y, z], .cons p (.cons q (.cons s .nil)), _ => exact .inl ⟨a, b, c, x, y, z, rfl, rfl, p, q, s⟩
  · exact .inr ⟨h, by omega⟩
theorem rev3_id {α : Type} {l : List α} (h : l.length ≠ 3) : rev3 l = l := by
  match l, h with
  | [], _ | [_], _ | [_, _], _ => rfl
  | [_, _, _], h => exact absurd rfl h
  | _ :: _ :: _ :: _ :: _, _ => rfl
theorem rotL3_id {α : Type} {l : List α} (h : l.length ≠ 3) : rotL3 l = l := by
  match l, h with
  | [], _ | [_], _ | [_, _], _ => rfl
  | [_, _, _], h => exact absurd rfl h
  | _ :: _ :: _ :: _ :: _, _ => rfl
theorem rotR3_id {α : Type} {l : List α} (h : l.length ≠ 3) : rotR3 l = l := by
  match l, h with
  | [], _ | [_], _ | [_, _], _ => rfl
  | [_, _, _], h => exact absurd rfl h
  | _ :: _ :: _ :: _ :: _, _ => rfl
theorem rel_rev3 {zs : List V} {ws : List Value} (r : Vals zs ws) : Vals (rev3 zs) (rev3 ws) := by
  rcases three_of r with ⟨a, b, c, x, y, z, rfl, rfl, p, q, s⟩ | ⟨h1, h2⟩
  · exact .cons s (.cons q (.cons p .nil))
  · rw [rev3_id h1, rev3_id h2]
    exact r
theorem rel_rotL3 {zs : List V} {ws : List Value} (r : Vals zs ws) : Vals (rotL3 zs) (rotL3 ws) := by
  rcases three_of r with ⟨a, b, c, x, y, z, rfl, rfl, p, q, s⟩ | ⟨h1, h2⟩
  · exact .cons q (.cons s (.cons p .nil))
  · rw [rotL3_id h1, rotL3_id h2]
    exact r
theorem rel_rotR3 {zs : List V} {ws : List Value} (r : Vals zs ws) : Vals (rotR3 zs) (rotR3 ws) := by
  rcases three_of r with ⟨a, b, c, x, y, z, rfl, rfl, p, q, s⟩ | ⟨h1, h2⟩
  · exact .cons s (.cons p (.cons q .nil))
  · rw [rotR3_id h1, rotR3_id h2]
    exact r
/-! ### each of a list of places holds its own -/
def Each {β : Type} (R : Addr → β → Prop) : List Addr → List β → Prop
  | [], [] => True
  | r :: rs, p :: ps => R r p ∧ Each R rs ps
  | [], _ :: _ => False
  | _ :: _, [] => False
theorem Each.get {β : Type} {R : Addr → β → Prop} : ∀ {rs : List Addr} {ps : List β} {i : Nat} {r : Addr}, Each R rs ps → rs[i]? = some r → ∃ p, ps[i]? = some p ∧ R r p
  | r :: rs, p :: ps, 0, r', h, e => ⟨p, rfl, by rw [← Option.some.inj e]; exact h.1⟩
  | r :: rs, p :: ps, i + 1, r', h, e => Each.get (i := i) h.2 e
theorem Each.imp {β : Type} {R S : Addr → β → Prop} : ∀ {rs : List Addr} {ps : List β}, Each R rs ps → (∀ r ∈ rs, ∀ p, R r p → S r p) → Each S rs ps
  | [], [], _, _ => trivial
  | r :: rs, p :: ps, h, e => ⟨e r (List.mem_cons_self ..) _ h.1, Each.imp h.2 fun x hx => e x (List.mem_cons_of_mem _ hx)⟩
theorem Each.snoc {β : Type} {R : Addr → β → Prop} {r : Addr} {p : β} : ∀ {rs : List Addr} {ps : List β}, Each R rs ps → R r p → Each R (rs ++ [r]) (ps ++ [p])
  | [], [], _, e => ⟨e, trivial⟩
  | _ :: _, _ :: _, h, e => ⟨h.1, Each.snoc h.2 e⟩
theorem Each.len {β : Type} {R : Addr → β → Prop} : ∀ {rs : List Addr} {ps : List β}, Each R rs ps → rs.length = ps.length
  | [], [], _ => rfl
  | _ :: _, _ :: _, h => by rw [List.length_cons, List.length_cons, Each.len h.2]
theorem Each.app {β : Type} {R : Addr → β → Prop} : ∀ {rs qs : List Addr} {ps os : List β}, Each R rs ps → Each R qs os → Each R (rs ++ qs) (ps ++ os)
  | [], _, [], _, _, h => h
  | _ :: _, _, _ :: _, _, h, g => ⟨h.1, Each.app h.2 g⟩
theorem getR {rs : List Addr} {k : Nat} (h : k < rs.length) : (rs.map V.ref)[k]? = some (.ref rs[k]) := by
  rw [List.getElem?_map, List.getElem?_eq_getElem h]
  rfl
theorem lt_of_get {α β : Type} {f : α → β} {xs : List α} {i : Nat} {x : β} (h : (xs.map f)[i]? = some x) : i < xs.length := by
  have := (List.getElem?_eq_some_iff.mp h).1
  rw [List.length_map] at this
  exact this
theorem getB {l : List Bool} {k : Nat} (h : k < l.length) : (l.map fun b => V.str (ltr b))[k]? = some (.str (ltr l[k])) := by
  rw [List.getElem?_map, List.getElem?_eq_getElem h]
  rfl
end Lp
namespace Lp
open PySem PySem.Spec PyProof.Rows L2
/-! ### tuples of pairs as data -/
abbrev dP (p : Int × Int) : PyData := .tuple [.int p.1, .int p.2]
def Small (p : Int × Int) : Prop := (0 ≤ p.1 ∧ p.1 ≤ 999) ∧ 0 ≤ p.2 ∧ p.2 ≤ 999
theorem small_log0 {x : Int} (h : 0 ≤ x ∧ x ≤ 999) : x.natAbs.log2 < 1920 := by
  by_cases h0 : x = 0
  · subst h0
    decide
  · exact small_log ⟨by omega, h.2⟩
theorem Dp_pairs {K : PySem.W.Frag} {H : Hp} : ∀ {rs : List Addr} {ps : List (Int × Int)}, PairsAt H rs ps → DpAll K H (rs.map V.ref) (ps.map dP)
  | [], [], _ => .nil
  | _ :: _, p :: _, h => .cons (.tup (.inl (.inl h.1)) (Dp_ints [p.1, p.2])) (Dp_pairs h.2)
theorem lay_pairs : ∀ ps : List (Int × Int), PyData.canLayAll0 (ps.map dP) = true
  | [] => by simp only [List.map_nil, PyData.canLayAll0]
  | n :: ns => by simp only [List.map_cons, PyData.canLayAll0, PyData.canLay0, Bool.true_and, lay_pairs ns]
theorem depth_pairs : ∀ ps : List (Int × Int), PyData.depthAll (ps.map dP) ≤ 1
  | [] => by simp only [List.map_nil, PyData.depthAll]; decide
  | n :: ns => by
    have := depth_pairs ns
    simp only [List.map_cons, PyData.depthAll, PyData.depth]
    omega
theorem show_pairs : ∀ {ps : List (Int × Int)}, (∀ p ∈ ps, Small p) → PyData.showableAll (ps.map dP) = true
  | [], _ => by simp only [List.map_nil, PyData.showableAll]
  | n :: ns, h => by
    have hn := h n (List.mem_cons_self ..)
    have e1 := small_log0 hn.1
    have e2 := small_log0 hn.2
    simp only [List.map_cons, PyData.showableAll, PyData.showable, Bool.and_eq_true, Bool.and_true]
    exact ⟨⟨decide_eq_true e1, decide_eq_true e2⟩, show_pairs fun x hx => h x (List.mem_cons_of_mem _ hx)⟩
theorem pair_len {p : Int × Int} (h : Small p) : (dP p).shown.length ≤ 10000 := by
  have h1 := fmt_text (PyData.shownAll ([p.1, p.2].map PyData.int))
  have h2 := piled_ints (ns := [p.1, p.2]) fun x hx => by
    rcases List.mem_cons.mp hx with rfl | hx
    · exact small_log0 h.1
    · rw [List.mem_singleton.mp hx]
      exact small_log0 h.2
  have e : (dP p).shown = (PyData.tuple ([p.1, p.2].map PyData.int)).shown := rfl
  rw [e]
  simp only [PyData.shown]
  have l2 : [p.1, p.2].length = 2 := rfl
  rw [l2] at h2
  omega
theorem piled_pairs : ∀ {ps : List (Int × Int)}, (∀ p ∈ ps, Small p) → piled (PyData.shownAll (ps.map dP)) ≤ 10002 * ps.length
  | [], _ => by simp only [List.map_nil, PyData.shownAll, piled_nil, List.length_nil]; omega
  | n :: ns, h => by
    have h1 := pair_len (h n (List.mem_cons_self ..))
    have h2 := piled_pairs fun x hx => h x (List.mem_cons_of_mem _ hx)
    rw [List.map_cons, PyData.shownAll, piled_cons, List.length_cons]
    omega
abbrev pairS (ps : List (Int × Int)) : Str := (PyData.tuple (ps.map dP)).shown
theorem pairs_dep (ps : List (Int × Int)) : (PyData.tuple (ps.map dP)).depth ≤ 60 := by
  have := depth_pairs ps
  simp only [PyData.depth]
  omega
theorem pairs_lay (ps : List (Int × Int)) : (PyData.tuple (ps.map dP)).canLay0 = true := by simp only [PyData.canLay0, lay_pairs]
theorem pairs_show {ps : List (Int × Int)} (h : ∀ p ∈ ps, Small p) : (PyData.tuple (ps.map dP)).showable = true := by
  simp only [PyData.showable]
  exact show_pairs h
theorem pairs_len {ps : List (Int × Int)} (hl : ps.length ≤ 1000) (h : ∀ p ∈ ps, Small p) : (PyData.tuple (ps.map dP)).shown.length ≤ sizeLine := by
  simp only [PyData.shown]
  have h1 := fmt_text (PyData.shownAll (ps.map dP))
  have h2 := piled_pairs h
  rw [sizeLine_eq]
  omega
theorem pairs_shaped (ps : List (Int × Int)) : SeqAt.shaped (.tuple (ps.map dP)) = true := by
  have := depth_pairs ps
  unfold SeqAt.shaped
  simp only [PyData.canLay0, PyData.depth, lay_pairs]
  simp
  omega
theorem pairs_eqv (ps : List (Int × Int)) : PyData.eqv (.tuple (ps.map dP)) (.tuple (ps.map dP)) = true := SeqAt.eqv_refl _ (pairs_lay ps)
theorem Dp_prs {K : PySem.W.Frag} {H : Hp} {a : Addr} {rs : List Addr} {ps : List (Int × Int)} (h : SqT K H a (rs.map V.ref)) (e : PairsAt H rs ps) : Dp K H (.ref a) (.tuple (ps.map dP)) := .tup h (Dp_pairs e)
/-- what stands in the departures -/
theorem runD_fst (s t : Nat) : ∀ (r d : List Int) (l : List (Int × Int)) (k : Nat), (d ++ r).Nodup → d.length ≤ s + t → (∀ p ∈ l, 0 ≤ p.1 ∧ p.1 ≤ ((k + r.length : Nat) : Int)) → ∀ p ∈ (r.foldl (stepD s t) (l, d, k)).1, 0 ≤ p.1 ∧ p.1 ≤ ((k + r.length : Nat) : Int)
  | [], d, l, k, nd, hd, h => h
  | p :: r, d, l, k, nd, hd, h => by
    rw [List.foldl_cons, show stepD s t (l, d, k) p = (if s + t < d.length + 1 then (l ++ [(((k + 1 : Nat) : Int), leaver s (d ++ [p]))], (d ++ [p]).erase (leaver s (d ++ [p])), k + 1) else (l, d ++ [p], k + 1)) from rfl]
    have nd2 : ((d ++ [p]) ++ r).Nodup := by rw [List.append_assoc]; exact nd
    have ndp : (d ++ [p]).Nodup := (List.nodup_append.mp nd2).1
    have e : k + (p :: r).length = k + 1 + r.length := by rw [List.length_cons]; omega
    rw [e] at h ⊢
    split
    · rename_i hlt
      have hs : s < (d ++ [p]).length := by
        rw [List.length_append]
        show s < d.length + 1
        omega
      obtain ⟨mem, _⟩ := leaver_ok ndp hs
      refine runD_fst s t r _ _ (k + 1) (nd2.sublist ((List.erase_sublist ..).append_right r)) (by
        rw [List.length_erase_of_mem mem, List.length_append]
        show d.length + 1 - 1 ≤ s + t
        omega) fun x hx => ?_
      rcases List.mem_append.mp hx with z | z
      · exact h x z
      · rw [List.mem_singleton.mp z]
        show 0 ≤ ((k + 1 : Nat) : Int) ∧ ((k + 1 : Nat) : Int) ≤ ((k + 1 + r.length : Nat) : Int)
        omega
    · rename_i hlt
      exact runD_fst s t r _ _ (k + 1) nd2 (by
        rw [List.length_append]
        show d.length + 1 ≤ s + t
        omega) h
theorem depL_small {s t : Nat} {ns : List Int} (r : Row ns) (h : s + t ≤ ns.length) : (∀ p ∈ depL s t ns, Small p) ∧ (depL s t ns).length = ns.length := by
  have e := depL_desk s t ns
  rw [desk_passes r.nd h] at e
  have hl : (depL s t ns).length = ns.length := by
    rw [← List.length_map (f := (·.2)), e, afterL_len]
  have most := r.most
  refine ⟨fun p hp => ⟨?_, ?_⟩, hl⟩
  · unfold depL at hp
    rcases List.mem_append.mp hp with z | z
    · have := runD_fst s t ns [] [] 0 (by rw [List.nil_append]; exact r.nd) (Nat.zero_le _) (fun p hp => nomatch hp) p z
      omega
    · obtain ⟨x, _, rfl⟩ := List.mem_map.mp z
      show 0 ≤ ((ns.length : Nat) : Int) ∧ ((ns.length : Nat) : Int) ≤ 999
      omega
  · have m : p.2 ∈ (depL s t ns).map (·.2) := List.mem_map_of_mem hp
    rw [e] at m
    have := r.rng _ ((afterL_perm _ ns).mem_iff.mp m)
    omega
end Lp
namespace Lp
open PySem PySem.Spec PyProof.Rows L2
/-! ### only ranks matter -/
def Mono (f : Int → Int) (l : List Int) : Prop := ∀ u ∈ l, ∀ v ∈ l, (u < v ↔ f u < f v)
theorem takes_map {f : Int → Int} {b : Bool} {p x : Int} (h1 : p < x ↔ f p < f x) (h2 : x < p ↔ f x < f p) : takes b (f p) (f x) = takes b p x := by
  unfold takes
  cases b with
  | true => exact decide_eq_decide.mpr h2.symm
  | false => exact decide_eq_decide.mpr h1.symm
theorem run_map {f : Int → Int} (b : Bool) : ∀ (xs l s : List Int) (x : Int), Mono f (x :: xs) → (xs.map f).foldl (stepW b) (l.map f, s.map f, f x) = ((xs.foldl (stepW b) (l, s, x)).1.map f, (xs.foldl (stepW b) (l, s, x)).2.1.map f, f (xs.foldl (stepW b) (l, s, x)).2.2)
  | [], l, s, x, _ => rfl
  | p :: xs, l, s, x, m => by
    have mp : p ∈ x :: p :: xs := List.mem_cons_of_mem _ (List.mem_cons_self ..)
    have mx : x ∈ x :: p :: xs := List.mem_cons_self ..
    have e := takes_map (b := b) (m p mp x mx) (m x mx p mp)
    rw [List.map_cons, List.foldl_cons, List.foldl_cons]
    have s1 : stepW b (l.map f, s.map f, f x) (f p) = (if takes b (f p) (f x) = true then (l.map f ++ [f x], s.map f ++ [f x], f p) else (l.map f ++ [f p], s.map f, f x)) := rfl
    have s2 : stepW b (l, s, x) p = (if takes b p x = true then (l ++ [x], s ++ [x], p) else (l ++ [p], s, x)) := rfl
    rw [s1, s2, e]
    by_cases ht : takes b p x = true
    · rw [if_pos ht, if_pos ht]
      have ih := run_map b xs (l ++ [x]) (s ++ [x]) p fun u hu v hv => m u (List.mem_cons_of_mem _ hu) v (List.mem_cons_of_mem _ hv)
      rw [List.map_append, List.map_append] at ih
      exact ih
    · rw [if_neg ht, if_neg ht]
      have sub : ∀ u ∈ x :: xs, u ∈ x :: p :: xs := fun u hu => by
        rcases List.mem_cons.mp hu with rfl | hu
        · exact List.mem_cons_self ..
        · exact List.mem_cons_of_mem _ (List.mem_cons_of_mem _ hu)
      have ih := run_map b xs (l ++ [p]) s x fun u hu v hv => m u (sub u hu) v (sub v hv)
      rw [List.map_append] at ih
      exact ih
theorem pass_map {f : Int → Int} (b : Bool) : ∀ {ns : List Int}, Mono f ns → passL b (ns.map f) = (passL b ns).map f
  | [], _ => rfl
  | x :: xs, m => by
    have e := run_map b xs [] [] x m
    show (runW b (f x) (xs.map f)).1 ++ [(runW b (f x) (xs.map f)).2.2] = ((runW b x xs).1 ++ [(runW b x xs).2.2]).map f
    have e2 : runW b (f x) (xs.map f) = ((runW b x xs).1.map f, (runW b x xs).2.1.map f, f (runW b x xs).2.2) := e
    rw [e2, List.map_append]
    rfl
theorem after_map {f : Int → Int} : ∀ (bs : List Bool) {ns : List Int}, Mono f ns → afterL bs (ns.map f) = (afterL bs ns).map f
  | [], ns, _ => rfl
  | b :: bs, ns, m => by
    show afterL bs (passL b (ns.map f)) = (afterL bs (passL b ns)).map f
    rw [pass_map b m]
    exact after_map bs fun u hu v hv => m u ((passL_perm b ns).mem_iff.mp hu) v ((passL_perm b ns).mem_iff.mp hv)
theorem rk_lt {ns : List Int} {u v : Int} (hu : u ∈ ns) (h : u < v) : rk ns u < rk ns v := by
  have h1 := below_or_at u ns
  have h2 : 1 ≤ ns.count u := List.count_pos_iff.mpr hu
  have h3 := below_mono (by omega : u + 1 ≤ v) ns
  unfold rk
  omega
theorem rk_mono (ns : List Int) : Mono (rk ns) ns := fun u hu v hv => by
  refine ⟨rk_lt hu, fun h => ?_⟩
  rcases Int.lt_trichotomy u v with z | z | z
  · exact z
  · rw [z] at h
    omega
  · have := rk_lt (ns := ns) hv z
    omega
theorem rk_perm {ms ns : List Int} (p : ms.Perm ns) (x : Int) : rk ms x = rk ns x := by
  unfold rk
  rw [(p.filter _).length_eq]
theorem ranks_after (bs : List Bool) (ns : List Int) : afterL bs (ranksL ns) = (afterL bs ns).map (rk ns) := after_map bs (rk_mono ns)
theorem ranks_of_after (bs : List Bool) (ns : List Int) : ranksL (afterL bs ns) = (afterL bs ns).map (rk ns) := by
  unfold ranksL
  exact List.map_congr_left fun x _ => rk_perm (afterL_perm bs ns) x
theorem Row.ranks {ns : List Int} (r : Row ns) : Row (ranksL ns) := by
  have ln : (ranksL ns).length = ns.length := List.length_map ..
  refine ⟨by rw [ln]; exact r.pos, by rw [ln]; exact r.most, ?_, fun x hx => ?_⟩
  · unfold ranksL
    refine List.pairwise_map.mpr (List.Pairwise.imp_of_mem (R := (· ≠ ·)) (fun {a b} ha hb hne e => ?_) r.nd)
    rcases Int.lt_trichotomy a b with z | z | z
    · have := rk_lt ha z
      omega
    · exact hne z
    · have := rk_lt hb z
      omega
  · obtain ⟨y, _, rfl⟩ := List.mem_map.mp hx
    have h1 := List.length_filter_le (fun z => decide (z < y)) ns
    have h2 := r.most
    unfold rk
    omega
end Lp
namespace Lp
open PySem PySem.Spec PyProof.Rows L2
/-! ### the place of a number in a tuple -/
def rIndexT (K : PySem.W.Frag) : V → List V → Hp → VK → Prop := fun x xs H Q => ∃ (p : Addr) (ns : List Int) (j : Nat) (h : j < ns.length), x = .ref p ∧ xs = [.int ns[j]] ∧ SqT K H p (ns.map V.int) ∧ ns.Nodup ∧ Q (.int (j : Nat)) H
theorem mt_tupN {X : Cx} : MtR X "tuple.index" (rIndexT X.K) := fun pins s σ H x xs v us Q I rx rs h => by
  obtain ⟨p, ns, j, lt, rfl, rfl, hq, nd, good⟩ := h
  cases rx
  obtain ⟨u, rfl, tk, rfl⟩ := vals1 rs
  obtain ⟨its, r, pl, _⟩ := I.tuple hq
  obtain ⟨⟨cl, dd, dt, sl⟩, at_, c1, n, d1⟩ := pl
  simp only at c1 d1
  subst c1 d1
  have size : its.toArray.size = ns.length := by
    rw [List.size_toArray, ← r.length]
    exact List.length_map ..
  have item : ∀ (m : Nat) (hm : m < its.toArray.size), ∃ t2, its.toArray[m] = Value.int (ns[m]'(by rw [← size]; exact hm)) t2 := fun m hm => by
    have hm2 : m < ns.length := by rw [← size]; exact hm
    obtain ⟨w, hw, t2, e⟩ := r.get (i := m) (x := .int ns[m]) (getI hm2)
    have e2 := (List.getElem?_eq_some_iff.mp hw).2
    exact ⟨t2, by rw [← e, ← e2]; simp⟩
  have flat : (ns.map V.int).all flatV = true := by
    rw [List.all_map, List.all_eq_true]
    exact fun _ _ => rfl
  have lt2 : j < its.toArray.size := by rw [size]; exact lt
  have hit : eqU (.int ns[j]) its.toArray[j] = true := by
    obtain ⟨t2, e⟩ := item j lt2
    rw [e]
    show (ns[j] == ns[j]) = true
    exact beq_self_eq_true _
  have miss : ∀ m (hm : m < its.toArray.size), m < j → eqU (.int ns[j]) its.toArray[m] = false := fun m hm mj => by
    obtain ⟨t2, e⟩ := item m hm
    rw [e]
    show (_ == ns[j]) = false
    exact beq_eq_false_iff_ne.mpr fun z => by
      have := (List.getElem_inj nd).mp z
      omega
  refine call_meets PySem.F.slot_tuple_index ⟨_, at_, rfl⟩ PySem.F.entry_tuple_index (PySem.F.args_tuple_index_2 _ _) (TI.tuple_indexAt p its.toArray n dd sl (.int ns[j] tk) (eqU (.int ns[j])) j lt2 hit miss) ?_
  exact ⟨at_, fun w hw => mem_eqAt (x := .int ns[j]) ⟨tk, rfl⟩ rfl r flat w (by simpa using hw), ⟨.int (j : Nat), H, I.tok _, ⟨_, rfl⟩, good⟩⟩
/-! ### what is kept of what is kept -/
theorem dropN_dropN : ∀ (l : List Bool) (a b c d : Nat), dropN c d (dropN a b l) = dropN (a + c) (b + d) l
  | [], a, b, c, d => by
    have e : ∀ x y, dropN x y [] = [] := fun x y => by cases x <;> cases y <;> rfl
    rw [e, e, e]
  | false :: l, 0, b, 0, d => by
    show false :: dropN 0 d (dropN 0 b l) = false :: dropN 0 (b + d) l
    rw [dropN_dropN l 0 b 0 d]
  | false :: l, 0, b, c + 1, d => by
    rw [show 0 + (c + 1) = (0 + c) + 1 by omega]
    show dropN c d (dropN 0 b l) = dropN (0 + c) (b + d) l
    exact dropN_dropN l 0 b c d
  | false :: l, a + 1, b, c, d => by
    rw [show a + 1 + c = (a + c) + 1 by omega]
    show dropN c d (dropN a b l) = dropN (a + c) (b + d) l
    exact dropN_dropN l a b c d
  | true :: l, a, 0, c, 0 => by
    have e1 : dropN a 0 (true :: l) = true :: dropN a 0 l := by cases a <;> rfl
    have e2 : ∀ m, dropN c 0 (true :: m) = true :: dropN c 0 m := fun m => by cases c <;> rfl
    have e3 : dropN (a + c) (0 + 0) (true :: l) = true :: dropN (a + c) (0 + 0) l := by cases (a + c) <;> rfl
    rw [e1, e2, e3, dropN_dropN l a 0 c 0]
  | true :: l, a, 0, c, d + 1 => by
    have e1 : dropN a 0 (true :: l) = true :: dropN a 0 l := by cases a <;> rfl
    have e2 : ∀ m, dropN c (d + 1) (true :: m) = dropN c d m := fun m => by cases c <;> rfl
    have e3 : dropN (a + c) (0 + (d + 1)) (true :: l) = dropN (a + c) (0 + d) l := by
      rw [show 0 + (d + 1) = (0 + d) + 1 by omega]
      cases (a + c) <;> rfl
    rw [e1, e2, e3, dropN_dropN l a 0 c d]
  | true :: l, a, b + 1, c, d => by
    have e1 : dropN a (b + 1) (true :: l) = dropN a b l := by cases a <;> rfl
    have e3 : dropN (a + c) (b + 1 + d) (true :: l) = dropN (a + c) (b + d) l := by
      rw [show b + 1 + d = (b + d) + 1 by omega]
      cases (a + c) <;> rfl
    rw [e1, e3, dropN_dropN l a b c d]
theorem dropN_take {k m a b : Nat} {l : List Bool} (h : k + a + b ≤ m) (hm : m ≤ l.length) : (dropN a b (l.take m)).take k = (dropN a b l).take k := by
  have e : dropN a b l = dropN a b (l.take m) ++ dropN (a - (l.take m).count false) (b - (l.take m).count true) (l.drop m) := by
    rw [← dropN_app, List.take_append_drop]
  have le := dropN_len (l.take m) a b
  have two := count_two (l.take m)
  rw [List.length_take] at two
  rw [e, List.take_append_of_le_length (by omega)]
def keptL (s t : Nat) (ns : List Int) : List Int := (deskGo s t [] ns).take (ns.length - s - t)
theorem keptL_sgn {s t : Nat} {ns : List Int} (hrow : Row ns) (hst : s + t ≤ ns.length) (h : Int) : sgn h (keptL s t ns) = (dropN s t (sgn h ns)).take (ns.length - s - t) := by
  have ne : ns ≠ [] := fun z => by
    have := hrow.pos
    rw [z] at this
    cases this
  unfold keptL
  rw [desk_passes hrow.nd hst]
  show ((afterL _ ns).take _).map _ = _
  rw [List.map_take]
  show (sgn h (afterL _ ns)).take _ = _
  rw [after_sgn h _ ns ne]
  have c0 : (List.replicate s false ++ List.replicate t true).count false = s := by simp [List.count_append, List.count_replicate]
  have c1 : (List.replicate s false ++ List.replicate t true).count true = t := by simp [List.count_append, List.count_replicate]
  rw [c0, c1, dropN_app]
  have le := dropN_len (sgn h ns) s t
  have two := count_two (sgn h ns)
  rw [sgn_len] at two
  rw [List.take_append_of_le_length (by omega)]
theorem keptL_len {s t : Nat} {ns : List Int} (hrow : Row ns) (hst : s + t ≤ ns.length) : (keptL s t ns).length = ns.length - s - t := by
  unfold keptL
  rw [desk_passes hrow.nd hst, List.length_take, afterL_len]
  omega
theorem keptL_sub {s t : Nat} {ns : List Int} (hrow : Row ns) (hst : s + t ≤ ns.length) : ∃ m : List Int, keptL s t ns = m.take (ns.length - s - t) ∧ m.Perm ns := by
  unfold keptL
  rw [desk_passes hrow.nd hst]
  exact ⟨_, rfl, afterL_perm _ ns⟩
theorem keptL_row {s t : Nat} {ns : List Int} (hrow : Row ns) (hst : s + t < ns.length) : Row (keptL s t ns) := by
  have ln := keptL_len hrow (Nat.le_of_lt hst)
  obtain ⟨m, e, p⟩ := keptL_sub hrow (Nat.le_of_lt hst)
  have most := hrow.most
  refine ⟨by omega, by omega, ?_, fun x hx => ?_⟩
  · rw [e]
    exact (p.nodup_iff.mpr hrow.nd).sublist (List.take_sublist ..)
  · rw [e] at hx
    exact hrow.rng x (p.mem_iff.mp (List.mem_of_mem_take hx))
theorem keptL_keptL {s t a b : Nat} {ns : List Int} (hrow : Row ns) (hst : s + t < ns.length) (hab : a + b ≤ ns.length - s - t) : keptL a b (keptL s t ns) = keptL (s + a) (t + b) ns := by
  have r1 := keptL_row hrow hst
  have l1 := keptL_len hrow (Nat.le_of_lt hst)
  have l2 := keptL_len r1 (s := a) (t := b) (by omega)
  have l3 := keptL_len hrow (s := s + a) (t := t + b) (by omega)
  refine sgn_inj (by omega) fun h => ?_
  have le := dropN_len (sgn h ns) s t
  have two := count_two (sgn h ns)
  rw [sgn_len] at two
  rw [keptL_sgn r1 (by omega), keptL_sgn hrow (Nat.le_of_lt hst), keptL_sgn hrow (by omega), l1, dropN_take (by omega) (by omega), dropN_dropN, show ns.length - s - t - a - b = ns.length - (s + a) - (t + b) by omega]
/-- who is kept, in order -/
theorem below_sgn (h : Int) (l : List Int) : (l.filter fun y => decide (y < h)).length = (sgn h l).count false := (zeros_count h l).symm
theorem kept_below {s t : Nat} {ns : List Int} (hrow : Row ns) (hst : s + t ≤ ns.length) (h : Int) : (sgn h (keptL s t ns)).count false = min ((sgn h ns).count false - s) (ns.length - s - t) := by
  rw [keptL_sgn hrow hst]
  have two := count_two (sgn h ns)
  rw [sgn_len] at two
  by_cases h0 : (sgn h ns).count false ≤ s
  · rw [dropN_zeros _ _ _ h0, List.take_replicate, List.count_replicate]
    simp
    omega
  · by_cases h1 : (sgn h ns).count true ≤ t
    · rw [dropN_ones _ _ _ h1, List.take_replicate, List.count_replicate]
      simp
      omega
    · have le := dropN_len (sgn h ns) s t
      rw [List.take_of_length_le (by omega)]
      have c : ∀ (l : List Bool) (a b : Nat), (dropN a b l).count false = l.count false - a := fun l => by
        induction l with
        | nil =>
          intro a b
          have e : dropN a b [] = [] := by cases a <;> cases b <;> rfl
          rw [e]
          simp
        | cons x l ih =>
          intro a b
          cases x with
          | false =>
            cases a with
            | zero =>
              show (false :: dropN 0 b l).count false = _
              rw [List.count_cons_self, List.count_cons_self, ih]
              omega
            | succ a =>
              show (dropN a b l).count false = _
              rw [List.count_cons_self, ih]
              omega
          | true =>
            cases b with
            | zero =>
              have e : dropN a 0 (true :: l) = true :: dropN a 0 l := by cases a <;> rfl
              rw [e, List.count_cons_of_ne (by decide), List.count_cons_of_ne (by decide), ih]
            | succ b =>
              have e : dropN a (b + 1) (true :: l) = dropN a b l := by cases a <;> rfl
              rw [e, List.count_cons_of_ne (by decide), ih]
      rw [c]
      omega
theorem slice_below {es : List Int} (so : es.Pairwise (· ≤ ·)) (s k : Nat) (hk : s + k ≤ es.length) (h : Int) : (sgn h ((es.drop s).take k)).count false = min ((sgn h es).count false - s) k := by
  have two := count_two (sgn h es)
  rw [sgn_len] at two
  have e : sgn h ((es.drop s).take k) = ((sgn h es).drop s).take k := by
    show ((es.drop s).take k).map _ = ((es.map _).drop s).take k
    rw [List.map_take, List.map_drop]
  have ss := sgn_sorted (t := h) so
  generalize (sgn h es).count false = cf at ss two ⊢
  generalize (sgn h es).count true = ct at ss two
  rw [e, ss, List.drop_append, List.length_replicate, List.drop_replicate, List.drop_replicate, List.take_append, List.length_replicate, List.take_replicate, List.take_replicate, List.count_append, List.count_replicate, List.count_replicate]
  simp
  omega
theorem kept_slice {s t : Nat} {ns es : List Int} (hrow : Row ns) (hst : s + t ≤ ns.length) (p : es.Perm ns) (so : es.Pairwise (· ≤ ·)) : (keptL s t ns).Perm ((es.drop s).take (ns.length - s - t)) := by
  have el := p.length_eq
  have same : ∀ h, (sgn h (keptL s t ns)).count false = (sgn h ((es.drop s).take (ns.length - s - t))).count false := fun h => by
    rw [kept_below hrow hst, slice_below so s _ (by omega), (sgn_perm p).count_eq]
  refine List.perm_iff_count.mpr fun x => ?_
  have a1 := below_or_at x (keptL s t ns)
  have a2 := below_or_at x ((es.drop s).take (ns.length - s - t))
  have b1 := same x
  have b2 := same (x + 1)
  rw [zeros_count, zeros_count] at b1 b2
  omega
theorem kept_rank {s t : Nat} {ns : List Int} (hrow : Row ns) (hst : s + t ≤ ns.length) {x : Int} (hx : x ∈ keptL s t ns) : rk (keptL s t ns) x = rk ns x - s := by
  obtain ⟨p, so⟩ := sort_ok ns
  generalize ns.mergeSort (fun x y => decide (x ≤ y)) = es at p so
  have pk := kept_slice hrow hst p so
  obtain ⟨j, hj, ej⟩ := List.mem_iff_getElem.mp (pk.mem_iff.mp hx)
  have el := p.length_eq
  have hj2 : j < ns.length - s - t := by
    rw [List.length_take] at hj
    omega
  have hsj : s + j < es.length := by omega
  have ex : es[s + j] = x := by
    rw [← ej, List.getElem_take, List.getElem_drop]
  have nd : es.Nodup := p.nodup_iff.mpr hrow.nd
  have bx : (es.filter fun y => decide (y < x)).length = s + j := by
    rw [← ex]
    exact filter_sorted hsj so nd
  rw [(p.filter _).length_eq] at bx
  have kb := kept_below hrow hst x
  rw [zeros_count, zeros_count, bx] at kb
  unfold rk
  rw [kb, bx]
  omega
end Lp
namespace Lp
open PySem PySem.Spec PyProof.Rows L2
/-! ### a text backwards: z[::-1] -/
theorem back_places (n : Nat) : Builtin.Str.strSliceIndices none none (-1) n = (List.range n).reverse := by
  show sliceRange ((n : Int) - 1) (-1) (-1) = _
  rw [PySem.W.krv_sliceRange]
  exact PySem.W.krv_range n
theorem back_text (bs : List Bool) : (⟨((Builtin.Str.strSliceIndices none none (-1) (wd bs).length).filterMap ((wd bs).cps[·]?)).toArray⟩ : Str) = wd bs.reverse := by
  rw [back_places, List.filterMap_reverse]
  have all : (List.range (wd bs).length).filterMap ((wd bs).cps[·]?) = bs.map code := (PySem.W.krv_all (wd bs).cps).trans rfl
  rw [all, ← List.map_reverse]
  rfl
/-- e[::-1] of a word -/
def tBack (te : TE) : TE := fun σ H Q => te σ H fun x G => ∃ bs : List Bool, x = .str (wd bs) ∧ bs.length ≤ 1000 ∧ Q (.str (wd bs.reverse)) G
theorem minus_one {X : Cx} {j : Nat} {q1 q2 : Pos} : PO X (some (.UnaryOp .USub (.Constant (.int 1) j q1) q2)) (tPart (tUn (rU fun i => .int (-i)) (tC (.int 1)))) := po_some (pe_un un_neg pe_int)
theorem pe_back {X : Cx} {e : Expr} {te : TE} {j : Nat} {q1 q2 q3 q : Pos} (a : PE X e te) : PE X (.Subscript e (.Slice none none (some (.UnaryOp .USub (.Constant (.int 1) j q1) q2)) q3) q) (tBack te) := by
  constructor
  intro pins s σ H Q I h
  refine Subscript_ (thn (a.run pins s σ H _ I h) fun v s1 z => ?_)
  obtain ⟨x, H1, I1, r1, bs, rfl, hb, good⟩ := z
  obtain ⟨tk, rfl⟩ := r1
  refine wpAny_Slice (thn (po_none.run pins s1 σ H1 (fun o G => o = none ∧ G = H1) I1 ⟨rfl, rfl⟩) fun vl s2 z => ?_)
  obtain ⟨_, G2, I2, pl, rfl, rfl⟩ := z
  refine thn (po_none.run pins s2 σ _ (fun o G => o = none ∧ G = G2) I2 ⟨rfl, rfl⟩) fun vu s3 z => ?_
  obtain ⟨_, G3, I3, pu, rfl, rfl⟩ := z
  refine thn (minus_one.run pins s3 σ _ (fun o G => o = some (-1) ∧ G = G3) I3 ⟨1, rfl, -1, rfl, rfl, rfl⟩) fun vs s4 z => ?_
  obtain ⟨_, _, I4, ps, rfl, rfl⟩ := z
  have J := I4.kept (t' := s4.toks) (h' := s4.heap.push { cls := .type "slice", data := .fields #[vl, vu, vs] }) fun b ob w => Heap.get?_push_of_some _ w
  refine tail_any (ops := [.ref s4.heap.objs.size]) (typeIs_str _ _ _) F.slot_str_getitem.lookup ?_ (by with_unfolding_all rfl)
  obtain ⟨l, rfl, hl⟩ := IsPart.raw pl
  obtain ⟨u, rfl, hu⟩ := IsPart.raw pu
  obtain ⟨st, rfl, hst⟩ := IsPart.raw ps
  have l0 : l = none := by cases l <;> first | rfl | cases hl
  have u0 : u = none := by cases u <;> first | rfl | cases hu
  subst l0
  subst u0
  refine wpAny_getItem_str_slice (l := none) (u := none) (st := st) ⟨_, Heap.get?_push_size _ rfl, rfl, rfl⟩ (by rw [hst]; rfl) ?_
  have made : sliceMade (wd bs) tk none none st = .str (wd bs.reverse) := by
    unfold sliceMade slicePicked
    rw [hst]
    have := back_text bs
    have f : ((some (-1 : Int)).getD 1 == 1) = false := by decide
    rw [f, Bool.false_and, if_neg Bool.false_ne_true]
    exact congrArg Made.str this
  rw [made]
  exact ⟨by rw [wd_len, List.length_reverse]; exact Nat.le_of_lt (len_lt (by omega)), .str _, _, J.tok _, ⟨_, rfl⟩, good⟩
/-! ### reversed(z) of a word -/
theorem str_norev : typeLookup (.type "str") "__reversed__" = pure none := by
  rw [typeLookup_type]
  rw [builtinLookup_eq_fast]
  kernel_rfl
theorem str_get : typeLookup (.type "str") "__getitem__" = pure (some (.builtin "str.__getitem__")) := F.slot_str_getitem.lookup
/-- reversed(z) stands at a, the place j comes next -/
def Bw (h : Heap) (a : Addr) (z : Str) (tk : Tok) (j : Int) : Prop := ∃ ob, h.get? a = some ob ∧ ob.cls = .type "reversed" ∧ ob.data = .fields #[.str z tk, rawInt j]
theorem Bw.keep {h g : Heap} {a : Addr} {z : Str} {tk : Tok} {j : Int} (b : Bw h a z tk j) (e : ∀ ob, h.get? a = some ob → g.get? a = some ob) : Bw g a z tk j := by
  obtain ⟨ob, at_, r⟩ := b
  exact ⟨ob, e ob at_, r⟩
section
variable {prog : Program} {w : World} {A : Around} {E : Value → Shared → Prop} {s : Shared} {z : Str} {tk : Tok}
theorem Bw.ty {a : Addr} {j : Int} (b : Bw s.heap a z tk j) : s.TypeIs (.ref a) "reversed" := by
  obtain ⟨ob, at_, c, _⟩ := b
  exact ⟨ob, at_, c⟩
def bwObj (z : Str) (tk : Tok) (j : Int) : Obj := { cls := .type "reversed", data := .fields #[.str z tk, rawInt j] }
theorem bw_code {R : Value → Shared → Prop} (fit : ¬ (z.length : Int) ≥ 2 ^ 63) (good : R (.ref s.heap.objs.size) { s with heap := s.heap.push (bwObj z tk ((z.length : Int) - 1)), toks := s.toks + 1 + 1 }) :
    codeAny (model prog w) A (.call (.builtin "reversed.__new__") ⟨[.type "reversed", .str z tk], []⟩) (wants R E) s := by
  have ty := typeIs_str s z tk
  apply codeAny_of_tree
  show wpAny _ A.in1 (checkBuiltinCall "reversed.__new__" ⟨[.type "reversed", .str z tk], []⟩ >>= fun _ => again (.builtin "reversed.__new__" ⟨[.type "reversed", .str z tk], []⟩)) _ _ s
  apply wpAny_bind
  apply wpAny_of_eq (F.newCall_reversed_1 _)
  refine wpAny_pure ⟨plainId_quiet F.plain_reversed_new _, codeAny_builtin F.entry_reversed_new (?body)⟩
  case body =>
  rw [Around.under_plainId F.plain_reversed_new]
  unfold Builtin.«reversed.__new__»; apply wpAny_bind
  refine wpAny_of_eq (newClass_reversed (.str z tk)) (?_ : wpAny _ _ _ _ _ s)
  apply wpAny_bind
  apply wpAny_of_eq (a := ()) (by kernel_rfl)
  apply wpAny_bind
  apply wpAny_of_eq (a := ()) (by kernel_rfl)
  apply wpAny_bind
  apply wpAny_specialOf ty str_norev
  apply wpAny_bind
  wp_delta
  apply wpAny_bind
  refine wpAny_isInstance (T := "str") (U := "dict") (b := false) ty F.sub_str_dict (?_ : wpAny _ _ _ _ _ s)
  rw [if_neg Bool.false_ne_true]; apply wpAny_bind
  refine wpAny_specialOf ty str_get (?_ : wpAny _ _ _ _ _ s)
  dsimp only
  rw [if_pos (show (["tuple.__getitem__", "str.__getitem__", "bytes.__getitem__", "bytearray.__getitem__", "memoryview.__getitem__", "numpy.ndarray.__getitem__", "sqlite3.Row.__getitem__"].contains "str.__getitem__") = true by decide +kernel)]
  apply wpAny_pure
  rw [if_neg (show ¬ (!true) = true by decide)]
  apply wpAny_bind
  refine PySem.P.len_str fit (?_ : wpAny _ _ _ _ _ _)
  apply wpAny_bind
  refine wpAny_of_eq (a := some (z.length : Int)) rfl (?_ : wpAny _ _ _ _ _ _)
  apply wpAny_bind
  show wpAny _ _ (newObj (.type "reversed") (.fields #[.str z tk, rawInt ((z.length : Int) - 1)])) _ _ _
  exact wpAny_newObj_type (wpAny_pure good)
theorem bw_call {R : Value → Shared → Prop} (fit : ¬ (z.length : Int) ≥ 2 ^ 63) (good : R (.ref s.heap.objs.size) { s with heap := s.heap.push (bwObj z tk ((z.length : Int) - 1)), toks := s.toks + 1 + 1 }) :
    wpAny (model prog w) A (call (.type "reversed") [.str z tk]) R E s := by
  have made := bw_code (prog := prog) (w := w) (A := A.in1) (E := E) (s := s) (tk := tk) (R := fun v g => g.TypeIs v "reversed" ∧ R v g) fit ⟨⟨_, Heap.get?_push_size _ rfl, rfl⟩, good⟩
  refine callType_codes RT.called_rt (F.typeCall_reversed_1 _) F.entry_object_init made fun v g h => ?_
  exact ⟨h.1, F.args_object_init_2 v _, object_init_meets RT.called_rt.init.lookup RT.called_rt.made (by decide) prog w A.in1 _ g ⟨h.1, rfl, h.2⟩⟩
theorem bw_iter {a : Addr} {j : Int} {R : Value → Shared → Prop} (b : Bw s.heap a z tk j) (good : R (.ref a) s) : wpAny (model prog w) A (pyIter (.ref a)) R E s := by
  refine wpAny_pyIter_slot b.ty RT.slot_rt_iter (wpAny_call_entry RT.slot_rt_iter b.ty RT.entry_rt_iter (?_ : wpAny _ _ (ret (.ref a)) _ _ s) (RT.args_rt_iter _))
  exact wpAny_pure ⟨_, rfl, "reversed", _, b.ty, RT.slot_rt_next.lookup, good⟩
theorem bw_more {a : Addr} {j c : Nat} {R : Option Value → Shared → Prop} (b : Bw s.heap a z tk (j : Nat)) (hc : z.cps[j]? = some c) (few : z.length ≤ sizeLine)
    (good : ∀ h u, Bw h a z tk ((j : Int) - 1) → Heap.SameBut a s.heap h → R (some (.str ⟨#[c]⟩ u)) { s with heap := h, toks := u + 1 }) : wpAny (model prog w) A (pyNext (.ref a)) R E s := by
  obtain ⟨ob, at_, cl, dt⟩ := id b
  have lt : j < z.length := (Array.getElem?_eq_some_iff.mp hc).1
  have big := sizeLine_eq
  unfold pyNext
  apply wpAny_bind
  apply wpAny_attempt
  refine wpAny_callSpecial?_slot (name := Str.ofString "__next__") b.ty RT.slot_rt_next (wpAny_call_entry RT.slot_rt_next b.ty RT.entry_rt_next (?_ : wpAny _ _ _ _ _ s) (RT.args_rt_next _))
  unfold Builtin.«reversed.__next__»; apply wpAny_bind
  apply wpAny_of_eq (a := (Value.ref a, [])) rfl
  apply wpAny_bind
  refine wpAny_field at_ dt (x := .str z tk) rfl (?_ : wpAny _ _ _ _ _ s)
  apply wpAny_bind
  refine wpAny_field at_ dt (x := rawInt (j : Int)) rfl (?_ : wpAny _ _ (if (j : Int) < 0 then _ else _) _ _ s)
  rw [if_neg (show ¬ (j : Int) < 0 by omega)]
  apply wpAny_bind
  refine wpAny_specialOf (typeIs_str s z tk) str_get (?_ : wpAny _ _ _ _ _ s)
  rw [if_neg (show ¬ ((some (Value.builtin "str.__getitem__")).isNone = true) by decide)]
  apply wpAny_bind
  refine wpAny_mkInt (?_ : wpAny _ _ _ _ _ { s with toks := s.toks + 1 })
  apply wpAny_bind
  apply wpAny_attempt
  have ix : (seqIndex? (j : Int) z.length).bind (z.cps[·]?) = some c := by
    rw [seqIx (by omega) (by omega), Int.toNat_natCast]
    exact hc
  refine PySem.P.getItem_str (s := { s with toks := s.toks + 1 }) ?_ ix (?_ : wpAny _ _ _ _ _ { s with toks := s.toks + 1 + 1 })
  · rw [Bool.or_eq_false_iff]
    exact ⟨decide_eq_false (by omega), decide_eq_false (by omega)⟩
  apply wpAny_bind
  refine wpAny_field (s := { s with toks := s.toks + 1 + 1 }) at_ dt (x := rawInt (j : Int)) rfl (?_ : wpAny _ _ _ _ _ _)
  apply wpAny_bind
  refine wpAny_setField (s := { s with toks := s.toks + 1 + 1 }) at_ dt (by simp) (?_ : wpAny _ _ _ _ _ _)
  have bw2 : Bw (s.heap.update a (Obj.mapFields (·.setIfInBounds 1 (rawInt ((j : Int) - 1))))) a z tk ((j : Int) - 1) :=
    ⟨_, Heap.get?_update_self _ at_ (Obj.isFreed_of_fields (Obj.data_mapFields dt _)), (Obj.cls_mapFields ..).trans cl, by rw [Obj.data_mapFields dt]; simp⟩
  exact wpAny_pure ⟨_, rfl, wpAny_pure (good _ (s.toks + 1) bw2 (Heap.SameBut.update ..))⟩
theorem bw_end {a : Addr} {R : Option Value → Shared → Prop} (calm : A.handled = none) (b : Bw s.heap a z tk (-1)) (good : ∀ h, Heap.ExtBut a s.heap h → R none { s with heap := h }) : wpAny (model prog w) A (pyNext (.ref a)) R E s := by
  obtain ⟨ob, at_, cl, dt⟩ := id b
  unfold pyNext
  apply wpAny_bind
  apply wpAny_attempt
  refine wpAny_callSpecial?_slot (name := Str.ofString "__next__") b.ty RT.slot_rt_next (wpAny_call_entry RT.slot_rt_next b.ty RT.entry_rt_next (?_ : wpAny _ _ _ _ _ s) (RT.args_rt_next _))
  unfold Builtin.«reversed.__next__»; apply wpAny_bind
  apply wpAny_of_eq (a := (Value.ref a, [])) rfl
  apply wpAny_bind
  refine wpAny_field at_ dt (x := .str z tk) rfl (?_ : wpAny _ _ _ _ _ s)
  apply wpAny_bind
  refine wpAny_field at_ dt (x := rawInt (-1)) rfl (?_ : wpAny _ _ (if (-1 : Int) < 0 then _ else _) _ _ s)
  rw [if_pos (show (-1 : Int) < 0 by decide)]
  apply wpAny_bind
  apply wpAny_rule
  apply wpAny_bind
  wp_delta
  apply wpAny_bind
  refine wpAny_setField at_ dt (by simp) (?_ : wpAny _ _ _ _ _ _)
  have at2 := Heap.get?_update_self (Obj.mapFields (·.setIfInBounds 1 (rawInt (-1)))) at_ (Obj.isFreed_of_fields (Obj.data_mapFields dt _))
  refine wpAny_setField (s := { s with heap := s.heap.update a (Obj.mapFields (·.setIfInBounds 1 (rawInt (-1)))) }) at2 (Obj.data_mapFields dt _) (by simp) (?_ : wpAny _ _ _ _ _ _)
  apply wpAny_bind
  show wpAny _ _ (newExc (.type "StopIteration") [] >>= raiseNew) _ _ _
  apply wpAny_bind
  simp only [newExc, newTuple, raiseNew]
  apply wpAny_bind
  apply wpAny_newObj_type (h := ?_) (by size_fits)
  apply wpAny_bind (m := firstArgMember _ _)
  apply wpAny_of_eq (a := Value.none) (by simp only [firstArgMember]; rfl)
  apply wpAny_newObj_type (h := ?_) (by size_fits)
  apply wpAny_bind
  apply wpAny_handled
  rw [show A.in1.handled = none from calm]
  refine wpAny_bind (wpAny_pure (wpAny_throw (?_ : wpAny _ _ _ _ _ _)))
  apply wpAny_bind
  refine wpAny_isInstance (T := "StopIteration") (b := true) ⟨_, Heap.get?_push_size _ rfl, rfl⟩ isSubtype_stop (?_ : wpAny _ _ _ _ _ _)
  have ext : Heap.ExtBut a s.heap ((s.heap.update a (Obj.mapFields fun x => x.setIfInBounds 1 (rawInt (-1)))).update a (Obj.mapFields fun x => x.setIfInBounds 0 Value.none)) :=
    fun b ob hb e => (Heap.get?_update_other _ _ (Ne.symm hb)).trans ((Heap.get?_update_other _ _ (Ne.symm hb)).trans e)
  exact wpAny_pure (good _ ((ext.push _).push _))
end
/-- the letters of a word, the last one first -/
def ItB (bs : List Bool) : It where
  go := fun i _ => i < bs.length
  stop := fun i _ => bs.length ≤ i
  yld := fun i H v H' => H' = H ∧ ∃ b, bs.reverse[i]? = some b ∧ v = .str (ltr b)
theorem turnB {P : Program} {w : World} {K : PySem.W.Frag} {tg : Expr} {bs : List Bool} {tk : Tok} (few : bs.length ≤ 1000) (it : Addr) : Turn P w K tg (ItB bs) [it] it (fun i h => i ≤ bs.length ∧ Bw h it (wd bs) tk ((bs.length : Int) - 1 - (i : Nat))) where
  mem := by simp
  obj := by
    rintro i h ⟨_, ob, at_, c, d⟩ b hb
    rw [List.mem_singleton] at hb
    subst hb
    exact ⟨ob, at_, fun v e => by rw [d] at e; cases e⟩
  keep := fun i h g st k => ⟨st.1, st.2.keep fun ob e => k it (by simp) ob e⟩
  item := by
    rintro X rfl rfl rfl calm i pins s σ H E I fr ⟨le, b⟩ lt
    have lt2 : i < bs.length := lt
    obtain ⟨u0, u1, _, u3, u4, u5⟩ := fr it (by simp)
    have ej : (bs.length : Int) - 1 - ((i : Nat) : Int) = ((bs.length - 1 - i : Nat) : Int) := by omega
    rw [ej] at b
    have at_ : bs.length - 1 - i < bs.length := by omega
    have hc : (wd bs).cps[bs.length - 1 - i]? = some (code bs[bs.length - 1 - i]) := by
      show (bs.map code).toArray[bs.length - 1 - i]? = _
      rw [List.getElem?_toArray, List.getElem?_map, List.getElem?_eq_getElem at_]
      rfl
    refine bw_more b hc (by rw [wd_len]; exact Nat.le_of_lt (len_lt (by omega))) fun h u b2 same => ?_
    have eb : bs.reverse[i]? = some bs[bs.length - 1 - i] := by
      rw [List.getElem?_reverse lt2, List.getElem?_eq_getElem at_]
    have e2 : ((bs.length - 1 - i : Nat) : Int) - 1 = (bs.length : Int) - 1 - ((i + 1 : Nat) : Int) := by omega
    rw [e2] at b2
    have J : Inv X pins σ H { s with heap := h, toks := u + 1 } := I.turned (t' := u + 1) (fun c o nc q => (same.2 c nc).trans q) u0 u1 u3 u4 u5
    obtain ⟨o2, a2, c2, d2⟩ := id b2
    exact ⟨_, rfl, go_of (s := { s with heap := h, toks := u + 1 }) a2 c2 d2 (by decide) ⟨.str (ltr bs[bs.length - 1 - i]), H, J, ⟨u, rfl⟩, ⟨rfl, _, eb, rfl⟩, ⟨lt2, b2⟩, fun c hc => (fr c hc).1⟩⟩
  done := by
    rintro X rfl rfl rfl calm i pins s σ H E I fr ⟨le, b⟩ ge
    have ge2 : bs.length ≤ i := ge
    obtain ⟨u0, u1, _, u3, u4, u5⟩ := fr it (by simp)
    have ej : (bs.length : Int) - 1 - ((i : Nat) : Int) = -1 := by omega
    rw [ej] at b
    exact bw_end (I.ok.hd calm) b fun h ext => ⟨rfl, I.turned (t' := s.toks) (fun c o nc q => ext c o nc q) u0 u1 u3 u4 u5⟩
  self := fun _ _ _ _ _ st q => bw_iter st.2 q
def iBack (te : TE) : TI := fun σ H R => te σ H fun x G => ∃ bs : List Bool, x = .str (wd bs) ∧ bs.length ≤ 1000 ∧ R (ItB bs) G
theorem pi_back {X : Cx} {tg e : Expr} {te : TE} {p q : Pos} (hg : Gl X "reversed") (hm : X.mg "reversed" = none) (a : PE X e te) (one : starEach [e] X.env = (false, eval e X.env) :: starEach [] X.env := by rfl) :
    PI X tg (.Call (.Name "reversed" p) [e] [] q) (iBack te) := by
  constructor
  intro pins s σ H R I h
  refine Call_ (ld_blt I hg hm PyProof.Rows.boot_reversed (PyProof.Rows.callWith_type1 (args_cons (thn (a.run pins s σ H _ I h) fun u s1 z => args_nil ?_) one) one rfl))
  obtain ⟨x, G, J, r, bs, rfl, few, good⟩ := z
  obtain ⟨tk, rfl⟩ := r
  have fit : ¬ (((wd bs).length : Nat) : Int) ≥ 2 ^ 63 := by
    rw [wd_len]
    omega
  have e0 : (((wd bs).length : Nat) : Int) - 1 = (bs.length : Int) - 1 - ((0 : Nat) : Int) := by
    rw [wd_len]
    omega
  have here : Bw (s1.heap.push (bwObj (wd bs) tk (((wd bs).length : Int) - 1))) s1.heap.objs.size (wd bs) tk (((wd bs).length : Int) - 1) := ⟨_, Heap.get?_push_size _ rfl, rfl, rfl⟩
  refine bw_call fit (bw_iter (s := { s1 with heap := s1.heap.push (bwObj (wd bs) tk (((wd bs).length : Int) - 1)), toks := s1.toks + 1 + 1 }) here ?_)
  refine pi_one (tk := s1.toks + 1 + 1) J _ (turnB (tk := tk) few s1.heap.objs.size) ⟨Nat.zero_le _, ?_⟩ good
  rw [← e0]
  exact here
/-- for .. in reversed(word) -/
theorem walk_back {bs : List Bool} : Walk (ItB bs) bs.length (fun _ => True) (fun i H x H' => H' = H ∧ ∃ b, bs.reverse[i]? = some b ∧ x = .str (ltr b)) := ⟨fun _ _ lt _ => lt, fun _ _ => Nat.le_refl _, fun _ _ _ _ _ _ y => y⟩
end Lp
namespace Lp
open PySem PySem.Spec PyProof.Rows L2
/-! ### the greatest and the least of a tuple of numbers -/
theorem ints_read {h : Heap} : ∀ {us : List Value} {ns : List Int}, Vals (ns.map V.int) us → ReadsAll h us (ns.map PyData.int) []
  | [], [], _ => .nil
  | _ :: _, n :: ns, .cons ⟨t, e⟩ r => by
    subst e
    exact .cons (as := []) (.int n t) (ints_read r)
theorem ints_alike (ns : List Int) : PySem.W.AlikeAll (ns.map PyData.int) := by
  refine ⟨fun x hx y hy => ?_, fun x hx => ?_⟩
  · obtain ⟨a, _, rfl⟩ := List.mem_map.mp hx
    obtain ⟨b, _, rfl⟩ := List.mem_map.mp hy
    rfl
  · obtain ⟨a, _, rfl⟩ := List.mem_map.mp hx
    exact fun z => nomatch z
theorem fold_max : ∀ (ns : List Int) (n : Int), ns.foldl max n ∈ n :: ns ∧ ∀ y ∈ n :: ns, y ≤ ns.foldl max n
  | [], n => ⟨List.mem_cons_self .., fun y hy => by rw [List.mem_singleton.mp hy]; exact Int.le_refl _⟩
  | k :: ns, n => by
    obtain ⟨m, b⟩ := fold_max ns (max n k)
    rw [List.foldl_cons]
    refine ⟨?_, fun y hy => ?_⟩
    · rcases List.mem_cons.mp m with z | z
      · rw [z]
        rcases Int.le_total n k with w | w
        · rw [Int.max_eq_right w]
          exact List.mem_cons_of_mem _ (List.mem_cons_self ..)
        · rw [Int.max_eq_left w]
          exact List.mem_cons_self ..
      · exact List.mem_cons_of_mem _ (List.mem_cons_of_mem _ z)
    · have top := b (max n k) (List.mem_cons_self ..)
      rcases List.mem_cons.mp hy with rfl | hy
      · omega
      · rcases List.mem_cons.mp hy with rfl | hy
        · omega
        · exact b y (List.mem_cons_of_mem _ hy)
theorem fold_min : ∀ (ns : List Int) (n : Int), ns.foldl min n ∈ n :: ns ∧ ∀ y ∈ n :: ns, ns.foldl min n ≤ y
  | [], n => ⟨List.mem_cons_self .., fun y hy => by rw [List.mem_singleton.mp hy]; exact Int.le_refl _⟩
  | k :: ns, n => by
    obtain ⟨m, b⟩ := fold_min ns (min n k)
    rw [List.foldl_cons]
    refine ⟨?_, fun y hy => ?_⟩
    · rcases List.mem_cons.mp m with z | z
      · rw [z]
        rcases Int.le_total n k with w | w
        · rw [Int.min_eq_left w]
          exact List.mem_cons_self ..
        · rw [Int.min_eq_right w]
          exact List.mem_cons_of_mem _ (List.mem_cons_self ..)
      · exact List.mem_cons_of_mem _ (List.mem_cons_of_mem _ z)
    · have top := b (min n k) (List.mem_cons_self ..)
      rcases List.mem_cons.mp hy with rfl | hy
      · omega
      · rcases List.mem_cons.mp hy with rfl | hy
        · omega
        · exact b y (List.mem_cons_of_mem _ hy)
def rMaxT (K : PySem.W.Frag) : List V → Hp → VK → Prop := fun vs H Q => ∃ (a : Addr) (ns : List Int), vs = [V.ref a] ∧ SqT K H a (ns.map V.int) ∧ ns ≠ [] ∧ ∀ m, m ∈ ns → (∀ y ∈ ns, y ≤ m) → Q (.int m) H
def rMinT (K : PySem.W.Frag) : List V → Hp → VK → Prop := fun vs H Q => ∃ (a : Addr) (ns : List Int), vs = [V.ref a] ∧ SqT K H a (ns.map V.int) ∧ ns ≠ [] ∧ ∀ m, m ∈ ns → (∀ y ∈ ns, m ≤ y) → Q (.int m) H
theorem cr_maxT {X : Cx} (calm : X.calm = true) (room : X.A.units + 1 < cLine) : CallR X (.builtin "max") (rMaxT X.K) := fun pins s σ H vs us Q I r h => by
  obtain ⟨a, ns, rfl, hq, ne, good⟩ := h
  obtain ⟨its, rel, tup, _⟩ := I.tuple hq
  rw [Vals.ref1 r]
  cases ns with
  | nil => exact absurd rfl ne
  | cons n ns =>
    have reads : ReadsAll s.heap its.toArray.toList (.int n :: ns.map PyData.int) [] := ints_read (ns := n :: ns) (by simpa using rel)
    have dep : X.A.units + 1 + PyData.depthAll (.int n :: ns.map PyData.int) < cLine := by
      have := depth_ints (n :: ns)
      rw [List.map_cons] at this
      rw [this]
      exact room
    refine PySem.W.max_tuple_data (I.ok.hd calm) tup reads (ints_alike (n :: ns)) dep fun i v h2 tk bs _ rd keep => ?_
    rw [PySem.W.maxD_ints] at rd
    cases rd with
    | int _ t => exact ⟨.int _, H, I.kept keep, ⟨t, rfl⟩, good _ (fold_max ns n).1 (fold_max ns n).2⟩
theorem cr_minT {X : Cx} (calm : X.calm = true) (room : X.A.units + 1 < cLine) : CallR X (.builtin "min") (rMinT X.K) := fun pins s σ H vs us Q I r h => by
  obtain ⟨a, ns, rfl, hq, ne, good⟩ := h
  obtain ⟨its, rel, tup, _⟩ := I.tuple hq
  rw [Vals.ref1 r]
  cases ns with
  | nil => exact absurd rfl ne
  | cons n ns =>
    have reads : ReadsAll s.heap its.toArray.toList (.int n :: ns.map PyData.int) [] := ints_read (ns := n :: ns) (by simpa using rel)
    have dep : X.A.units + 1 + PyData.depthAll (.int n :: ns.map PyData.int) < cLine := by
      have := depth_ints (n :: ns)
      rw [List.map_cons] at this
      rw [this]
      exact room
    refine PySem.W.min_tuple_data (I.ok.hd calm) tup reads (ints_alike (n :: ns)) dep fun i v h2 tk bs _ rd keep => ?_
    rw [PySem.W.minD_ints] at rd
    cases rd with
    | int _ t => exact ⟨.int _, H, I.kept keep, ⟨t, rfl⟩, good _ (fold_min ns n).1 (fold_min ns n).2⟩
end Lp
namespace Lp
open PySem PySem.Spec PyProof.Rows L2
/-! ### the kinds of the people behind the front -/
def lk (l : List Int) (z : Int) : Option Bool := if (l.all fun y => decide (y ≤ z)) = true then some true else if (l.all fun y => decide (z ≤ y)) = true then some false else none
def kinds (ns : List Int) : List (Option Bool) := (List.range (ns.length - 1)).map fun i => lk (ns.take (i + 1)) (ns.getD (i + 1) 0)
def kV : Option Bool → V
  | some b => .str (ltr b)
  | none => .non
theorem kinds_len (ns : List Int) : (kinds ns).length = ns.length - 1 := by
  unfold kinds
  rw [List.length_map, List.length_range]
theorem kinds_get {ns : List Int} {i : Nat} (h : i + 1 < ns.length) : (kinds ns)[i]? = some (lk (ns.take (i + 1)) ns[i + 1]) := by
  unfold kinds
  rw [List.getElem?_map, List.getElem?_range (by omega)]
  show some (lk (ns.take (i + 1)) (ns.getD (i + 1) 0)) = _
  rw [List.getD_eq_getElem?_getD, List.getElem?_eq_getElem h]
  rfl
theorem kinds_snoc {l : List Int} (z : Int) (h : 1 ≤ l.length) : kinds (l ++ [z]) = kinds l ++ [lk l z] := by
  have e : (l ++ [z]).length - 1 = (l.length - 1) + 1 := by
    rw [List.length_append]
    show l.length + 1 - 1 = _
    omega
  unfold kinds
  rw [e, List.range_succ, List.map_append]
  congr 1
  · refine List.map_congr_left fun i hi => ?_
    have hi2 := List.mem_range.mp hi
    rw [List.take_append_of_le_length (by omega), List.getD_eq_getElem?_getD, List.getD_eq_getElem?_getD, List.getElem?_append_left (by omega)]
  · show [lk ((l ++ [z]).take (l.length - 1 + 1)) ((l ++ [z]).getD (l.length - 1 + 1) 0)] = _
    rw [show l.length - 1 + 1 = l.length by omega, List.take_append_of_le_length (Nat.le_refl _), List.take_length, List.getD_eq_getElem?_getD, List.getElem?_append_right (Nat.le_refl _), Nat.sub_self]
    rfl
theorem lk_max {l : List Int} {z : Int} (h : ∀ y ∈ l, y ≤ z) : lk l z = some true := by
  unfold lk
  rw [if_pos (List.all_eq_true.mpr fun y hy => decide_eq_true (h y hy))]
theorem lk_min {l : List Int} {z : Int} (h1 : l ≠ []) (h : ∀ y ∈ l, z < y) : lk l z = some false := by
  unfold lk
  rw [if_neg, if_pos (List.all_eq_true.mpr fun y hy => decide_eq_true (Int.le_of_lt (h y hy)))]
  intro w
  obtain ⟨y, hy⟩ := List.exists_mem_of_ne_nil l h1
  have a := of_decide_eq_true (List.all_eq_true.mp w y hy)
  have b := h y hy
  omega
theorem lk_inv {l : List Int} {z : Int} {b : Bool} (h : lk l z = some b) : if b then ∀ y ∈ l, y ≤ z else ∀ y ∈ l, z ≤ y := by
  unfold lk at h
  split at h
  · rename_i w
    have e := Option.some.inj h
    subst e
    exact fun y hy => of_decide_eq_true (List.all_eq_true.mp w y hy)
  · split at h
    · rename_i w
      have e := Option.some.inj h
      subst e
      exact fun y hy => of_decide_eq_true (List.all_eq_true.mp w y hy)
    · cases h
/-- a row of kinds is what its word leaves -/
theorem kinds_back : ∀ (n : Nat) (ns ms : List Int) (bs : List Bool), ns.length = n + 1 → ns.Nodup → ms.Perm ns → kinds ns = bs.map some → afterL bs ms = ns
  | 0, ns, ms, bs, hn, nd, pm, hk => by
    obtain ⟨x, rfl⟩ : ∃ x, ns = [x] := List.length_eq_one_iff.mp hn
    have e := List.perm_singleton.mp pm
    subst e
    exact after_one bs x
  | n + 1, ns, ms, bs, hn, nd, pm, hk => by
    have ne : ns ≠ [] := by
      intro z
      rw [z] at hn
      cases hn
    obtain ⟨l, z, rfl⟩ : ∃ l z, ns = l ++ [z] := ⟨ns.dropLast, ns.getLast ne, (List.dropLast_concat_getLast ne).symm⟩
    have ll : l.length = n + 1 := by
      rw [List.length_append] at hn
      have : l.length + 1 = n + 1 + 1 := hn
      omega
    rw [kinds_snoc z (by omega)] at hk
    have bl : bs.length = n + 1 := by
      have := congrArg List.length hk
      rw [List.length_append, kinds_len, List.length_map] at this
      have : l.length - 1 + 1 = bs.length := this
      omega
    have bne : bs ≠ [] := by
      intro w
      rw [w] at bl
      cases bl
    obtain ⟨w, b, rfl⟩ : ∃ w b, bs = w ++ [b] := ⟨bs.dropLast, bs.getLast bne, (List.dropLast_concat_getLast bne).symm⟩
    rw [List.map_append] at hk
    obtain ⟨h1, h2⟩ := List.append_inj' hk rfl
    have h2' : lk l z = some b := by
      have := List.cons.inj h2
      exact this.1
    have wl : w.length = n := by
      rw [List.length_append] at bl
      have : w.length + 1 = n + 1 := bl
      omega
    have mz : z ∈ ms := pm.mem_iff.mpr (List.mem_append_right _ (List.mem_singleton_self z))
    have nz : z ∉ l := fun hz => (List.nodup_append.mp nd).2.2 z hz z (List.mem_singleton_self z) rfl
    have pe : (ms.erase z).Perm l := by
      have := pm.erase z
      rw [List.erase_append_right _ nz] at this
      simpa using this
    have ih := kinds_back n l (ms.erase z) w ll (List.nodup_append.mp nd).1 pe h1
    have ml : ms.length ≤ w.length + 2 := by
      rw [pm.length_eq, hn, wl]
      exact Nat.le_refl _
    have inv := lk_inv h2'
    have mem : ∀ x ∈ ms, x ∈ l ∨ x = z := fun x hx => by
      rcases List.mem_append.mp (pm.mem_iff.mp hx) with q | q
      · exact .inl q
      · exact .inr (List.mem_singleton.mp q)
    cases b with
    | true =>
      rw [ends_max mz (fun x hx => by rcases mem x hx with q | q; exact inv x q; omega) ml, ih]
    | false =>
      rw [ends_min mz (fun x hx => by rcases mem x hx with q | q; exact inv x q; omega) ml, ih]
/-- the word of a final row -/
theorem kinds_fin : ∀ (r : List Bool) (hs : List Int), hs.Pairwise (· < ·) → 1 ≤ hs.length → hs.length ≤ r.length + 1 → kinds (finR r hs) = (r.take (hs.length - 1)).reverse.map some ∧ (finR r hs).Perm hs
  | r, [], _, h, _ => absurd h (by decide)
  | r, [x], _, _, _ => by
    have e : finR r [x] = [x] := by cases r <;> rfl
    rw [e]
    exact ⟨by rfl, .refl _⟩
  | [], x :: y :: l, _, _, h => absurd h (by simp)
  | true :: r, x :: y :: l, up, _, h => by
    have len : (x :: y :: l).dropLast.length = l.length + 1 := by rw [List.length_dropLast]; rfl
    have h' : (x :: y :: l).length ≤ (true :: r).length + 1 := h
    rw [List.length_cons, List.length_cons, List.length_cons] at h'
    have sub := List.dropLast_sublist (x :: y :: l)
    obtain ⟨i1, i2⟩ := kinds_fin r ((x :: y :: l).dropLast) (up.sublist sub) (by omega) (by omega)
    have dl := List.dropLast_concat_getLast (l := x :: y :: l) (by simp)
    have top : ∀ z ∈ finR r ((x :: y :: l).dropLast), z ≤ (x :: y :: l).getLast (by simp) := fun z hz => by
      have hz2 := i2.mem_iff.mp hz
      rw [← dl] at up
      exact Int.le_of_lt ((List.pairwise_append.mp up).2.2 z hz2 _ (List.mem_singleton_self _))
    have fl : 1 ≤ (finR r ((x :: y :: l).dropLast)).length := by rw [i2.length_eq, len]; omega
    refine ⟨?_, ?_⟩
    · rw [finR, kinds_snoc _ fl, i1, lk_max top, len]
      show _ = ((true :: r).take (l.length + 1 + 1 - 1)).reverse.map some
      rw [show l.length + 1 + 1 - 1 = (l.length + 1 - 1) + 1 by omega, List.take_succ_cons, List.reverse_cons, List.map_append]
      rfl
    · rw [finR]
      refine (i2.append_right _).trans ?_
      rw [dl]
  | false :: r, x :: y :: l, up, _, h => by
    have h' : (x :: y :: l).length ≤ (false :: r).length + 1 := h
    rw [List.length_cons, List.length_cons, List.length_cons] at h'
    rw [List.pairwise_cons] at up
    obtain ⟨i1, i2⟩ := kinds_fin r (y :: l) up.2 (by simp) (by rw [List.length_cons]; omega)
    have low : ∀ z ∈ finR r (y :: l), x < z := fun z hz => up.1 z (i2.mem_iff.mp hz)
    have fl : 1 ≤ (finR r (y :: l)).length := by rw [i2.length_eq]; simp
    have fne : finR r (y :: l) ≠ [] := fun z => by rw [z] at fl; cases fl
    refine ⟨?_, ?_⟩
    · rw [finR, kinds_snoc _ fl, i1, lk_min fne low]
      show _ = ((false :: r).take (l.length + 1 + 1 - 1)).reverse.map some
      rw [show l.length + 1 + 1 - 1 = ((y :: l).length - 1) + 1 by rw [List.length_cons]; omega, List.take_succ_cons, List.reverse_cons, List.map_append]
      rfl
    · rw [finR]
      refine (i2.append_right _).trans ?_
      exact List.perm_append_singleton x (y :: l)
end Lp
namespace Lp
open PySem PySem.Spec PyProof.Rows L2
/-! ### a tuple backwards: t[::-1] -/
theorem back_size (n : Nat) : Builtin.Slice.slicePlaces ((n : Int) - 1) (-1) (-1) = n := by
  unfold Builtin.Slice.slicePlaces; rw [if_neg (show ¬ (-1 : Int) > 0 by decide)]
  split
  · have e : ((n : Int) - 1 - -1 - 1) / (- -1) = (n : Int) - 1 := by
      rw [show (- -1 : Int) = 1 from rfl, Int.ediv_one]
      omega
    rw [e]
    omega
  · omega
theorem fm_congr {α β : Type} {f g : α → Option β} : ∀ {l : List α}, (∀ x ∈ l, f x = g x) → l.filterMap f = l.filterMap g
  | [], _ => rfl
  | x :: l, h => by
    rw [List.filterMap_cons, List.filterMap_cons, h x (List.mem_cons_self ..), fm_congr fun y hy => h y (List.mem_cons_of_mem _ hy)]
theorem back_items (xs : Array Value) : ((List.range xs.size).filterMap fun (k : Nat) => xs[((xs.size : Int) - 1 + (k : Int) * -1).toNat]?).toArray = xs.toList.reverse.toArray := by
  congr 1
  have e : (List.range xs.size).filterMap (fun (k : Nat) => xs[((xs.size : Int) - 1 + (k : Int) * -1).toNat]?) = ((List.range xs.size).map fun k => xs.size - 1 - k).filterMap (xs[·]?) := by
    rw [List.filterMap_map]
    refine fm_congr fun k hk => ?_
    have := List.mem_range.mp hk
    have z : ((xs.size : Int) - 1 + (k : Int) * -1).toNat = xs.size - 1 - k := by omega
    show xs[((xs.size : Int) - 1 + (k : Int) * -1).toNat]? = xs[xs.size - 1 - k]?
    rw [z]
  rw [e, PySem.W.krv_range, List.filterMap_reverse, PySem.W.krv_all]
section
variable {prog : Program} {w : World} {A : Around} {E : Value → Shared → Prop} {s : Shared}
theorem back_parts {sl : Addr} {n : Nat} {tk : Tok} {R : Int × Int × Nat → Shared → Prop} (h : s.heap.IsSliceOf sl .none .none (.int (-1) tk)) (good : R ((n : Int) - 1, -1, n) s) : wpAny (model prog w) A (Builtin.Slice.sliceApplied (.ref sl) (pure (n : Int))) R E s := by
  obtain ⟨ob, at_, cl, dt⟩ := id h
  unfold Builtin.Slice.sliceApplied Builtin.Slice.sliceFields; apply wpAny_bind
  refine wpAny_bind (wpAny_field at_ dt (x := .none) rfl (?_ : wpAny _ _ _ _ _ s))
  refine wpAny_bind (wpAny_field at_ dt (x := .none) rfl (?_ : wpAny _ _ _ _ _ s))
  refine wpAny_bind (wpAny_field at_ dt (x := .int (-1) tk) rfl (wpAny_pure (?_ : wpAny _ _ _ _ _ s)))
  refine wpAny_bind (HT.slicePart_ (.int (-1) tk) (?_ : wpAny _ _ (if ((-1 : Int) == 0) = true then _ else _) _ _ s))
  rw [if_neg (show ¬ ((-1 : Int) == 0) = true by decide)]
  refine wpAny_bind (HT.slicePart_ .none (wpAny_bind (HT.slicePart_ .none (wpAny_bind (wpAny_pure (?_ : wpAny _ _ _ _ _ s))))))
  show wpAny _ _ (pure ((n : Int) - 1, (-1 : Int), Builtin.Slice.slicePlaces ((n : Int) - 1) (-1) (-1))) _ _ s
  rw [back_size]
  exact wpAny_pure good
theorem back_item {t sl : Addr} {items : Array Value} {tk : Tok} {R : Value → Shared → Prop} (ht : IsTup s.heap t items) (hs : s.heap.IsSliceOf sl .none .none (.int (-1) tk)) (few : items.size ≤ sizeLine)
    (good : R (.ref s.heap.objs.size) { s with heap := s.heap.push { cls := .type "tuple", data := .seq items.toList.reverse.toArray } }) : wpAny (model prog w) A (getItem (.ref t) (.ref sl)) R E s := by
  obtain ⟨ob, at_, cl, dt⟩ := id hs
  have ty : s.TypeIs (.ref sl) "slice" := ⟨ob, at_, cl⟩
  have fit : sizeOk (.seq items.toList.reverse.toArray) := by
    show items.toList.reverse.toArray.size ≤ sizeLine
    rw [List.size_toArray, List.length_reverse, Array.length_toList]
    exact few
  unfold getItem
  refine wpAny_holding (?_ : wpAny _ _ _ _ _ s)
  refine wpAny_bind (wpAny_sequenceKey ht.typeIs (by decide) (?_ : wpAny _ _ _ _ _ s))
  refine wpAny_bind (wpAny_callSpecial?_slot (name := Str.ofString "__getitem__") ht.typeIs PyProof.Rows.slot_tuple_getitem (wpAny_call_entry PyProof.Rows.slot_tuple_getitem ht.typeIs PyProof.Rows.entry_tuple_getitem (?_ : wpAny _ _ (Builtin.Tuple.tupleItemsOf (.ref t) >>= _) _ _ s) (PyProof.Rows.args_tuple_getitem _ _)))
  refine wpAny_bind (PyProof.Rows.tupleItemsOf_ ht (?_ : wpAny _ _ _ _ _ s))
  refine wpAny_bind (wpAny_typeOf ty (?_ : wpAny _ _ _ _ _ s))
  rw [if_pos (show (Value.type "slice" == Value.type "slice") = true by decide)]
  refine wpAny_bind (back_parts hs (?_ : wpAny _ _ _ _ _ s))
  have off : ¬ ((((items.size : Int) - 1 == 0) && ((-1 : Int) == 1) && (items.size == items.size)) = true) := by
    rw [show ((-1 : Int) == 1) = false by decide, Bool.and_false, Bool.false_and]
    exact Bool.false_ne_true
  show wpAny _ _ (if (((items.size : Int) - 1 == 0) && ((-1 : Int) == 1) && (items.size == items.size)) = true then _ else _) _ _ s
  rw [if_neg off, back_items]
  exact wpAny_bind (m := Builtin.Tuple.tupleExact _) (wpAny_newObj_type (wpAny_pure ⟨_, rfl, wpAny_pure good⟩) fit)
end
def tBackT (K : PySem.W.Frag) (te : TE) : TE := fun σ H Q => te σ H fun x G => ∃ a xs, x = .ref a ∧ SqT K G a xs ∧ ∀ p, G p = none → Q (.ref p) (upd G p (.tup xs.reverse))
theorem pe_backT {X : Cx} {e : Expr} {te : TE} {j : Nat} {q1 q2 q3 q : Pos} (a : PE X e te) : PE X (.Subscript e (.Slice none none (some (.UnaryOp .USub (.Constant (.int 1) j q1) q2)) q3) q) (tBackT X.K te) := by
  constructor
  intro pins s σ H Q I h
  refine Subscript_ (thn (a.run pins s σ H _ I h) fun v s1 z => ?_)
  obtain ⟨x, H1, I1, r1, b, xs, rfl, hx, good⟩ := z
  cases r1
  refine wpAny_Slice (thn (po_none.run pins s1 σ H1 (fun o G => o = none ∧ G = H1) I1 ⟨rfl, rfl⟩) fun vl s2 z => ?_)
  obtain ⟨_, G2, I2, pl, rfl, rfl⟩ := z
  refine thn (po_none.run pins s2 σ _ (fun o G => o = none ∧ G = G2) I2 ⟨rfl, rfl⟩) fun vu s3 z => ?_
  obtain ⟨_, G3, I3, pu, rfl, rfl⟩ := z
  refine thn (minus_one.run pins s3 σ _ (fun o G => o = some (-1) ∧ G = G3) I3 ⟨1, rfl, -1, rfl, rfl, rfl⟩) fun vs s4 z => ?_
  obtain ⟨_, G4, I4, ps, rfl, rfl⟩ := z
  cases pl
  cases pu
  cases ps with
  | int _ tk =>
    have J := I4.kept (t' := s4.toks) (h' := s4.heap.push { cls := .type "slice", data := .fields #[.none, .none, .int (-1) tk] }) fun b ob w => Heap.get?_push_of_some _ w
    obtain ⟨its, r, ht, few⟩ := J.tuple hx
    have size : its.toArray.size ≤ sizeLine := by
      rw [List.size_toArray, ← r.length]
      exact few
    refine tail_any (ops := [.ref b, .ref s4.heap.objs.size]) ht.typeIs PyProof.Rows.slot_tuple_getitem.lookup ?_ (by with_unfolding_all rfl)
    refine back_item ht (Heap.IsSliceOf.new _ .none .none (.int (-1) tk)) size ?_
    have same : its.toArray.toList.reverse.toArray = its.reverse.toArray := by simp
    have new := J.laid (t' := s4.toks) (o := .tup xs.reverse) (h' := (s4.heap.push { cls := .type "slice", data := .fields #[.none, .none, .int (-1) tk] }).push { cls := .type "tuple", data := .seq its.toArray.toList.reverse.toArray }) (fun b ob w => Heap.get?_push_of_some _ w) (Nat.le_refl _) ⟨by rw [List.length_reverse]; exact few, its.reverse, r.reverse, by rw [← same]; exact IsTup.new _ _⟩
    exact ⟨.ref _, _, new, rfl, good _ (J.hok.fresh (Nat.le_refl _))⟩
/-! ### rows told apart -/
theorem eqv_all : ∀ a b : List Int, PyData.eqvAll (a.map PyData.int) (b.map PyData.int) = decide (a = b)
  | [], [] => by simp [PyData.eqvAll]
  | [], y :: b => by simp [PyData.eqvAll]
  | x :: a, [] => by simp [PyData.eqvAll]
  | x :: a, y :: b => by
    rw [List.map_cons, List.map_cons, PyData.eqvAll, eqv_all a b, PyData.eqv]
    by_cases h : x = y
    · by_cases h2 : a = b
      · simp [h, h2]
      · simp [h, h2]
    · simp [h]
theorem eqv_rows (a b : List Int) : PyData.eqv (.tuple (a.map PyData.int)) (.tuple (b.map PyData.int)) = decide (a = b) := by
  rw [PyData.eqv, eqv_all]
end Lp
namespace Lp
open PySem PySem.Spec PyProof.Rows L2
/-! ### tuples whose object is known: they have methods -/
structure TupO (o : Obj) : Prop where
  cls : o.cls = .type "tuple"
  nod : o.dict = none
def TupAt (H : Hp) (p : Addr) (xs : List V) : Prop := ∃ o, TupO o ∧ H p = some (.frz o (.tup xs))
theorem TupAt.sq {K : PySem.W.Frag} {H : Hp} {p : Addr} {xs : List V} (h : TupAt H p xs) : SqT K H p xs := by
  obtain ⟨o, _, e⟩ := h
  exact .inl (.inr ⟨o, e⟩)
theorem TupAt.same {H H' : Hp} {p : Addr} {xs : List V} (h : TupAt H p xs) (s : Same H H') : TupAt H' p xs := by
  obtain ⟨o, t, e⟩ := h
  exact ⟨o, t, s _ _ e⟩
theorem TupAt.kp {H H' : Hp} {p a : Addr} {xs : List V} (h : TupAt H p xs) (s : Kp a H H') (ne : p ≠ a) : TupAt H' p xs := by
  obtain ⟨o, t, e⟩ := h
  exact ⟨o, t, s _ _ e ne⟩
theorem TupAt.some_ {H : Hp} {p : Addr} {xs : List V} (h : TupAt H p xs) : H p ≠ none := by
  obtain ⟨o, _, e⟩ := h
  rw [e]
  exact fun z => nomatch z
/-- tuple(xs), xs a list: the new object is known -/
def rTupF (K : PySem.W.Frag) : List V → Hp → VK → Prop := fun xs H Q => ∃ p ys, xs = [.ref p] ∧ SqL K H p ys ∧ ∀ l o, TupO o → H l = none → Q (.ref l) (upd H l (.frz o (.tup ys)))
theorem call_tupF {X : Cx} : CallR X (.type "tuple") (rTupF X.K) := by
  intro pins s σ H xs us Q I r h
  obtain ⟨p, ys, rfl, hq, q⟩ := h
  obtain ⟨u, rfl, rx⟩ := vals1 r
  cases rx
  obtain ⟨its, r2, pl, hz⟩ := I.list hq
  have hlen := r2.length
  refine call_tuple_list pl.isList (fun h2 kp => ?_) (by have := line63; simp only [List.size_toArray]; omega)
  have J1 : Inv X pins σ H { s with heap := h2 } := I.kept (t' := s.toks) kp
  have at_ := Heap.get?_push_size h2 (o := { cls := .type "tuple", data := .seq its.toArray }) rfl
  have J2 : Inv X pins σ (upd H h2.objs.size (.frz { cls := .type "tuple", data := .seq its.toArray } (.tup ys))) { s with heap := h2.push { cls := .type "tuple", data := .seq its.toArray } } :=
    J1.laid (t' := s.toks) (fun b o e => Heap.get?_push_of_some _ e) (Nat.le_refl _) (show ObjOk X.prog X.w _ _ _ (.frz _ (.tup ys)) from ⟨at_, hz, its, r2, IsTup.new _ _⟩)
  exact ⟨.ref h2.objs.size, _, J2, rfl, q _ _ ⟨rfl, rfl⟩ (J1.hok.fresh (Nat.le_refl _))⟩
/-- o.index(e), o such a tuple -/
def tTix (r : V → List V → Hp → VK → Prop) (to : TE) (t : TA) : TE := fun σ H Q => to σ H fun x H1 => (∃ p xs, x = .ref p ∧ TupAt H1 p xs) ∧ t σ H1 fun vs H2 => r x vs H2 Q
section
variable {X : Cx} {o e : Expr} {es : List Expr} {to : TE} {t : TA} {apos cpos : Pos} {r : V → List V → Hp → VK → Prop}
theorem pe_tix (hm : MtR X "tuple.index" r) (ho : PE X o to) (ha : PA X (e :: es) t)
    (hbase : attributeBase o "index" X.env (eval o X.env) = eval o X.env := by rfl)
    (few : ((backTo cpos (starEach (e :: es) X.env)).all (fun x => !x.1) && (backToKw cpos (keywordEach [] X.env)).all (fun x => x.1.isSome) && decide ((e :: es).length + ([] : List Keyword).length + (if ([] : List Keyword).isEmpty then 0 else 1) < 30)) = true := by rfl)
    (line : (apos.endLine == cpos.line) = true := by rfl) (st : starEach (e :: es) X.env = (false, eval e X.env) :: starEach es X.env := by rfl) (plain : (backTo cpos (starEach es X.env)).any (·.1) = false := by rfl) :
    PE X (.Call (.Attribute o "index" apos) (e :: es) [] cpos) (tTix r to t) := ⟨fun pins s σ H Q I h => by
  refine wpAny_Call_method_late hbase few line rfl (thn (ho.run pins s σ H _ I h) fun v s1 y => ?_)
  obtain ⟨x, H1, J1, rx, ⟨p, xs, rfl, ob, tb, hp⟩, q1⟩ := y
  cases rx
  have at_ : s1.heap.get? p = some ob := (J1.hok p _ hp).1
  refine ⟨"tuple", "tuple.index", F.plainAttrs_tuple, F.slot_tuple_index, F.type_tuple_index, ⟨ob, at_, tb.cls⟩, fun a ea => ?_, ?_⟩
  · cases ea
    exact ⟨ob, at_, tb.nod⟩
  · have run := ha.run cpos pins s1 σ H1 _ J1 q1
    rw [st] at run ⊢
    refine Calls.callWith_builtin (by show (false || (backTo cpos (starEach es X.env)).any (·.1)) = false; rw [plain]; rfl) (Calls.evalArgs_plain ?_)
    exact thn run fun us s2 y2 => by
      obtain ⟨vs, H2, J2, rs, q2⟩ := y2
      exact hm pins s2 σ H2 (.ref p) vs (.ref p) us Q J2 rfl rs q2⟩
end
end Lp
namespace Lp
open PySem PySem.Spec PyProof.Rows L2
/-! ### the last people: each the tallest or the shortest up to there (bs: from the back) -/
def EndsR : List Bool → List Int → Prop
  | [], _ => True
  | b :: bs, r => ∃ l z, r = l ++ [z] ∧ (∀ y ∈ l, if b then y ≤ z else z ≤ y) ∧ EndsR bs l
def EndsB : List Bool → List Bool → Prop
  | [], _ => True
  | b :: bs, r => ∃ l c, r = l ++ [c] ∧ (c = !b → ∀ y ∈ l, y = !b) ∧ EndsB bs l
theorem snoc_of {α : Type} {l : List α} (h : 1 ≤ l.length) : ∃ m z, l = m ++ [z] := by
  have ne : l ≠ [] := fun e => by
    rw [e] at h
    exact absurd h (Nat.not_succ_le_zero 0)
  exact ⟨l.dropLast, l.getLast ne, (List.dropLast_concat_getLast ne).symm⟩
theorem endsB_const : ∀ (bs l : List Bool) (e : Bool), bs.length ≤ l.length → (∀ y ∈ l, y = e) → EndsB bs l
  | [], _, _, _, _ => trivial
  | b :: bs, l, e, hl, h => by
    rw [List.length_cons] at hl
    obtain ⟨m, z, rfl⟩ := snoc_of (show 1 ≤ l.length by omega)
    rw [List.length_append, List.length_singleton] at hl
    have hz : z = e := h z (by simp)
    refine ⟨m, z, rfl, fun ez y hy => ?_, endsB_const bs m e (by omega) fun y hy => h y (by simp [hy])⟩
    rw [← ez, hz]
    exact h y (by simp [hy])
theorem endsB_erase : ∀ (bs l : List Bool) (b : Bool), bs.length + 1 ≤ l.length → b ∈ l → EndsB bs l → EndsB bs (l.erase b)
  | [], _, _, _, _, _ => trivial
  | d :: bs, l, b, hl, hb, h => by
    rw [List.length_cons] at hl
    obtain ⟨m, c, rfl, h1, h2⟩ := h
    rw [List.length_append, List.length_singleton] at hl
    by_cases hm : b ∈ m
    · rw [List.erase_append_left _ hm]
      exact ⟨m.erase b, c, rfl, fun ec y hy => h1 ec y (List.mem_of_mem_erase hy), endsB_erase bs m b (by omega) hm h2⟩
    · have ec : c = b := by
        rcases List.mem_append.mp hb with z | z
        · exact absurd z hm
        · exact (List.mem_singleton.mp z).symm
      rw [List.erase_append_right _ hm, ec, List.erase_cons_head, List.append_nil]
      refine endsB_const (d :: bs) m (!b) (by rw [List.length_cons]; omega) fun y hy => ?_
      cases y <;> cases b <;> first | rfl | exact absurd hy hm
theorem endsB_pass {bs l : List Bool} {b : Bool} (hl : bs.length + 1 ≤ l.length) (h : EndsB bs l) : EndsB (b :: bs) ((l ++ [b]).erase b) := by
  by_cases hb : b ∈ l
  · rw [List.erase_append_left _ hb]
    exact ⟨l.erase b, b, rfl, (fun e => absurd e (by cases b <;> decide)), endsB_erase bs l b hl hb h⟩
  · rw [List.erase_append_right _ hb, List.erase_cons_head, List.append_nil]
    refine endsB_const (b :: bs) l (!b) (by rw [List.length_cons]; omega) fun y hy => ?_
    cases y <;> cases b <;> first | rfl | exact absurd hy hb
theorem endsB_after (h : Int) {ns : List Int} (ne : ns ≠ []) : ∀ r : List Bool, r.length ≤ ns.length → EndsB r (sgn h (afterL r.reverse ns))
  | [], _ => trivial
  | b :: r, hl => by
    rw [List.length_cons] at hl
    have ih := endsB_after h ne r (by omega)
    rw [List.reverse_cons, afterL_app]
    show EndsB (b :: r) (sgn h (passL b (afterL r.reverse ns)))
    have ln : (afterL r.reverse ns).length = ns.length := afterL_len ..
    have ne2 : afterL r.reverse ns ≠ [] := fun e => by
      rw [e] at ln
      exact ne (List.length_eq_zero_iff.mp ln.symm)
    rw [pass_sgn b h ne2]
    refine endsB_pass ?_ ih
    rw [sgn_len, ln]
    exact hl
theorem endsR_of : ∀ (bs : List Bool) (r : List Int), (∀ h, EndsB bs (sgn h r)) → EndsR bs r
  | [], _, _ => trivial
  | b :: bs, r, hB => by
    have pos : 1 ≤ r.length := by
      obtain ⟨l, c, e, _⟩ := hB 0
      have := congrArg List.length e
      rw [sgn_len, List.length_append, List.length_singleton] at this
      omega
    obtain ⟨m, z, rfl⟩ := snoc_of pos
    have split_ : ∀ h, (decide (h ≤ z) = !b → ∀ y ∈ sgn h m, y = !b) ∧ EndsB bs (sgn h m) := fun h => by
      obtain ⟨l, c, e, h1, h2⟩ := hB h
      have e2 : sgn h (m ++ [z]) = sgn h m ++ [decide (h ≤ z)] := List.map_append ..
      rw [e2] at e
      obtain ⟨e3, e4⟩ := List.append_inj' e rfl
      rw [e3]
      refine ⟨fun q => h1 ?_, h2⟩
      rw [← q]
      exact (List.cons.inj e4).1.symm
    refine ⟨m, z, rfl, fun y hy => ?_, endsR_of bs m fun h => (split_ h).2⟩
    cases b with
    | true =>
      show y ≤ z
      by_cases hlt : y ≤ z
      · exact hlt
      · have := (split_ y).1 (decide_eq_false hlt) (decide (y ≤ y)) (List.mem_map.mpr ⟨y, hy, rfl⟩)
        rw [decide_eq_true (Int.le_refl y)] at this
        cases this
    | false =>
      show z ≤ y
      have := (split_ z).1 (decide_eq_true (Int.le_refl z)) (decide (z ≤ y)) (List.mem_map.mpr ⟨y, hy, rfl⟩)
      exact of_decide_eq_true this
theorem endsR_after {ns : List Int} (ne : ns ≠ []) {r : List Bool} (hl : r.length ≤ ns.length) : EndsR r (afterL r.reverse ns) := endsR_of _ _ fun h => endsB_after h ne r hl
theorem endsR_uniq : ∀ (bs : List Bool) (r g : List Int), EndsR bs r → EndsR bs g → r.Perm g → r.take (r.length - bs.length) = g.take (r.length - bs.length) → r = g
  | [], r, g, _, _, p, e => by
    rw [List.length_nil, Nat.sub_zero, List.take_length, List.take_of_length_le (Nat.le_of_eq p.length_eq.symm)] at e
    exact e
  | b :: bs, r, g, hr, hg, p, e => by
    obtain ⟨l, z, rfl, h1, h2⟩ := hr
    obtain ⟨m, y, rfl, g1, g2⟩ := hg
    have ez : z = y := by
      have a1 : z ∈ m ++ [y] := p.mem_iff.mp (by simp)
      have a2 : y ∈ l ++ [z] := p.mem_iff.mpr (by simp)
      rcases List.mem_append.mp a1 with w1 | w1
      · rcases List.mem_append.mp a2 with w2 | w2
        · have q1 := g1 z w1
          have q2 := h1 y w2
          cases b <;> simp at q1 q2 <;> omega
        · exact (List.mem_singleton.mp w2).symm
      · exact List.mem_singleton.mp w1
    subst ez
    have pl : l.Perm m := (List.perm_append_right_iff [z]).mp p
    have ll := pl.length_eq
    rw [List.length_append, List.length_singleton, List.length_cons, show l.length + 1 - (bs.length + 1) = l.length - bs.length by omega, List.take_append_of_le_length (by omega), List.take_append_of_le_length (by omega)] at e
    rw [endsR_uniq bs l m h2 g2 pl e]
/-! ### the words that may have placed the last people -/
def endsW : List (Option Bool) → List Bool → List (List Bool)
  | some b :: ks, w => w :: endsW ks (b :: w)
  | _, w => [w]
def endsOf (gs : List Int) : List (List Bool) := endsW (kinds gs).reverse []
theorem endsW_nil (w : List Bool) : endsW [] w = [w] := rfl
theorem endsW_none (ks : List (Option Bool)) (w : List Bool) : endsW (none :: ks) w = [w] := rfl
theorem endsW_some (b : Bool) (ks : List (Option Bool)) (w : List Bool) : endsW (some b :: ks) w = w :: endsW ks (b :: w) := rfl
theorem endsW_get : ∀ (ks : List (Option Bool)) (v : List Bool) (j : Nat) (w : List Bool), (endsW ks v)[j]? = some w → j ≤ ks.length ∧ ∃ u : List Bool, u.length = j ∧ w = u.reverse ++ v ∧ ks.take j = u.map some
  | [], v, j, w, h => by
    rw [endsW_nil] at h
    cases j with
    | zero => exact ⟨Nat.le_refl _, [], rfl, (Option.some.inj h).symm, rfl⟩
    | succ j => cases h
  | none :: ks, v, j, w, h => by
    rw [endsW_none] at h
    cases j with
    | zero => exact ⟨Nat.zero_le _, [], rfl, (Option.some.inj h).symm, rfl⟩
    | succ j => cases h
  | some b :: ks, v, j, w, h => by
    rw [endsW_some] at h
    cases j with
    | zero => exact ⟨Nat.zero_le _, [], rfl, (Option.some.inj h).symm, rfl⟩
    | succ j =>
      rw [List.getElem?_cons_succ] at h
      obtain ⟨h1, u, h2, h3, h4⟩ := endsW_get ks (b :: v) j w h
      refine ⟨by rw [List.length_cons]; omega, b :: u, by rw [List.length_cons, h2], ?_, ?_⟩
      · rw [h3, List.reverse_cons, List.append_assoc]
        rfl
      · rw [List.take_succ_cons, h4]
        rfl
theorem kinds_ends : ∀ (u : List Bool) (gs : List Int), (kinds gs).reverse.take u.length = u.map some → u.length ≤ gs.length - 1 → EndsR u gs
  | [], _, _, _ => trivial
  | b :: u, gs, h, hl => by
    rw [List.length_cons] at hl
    obtain ⟨m, z, rfl⟩ := snoc_of (show 1 ≤ gs.length by omega)
    rw [List.length_append, List.length_singleton] at hl
    rw [kinds_snoc z (by omega), List.reverse_append, List.length_cons] at h
    have h2 : lk m z :: (kinds m).reverse.take u.length = some b :: u.map some := h
    obtain ⟨e1, e2⟩ := List.cons.inj h2
    have inv := lk_inv e1
    refine ⟨m, z, rfl, fun y hy => ?_, kinds_ends u m e2 (by omega)⟩
    cases b with
    | true => exact inv y hy
    | false => exact inv y hy
theorem ends_get {gs : List Int} {j : Nat} {w : List Bool} (h : (endsOf gs)[j]? = some w) : w.length = j ∧ j ≤ gs.length - 1 ∧ EndsR w.reverse gs := by
  obtain ⟨h1, u, h2, h3, h4⟩ := endsW_get _ _ _ _ h
  rw [List.length_reverse, kinds_len] at h1
  rw [List.append_nil] at h3
  subst h3
  rw [List.length_reverse, List.reverse_reverse]
  subst h2
  exact ⟨rfl, h1, kinds_ends u gs h4 h1⟩
theorem keptL_after {w : List Bool} {ns : List Int} (hrow : Row ns) (h : w.length ≤ ns.length) : keptL (w.count false) (w.count true) ns = (afterL w ns).take (ns.length - w.length) := by
  have two := count_two w
  unfold keptL
  rw [desk_passes hrow.nd (by omega), show ns.length - w.count false - w.count true = ns.length - w.length by omega]
  have c0 : (List.replicate (w.count false) false ++ List.replicate (w.count true) true).count false = w.count false := by simp [List.count_append, List.count_replicate]
  have c1 : (List.replicate (w.count false) false ++ List.replicate (w.count true) true).count true = w.count true := by simp [List.count_append, List.count_replicate]
  have ka := kept_any (ns := ns) c0 c1
  rw [List.length_append, List.length_replicate, List.length_replicate, two] at ka
  exact ka
/-- a possible end leads there just where the people kept are the first ones -/
theorem ends_lead {ns gs : List Int} {w : List Bool} (hrow : Row ns) (p : gs.Perm ns) (h : w ∈ endsOf gs) : afterL w ns = gs ↔ keptL (w.count false) (w.count true) ns = gs.take (ns.length - w.length) := by
  obtain ⟨j, hj⟩ := List.mem_iff_getElem?.mp h
  obtain ⟨h1, h2, h3⟩ := ends_get hj
  have lp := p.length_eq
  have pos := hrow.pos
  have ne : ns ≠ [] := fun e => by
    rw [e] at pos
    exact absurd pos (by decide)
  rw [keptL_after hrow (by omega)]
  constructor
  · intro e
    rw [e]
  · intro e
    have er := endsR_after ne (r := w.reverse) (by rw [List.length_reverse]; omega)
    rw [List.reverse_reverse] at er
    refine endsR_uniq w.reverse _ _ er h3 ((afterL_perm w ns).trans p.symm) ?_
    rw [afterL_len, List.length_reverse]
    exact e
/-! ### the first index at which two differ -/
def fmI : List Int → List Int → Option Nat
  | x :: xs, y :: ys => if x = y then (fmI xs ys).map (· + 1) else some 0
  | _, _ => none
theorem fmI_none : ∀ (xs ys : List Int), xs.length ≤ ys.length → (fmI xs ys = none ↔ xs = ys.take xs.length)
  | [], ys, _ => by cases ys <;> exact ⟨fun _ => rfl, fun _ => rfl⟩
  | x :: xs, [], h => absurd h (by simp)
  | x :: xs, y :: ys, h => by
    have ih := fmI_none xs ys (by simpa using h)
    rw [List.length_cons, List.take_succ_cons]
    show (if x = y then (fmI xs ys).map (· + 1) else some 0) = none ↔ _
    by_cases e : x = y
    · rw [if_pos e, Option.map_eq_none_iff, ih, e, List.cons.injEq]
      exact ⟨fun z => ⟨rfl, z⟩, fun z => z.2⟩
    · rw [if_neg e, List.cons.injEq]
      refine ⟨fun z => absurd z (by simp), fun z => absurd z.1 e⟩
/-- the search along xs -/
theorem fmI_at {xs ys : List Int} (h : xs.length ≤ ys.length) : ∀ i : Nat, (∀ j (hj : j < i) (hx : j < xs.length), xs[j] = ys[j]'(by omega)) → ∀ (hi : i < xs.length), xs[i] ≠ ys[i]'(by omega) → fmI xs ys = some i := by
  intro i
  induction i generalizing xs ys with
  | zero =>
    intro _ hi ne
    match xs, ys, h, hi, ne with
    | x :: xs, y :: ys, _, _, ne =>
      show (if x = y then _ else some 0) = some 0
      rw [if_neg (show ¬ x = y from ne)]
  | succ i ih =>
    intro before hi ne
    match xs, ys, h, hi, ne, before with
    | x :: xs, y :: ys, h, hi, ne, before =>
      have e : x = y := before 0 (by omega) (by simp)
      show (if x = y then (fmI xs ys).map (· + 1) else some 0) = some (i + 1)
      rw [if_pos e, ih (xs := xs) (ys := ys) (by simpa using h) (fun j hj hx => before (j + 1) (by omega) (by simpa using hx)) (by simpa using hi) ne]
      rfl
theorem fmI_all {xs ys : List Int} (h : xs.length ≤ ys.length) (all_ : ∀ j (hx : j < xs.length), xs[j] = ys[j]'(by omega)) : fmI xs ys = none := by
  refine (fmI_none xs ys h).mpr (List.ext_getElem (by rw [List.length_take]; omega) fun j h1 h2 => ?_)
  rw [List.getElem_take]
  exact all_ j h1
end Lp
namespace Lp
open PySem PySem.Spec PyProof.Rows L2
/-! ### all rows of some people -/
def insAt (x : Int) (l : List Int) (k : Nat) : List Int := l.take k ++ [x] ++ l.drop k
def insAll (x : Int) (l : List Int) : List (List Int) := (List.range (l.length + 1)).map (insAt x l)
def allL (ns : List Int) : List (List Int) := ns.foldl (fun found x => found.flatMap (insAll x)) [[]]
theorem insAt_perm (x : Int) (l : List Int) (k : Nat) : (insAt x l k).Perm (l ++ [x]) := by
  unfold insAt
  have e : l ++ [x] = l.take k ++ (l.drop k ++ [x]) := by rw [← List.append_assoc, List.take_append_drop]
  rw [e, List.append_assoc]
  exact (List.perm_append_comm).append_left _
theorem allL_take {ns : List Int} {i : Nat} (h : i < ns.length) : allL (ns.take (i + 1)) = (allL (ns.take i)).flatMap (insAll ns[i]) := fold_take (List.getElem?_eq_getElem h)
theorem fold_perm : ∀ (ns pre : List Int) (F : List (List Int)), (∀ l, l ∈ F ↔ l.Perm pre) → ∀ l, l ∈ ns.foldl (fun found x => found.flatMap (insAll x)) F ↔ l.Perm (pre ++ ns)
  | [], pre, F, h, l => by
    rw [List.append_nil]
    exact h l
  | x :: ns, pre, F, h, l => by
    rw [List.foldl_cons]
    have step : ∀ l, l ∈ F.flatMap (insAll x) ↔ l.Perm (pre ++ [x]) := fun l => by
      refine ⟨fun hl => ?_, fun hl => ?_⟩
      · obtain ⟨m, hm, hl⟩ := List.mem_flatMap.mp hl
        obtain ⟨k, _, rfl⟩ := List.mem_map.mp hl
        exact (insAt_perm x m k).trans (((h m).mp hm).append_right [x])
      · have hx : x ∈ l := hl.mem_iff.mpr (List.mem_append_right _ (List.mem_singleton_self x))
        obtain ⟨a, b, rfl⟩ := List.append_of_mem hx
        refine List.mem_flatMap.mpr ⟨a ++ b, (h _).mpr ?_, List.mem_map.mpr ⟨a.length, List.mem_range.mpr (by rw [List.length_append]; omega), ?_⟩⟩
        · have p1 : (x :: (a ++ b)).Perm (x :: pre) := (List.perm_middle.symm.trans hl).trans (List.perm_append_singleton x pre)
          exact p1.cons_inv
        · unfold insAt
          rw [List.take_left, List.drop_left, List.append_assoc]
          rfl
    have := fold_perm ns (pre ++ [x]) (F.flatMap (insAll x)) step l
    rw [List.append_assoc] at this
    exact this
theorem allL_mem {ns l : List Int} : l ∈ allL ns ↔ l.Perm ns := by
  have := fold_perm ns [] [[]] (fun l => by rw [List.mem_singleton]; exact ⟨fun z => by rw [z], fun z => List.perm_nil.mp z⟩) l
  rw [List.nil_append] at this
  exact this
theorem flat_len_le {F : List (List Int)} {x : Int} {c : Nat} (h : ∀ l ∈ F, l.length + 1 ≤ c) : (F.flatMap (insAll x)).length ≤ F.length * c := by
  induction F with
  | nil => simp
  | cons l F ih =>
    rw [List.flatMap_cons, List.length_append, List.length_cons]
    have h1 : (insAll x l).length ≤ c := by
      unfold insAll
      rw [List.length_map, List.length_range]
      exact h l (List.mem_cons_self ..)
    have h2 := ih fun m hm => h m (List.mem_cons_of_mem _ hm)
    have e : (F.length + 1) * c = F.length * c + c := Nat.succ_mul ..
    omega
theorem allL_few {ns : List Int} (hn : ns.length ≤ 5) : ∀ i, i ≤ ns.length → (allL (ns.take i)).length ≤ 6 ^ i
  | 0, _ => by simp [allL]
  | i + 1, h => by
    rw [allL_take (by omega)]
    have ih := allL_few hn i (by omega)
    have b := flat_len_le (F := allL (ns.take i)) (x := ns[i]) (c := 6) fun l hl => by
      have := (allL_mem.mp hl).length_eq
      rw [List.length_take] at this
      omega
    have e : 6 ^ (i + 1) = 6 ^ i * 6 := Nat.pow_succ ..
    have : (allL (ns.take i)).length * 6 ≤ 6 ^ i * 6 := Nat.mul_le_mul_right 6 ih
    omega
theorem allL_bound {ns : List Int} (hn : ns.length ≤ 5) (i : Nat) (h : i ≤ ns.length) : (allL (ns.take i)).length ≤ 7776 := by
  have h1 := allL_few hn i h
  have h2 : 6 ^ i ≤ 6 ^ 5 := Nat.pow_le_pow_right (by decide) (by omega)
  exact Nat.le_trans h1 (Nat.le_trans h2 (by decide))
theorem flat_take {F : List (List Int)} {x : Int} {j : Nat} (h : j < F.length) : (F.take (j + 1)).flatMap (insAll x) = (F.take j).flatMap (insAll x) ++ insAll x F[j] := by
  rw [List.take_add_one, List.getElem?_eq_getElem h, List.flatMap_append]
  simp
end Lp
namespace Lp
open PySem PySem.Spec PyProof.Rows L2
/-! ### names in any order -/
def pickL {α : Type} (is : List Nat) (l : List α) : List α := is.filterMap fun i => l[i]?
theorem rel_pick (is : List Nat) {zs : List V} {ws : List Value} (r : Vals zs ws) : Vals (pickL is zs) (pickL is ws) := by
  induction is with
  | nil => exact .nil
  | cons i is ih =>
    unfold pickL at ih ⊢
    rw [List.filterMap_cons, List.filterMap_cons]
    cases hz : zs[i]? with
    | none =>
      have hw : ws[i]? = none := by
        rw [List.getElem?_eq_none_iff] at hz ⊢
        rw [← r.length]
        exact hz
      rw [hw]
      exact ih
    | some x =>
      obtain ⟨u, hu, ru⟩ := r.get hz
      rw [hu]
      exact .cons ru ih
/-! ### a < b < c <= d -/
def tChain3 (r r' r'' : R2) (ta tb tc td : TE) : TE := fun σ H Q => ta σ H fun x H1 => tb σ H1 fun y H2 => r x y H2 fun z H3 => ∃ k, z = .bl k ∧
  (if k = true then tc σ H3 fun y' H4 => r' y y' H4 fun z' H5 => ∃ k', z' = .bl k' ∧ (if k' = true then td σ H5 fun y'' H6 => r'' y' y'' H6 Q else Q (.bl false) H5) else Q (.bl false) H3)
theorem pe_chain3 {X : Cx} {a b c d : Expr} {ta tb tc td : TE} {pos : Pos} {o1 o2 o3 : CmpOp} {r r' r'' : R2} (h1 : OpR X (compareOp o1) r) (h2 : OpR X (compareOp o2) r') (h3 : OpR X (compareOp o3) r'') (pa : PE X a ta) (pb : PE X b tb) (pc : PE X c tc) (pd : PE X d td)
    (hm : lastMarks [o1, o2, o3] [b, c, d] = false := by with_unfolding_all rfl) : PE X (.Compare a [o1, o2, o3] [b, c, d] pos) (tChain3 r r' r'' ta tb tc td) := ⟨fun pins s σ H Q I h => by
  refine Compare_chain (thn (pa.run pins s σ H _ I h) fun v s1 w1 => ?_) hm
  obtain ⟨x, H1, I1, r1, q1⟩ := w1
  refine chain_link (thn (pb.run pins s1 σ H1 _ I1 q1) fun u s2 w2 => ?_)
  obtain ⟨y, H2, I2, r2, q2⟩ := w2
  refine thn (h1 pins s2 σ H2 x y v u _ I2 r1 r2 q2) fun e s3 w3 => ?_
  obtain ⟨z, H3, I3, r3, k, ek, q3⟩ := w3
  subst ek
  cases r3
  refine wpAny_truthy_bool ?_
  cases k with
  | false => exact ite_ff ⟨.bl false, H3, I3, rfl, q3⟩
  | true =>
    refine ite_tt (chain_link (thn (pc.run pins s3 σ H3 _ I3 q3) fun u2 s4 w4 => ?_))
    obtain ⟨y2, H4, I4, r4, q4⟩ := w4
    refine thn (h2 pins s4 σ H4 y y2 u u2 _ I4 r2 r4 q4) fun e2 s5 w5 => ?_
    obtain ⟨z2, H5, I5, r5, k2, ek2, q5⟩ := w5
    subst ek2
    cases r5
    refine wpAny_truthy_bool ?_
    cases k2 with
    | false => exact ite_ff ⟨.bl false, H5, I5, rfl, q5⟩
    | true =>
      refine ite_tt (chain_last (thn (pd.run pins s5 σ H5 _ I5 q5) fun u3 s6 w6 => ?_))
      obtain ⟨y3, H6, I6, r6, q6⟩ := w6
      exact h3 pins s6 σ H6 y2 y3 u2 u3 Q I6 r4 r6 q6⟩
/-! ### powers and lowest terms -/
theorem pow_lt {x k m : Nat} (hx : x < 1024) (hk : k ≤ m) : x ^ k < 2 ^ (10 * m + 1) := by
  have h1 : x ^ k ≤ 1024 ^ k := Nat.pow_le_pow_left (by omega) k
  have h2 : (1024 : Nat) ^ k ≤ 1024 ^ m := Nat.pow_le_pow_right (by decide) hk
  have h3 : (1024 : Nat) ^ m = 2 ^ (10 * m) := by
    rw [show (1024 : Nat) = 2 ^ 10 by decide, ← Nat.pow_mul]
  have h4 : (2 : Nat) ^ (10 * m) < 2 ^ (10 * m + 1) := Nat.pow_lt_pow_right (by decide) (by omega)
  omega
theorem log_lt {n m : Nat} (h : n < 2 ^ m) (hm : 0 < m) : n.log2 < m := by
  by_cases h0 : n = 0
  · subst h0
    exact Nat.lt_of_le_of_lt (by decide) hm
  · exact (Nat.log2_lt h0).mpr h
theorem lowest {t w : Nat} (h : Nat.gcd t w = 1) (lt : t < w) (a b n : Nat) : Nat.gcd (t ^ a * (w - t) ^ b) (w ^ n) = 1 := by
  have c1 : Nat.Coprime t w := h
  have c2 : Nat.Coprime (w - t) w := by
    have d1 := Nat.gcd_dvd_left (w - t) w
    have d2 := Nat.gcd_dvd_right (w - t) w
    have d3 : Nat.gcd (w - t) w ∣ t := by
      have := Nat.dvd_sub d2 d1
      rw [show w - (w - t) = t by omega] at this
      exact this
    have d4 := Nat.dvd_gcd d3 d2
    rw [h] at d4
    exact Nat.eq_one_of_dvd_one d4
  exact (Nat.Coprime.pow a n c1).mul_left (Nat.Coprime.pow b n c2)
/-! ### tuples that stand in the heap: parts and sums stand there too -/
def rCatC : R2 := fun x y H Q => ∃ a b xs ys, x = .ref a ∧ y = .ref b ∧ H a = some (.tup xs) ∧ H b = some (.tup ys) ∧ xs.length + ys.length ≤ sizeLine ∧
  ∀ (p : Addr) (G : Hp), Same H G → G p = some (.tup (xs ++ ys)) → Q (.ref p) G
theorem op_catC {X : Cx} : OpR X (binaryOp .Add) rCatC := by
  intro pins s σ H x y v u Q I rx ry h
  obtain ⟨a, b, xs, ys, rfl, rfl, ha, hb, hz, q⟩ := h
  refine op_catA pins s σ H _ _ v u Q I rx ry ⟨a, b, xs, ys, rfl, rfl, .inl (.inl ha), .inl (.inl hb), hz, fun e => ?_, fun _ e => ?_, fun _ _ p np => ?_⟩
  · subst e
    exact q b H (Same.refl H) hb
  · subst e
    refine q a H (Same.refl H) ?_
    rw [List.append_nil]
    exact ha
  · exact q p _ (same_upd np) upd_same
def rSlC : V → Option Int → Option Int → Hp → VK → Prop := fun x lo hi H Q => ∃ a xs, x = .ref a ∧ H a = some (.tup xs) ∧ ∀ (p : Addr) (G : Hp), Same H G → G p = some (.tup (cutV xs lo hi)) → Q (.ref p) G
theorem sl_tupC {X : Cx} : SlR X rSlC := by
  intro pins s σ H x v vl vu lo hi sl Q I rx hs pl pu h
  obtain ⟨a, xs, rfl, ha, q⟩ := h
  refine sl_tupA pins s σ H _ v vl vu lo hi sl Q I rx hs pl pu ⟨a, xs, rfl, .inl (.inl ha), fun z => ?_, fun _ p np => ?_⟩
  · refine q a H (Same.refl H) ?_
    rw [cut_whole z]
    exact ha
  · exact q p _ (same_upd np) upd_same
end Lp
namespace Lp
open PySem PySem.Spec PyProof.Rows L2
open Builtin Builtin.Str Builtin.Int in
/-- sep.join of an iterator that goes backwards over a list of texts -/
theorem joinBack {prog : Program} {w : World} {A : Around} {E : Value → Shared → Prop} {s : Shared} {sep : Str} {t : Tok} {Q : Value → Shared → Prop} {it l : Addr} {vs : Array Value} (calm : A.handled = none)
    (h1 : s.heap.IsRevIter it l ((vs.size : Int) - 1)) (h2 : s.heap.IsList l vs) (ne : l ≠ it) (fits : vs.size ≤ sizeLine) (texts : ∀ v ∈ vs, ∃ y u, v = Value.str y u)
    (post : ∀ (g : Heap) (k : Nat) (ts : List (Str × Tok)), (∀ b o, b ≠ it → s.heap.get? b = some o → g.get? b = some o) → strValues ts = vs.toList.reverse →
      JoinOk sep (ts.map (·.1)) = true ∧ ∀ t2 k2, Q (.str (Txt.join sep (ts.map (·.1))) t2) { s with heap := g, toks := k2 }) :
    wpAny (model prog w) A (call (.builtin "str.join") [.str sep t, .ref it]) Q E s := by
  apply wpAny_call
  apply codeAny_call_builtin F.slot_str_join.plain F.entry_str_join
  apply F.slot_str_join.check _ _ _ _ _ _ _ _ (typeIs_str _ _ _) (F.args_str_join_2 _ _)
  rw [join_tree_other sep t it]
  apply wpAny_bind
  apply wpAny_typeOf h1.typeIs
  show wpAny _ A.in1 ((pyIter (.ref it)).tryCatch _ >>= fun z => collect z >>= fun us => joinTail sep us) _ _ s
  apply wpAny_bind
  apply wpAny_tryCatch
  apply wpAny_pyIter_revIter h1
  apply wpAny_bind
  apply RT.collect_rev (A := A.in1) calm h1 h2 ne fits
  intro g k acc keep got
  have back : acc.toList = vs.toList.reverse := by
    apply List.ext_getElem?
    intro j
    by_cases hj : j < vs.size
    · have ja : j < acc.size := by rw [got.1]; exact hj
      have e1 : acc[j]? = some acc[j] := Array.getElem?_eq_getElem ja
      have e2 := got.2 j _ e1
      rw [Array.getElem?_toList, e1, List.getElem?_reverse (by rw [Array.length_toList]; exact hj), Array.length_toList, Array.getElem?_toList, e2]
    · rw [List.getElem?_eq_none (by rw [Array.length_toList, got.1]; omega), List.getElem?_eq_none (by rw [List.length_reverse, Array.length_toList]; omega)]
  obtain ⟨ts, hts⟩ := exists_strValues acc.toList fun v hv => by
    rw [back] at hv
    exact texts v (by simpa using hv)
  rw [← hts]
  obtain ⟨ok, fin⟩ := post g k ts keep (hts.trans back)
  have ok2 := ok
  unfold JoinOk at ok2
  rw [Bool.not_eq_true'] at ok2
  have gv2 : Gives (joinTail sep (strValues ts)) (joinMade sep ts) := by
    clear fin ok post hts
    have gv := gives_joinTail sep ts ok2
    cases ts with
    | nil => exact gv
    | cons p r =>
      cases r with
      | nil => exact gv
      | cons p2 r2 => exact gv
  exact gv2 prog w A (wants Q E) { s with heap := g, toks := k } (post_join ts ⟨joinFit_length ok2, fin⟩)
/-- sep.join(reversed(xs)), xs a list of texts -/
def tJoinBack (K : PySem.W.Frag) (to te : TE) : TE := fun σ H Q => to σ H fun v H1 => ∃ sep : Str, v = .str sep ∧ te σ H1 fun u H2 => ∃ (a : Addr) (ws : List Str), u = .ref a ∧ SqL K H2 a (ws.map V.str) ∧ JoinOk sep ws.reverse = true ∧ Q (.str (Txt.join sep ws.reverse)) H2
section
variable {X : Cx} {o e : Expr} {to te : TE} {p pos apos cpos : Pos}
theorem pe_joinBack (calm : X.calm = true) (hg : Gl X "reversed") (hm : X.mg "reversed" = none) (ho : PE X o to) (he : PE X e te)
    (hbase : attributeBase o "join" X.env (eval o X.env) = eval o X.env := by rfl)
    (few : ((backTo cpos (starEach [.Call (.Name "reversed" p) [e] [] pos] X.env)).all (fun x => !x.1) && (backToKw cpos (keywordEach [] X.env)).all (fun x => x.1.isSome) && decide (([.Call (.Name "reversed" p) [e] [] pos] : List Expr).length + ([] : List Keyword).length + (if ([] : List Keyword).isEmpty then 0 else 1) < 30)) = true := by rfl)
    (line : (apos.endLine == cpos.line) = true := by rfl) (s1 : starEach [e] X.env = (false, eval e X.env) :: starEach [] X.env := by rfl)
    (s2 : starEach [.Call (.Name "reversed" p) [e] [] pos] X.env = (false, eval (.Call (.Name "reversed" p) [e] [] pos) X.env) :: starEach [] X.env := by rfl)
    (plain : (backTo cpos (starEach [] X.env)).any (·.1) = false := by rfl) :
    PE X (.Call (.Attribute o "join" apos) [.Call (.Name "reversed" p) [e] [] pos] [] cpos) (tJoinBack X.K to te) := ⟨fun pins s σ H Q I h => by
  refine wpAny_Call_method_late hbase few line rfl (thn (ho.run pins s σ H _ I h) fun v s1' y => ?_)
  obtain ⟨x, H1, J1, rx, sep, rfl, q1⟩ := y
  obtain ⟨tk, rfl⟩ : ∃ t, v = Value.str sep t := rx
  refine ⟨"str", _, PySem.F.plainAttrs_str, PySem.F.slot_str_join, PySem.F.type_str_join, typeIs_str _ _ _, fun _ z => (nomatch z), ?_⟩
  rw [s2]
  refine Calls.callWith_builtin (by show (false || (backTo cpos (starEach [] X.env)).any (·.1)) = false; rw [plain]; rfl) (Calls.evalArgs_plain ?_)
  show wpAny _ _ (spliced ((false, eval (.Call (.Name "reversed" p) [e] [] pos) X.env) :: backTo cpos (starEach [] X.env))) _ _ s1'
  refine Calls.spliced_cons (Call_ (ld_blt J1 hg hm PyProof.Rows.boot_reversed (PyProof.Rows.callWith_type1 (args_cons (thn (he.run pins s1' σ H1 _ J1 q1) fun u s2' y2 => args_nil ?_) s1) s1 rfl)))
  obtain ⟨z, H2, J2, rz, a, ws, rfl, hq, jok, fin⟩ := y2
  obtain rfl : u = Value.ref a := rz
  obtain ⟨its, rv, pl, hz⟩ := J2.list hq
  refine call_reversed_list pl.isList ?_
  have keep0 : ∀ b o2, s2'.heap.get? b = some o2 → (s2'.heap.push (revObj a ((its.toArray.size : Int) - 1))).get? b = some o2 := fun b o2 z => Heap.get?_push_of_some _ z
  have J3 : Inv X pins σ H2 { s2' with heap := s2'.heap.push (revObj a ((its.toArray.size : Int) - 1)) } := J2.kept (t' := s2'.toks) keep0
  obtain ⟨f0, f1, f2, f3, f4, f5⟩ := J2.fpOk (H' := H2) (b := s2'.heap.objs.size) (Nat.le_refl _) (J2.hok.fresh (Nat.le_refl _))
  have hl := pl.isList
  obtain ⟨ol, hol, _⟩ := id hl
  have ne : a ≠ s2'.heap.objs.size := Nat.ne_of_lt (Heap.lt_size hol)
  have fits : its.toArray.size ≤ sizeLine := by rw [List.size_toArray, ← rv.length]; exact hz
  have il := rv.length
  rw [List.length_map] at il
  refine Calls.spliced_nil (joinBack (s := { s2' with heap := s2'.heap.push (revObj a ((its.toArray.size : Int) - 1)) }) (J2.ok.hd calm) ⟨_, Heap.get?_push_size _ rfl, rfl, rfl⟩ (hl.push _) ne fits (fun v hv => ?_) fun g k ts keep hts => ?_)
  · obtain ⟨i, hi, rfl⟩ := Array.mem_iff_getElem.mp hv
    have hi2 : i < ws.length := by
      rw [List.size_toArray] at hi
      omega
    obtain ⟨w, hw, t2, ew⟩ := rv.get (i := i) (x := .str ws[i]) (by rw [List.getElem?_map, List.getElem?_eq_getElem hi2]; rfl)
    refine ⟨ws[i], t2, ?_⟩
    rw [← ew]
    have := (List.getElem?_eq_some_iff.mp hw).2
    rw [← this]
    simp
  · have et : ts.map (·.1) = ws.reverse := by
      have e1 : ts.length = ws.length := by
        have := congrArg List.length hts
        unfold strValues at this
        rw [List.length_map, List.length_reverse] at this
        rw [this, il]
      refine List.ext_getElem? fun j => ?_
      by_cases hj : j < ws.length
      · have hj2 : j < ts.length := by omega
        have hr : ws.length - 1 - j < ws.length := by omega
        rw [List.getElem?_map, List.getElem?_eq_getElem hj2, List.getElem?_reverse hj, List.getElem?_eq_getElem hr]
        have h4 : (strValues ts)[j]? = its.reverse[j]? := by rw [hts]
        unfold strValues at h4
        rw [List.getElem?_map, List.getElem?_eq_getElem hj2, List.getElem?_reverse (by omega), ← il] at h4
        obtain ⟨w, hw, t2, ew⟩ := rv.get (i := ws.length - 1 - j) (x := .str ws[ws.length - 1 - j]) (by rw [List.getElem?_map, List.getElem?_eq_getElem hr]; rfl)
        rw [hw, ew] at h4
        have h5 := Option.some.inj h4
        have h6 : ts[j].1 = ws[ws.length - 1 - j] := (Value.str.inj h5).1
        show some ts[j].1 = some _
        rw [h6]
      · rw [List.getElem?_eq_none (by rw [List.length_map]; omega), List.getElem?_eq_none (by rw [List.length_reverse]; omega)]
    rw [et]
    refine ⟨jok, fun t2 k2 => ?_⟩
    have J4 : Inv X pins σ H2 { s2' with heap := g, toks := k2 } := J3.turned (t' := k2) (fun b o2 hb z => keep b o2 hb z) f0 f1 f3 f4 f5
    exact ⟨.str _, H2, J4, ⟨_, rfl⟩, fin⟩⟩
end
end Lp
namespace Lp
open PySem PySem.Spec PyProof.Rows L2
/-! ### defs with parameters behind a star that have defaults -/
abbrev FnK (K : PySem.W.Frag) (x : Str) (st : Stmt) (kws : List (Str × V)) (f : Addr) (fd : FuncData) : Prop := FunD K x x (defArgs st) (defBody st) (defScope st) [] kws f fd
structure DfK (K : PySem.W.Frag) (mg : Str → Option Value) (x : Str) (st : Stmt) (kws : List (Str × V)) : Prop where
  ex : ∃ f fd, FnK K x st kws f fd ∧ mg x = some (.ref f)
structure ClK (P : Program) (w : World) (K : PySem.W.Frag) (mg : Str → Option Value) (base : Heap) (k : Nat) (x : Str) (st : Stmt) (ps : List Str) (kws : List (Str × V)) (sp : Sp) : Prop where
  ex : ∃ f fd, FnK K x st kws f fd ∧ FnOk P w K mg base CX0 k f fd ps sp ∧ mg x = some (.ref f) ∧ ∃ ds, Vals (kws.map (·.2)) ds ∧ Binds K fd ps ds
section
variable {P : Program} {w : World} {K : PySem.W.Frag} {mg : Str → Option Value} {base : Heap} {x : Str} {st : Stmt} {N ps : List Str} {k : Nat} {sp : Sp} {kws : List (Str × V)}
theorem DfK.ok (D : DfK K mg x st kws) (S : FnScope N ps (defScope st)) (n : Nat) (hk : kws ≠ []) (hn : n + kws.length = ps.length)
    (bd : ∀ (D : Addr) (doc pm : Value) (an : Option Addr) (cdv ct : Value) (us ks : List Value), us.length = n → ks.length = kws.length →
      KwChain D ((kws.map (·.1)).zip ks) (bindArgs (PySem.W.fnOf x x (defArgs st) (defBody st) (defScope st) .none (.ref D) doc pm an cdv ct) ⟨us, []⟩) (ps.zip (us ++ ks)))
    (len : ∀ vs H Q E, sp vs H Q E → vs.length = ps.length)
    (body : ∀ (f : Addr) (cdv : Value) (A : Around) (outer : List Env) (s : Shared) (H : Hp) (vs : List V) (Q : VK) (E : XK), Room k (A.deeper (envOfC x (defScope st) s.heap.objs.size f cdv)) → sp vs H Q E →
      ∃ t, PSs (cxOf CX0 P w K mg base N x (defScope st) f cdv A outer s H E).nox (defBody st) t ∧ t { nx := fun _ H' => Q .non H', rt := Q } (start N vs) H) : ClK P w K mg base (k + 1) x st ps kws sp := by
  obtain ⟨f, fd, F, hm⟩ := D.ex
  refine ⟨f, fd, F, F.ok S len fun cdv A outer s H vs Q E hr h => ?_, hm, F.binds0 n hk hn bd⟩
  obtain ⟨t, ht, hg⟩ := body f cdv A outer s H vs Q E hr h
  exact ⟨t, ht.nox, hg⟩
end
section
variable {X : Cx} {x : Str} {st : Stmt} {ps : List Str} {j k : Nat} {sp : Sp} {e : Expr} {es : List Expr} {t : TA} {p pos : Pos} {kws : List (Str × V)}
/-- f(e, ..), the others by their defaults -/
theorem pe_ud (c : ClK X.prog X.w X.K X.mg X.base k x st ps kws sp) (hr : Room j X.A) (hk : k ≤ j) (hg : Gl X x) (ha : PA X (e :: es) t)
    (hdb : (x == ("__debug__" : Str)) = false := by decide) (he : starEach (e :: es) X.env = (false, eval e X.env) :: starEach es X.env := by rfl) (hpl : (backTo pos (starEach es X.env)).any (·.1) = false := by rfl) :
    PE X (.Call (.Name x p) (e :: es) [] pos) (tCall sp (kws.map (·.2)) E0 t) := by
  obtain ⟨f, fd, F, G, hm, ds, rv, b⟩ := c.ex
  exact pe_call G (hr.mono hk) hg hm F.kp b rv pass0 ha hdb he hpl
end
/-! ### {key: value} with a tuple as its key -/
def tDisp1 (tk tv : TE) : TE := fun σ H Q => ∀ p, H p = none → tk σ (upd H p (.dT [])) fun kx H1 => tv σ H1 fun vx H2 => H2 p = some (.dT []) ∧ ∃ (b : Addr) (key : List L2.Key), kx = .ref b ∧ H2 b = some (.tup (key.map L2.kV)) ∧ Q (.ref p) (upd H2 p (.dT [(key, vx)]))
theorem pe_disp1 {X : Cx} {k v : Expr} {pos : Pos} {tk tv : TE} (hu : X.A.units + 1 < cLine) (hk : PE X k tk) (hv : PE X v tv) : PE X (.Dict [some k] [v] pos) (tDisp1 tk tv) := ⟨fun pins s σ H Q I q => by
  have new := I.hok.fresh (Nat.le_refl s.heap.objs.size)
  have J := I.laid (a := s.heap.objs.size) (o := .dT []) (h' := s.heap.push { cls := .type "dict", data := .dict #[] }) (t' := s.toks) (fun _ _ z => Heap.get?_push_of_some _ z) (Nat.le_refl _) (dt_empty s.heap I.big)
  refine wpAny_Dict_any rfl rfl (by simp) (show 1 ≤ 15 by decide) (pairTrees_cons_walk (thn (hk.run pins _ σ _ _ J (q _ new)) fun kv s1 y1 => ?_))
  obtain ⟨kx, H1, J1, rk, q1⟩ := y1
  refine thn (hv.run pins s1 σ H1 _ J1 q1) fun vv s2 y2 => ?_
  obtain ⟨vx, H2, J2, rv, e, b, key, rfl, hb, fin⟩ := y2
  obtain rfl : kv = Value.ref b := rk
  refine pairTrees_nil_walk ?_
  obtain ⟨z, hd, xs, rel, dd⟩ := dt_of J2.hok e
  have hx : xs = [] := List.length_eq_zero_iff.mp (by rw [← Paired.length rel]; rfl)
  subst hx
  unfold storeAll
  simp only [List.forIn_cons, List.forIn_nil]
  refine wpAny_bind (wpAny_bind (wpAny_dictSet_heap (hsz := by simp) (show X.A.units < cLine by omega) (key_of J2.hok hb) dd fun h' dd' hs => wpAny_pure (wpAny_pure ?_)))
  obtain ⟨q', es, ep, hq, h2, h3, h4, _, h5⟩ := dd'
  refine ⟨.ref s.heap.objs.size, upd H2 s.heap.objs.size (.dT [(key, vx)]), d_write J2 (by rw [e]; exact True.intro) hs ⟨q', hq⟩ ⟨show 1 ≤ sizeLine by decide, hd, _, (rel.put key hb rv).keeps fun c ys ec => ?_, q', es, ep, hq, h2, h3, h4, h5⟩, rfl, fin⟩
  rw [upd_ne (ne_of ec e (fun z => nomatch z))]
  exact ec⟩
end Lp
namespace Lp
open PySem PySem.Spec PyProof.Rows L2
/-! ### the rows that can be reached: mathematics -/
structure ReachI (ns : List Int) (i : Nat) (ls ms : List (List Int)) : Prop where
  sub : ∀ l ∈ ls, l ∈ ms
  frm : ∀ m ∈ ms, ∃ w : List Bool, w.length ≤ i ∧ afterL w ns = m
  all : ∀ w : List Bool, w.length ≤ i → afterL w ns ∈ ms
  cl : ∀ m ∈ ms, m ∈ ls ∨ ∀ b, passL b m ∈ ms
  nl : ls.length ≤ 2 ^ i
  nm : ms.length + 1 ≤ 2 ^ (i + 1)
structure ReachJ (ls ms fs : List (List Int)) (k : Nat) : Prop where
  src : ∀ f ∈ fs, ∃ l ∈ ls, ∃ b, f = passL b l
  done : ∀ (x : Nat) (b : Bool), 2 * x + b.toNat < k → ∀ l, ls[x]? = some l → passL b l ∈ ms ++ fs
  cnt : fs.length ≤ k
theorem after_snoc (w : List Bool) (b : Bool) (ns : List Int) : afterL (w ++ [b]) ns = passL b (afterL w ns) := by
  rw [afterL_app]
  rfl
theorem reachI_zero {ns : List Int} : ReachI ns 0 [ns] [ns] where
  sub := fun l h => h
  frm := fun m h => ⟨[], Nat.le_refl _, (List.mem_singleton.mp h).symm⟩
  all := fun w h => by
    rw [List.length_eq_zero_iff.mp (Nat.le_zero.mp h)]
    exact List.mem_singleton.mpr rfl
  cl := fun m h => .inl h
  nl := Nat.le_refl 1
  nm := Nat.le_refl 2
theorem reachJ_zero {ls ms : List (List Int)} : ReachJ ls ms [] 0 where
  src := fun f h => nomatch h
  done := fun x b h => absurd h (Nat.not_lt_zero _)
  cnt := Nat.le_refl _
theorem two_split {x j : Nat} {a b : Bool} (h : 2 * x + a.toNat < 2 * j + b.toNat + 1) : 2 * x + a.toNat < 2 * j + b.toNat ∨ (x = j ∧ a = b) := by
  cases a <;> cases b <;> simp at h ⊢ <;> omega
theorem ReachJ.old {ls ms fs : List (List Int)} {j : Nat} {b : Bool} (r : ReachJ ls ms fs (2 * j + b.toNat)) {l : List Int} (hl : ls[j]? = some l) (h : passL b l ∈ ms ++ fs) : ReachJ ls ms fs (2 * j + b.toNat + 1) where
  src := r.src
  done := fun x a hx l2 h2 => by
    rcases two_split hx with z | ⟨rfl, rfl⟩
    · exact r.done x a z l2 h2
    · rw [hl] at h2
      cases h2
      exact h
  cnt := Nat.le_succ_of_le r.cnt
theorem ReachJ.new {ls ms fs : List (List Int)} {j : Nat} {b : Bool} (r : ReachJ ls ms fs (2 * j + b.toNat)) {l : List Int} (hl : ls[j]? = some l) : ReachJ ls ms (fs ++ [passL b l]) (2 * j + b.toNat + 1) where
  src := fun f hf => by
    rcases List.mem_append.mp hf with z | z
    · exact r.src f z
    · rw [List.mem_singleton.mp z]
      exact ⟨l, List.mem_of_getElem? hl, b, rfl⟩
  done := fun x a hx l2 h2 => by
    rw [← List.append_assoc]
    rcases two_split hx with z | ⟨rfl, rfl⟩
    · exact List.mem_append_left _ (r.done x a z l2 h2)
    · rw [hl] at h2
      cases h2
      exact List.mem_append_right _ (List.mem_singleton.mpr rfl)
  cnt := by
    rw [List.length_append, List.length_singleton]
    exact Nat.succ_le_succ r.cnt
theorem ReachI.next {ns : List Int} {i : Nat} {ls ms fs : List (List Int)} (r : ReachI ns i ls ms) (t : ReachJ ls ms fs (2 * ls.length)) : ReachI ns (i + 1) fs (ms ++ fs) where
  sub := fun l h => List.mem_append_right _ h
  frm := fun m h => by
    rcases List.mem_append.mp h with z | z
    · obtain ⟨w, hw, e⟩ := r.frm m z
      exact ⟨w, by omega, e⟩
    · obtain ⟨l, hl, b, rfl⟩ := t.src m z
      obtain ⟨w, hw, e⟩ := r.frm l (r.sub l hl)
      exact ⟨w ++ [b], by rw [List.length_append, List.length_singleton]; omega, by rw [after_snoc, e]⟩
  all := fun w hw => by
    by_cases h : w.length ≤ i
    · exact List.mem_append_left _ (r.all w h)
    · obtain ⟨u, b, rfl⟩ := snoc_of (show 1 ≤ w.length by omega)
      rw [List.length_append, List.length_singleton] at hw
      rw [after_snoc]
      rcases r.cl _ (r.all u (by omega)) with z | z
      · obtain ⟨x, hx⟩ := List.mem_iff_getElem?.mp z
        have lt := (List.getElem?_eq_some_iff.mp hx).1
        exact t.done x b (by have := Bool.toNat_lt b; omega) _ hx
      · exact List.mem_append_left _ (z b)
  cl := fun m h => by
    rcases List.mem_append.mp h with z | z
    · rcases r.cl m z with y | y
      · obtain ⟨x, hx⟩ := List.mem_iff_getElem?.mp y
        have lt := (List.getElem?_eq_some_iff.mp hx).1
        exact .inr fun b => t.done x b (by have := Bool.toNat_lt b; omega) _ hx
      · exact .inr fun b => List.mem_append_left _ (y b)
    · exact .inl z
  nl := by
    have := t.cnt
    have := r.nl
    rw [Nat.pow_succ]
    omega
  nm := by
    have := t.cnt
    have := r.nl
    have := r.nm
    rw [List.length_append, Nat.pow_succ, Nat.pow_succ] at *
    omega
/-! ### its dict -/
abbrev kyI (l : List Int) : List L2.Key := l.map Sum.inl
theorem kyI_V (l : List Int) : (kyI l).map L2.kV = l.map V.int := by
  rw [List.map_map]
  rfl
theorem kyI_inj {a b : List Int} (h : kyI a = kyI b) : a = b := (List.map_inj_right fun x y z => Sum.inl.inj z).mp h
abbrev kvI (ms : List (List Int)) : List (List L2.Key × V) := ms.map fun m => (kyI m, V.bl true)
theorem kvI_has (ms : List (List Int)) (m : List Int) : (valV (kvI ms) (kyI m)).isSome = decide (m ∈ ms) := by
  rw [← valV_any, Bool.eq_iff_iff, List.any_eq_true, decide_eq_true_iff]
  constructor
  · rintro ⟨p, hp, e⟩
    obtain ⟨x, hx, rfl⟩ := List.mem_map.mp hp
    rw [← kyI_inj (of_decide_eq_true e)]
    exact hx
  · intro h
    exact ⟨(kyI m, V.bl true), List.mem_map.mpr ⟨m, h, rfl⟩, decide_eq_true rfl⟩
theorem kvI_keys {H : Hp} : ∀ {ms : List (List Int)} {bs : List Addr}, IsKeys H (kvI ms) bs → Each (fun b m => H b = some (.tup (m.map V.int))) bs ms
  | [], _, .nil => trivial
  | _ :: _, _, .cons h t => ⟨h.trans (by show some (HO.tup ((kyI _).map L2.kV)) = _; rw [kyI_V]), kvI_keys t⟩
theorem perm_map_of {α β : Type} {f : α → β} {ys zs : List β} (p : ys.Perm zs) : ∀ l : List α, zs = l.map f → ∃ us : List α, ys = us.map f ∧ us.Perm l := by
  induction p with
  | nil =>
    intro l e
    exact ⟨[], rfl, by rw [List.map_eq_nil_iff.mp e.symm]⟩
  | cons x _ ih =>
    intro l e
    match l, e with
    | a :: l, e =>
      obtain ⟨e1, e2⟩ := List.cons.inj e
      obtain ⟨us, h1, h2⟩ := ih l e2
      exact ⟨a :: us, by rw [List.map_cons, h1, e1], .cons a h2⟩
  | swap x y l0 =>
    intro l e
    match l, e with
    | a :: b :: l, e =>
      obtain ⟨e1, e2⟩ := List.cons.inj e
      obtain ⟨e3, e4⟩ := List.cons.inj e2
      exact ⟨b :: a :: l, by rw [List.map_cons, List.map_cons, e1, e3, e4], .swap ..⟩
  | trans _ _ ih1 ih2 =>
    intro l e
    obtain ⟨vs, h1, h2⟩ := ih2 l e
    obtain ⟨us, h3, h4⟩ := ih1 vs h1
    exact ⟨us, h3, h4.trans h2⟩
theorem each_perm {β : Type} {R : Addr → β → Prop} {rs bs : List Addr} (p : rs.Perm bs) : ∀ ms : List β, Each R bs ms → ∃ ks : List β, ks.Perm ms ∧ Each R rs ks := by
  induction p with
  | nil => exact fun ms h => ⟨ms, .refl _, h⟩
  | cons x _ ih =>
    intro ms h
    match ms, h with
    | m :: ms, ⟨h1, h2⟩ =>
      obtain ⟨ks, k1, k2⟩ := ih ms h2
      exact ⟨m :: ks, .cons m k1, h1, k2⟩
  | swap x y l =>
    intro ms h
    match ms, h with
    | m :: n :: ms, ⟨h1, h2, h3⟩ => exact ⟨n :: m :: ms, .swap .., h2, h1, h3⟩
  | trans _ _ ih1 ih2 =>
    intro ms h
    obtain ⟨ks, k1, k2⟩ := ih2 ms h
    obtain ⟨js, j1, j2⟩ := ih1 ks k2
    exact ⟨js, j1.trans k1, j2⟩
theorem each_mem {β : Type} {R : Addr → β → Prop} : ∀ {rs : List Addr} {ms : List β} {r : Addr}, Each R rs ms → r ∈ rs → ∃ m ∈ ms, R r m
  | _ :: _, _ :: _, _, ⟨h1, h2⟩, h => by
    rcases List.mem_cons.mp h with rfl | z
    · exact ⟨_, List.mem_cons_self .., h1⟩
    · obtain ⟨m, a, b⟩ := each_mem h2 z
      exact ⟨m, List.mem_cons_of_mem _ a, b⟩
end Lp
namespace Lp
open PySem PySem.Spec PyProof.Rows L2
/-! ### x in t, t a tuple of rows -/
section
variable {X : Cx}
abbrev dRow (m : List Int) : PyData := .tuple (m.map PyData.int)
def rInRows (K : PySem.W.Frag) : R2 := fun x y H Q => ∃ (m : List Int) (ms : List (List Int)), Dp K H x (dRow m) ∧ Dp K H y (.tuple (ms.map dRow)) ∧ Q (.bl (decide (m ∈ ms))) H
theorem rows_lay : ∀ ms : List (List Int), PyData.canLayAll0 (ms.map dRow) = true
  | [] => by simp only [List.map_nil, PyData.canLayAll0]
  | m :: ms => by simp only [List.map_cons, PyData.canLayAll0, PyData.canLay0, lay_ints, rows_lay ms, Bool.and_self]
theorem rows_any (m : List Int) (ms : List (List Int)) : ((ms.map dRow).any fun z => PyData.eqv z (dRow m)) = decide (m ∈ ms) := by
  rw [List.any_map, Bool.eq_iff_iff, List.any_eq_true, decide_eq_true_iff]
  constructor
  · rintro ⟨k, hk, e⟩
    have e2 : decide (k = m) = true := by rw [← eqv_rows]; exact e
    exact of_decide_eq_true e2 ▸ hk
  · intro h
    exact ⟨m, h, (eqv_rows m m).trans (decide_eq_true rfl)⟩
theorem op_inRows (hu : X.A.units + 65 < cLine) : OpR X (compareOp .In) (rInRows X.K) := fun pins s σ H x y v u Q I rx ry h => by
  obtain ⟨m, ms, dx, dy, fin⟩ := h
  have sm := shaped_row m
  obtain ⟨one, here⟩ := Dp.reads I _ x v dx rx
  obtain ⟨all, there⟩ := Dp.reads I _ y u dy ry
  refine SeqAt.in_tuple_reads there here (by simp only [PyData.canLay0, rows_lay]) (SeqAt.canLay_of_shaped sm) (room_in_shaped sm hu) ⟨.bl _, H, I, rfl, ?_⟩
  rw [rows_any]
  exact fin
end
theorem Dp_rowsAt {K : PySem.W.Frag} {H : Hp} : ∀ {rs : List Addr} {ms : List (List Int)}, Each (fun r m => H r = some (.tup (m.map V.int))) rs ms → DpAll K H (rs.map V.ref) (ms.map dRow)
  | [], [], _ => .nil
  | _ :: _, _ :: _, h => .cons (Dp_row (.inl (.inl h.1))) (Dp_rowsAt h.2)
theorem Dp_table {K : PySem.W.Frag} {H : Hp} {p : Addr} {rs : List Addr} {ms : List (List Int)} (h : H p = some (.tup (rs.map V.ref))) (e : Each (fun r m => H r = some (.tup (m.map V.int))) rs ms) : Dp K H (.ref p) (.tuple (ms.map dRow)) := .tup (.inl (.inl h)) (Dp_rowsAt e)
/-! ### a text ends with a text -/
theorem ends_wd (v u : List Bool) : Txt.endswith (wd (v ++ u)) (wd u) = true := by
  have e : (wd (v ++ u)).cps = (wd v).cps ++ (wd u).cps := by rw [← wd_app]; rfl
  have l1 : (wd (v ++ u)).length = (wd v).cps.size + (wd u).cps.size := by
    show (wd (v ++ u)).cps.size = _
    rw [e, Array.size_append]
  have l2 : (wd u).length = (wd u).cps.size := rfl
  unfold Txt.endswith Builtin.Str.subAt
  rw [l1, l2, e, Bool.and_eq_true, Nat.add_sub_cancel]
  refine ⟨decide_eq_true (by omega), ?_⟩
  simp [Array.extract_append]
/-! ### the head's fact of a def with defaults behind a star -/
def mkDK (x : Str) (st : Stmt) (kd : List (Str × He.Dv)) : He.DefD := ⟨(x, none), x, x, defArgs st, defBody st, defScope st, [], kd⟩
theorem DfK.of {K : PySem.W.Frag} {mg : Str → Option Value} {h : Heap} {fa : List He.Fa} {fn : List He.DefD} {x : Str} {st : Stmt} {kd : List (Str × He.Dv)} (X : K.In h) (G : h.Ns mainGlobals mg) (c : He.SaysD fa fn K) (i : Nat) (hi : fn[i]? = some (mkDK x st kd)) (hj : fa[i]? = some (.glo x)) : DfK K mg x st (kd.map fun p => (p.1, He.Dv.v K p.2)) := by
  obtain ⟨fd, F⟩ := c.def_ i hi
  exact ⟨_, fd, F, He.glo_ok X G (c.fact i hj)⟩
end Lp
namespace Lp
open PySem PySem.Spec PyProof.Rows L2
/-! ### f(e, .., k = v, ..): all parameters behind the star are given -/
section
variable {X : Cx} {x : Str} {st : Stmt} {ps ks : List Str} {j k n : Nat} {sp : Sp} {e : Expr} {es : List Expr} {t tk : TA} {p pos : Pos} {kws : List (Str × V)} {ky : List Keyword}
theorem pe_udk (n : Nat) (ks : List Str) (c : ClK X.prog X.w X.K X.mg X.base k x st ps kws sp) (hr : Room j X.A) (hk : k ≤ j) (hg : Gl X x) (h0 : kws ≠ [])
    (bd : ∀ (D : Addr) (doc pm : Value) (an : Option Addr) (cdv ct : Value) (us ws : List Value), us.length = n → ws.length = ks.length → bindArgs (PySem.W.fnOf x x (defArgs st) (defBody st) (defScope st) .none (.ref D) doc pm an cdv ct) ⟨us, ks.zip ws⟩ = pure (ps.zip (us ++ ws)))
    (ha : PA X (e :: es) t) (hkw : PK X ky tk)
    (hall : (backToKw pos (keywordEach ky X.env)).all (·.1.isSome) = true := by rfl) (hks : (backToKw pos (keywordEach ky X.env)).filterMap (·.1) = ks := by rfl) (hdb : (x == ("__debug__" : Str)) = false := by decide) (he : starEach (e :: es) X.env = (false, eval e X.env) :: starEach es X.env := by rfl)
    (hpl : ((backTo pos (starEach (e :: es) X.env)).any (·.1) || (backToKw pos (keywordEach ky X.env)).any (·.1.isNone)) = false := by rfl) : PE X (.Call (.Name x p) (e :: es) ky pos) (tCallN n ks.length sp (fun vs zs => vs ++ zs) E0 t tk) := by
  obtain ⟨f, fd, F, G, hm, _⟩ := c.ex
  obtain ⟨mv, kb⟩ := F.kbinds0 (ps := ps) n ks [] (fun us _ ws => us ++ ws) h0 (fun q z => nomatch z) (fun a _ b => Vals.append a b) (fun D doc pm an cdv ct us mv ws l1 l2 l3 => by
    have e0 : mv = [] := List.length_eq_zero_iff.mp l2
    subst e0
    exact bd D doc pm an cdv ct us ws l1 l3)
  exact pe_callN G (hr.mono hk) hg hm F.kp kb pass0 ha hkw hall hks hdb he hpl
end
theorem each_pairwise {β : Type} {R : Addr → β → Prop} {S : β → β → Prop} {T : V → V → Prop} (h : ∀ r s m n, R r m → R s n → T (.ref r) (.ref s) → S m n) : ∀ {us : List Addr} {ks : List β}, Each R us ks → (us.map V.ref).Pairwise T → ks.Pairwise S
  | [], [], _, _ => .nil
  | r :: us, m :: ks, ⟨h1, h2⟩, p => by
    rw [List.map_cons, List.pairwise_cons] at p
    refine .cons (fun n hn => ?_) (each_pairwise h h2 p.2)
    obtain ⟨i, hi⟩ := List.mem_iff_getElem?.mp hn
    have lt : i < us.length := by
      rw [h2.len]
      exact (List.getElem?_eq_some_iff.mp hi).1
    obtain ⟨n2, hn2, hr⟩ := h2.get (List.getElem?_eq_getElem lt)
    have e : n2 = n := Option.some.inj (hn2.symm.trans hi)
    subst e
    exact h _ _ _ _ h1 hr (p.1 _ (List.mem_map.mpr ⟨_, List.getElem_mem lt, rfl⟩))
theorem PE.by {X : Cx} {e : Expr} {t t' : TE} (h : PE X e t) (i : ∀ σ H Q, t' σ H Q → t σ H Q) : PE X e t' := ⟨fun pins s σ H Q I q => h.run pins s σ H Q I (i σ H Q q)⟩
/-! ### how many passes may be made -/
def pV : Option Nat → V
  | none => .non
  | some p => .int (p : Nat)
def mostP (n : Nat) : Option Nat → Nat
  | none => n - 1
  | some p => min p (n - 1)
theorem mostP_le (n : Nat) (o : Option Nat) : mostP n o ≤ n - 1 := by
  cases o with
  | none => exact Nat.le_refl _
  | some p => exact Nat.min_le_right ..
end Lp
namespace Lp
open PySem PySem.Spec PyProof.Rows L2
/-! ### a search by rounds finds shortest words: mathematics -/
theorem nodup_le {α : Type} [DecidableEq α] : ∀ (l m : List α), l.Nodup → (∀ x ∈ l, x ∈ m) → l.length ≤ m.length
  | [], _, _, _ => Nat.zero_le _
  | a :: l, m, nd, sub => by
    rw [List.nodup_cons] at nd
    have am := sub a (List.mem_cons_self ..)
    have ih := nodup_le l (m.erase a) nd.2 fun x hx => (List.mem_erase_of_ne (fun (e : x = a) => nd.1 (e ▸ hx))).mpr (sub x (List.mem_cons_of_mem _ hx))
    have := List.length_erase_of_mem am
    have := List.length_pos_of_mem am
    rw [List.length_cons]
    omega
structure Bfs (ns : List Int) (ws : List (List Bool)) (k : Nat) : Prop where
  fst : ws[0]? = some []
  nod : (ws.map fun w => afterL w ns).Nodup
  done : ∀ (x : Nat) (b : Bool), 2 * x + b.toNat < k → ∀ w, ws[x]? = some w → passL b (afterL w ns) ∈ ws.map fun w => afterL w ns
  asc : ws.Pairwise fun u v => u.length ≤ v.length
  near : ∀ (x : Nat) (w : List Bool), k ≤ 2 * x + 1 → ws[x]? = some w → ∀ v ∈ ws, v.length ≤ w.length + 1
  least : ∀ w ∈ ws, ∀ u, afterL u ns = afterL w ns → w.length ≤ u.length
theorem bfs_zero {ns : List Int} : Bfs ns [[]] 0 where
  fst := rfl
  nod := by simp
  done := fun x b h => absurd h (Nat.not_lt_zero _)
  asc := List.pairwise_singleton ..
  near := fun x w _ hx v hv => by
    rw [List.mem_singleton.mp hv]
    exact Nat.zero_le _
  least := fun w hw u _ => by
    rw [List.mem_singleton.mp hw]
    exact Nat.zero_le _
theorem pair_get {α : Type} {R : α → α → Prop} {l : List α} (p : l.Pairwise R) {i j : Nat} {x y : α} (h : i < j) (hx : l[i]? = some x) (hy : l[j]? = some y) : R x y := by
  obtain ⟨hi, rfl⟩ := List.getElem?_eq_some_iff.mp hx
  obtain ⟨hj, rfl⟩ := List.getElem?_eq_some_iff.mp hy
  exact List.pairwise_iff_getElem.mp p i j hi hj h
/-- what fewer passes reach is known -/
theorem Bfs.known {ns : List Int} {ws : List (List Bool)} {at_ : Nat} {b : Bool} (r : Bfs ns ws (2 * at_ + b.toNat)) {w : List Bool} (hw : ws[at_]? = some w) : ∀ (k : Nat) (u : List Bool), u.length = k → k ≤ w.length → afterL u ns ∈ ws.map fun w => afterL w ns
  | 0, u, h, _ => by
    rw [List.length_eq_zero_iff.mp h]
    exact List.mem_map.mpr ⟨[], List.mem_of_getElem? r.fst, rfl⟩
  | k + 1, u, h, le => by
    obtain ⟨v, c, rfl⟩ := snoc_of (show 1 ≤ u.length by omega)
    rw [List.length_append, List.length_singleton] at h
    obtain ⟨z, hz, ez⟩ := List.mem_map.mp (r.known hw k v (by omega) (by omega))
    have lz := r.least z hz v ez.symm
    obtain ⟨x, hx⟩ := List.mem_iff_getElem?.mp hz
    have lt : x < at_ := by
      refine Nat.lt_of_not_le fun g => ?_
      rcases Nat.lt_or_eq_of_le g with g | g
      · have := pair_get r.asc g hw hx
        omega
      · subst g
        have e : w = z := Option.some.inj (hw.symm.trans hx)
        subst e
        omega
    rw [after_snoc, ← ez]
    exact r.done x c (by have := Bool.toNat_lt c; omega) z hx
theorem Bfs.old {ns : List Int} {ws : List (List Bool)} {at_ : Nat} {b : Bool} (r : Bfs ns ws (2 * at_ + b.toNat)) {w : List Bool} (hw : ws[at_]? = some w) (h : passL b (afterL w ns) ∈ ws.map fun w => afterL w ns) : Bfs ns ws (2 * at_ + b.toNat + 1) where
  fst := r.fst
  nod := r.nod
  done := fun x a hx v hv => by
    rcases two_split hx with z | ⟨rfl, rfl⟩
    · exact r.done x a z v hv
    · rw [hw] at hv
      cases hv
      exact h
  asc := r.asc
  near := fun x v hx hv u hu => by
    exact r.near x v (by omega) hv u hu
  least := r.least
theorem Bfs.new {ns : List Int} {ws : List (List Bool)} {at_ : Nat} {b : Bool} (r : Bfs ns ws (2 * at_ + b.toNat)) {w : List Bool} (hw : ws[at_]? = some w) (h : passL b (afterL w ns) ∉ ws.map fun w => afterL w ns) : Bfs ns (ws ++ [w ++ [b]]) (2 * at_ + b.toNat + 1) := by
  have le : ∀ v ∈ ws, v.length ≤ w.length + 1 := r.near at_ w (by have := Bool.toNat_lt b; omega) hw
  have al : at_ < ws.length := (List.getElem?_eq_some_iff.mp hw).1
  have nl : (w ++ [b]).length = w.length + 1 := by rw [List.length_append, List.length_singleton]
  have bl := Bool.toNat_lt b
  have get : ∀ {x : Nat} {v : List Bool}, (ws ++ [w ++ [b]])[x]? = some v → ws[x]? = some v ∨ (x = ws.length ∧ v = w ++ [b]) := fun {x v} hx => by
    by_cases g : x < ws.length
    · rw [List.getElem?_append_left g] at hx
      exact .inl hx
    · have lx := (List.getElem?_eq_some_iff.mp hx).1
      rw [List.length_append, List.length_singleton] at lx
      have ex : x = ws.length := by omega
      subst ex
      rw [List.getElem?_append_right (Nat.le_refl _), Nat.sub_self] at hx
      exact .inr ⟨rfl, (Option.some.inj hx).symm⟩
  refine ⟨?_, ?_, ?_, ?_, ?_, ?_⟩
  · rw [List.getElem?_append_left (by omega)]
    exact r.fst
  · rw [List.map_append]
    refine List.nodup_append.mpr ⟨r.nod, by simp, fun x hx y hy z => h ?_⟩
    rw [← after_snoc, ← List.mem_singleton.mp (show y ∈ [afterL (w ++ [b]) ns] from hy), ← z]
    exact hx
  · intro x a hx v hv
    rw [List.map_append]
    rcases get hv with g | ⟨e1, e2⟩
    · rcases two_split hx with z | ⟨rfl, rfl⟩
      · exact List.mem_append_left _ (r.done x a z v g)
      · rw [hw] at g
        cases g
        refine List.mem_append_right _ ?_
        rw [← after_snoc]
        exact List.mem_singleton.mpr rfl
    · omega
  · refine List.pairwise_append.mpr ⟨r.asc, List.pairwise_singleton .., fun u hu v hv => ?_⟩
    rw [List.mem_singleton.mp hv, nl]
    exact le u hu
  · intro x v hx hv u hu
    have lu : u.length ≤ w.length + 1 := by
      rcases List.mem_append.mp hu with g | g
      · exact le u g
      · rw [List.mem_singleton.mp g, nl]
        exact Nat.le_refl _
    rcases get hv with g | ⟨e1, e2⟩
    · rcases Nat.lt_or_eq_of_le (show at_ ≤ x by omega) with y | y
      · have e2 := pair_get r.asc y hw g
        omega
      · subst y
        have e : w = v := Option.some.inj (hw.symm.trans g)
        subst e
        exact lu
    · rw [e2, nl]
      omega
  · intro v hv u hu
    rcases List.mem_append.mp hv with g | g
    · exact r.least v g u hu
    · rw [List.mem_singleton.mp g] at hu ⊢
      refine Nat.le_of_not_lt fun lt => h ?_
      rw [nl] at lt
      rw [← after_snoc, ← hu]
      exact r.known hw u.length u rfl (by omega)
/-! ### its dict -/
abbrev kvW (ns : List Int) (ws : List (List Bool)) : List (List L2.Key × V) := ws.map fun w => (kyI (afterL w ns), V.str (wd w))
theorem kvW_has (ns : List Int) (ws : List (List Bool)) (m : List Int) : (valV (kvW ns ws) (kyI m)).isSome = decide (m ∈ ws.map fun w => afterL w ns) := by
  rw [← valV_any, Bool.eq_iff_iff, List.any_eq_true, decide_eq_true_iff]
  constructor
  · rintro ⟨p, hp, e⟩
    obtain ⟨x, hx, rfl⟩ := List.mem_map.mp hp
    exact List.mem_map.mpr ⟨x, hx, kyI_inj (of_decide_eq_true e)⟩
  · intro h
    obtain ⟨x, hx, e⟩ := List.mem_map.mp h
    exact ⟨(kyI (afterL x ns), V.str (wd x)), List.mem_map.mpr ⟨x, hx, rfl⟩, decide_eq_true (by rw [e])⟩
theorem kvW_get {ns : List Int} : ∀ {ws : List (List Bool)} {w : List Bool}, (ws.map fun w => afterL w ns).Nodup → w ∈ ws → valV (kvW ns ws) (kyI (afterL w ns)) = some (.str (wd w))
  | u :: ws, w, nd, h => by
    rw [List.map_cons, List.nodup_cons] at nd
    by_cases e : afterL u ns = afterL w ns
    · rcases List.mem_cons.mp h with rfl | z
      · exact valV_pos rfl
      · exact absurd (List.mem_map.mpr ⟨w, z, e.symm⟩) nd.1
    · rcases List.mem_cons.mp h with rfl | z
      · exact absurd rfl e
      · have ne : ¬ kyI (afterL u ns) = kyI (afterL w ns) := fun y => e (kyI_inj y)
        have ih := kvW_get nd.2 z
        unfold valV at ih ⊢
        rw [kvW, List.map_cons, List.find?_cons_of_neg (by simpa using fun y => e (kyI_inj y))]
        exact ih
/-! ### at its end the search knows every row that can be reached -/
theorem Bfs.all {ns : List Int} {ws : List (List Bool)} (r : Bfs ns ws (2 * ws.length)) : ∀ (k : Nat) (u : List Bool), u.length = k → afterL u ns ∈ ws.map fun w => afterL w ns
  | 0, u, h => by
    rw [List.length_eq_zero_iff.mp h]
    exact List.mem_map.mpr ⟨[], List.mem_of_getElem? r.fst, rfl⟩
  | k + 1, u, h => by
    obtain ⟨v, c, rfl⟩ := snoc_of (show 1 ≤ u.length by omega)
    rw [List.length_append, List.length_singleton] at h
    obtain ⟨z, hz, ez⟩ := List.mem_map.mp (r.all k v (by omega))
    obtain ⟨x, hx⟩ := List.mem_iff_getElem?.mp hz
    have lt := (List.getElem?_eq_some_iff.mp hx).1
    rw [after_snoc, ← ez]
    exact r.done x c (by have := Bool.toNat_lt c; omega) z hx
theorem Bfs.mem {ns : List Int} {ws : List (List Bool)} (r : Bfs ns ws (2 * ws.length)) {m : List Int} : m ∈ (ws.map fun w => afterL w ns) ↔ ∃ u : List Bool, afterL u ns = m :=
  ⟨fun h => let ⟨w, _, e⟩ := List.mem_map.mp h; ⟨w, e⟩, fun ⟨u, e⟩ => e ▸ r.all u.length u rfl⟩
end Lp
namespace Lp
open PySem PySem.Spec PyProof.Rows L2
/-! ### sorted rows, any number of them -/
def sortR (ms : List (List Int)) : List (List Int) := ms.mergeSort fun a b => decide (a ≤ b)
abbrev dRw (m : List Int) : PyData := .tuple (m.map PyData.int)
theorem dataLe_tups : PySem.W.dataLe false dRw = fun p q => decide (p ≤ q) := by
  funext p q
  show (!PySem.W.dataLt (.tuple (q.map .int)) (.tuple (p.map .int))) = _
  rw [PySem.W.dataLt_tuple]
  show (!PySem.W.rowLt (q.map .int) (p.map .int)) = _
  rw [PySem.W.dataLt_ints]
  by_cases h : q < p
  · rw [decide_eq_true h, decide_eq_false fun r => List.not_lt.mpr r h]
    rfl
  · rw [decide_eq_false h, decide_eq_true (List.not_lt.mp h)]
    rfl
/-- these tuples stand at these addresses -/
abbrev RwAt (K : PySem.W.Frag) (H : Hp) : List Addr → List (List Int) → Prop := Each fun r m => SqT K H r (m.map V.int)
theorem RwAt.same {K : PySem.W.Frag} {H G : Hp} {rs : List Addr} {ms : List (List Int)} (h : RwAt K H rs ms) (s : Same H G) : RwAt K G rs ms := h.imp fun _ _ _ e => SqT.same s e
def rSortRows (K : PySem.W.Frag) : List V → Hp → VK → Prop := fun vs H Q => ∃ (a : Addr) (rs : List Addr) (ms : List (List Int)), vs = [.ref a] ∧ SqL K H a (rs.map V.ref) ∧ RwAt K H rs ms ∧ (∀ m ∈ ms, m ≠ []) ∧
  ∀ (qs : List Addr) (p : Addr), RwAt K H qs (sortR ms) → H p = none → Q (.ref p) (upd H p (.lst (qs.map V.ref)))
section
variable {X : Cx} {pins : List (Addr × Obj)} {σ : L2.St} {H : Hp} {s : Shared}
theorem rows_each {rs : List Addr} {ms : List (List Int)} {us : List Value} (h : RwAt X.K H rs ms) (v : Vals (rs.map V.ref) us) : PySem.W.EachIs (fun v m => ∃ r, v = Value.ref r ∧ SqT X.K H r (m.map V.int)) us ms := by
  induction rs generalizing ms us with
  | nil =>
    cases ms with
    | nil =>
      cases v
      exact .nil
    | cons m ms => exact h.elim
  | cons r rs ih =>
    cases ms with
    | nil => exact h.elim
    | cons m ms =>
      cases v with
      | cons a b =>
        cases a
        exact .cons ⟨r, rfl, h.1⟩ (ih h.2 b)
theorem each_rows {ms : List (List Int)} {us : List Value} (h : PySem.W.EachIs (fun v m => ∃ r, v = Value.ref r ∧ SqT X.K H r (m.map V.int)) us ms) : ∃ qs : List Addr, us = qs.map Value.ref ∧ RwAt X.K H qs ms := by
  induction h with
  | nil => exact ⟨[], rfl, trivial⟩
  | cons a _ ih =>
    obtain ⟨r, e, h1⟩ := a
    obtain ⟨qs, e2, h2⟩ := ih
    exact ⟨r :: qs, by rw [e, e2]; rfl, h1, h2⟩
theorem vals_refs : ∀ qs : List Addr, Vals (qs.map V.ref) (qs.map Value.ref)
  | [] => .nil
  | q :: qs => .cons (show RelV (.ref q) (.ref q) from rfl) (vals_refs qs)
theorem row_reads (I : Inv X pins σ H s) {r : Addr} {m : List Int} (h : SqT X.K H r (m.map V.int)) : ∃ as, Reads s.heap (.ref r) (dRw m) as := Dp.reads I _ _ _ (Dp_row h) (show RelV (.ref r) (.ref r) from rfl)
theorem cr_sortRows (hu : X.A.units + 64 < cLine) : CallR X (.builtin "sorted") (rSortRows X.K) := by
  intro pins s σ H vs us Q I r h
  obtain ⟨a, rs, ms, rfl, hs, hE, ne, q⟩ := h
  obtain ⟨its, rv, hl, hz⟩ := I.list hs
  rw [Vals.ref1 r]
  have ml := hE.len
  rw [List.length_map] at hz
  have e1 := rows_each hE rv
  have e3 : PySem.W.EachIs (fun v m => ∃ as, Reads s.heap v (dRw m) as) its ms := e1.mono fun v m z => by
    obtain ⟨r, e, h⟩ := z
    rw [e]
    exact row_reads I h
  have al : PySem.W.AllAlike (ms.map dRw) := PySem.W.AllAlike.of fun a b => by
    show PySem.W.alike (.tuple (a.map PyData.int)) (.tuple (b.map PyData.int)) = true
    simp only [PySem.W.alike]
    exact PySem.W.alike_ints a b
  have so : PySem.W.Sortable (ms.map dRw) := .inl fun d hd => by
    obtain ⟨m, hm, e⟩ := List.mem_map.mp hd
    cases m with
    | nil => exact absurd rfl (ne _ hm)
    | cons x m => exact ⟨_, _, e.symm⟩
  have un : ∀ m, m ∈ ms → X.A.units + 2 + (dRw m).depth < cLine := fun m _ => by
    have := depth_ints m
    simp only [PyData.depth]
    omega
  refine PySem.W.sorted_data (enc := dRw) hl.isList e1 e3 al so (by omega) un fun out ol e2 => ?_
  rw [dataLe_tups] at e2
  obtain ⟨qs, rfl, h2⟩ := each_rows e2
  rw [List.length_map] at ol
  obtain ⟨ep, he'⟩ := PyProof.Rows.sortedAll_at s.heap its (qs.map Value.ref).toArray
  refine ⟨.ref _, upd H (s.heap.objs.size + 1) (.lst (qs.map V.ref)), I.laid (t' := s.toks) (fun _ _ => PyProof.Rows.sortedAll_old) (Nat.le_succ _) ⟨?_, qs.map Value.ref, ep, vals_refs qs, he'⟩, rfl, q qs _ h2 (I.hok.fresh (Nat.le_succ _))⟩
  rw [List.length_map]
  omega
end
/-! ### the same rows, sorted, are the same list -/
theorem sortR_perm (ms : List (List Int)) : (sortR ms).Perm ms := List.mergeSort_perm _ _
theorem sortR_eq {a b : List (List Int)} (h : a.Perm b) : sortR a = sortR b := by
  have tr : ∀ x y z : List Int, decide (x ≤ y) = true → decide (y ≤ z) = true → decide (x ≤ z) = true := fun x y z h1 h2 => decide_eq_true (List.le_trans (of_decide_eq_true h1) (of_decide_eq_true h2))
  have to : ∀ x y : List Int, (decide (x ≤ y) || decide (y ≤ x)) = true := fun x y => by
    rcases List.le_total x y with z | z
    · rw [decide_eq_true z]
      rfl
    · rw [decide_eq_true z, Bool.or_true]
  have s1 : (sortR a).Pairwise (fun x y => decide (x ≤ y) = true) := List.pairwise_mergeSort tr to a
  have s2 : (sortR b).Pairwise (fun x y => decide (x ≤ y) = true) := List.pairwise_mergeSort tr to b
  have p : (sortR a).Perm (sortR b) := (sortR_perm a).trans (h.trans (sortR_perm b).symm)
  exact p.eq_of_pairwise (fun x y _ _ h1 h2 => List.le_antisymm (of_decide_eq_true h1) (of_decide_eq_true h2)) s1 s2
theorem perm_nodup {a b : List (List Int)} (ha : a.Nodup) (hb : b.Nodup) (h : ∀ x, x ∈ a ↔ x ∈ b) : a.Perm b := (List.perm_ext_iff_of_nodup ha hb).mpr h
end Lp
namespace Lp
open PySem PySem.Spec PyProof.Rows L2
/-! ### sorted texts, sorted pairs of texts -/
abbrev cds (z : Str) : List Nat := z.cps.toList
theorem cds_inj {x y : Str} (h : cds x = cds y) : x = y := PySem.W.str_of_cps h
def leS (x y : Str) : Bool := decide (cds x ≤ cds y)
def leP (p q : Str × Str) : Bool := decide (cds p.1 < cds q.1 ∨ (p.1 = q.1 ∧ cds p.2 ≤ cds q.2))
theorem leS_trans (x y z : Str) (h1 : leS x y = true) (h2 : leS y z = true) : leS x z = true := decide_eq_true (List.le_trans (of_decide_eq_true h1) (of_decide_eq_true h2))
theorem leS_total (x y : Str) : (leS x y || leS y x) = true := by
  unfold leS
  rcases List.le_total (cds x) (cds y) with z | z
  · rw [decide_eq_true z]
    rfl
  · rw [decide_eq_true z, Bool.or_true]
theorem leS_anti {x y : Str} (h1 : leS x y = true) (h2 : leS y x = true) : x = y := cds_inj (List.le_antisymm (of_decide_eq_true h1) (of_decide_eq_true h2))
theorem lt_of_ne {x y : List Nat} (h : x ≤ y) (n : ¬ x = y) : x < y := Decidable.by_contra fun z => n (List.le_antisymm h (List.not_lt.mp z))
theorem leP_trans (p q r : Str × Str) (h1 : leP p q = true) (h2 : leP q r = true) : leP p r = true := by
  refine decide_eq_true ?_
  rcases of_decide_eq_true h1 with a | ⟨a1, a2⟩
  · rcases of_decide_eq_true h2 with b | ⟨b1, _⟩
    · exact .inl (List.lt_trans a b)
    · exact .inl (by rw [← b1]; exact a)
  · rcases of_decide_eq_true h2 with b | ⟨b1, b2⟩
    · exact .inl (by rw [a1]; exact b)
    · exact .inr ⟨a1.trans b1, List.le_trans a2 b2⟩
theorem leP_total (p q : Str × Str) : (leP p q || leP q p) = true := by
  unfold leP
  by_cases e : p.1 = q.1
  · rcases List.le_total (cds p.2) (cds q.2) with z | z
    · rw [decide_eq_true (.inr ⟨e, z⟩)]
      rfl
    · rw [decide_eq_true (p := cds q.1 < cds p.1 ∨ _) (.inr ⟨e.symm, z⟩), Bool.or_true]
  · rcases List.le_total (cds p.1) (cds q.1) with z | z
    · rw [decide_eq_true (.inl (lt_of_ne z fun y => e (cds_inj y)))]
      rfl
    · rw [decide_eq_true (p := cds q.1 < cds p.1 ∨ _) (.inl (lt_of_ne z fun y => e (cds_inj y).symm)), Bool.or_true]
theorem leP_anti {p q : Str × Str} (h1 : leP p q = true) (h2 : leP q p = true) : p = q := by
  rcases of_decide_eq_true h1 with a | ⟨a1, a2⟩
  · rcases of_decide_eq_true h2 with b | ⟨b1, _⟩
    · exact absurd (List.lt_trans a b) (List.lt_irrefl _)
    · rw [b1] at a
      exact absurd a (List.lt_irrefl _)
  · rcases of_decide_eq_true h2 with b | ⟨b1, b2⟩
    · rw [a1] at b
      exact absurd b (List.lt_irrefl _)
    · exact Prod.ext a1 (cds_inj (List.le_antisymm a2 b2))
def sortS (zs : List Str) : List Str := zs.mergeSort leS
def sortP (ps : List (Str × Str)) : List (Str × Str) := ps.mergeSort leP
theorem sortS_perm (zs : List Str) : (sortS zs).Perm zs := List.mergeSort_perm _ _
theorem sortP_perm (ps : List (Str × Str)) : (sortP ps).Perm ps := List.mergeSort_perm _ _
theorem sortS_eq {a b : List Str} (h : a.Perm b) : sortS a = sortS b :=
  ((sortS_perm a).trans (h.trans (sortS_perm b).symm)).eq_of_pairwise (fun _ _ _ _ h1 h2 => leS_anti h1 h2) (List.pairwise_mergeSort leS_trans leS_total a) (List.pairwise_mergeSort leS_trans leS_total b)
theorem sortP_eq {a b : List (Str × Str)} (h : a.Perm b) : sortP a = sortP b :=
  ((sortP_perm a).trans (h.trans (sortP_perm b).symm)).eq_of_pairwise (fun _ _ _ _ h1 h2 => leP_anti h1 h2) (List.pairwise_mergeSort leP_trans leP_total a) (List.pairwise_mergeSort leP_trans leP_total b)
abbrev dPr (p : Str × Str) : PyData := .tuple [.str p.1, .str p.2]
theorem dataLe_texts : PySem.W.dataLe false PyData.str = leS := PySem.W.dataLe_str id
theorem dataLe_pairs : PySem.W.dataLe false dPr = leP := by
  funext p q
  show (!PySem.W.dataLt (.tuple [.str q.1, .str q.2]) (.tuple [.str p.1, .str p.2])) = _
  rw [PySem.W.dataLt_pair rfl rfl, PySem.W.dataLt_str, PySem.W.dataLt_str]
  have ev : ∀ x y : Str, PyData.eqv (.str x) (.str y) = decide (x = y) := fun x y => rfl
  rw [ev, ev]
  unfold leP
  by_cases e : q.1 = p.1
  · rw [decide_eq_true e, if_pos rfl]
    have ni : ¬ cds p.1 < cds q.1 := by rw [e]; exact List.lt_irrefl _
    by_cases e2 : q.2 = p.2
    · rw [decide_eq_true e2, if_pos rfl, decide_eq_true (.inr ⟨e.symm, by rw [e2]; exact List.le_refl _⟩)]
      rfl
    · rw [decide_eq_false e2, if_neg Bool.false_ne_true]
      by_cases l : cds q.2 < cds p.2
      · rw [decide_eq_true l, decide_eq_false]
        · rfl
        · rintro (z | ⟨_, z⟩)
          · exact ni z
          · exact List.not_lt.mpr z l
      · rw [decide_eq_false l, decide_eq_true (.inr ⟨e.symm, List.not_lt.mp l⟩)]
        rfl
  · rw [decide_eq_false e, if_neg Bool.false_ne_true]
    by_cases l : cds q.1 < cds p.1
    · rw [decide_eq_true l, decide_eq_false]
      · rfl
      · rintro (z | ⟨z, _⟩)
        · exact List.lt_irrefl _ (List.lt_trans l z)
        · exact e z.symm
    · rw [decide_eq_false l, decide_eq_true (.inl (lt_of_ne (List.not_lt.mp l) fun y => e (cds_inj y).symm))]
      rfl
/-! #### the rules -/
theorem texts_each {zs : List Str} {us : List Value} (v : Vals (zs.map V.str) us) : PySem.W.EachIs (fun u z => ∃ t, u = Value.str z t) us zs := by
  induction zs generalizing us with
  | nil => cases v; exact .nil
  | cons z zs ih =>
    cases v with
    | cons a b =>
      obtain ⟨t, rfl⟩ := a
      exact .cons ⟨t, rfl⟩ (ih b)
theorem each_texts {zs : List Str} {us : List Value} (h : PySem.W.EachIs (fun u z => ∃ t, u = Value.str z t) us zs) : Vals (zs.map V.str) us := by
  induction h with
  | nil => exact .nil
  | cons a _ ih =>
    obtain ⟨t, rfl⟩ := a
    exact .cons ⟨t, rfl⟩ ih
theorem texts_alike (zs : List Str) : PySem.W.AllAlike (zs.map PyData.str) := PySem.W.AllAlike.of fun _ _ => rfl
theorem texts_sortable (zs : List Str) : PySem.W.Sortable (zs.map PyData.str) := PySem.W.Sortable.others fun b => ⟨(nomatch ·), fun xs => (nomatch ·)⟩
def rSortTx (K : PySem.W.Frag) : List V → Hp → VK → Prop := fun vs H Q => ∃ (a : Addr) (zs : List Str), vs = [.ref a] ∧ SqT K H a (zs.map V.str) ∧ zs.length ≤ 1000 ∧ ∀ p : Addr, H p = none → Q (.ref p) (upd H p (.lst ((sortS zs).map V.str)))
section
variable {prog : Program} {w : World} {A : Around} {E : Value → Shared → Prop} {s : Shared}
theorem sort_texts {t : Addr} {us : List Value} {zs : List Str} {Q : Value → Shared → Prop} (tup : s.heap.IsTuple t us.toArray) (is : PySem.W.EachIs (fun u z => ∃ k, u = Value.str z k) us zs) (few : zs.length ≤ 1000) (room : A.units + 64 < cLine)
    (q : ∀ (g : Heap) (out : List Value), (∀ b o, s.heap.get? b = some o → g.get? b = some o) → PySem.W.EachIs (fun u z => ∃ k, u = Value.str z k) out (sortS zs) →
      Q (.ref g.objs.size) { s with heap := sortedHeap (g.push (seqObj "list" us.toArray 0)) g.objs.size us out.toArray }) :
    wpAny (model prog w) A (call (.builtin "sorted") [.ref t]) Q E s := by
  obtain ⟨o, ho, cls, m, dat⟩ := tup
  have small : us.toArray.size ≤ sizeLine := by
    rw [List.size_toArray, is.length]
    exact Nat.le_of_lt (len_lt (by omega))
  refine Calls.call_function_entry kind_sorted plain_sorted entry_sorted (args_sorted1 (.ref t)) ?_
  unfold Builtin.«sorted»
  refine wpAny_bind (m := checkCount "sorted" 1 1 1) (wpAny_pure (wpAny_bind (wpAny_collect_seq t (.inr rfl) ho cls dat (fun g old => ?_) small)))
  refine wpAny_bind (wpAny_newList ?_ (by rw [← List.size_toArray]; exact small))
  have new : (g.push (seqObj "list" us.toArray 0)).get? g.objs.size = some (seqObj "list" us.toArray 0) := Heap.get?_push_size g rfl
  have reads : PySem.W.EachIs (fun v z => ∃ as, Reads (g.push (seqObj "list" us.toArray 0)) v (PyData.str z) as ∧ g.objs.size ∉ as) us zs := is.mono fun v z h => by
    obtain ⟨k, rfl⟩ := h
    exact ⟨[], Reads.str z k, by simp⟩
  have sorted := PySem.W.list_sort_data (prog := prog) (w := w) (A := A.in1) (E := E) (s := { s with heap := g.push (seqObj "list" us.toArray 0) }) (enc := PyData.str) (Q := fun v s' => v = .none ∧ Q (.ref g.objs.size) s') new is reads (texts_alike zs) (texts_sortable zs) (by rw [← is.length, ← List.size_toArray]; exact small)
    (fun z _ => by show A.units + 1 + 1 + 0 < cLine; omega) fun out _ e => ⟨rfl, q g out old (by rw [dataLe_texts] at e; exact e)⟩
  refine wpAny_bind (wpAny_holding ?_)
  refine wpAny_mono sorted (fun v s' h => ?_) fun _ _ z => z
  obtain ⟨rfl, h⟩ := h
  exact wpAny_pure ⟨_, rfl, h⟩
end
theorem cr_sortTx {X : Cx} (hu : X.A.units + 64 < cLine) : CallR X (.builtin "sorted") (rSortTx X.K) := fun pins s σ H vs us Q I r h => by
  obtain ⟨a, zs, rfl, sq, few, q⟩ := h
  obtain ⟨its, rv, tup, _⟩ := I.tuple sq
  rw [Vals.ref1 r]
  refine sort_texts tup (texts_each rv) few hu fun g out old e => ?_
  have I1 : Inv X pins σ H { s with heap := g } := I.kept (t' := s.toks) old
  have size : ((sortS zs).map V.str).length ≤ sizeLine := by
    rw [List.length_map, (sortS_perm zs).length_eq]
    exact Nat.le_of_lt (len_lt (by omega))
  obtain ⟨ep, there⟩ := PyProof.Rows.sortedHeap_at (vs := its) (out := out.toArray) (Heap.get?_push_size g rfl : (g.push (seqObj "list" its.toArray 0)).get? g.objs.size = some (seqObj "list" its.toArray 0))
  have J := I1.laid (t' := s.toks) (a := g.objs.size) (o := .lst ((sortS zs).map V.str)) (h' := sortedHeap (g.push (seqObj "list" its.toArray 0)) g.objs.size its out.toArray) (fun b u z => by
    have lt := Heap.lt_size z
    rw [PyProof.Rows.sortedHeap_old (Nat.ne_of_lt lt) (by rw [size_push']; exact Nat.lt_succ_of_lt lt)]
    exact Heap.get?_push_of_some _ z) (Nat.le_refl _) ⟨size, out, ep, each_texts e, by simpa using there⟩
  exact ⟨.ref g.objs.size, _, J, rfl, q _ (I1.hok.fresh (Nat.le_refl _))⟩
/-- these pairs of texts stand at these addresses -/
abbrev PrAt (K : PySem.W.Frag) (H : Hp) : List Addr → List (Str × Str) → Prop := Each fun r p => SqT K H r [.str p.1, .str p.2]
def rSortPr (K : PySem.W.Frag) : List V → Hp → VK → Prop := fun vs H Q => ∃ (a : Addr) (rs : List Addr) (ps : List (Str × Str)), vs = [.ref a] ∧ SqL K H a (rs.map V.ref) ∧ PrAt K H rs ps ∧
  ∀ (qs : List Addr) (p : Addr), PrAt K H qs (sortP ps) → H p = none → Q (.ref p) (upd H p (.lst (qs.map V.ref)))
section
variable {X : Cx} {pins : List (Addr × Obj)} {σ : L2.St} {H : Hp} {s : Shared}
theorem refs_each {β : Type} {R : Addr → β → Prop} {rs : List Addr} {ms : List β} {us : List Value} (h : Each R rs ms) (v : Vals (rs.map V.ref) us) : PySem.W.EachIs (fun v m => ∃ r, v = Value.ref r ∧ R r m) us ms := by
  induction rs generalizing ms us with
  | nil =>
    cases ms with
    | nil => cases v; exact .nil
    | cons m ms => exact h.elim
  | cons r rs ih =>
    cases ms with
    | nil => exact h.elim
    | cons m ms =>
      cases v with
      | cons a b =>
        cases a
        exact .cons ⟨r, rfl, h.1⟩ (ih h.2 b)
theorem each_refs {β : Type} {R : Addr → β → Prop} {ms : List β} {us : List Value} (h : PySem.W.EachIs (fun v m => ∃ r, v = Value.ref r ∧ R r m) us ms) : ∃ qs : List Addr, us = qs.map Value.ref ∧ Each R qs ms := by
  induction h with
  | nil => exact ⟨[], rfl, trivial⟩
  | cons a _ ih =>
    obtain ⟨r, e, h1⟩ := a
    obtain ⟨qs, e2, h2⟩ := ih
    exact ⟨r :: qs, by rw [e, e2]; rfl, h1, h2⟩
theorem cr_sortPr (hu : X.A.units + 64 < cLine) : CallR X (.builtin "sorted") (rSortPr X.K) := by
  intro pins s σ H vs us Q I r h
  obtain ⟨a, rs, ps, rfl, hs, hE, q⟩ := h
  obtain ⟨its, rv, hl, hz⟩ := I.list hs
  rw [Vals.ref1 r]
  have ml := hE.len
  rw [List.length_map] at hz
  have e1 := refs_each hE rv
  have e3 : PySem.W.EachIs (fun v p => ∃ as, Reads s.heap v (dPr p) as) its ps := e1.mono fun v p z => by
    obtain ⟨r, e, h⟩ := z
    rw [e]
    exact Dp.reads I _ _ _ (.tup h (.cons (.str _) (.cons (.str _) .nil))) (show RelV (.ref r) (.ref r) from rfl)
  refine PySem.W.sorted_data (enc := dPr) hl.isList e1 e3 (PySem.W.AllAlike.of fun _ _ => rfl) (PySem.W.Sortable.tuples fun p => ⟨_, _, rfl⟩) (by omega) (fun p _ => ?_) fun out ol e2 => ?_
  · have d : (dPr p).depth ≤ 60 := by simp [PyData.depth, PyData.depthAll]
    omega
  rw [dataLe_pairs] at e2
  obtain ⟨qs, rfl, h2⟩ := each_refs e2
  rw [List.length_map] at ol
  obtain ⟨ep, there⟩ := PyProof.Rows.sortedAll_at s.heap its (qs.map Value.ref).toArray
  refine ⟨.ref _, upd H (s.heap.objs.size + 1) (.lst (qs.map V.ref)), I.laid (t' := s.toks) (fun _ _ => PyProof.Rows.sortedAll_old) (Nat.le_succ _) ⟨?_, qs.map Value.ref, ep, vals_refs qs, there⟩, rfl, q qs _ h2 (I.hok.fresh (Nat.le_succ _))⟩
  rw [List.length_map]
  omega
end
end Lp
namespace Lp
open PySem PySem.Spec PyProof.Rows L2
/-! ### len(set(xs)) where xs is a tuple of different texts -/
abbrev metTx (zs : List Str) (i : Nat) : Str → Bool := fun z => decide (z ∈ zs.take i)
theorem metTx_next {zs : List Str} (nd : zs.Nodup) {i : Nat} (h : i < zs.length) : metTx zs i zs[i] = false ∧ ∀ z, (metTx zs i z || decide (z = zs[i])) = metTx zs (i + 1) z := by
  have tk : zs.take (i + 1) = zs.take i ++ [zs[i]] := by rw [List.take_add_one, List.getElem?_eq_getElem h]; rfl
  refine ⟨decide_eq_false fun m => ?_, fun z => ?_⟩
  · have nd2 : (zs.take (i + 1)).Nodup := nd.sublist (List.take_sublist _ _)
    rw [tk, List.nodup_append] at nd2
    exact nd2.2.2 _ m _ List.mem_cons_self rfl
  · unfold metTx
    rw [tk, ← Bool.decide_or]
    exact decide_eq_decide.mpr (by rw [List.mem_append, List.mem_singleton])
section
variable {P : Program} {w : World} {A : Around} {R : Result → Shared → Prop} {it : Addr} {fp wr : List Addr} {G : Array GenState → Array GenState → Prop} {Pv : Nat → Value → Prop} {St : Nat → Shared → Prop}
theorem fill_texts {zs : List Str} (nd : zs.Nodup) (few : zs.length ≤ 100) (W : WalksS P w A.in1 it fp wr G zs.length Pv St) {a : Addr} (off : a ∉ fp) (tells : ∀ (i : Nat) (v : Value), Pv i v → ∃ t, zs[i]?.map (fun z => Value.str z t) = some v) :
    ∀ (d i : Nat) (s : Shared), i + d = zs.length → St i s → s.heap.SetOf (strKind P w) a (metTx zs i) i → (∀ s', Moved (a :: wr) G s s' → s'.heap.SetOf (strKind P w) a (metTx zs zs.length) zs.length → R (.ok (.ret .none)) s') →
      codeAny (model P w) A (.builtin "set.update.loop" ⟨[.ref a, .ref it], []⟩) R s := by
  have offW : a ∉ wr := fun m => off (W.sub a m)
  have more : ∀ {b}, b ∈ wr → b ∈ a :: wr := fun m => List.mem_cons_of_mem _ m
  have stays : ∀ {s s' : Shared} {f : Str → Bool} {n : Nat}, Moved wr G s s' → s.heap.SetOf (strKind P w) a f n → s'.heap.SetOf (strKind P w) a f n := fun mv x => by
    obtain ⟨o, es, ep, tb, at_, more⟩ := x
    exact ⟨o, es, ep, tb, mv.heap a _ offW at_, more⟩
  intro d
  induction d with
  | zero =>
    intro i s e st x fin
    refine codeAny_builtin PyProof.Rows.F.entry_set_update_loop ?_
    rw [Around.under_plainId PyProof.Rows.F.plain_set_update_loop _]
    rw [Nat.add_zero] at e
    subst e
    exact wpAny_bind (m := pyNext (.ref it)) (W.done s _ _ st fun s' mv => wpAny_pure (fin s' (mv.mono fun b => more) (stays mv x)))
  | succ d again =>
    intro i s e st x fin
    have lt : i < zs.length := by omega
    obtain ⟨new, next⟩ := metTx_next nd lt
    refine codeAny_builtin PyProof.Rows.F.entry_set_update_loop ?_
    rw [Around.under_plainId PyProof.Rows.F.plain_set_update_loop _]
    refine wpAny_bind (m := pyNext (.ref it)) (W.item i s _ _ lt st fun v s' hv st' mv => ?_)
    obtain ⟨t, ev⟩ := tells i v hv
    rw [List.getElem?_eq_getElem lt] at ev
    cases ev
    refine wpAny_bind (m := holding [Value.str zs[i] t] (setAdd a (.str zs[i] t))) (wpAny_holding ?_)
    unfold setAdd
    refine wpAny_holding (wpAny_bind ((strKind P w).pyHash (k := zs[i]) (strKind_is _ _ _ _) ?_))
    refine wpAny_setAddHashed_of (knd := strKind P w) (s := { s' with toks := s'.toks + 1 }) (strKind_is _ _ _ _) rfl (show Heap.SetOf (strKind P w) s'.heap a _ _ from stays mv x) (by unfold scanBound; omega) fun g but y => ?_
    have y2 : g.SetOf (strKind P w) a (metTx zs (i + 1)) (i + 1) := PyProof.Rows.SetOf_congr y next (by rw [new]; rfl)
    have old : ∀ {b o}, b ≠ a → s'.heap.get? b = some o → g.get? b = some o := fun ne z => (but.2 _ ne).trans z
    refine wpAny_pure ⟨plainId_quiet PyProof.Rows.F.plain_set_update_loop _, again (i + 1) _ (by omega) (W.frame _ s' _ _ st' (Nat.le_succ _) fun b hb o z => old (fun q => off (q ▸ hb)) z) y2 fun s2 mv2 z => ?_⟩
    exact fin s2 (Moved.trans W.gtrans ((mv.mono fun b => more).then_heap (Nat.le_succ _) fun b o nb z => old (fun q => nb (q ▸ List.mem_cons_self)) z) mv2) z
end
section
variable {P : Program} {w : World} {A : Around} {E : Value → Shared → Prop} {s : Shared}
abbrev bareSet (led : Bool) : Obj := { cls := .type "set", dict := none, data := .set #[] 0 (.fresh 0 0 led) }
/-- the set that a tuple of different texts fills -/
theorem init_texts {a t : Addr} {led : Bool} {us : Array Value} {zs : List Str} {Q : Value → Shared → Prop} (calm : A.handled = none) (here : s.heap.get? a = some (bareSet led)) (tup : s.heap.IsTuple t us) (ne : a ≠ t)
    (are : PyProof.Rows.StrsAre us.toList zs) (nd : zs.Nodup) (few : zs.length ≤ 100)
    (q : ∀ s' : Shared, s'.gens = s.gens → s'.drawn = s.drawn → s'.os = s.os → s'.heap.SetOf (strKind P w) a (metTx zs zs.length) zs.length → (∀ b o, b ≠ a → s.heap.get? b = some o → s'.heap.get? b = some o) → Q .none s') :
    codeAny (model P w) A (.call (.builtin "set.__init__") ⟨[.ref a, .ref t], []⟩) (wants Q E) s := by
  have ty : s.TypeIs (.ref a) "set" := ⟨_, here, rfl⟩
  have sz : us.size = zs.length := by rw [← Array.length_toList, PyProof.Rows.StrsAre.len_eq are]
  refine codeAny_mono (codeAny_call_builtin (R := wants Q E) PySem.F.called_set.init.plain PySem.F.entry_set_init (PySem.check_set_init_1 ty ?_)) fun _ _ z => z
  obtain ⟨⟨cls, dict, data, slots⟩, at_, ec, n, ed⟩ := tup
  dsimp only at ec ed
  subst ec
  subst ed
  have tup : s.heap.IsTuple t us := ⟨_, at_, rfl, n, rfl⟩
  have noSet := PySem.F.sub_tuple_set
  have noFroz := PySem.F.sub_tuple_frozenset
  have noDict : (Value.type "tuple" == Value.type "dict") = false := by decide
  unfold Builtin.«set.__init__» noKeywords Builtin.Frozenset.updateFrom
  generalize eI : pyIter = I
  wp_walk
  subst eI
  refine wpAny_pyIter_tuple tup ?_
  have far : t ≠ s.heap.objs.size := Nat.ne_of_lt (Heap.lt_size at_)
  have aLt : a < s.heap.objs.size := Heap.lt_size here
  have calm1 : A.in1.in1.handled = none := by simp [calm]
  have off : a ∉ [s.heap.objs.size, t] := by
    rw [List.mem_cons, List.mem_singleton]
    exact fun z => z.elim (Nat.ne_of_lt aLt) ne
  have tells : ∀ (i : Nat) (v : Value), us[i]? = some v → ∃ k, zs[i]?.map (fun z => Value.str z k) = some v := fun i v e => by
    have e' : us.toList[i]? = some v := by rw [Array.getElem?_toList]; exact e
    obtain ⟨k, rfl⟩ := SS.strs_at are i v e'
    have lt : i < zs.length := by
      have := (Array.getElem?_eq_some_iff.mp e).1
      omega
    refine ⟨k, ?_⟩
    rw [List.getD_eq_getElem?_getD, List.getElem?_eq_getElem lt]
    rfl
  refine wpAny_bind (wpAny_runValue ?_)
  have W := (Walks.tuple (prog := P) (w := w) calm1 _ t far us).toS
  rw [sz] at W
  have gets : (s.heap.push { cls := .type "tuple_iterator", data := .fields #[.ref t, .int 0 0] }).get? a = some (bareSet led) := Heap.get?_push_of_some _ here
  refine fill_texts (A := A.in1) nd few W off tells zs.length 0 _ (Nat.zero_add _) ⟨⟨_, Heap.get?_push_size _ rfl, rfl, rfl⟩, tup.push _⟩ ?_ ?_
  · exact PyProof.Rows.SetOf_congr ((PyProof.Rows.setObjOf_fresh (knd := strKind P w) led).setOf gets (by unfold scanBound; omega)) (fun z => (decide_eq_false (fun m => nomatch m)).symm) rfl
  · intro s' mv full
    refine wpAny_pure (wpAny_pure (q s' mv.gens mv.drawn mv.os full fun b o nb z => ?_))
    refine mv.heap b o (fun m => ?_) (Heap.get?_push_of_some _ z)
    rcases List.mem_cons.mp m with e | m
    · exact nb e
    · have e := List.mem_singleton.mp m
      exact Nat.ne_of_lt (Heap.lt_size z) e
theorem call_set_texts {t : Addr} {us : Array Value} {zs : List Str} {Q : Value → Shared → Prop} (calm : A.handled = none) (tup : s.heap.IsTuple t us) (are : PyProof.Rows.StrsAre us.toList zs) (nd : zs.Nodup) (few : zs.length ≤ 100)
    (q : ∀ s' : Shared, s'.gens = s.gens → s'.drawn = s.drawn → s'.os = s.os → s'.heap.SetOf (strKind P w) s.heap.objs.size (metTx zs zs.length) zs.length → (∀ b o, s.heap.get? b = some o → s'.heap.get? b = some o) → Q (.ref s.heap.objs.size) s') :
    wpAny (model P w) A (call (.type "set") [.ref t]) Q E s := by
  obtain ⟨_, _, line⟩ := PySem.F.called_set.mro
  have f1 := PySem.F.called_set.made
  have f2 := PySem.F.called_set.sub
  have f3 := PySem.F.called_set.notType
  have f4 := PySem.F.called_set.canCreate
  have f5 := PySem.F.typeCall_set_1 (.ref t)
  refine wpAny_call (codeAny_of_tree (wpAny_pure ⟨Code.quiet_builtin _ (by decide +kernel), codeAny_builtin PySem.F.entry_type_call ?_⟩))
  rw [Around.under_plain (weight_type_call_type "set" [.ref t] []) rfl]
  repeat (any_goals (first | assumption | wp_step))
  refine codeAny_mono (PySem.code_set_new_1 (.ref t) (E := E) (Q₁ := fun v g => ∃ led, v = .ref s.heap.objs.size ∧ g = { s with heap := s.heap.push (bareSet led) }) fun led => ⟨led, rfl, rfl⟩) fun r g made => ?_
  match r, made with
  | .error _, made => exact made
  | .ok (.ret v), made =>
    obtain ⟨led, rfl, rfl⟩ := made
    have at_ : (s.heap.push (bareSet led)).get? s.heap.objs.size = some (bareSet led) := Heap.get?_push_size _ rfl
    have ty : Shared.TypeIs { s with heap := s.heap.push (bareSet led) } (.ref s.heap.objs.size) "set" := ⟨_, at_, rfl⟩
    have f6 := PySem.F.called_set.init.lookup
    have f7 := PySem.F.called_set.init.bind (.ref s.heap.objs.size)
    have ne : s.heap.objs.size ≠ t := by
      obtain ⟨o, z, _⟩ := id tup
      exact Nat.ne_of_gt (Heap.lt_size z)
    repeat (any_goals (first | assumption | wp_step))
    refine codeAny_mono (init_texts (s := { s with heap := s.heap.push (bareSet led) }) (E := E) (Q := fun v s' => v = .none ∧ Q (.ref s.heap.objs.size) s') (by simp [calm]) at_ (tup.push _) ne are nd few fun s' e1 e2 e3 full old => ⟨rfl, q s' e1 e2 e3 full fun b o z => old b o (Nat.ne_of_lt (Heap.lt_size z)) (Heap.get?_push_of_some _ z)⟩) fun r2 g2 made2 => ?_
    match r2, made2 with
    | .error _, made2 => exact made2
    | .ok (.ret v), made2 =>
      obtain ⟨rfl, fin⟩ := made2
      repeat (any_goals (first | assumption | wp_step))
end
/-- len(set(xs)), xs a tuple of different texts -/
def tLenSetD (K : PySem.W.Frag) (ta : TE) : TE := fun σ H Q => ta σ H fun v H1 => ∃ (l : Addr) (zs : List Str), v = .ref l ∧ SqT K H1 l (zs.map V.str) ∧ zs.Nodup ∧ zs.length ≤ 100 ∧ Q (.int (zs.length : Nat)) H1
theorem strs_of : ∀ {zs : List Str} {us : List Value}, Vals (zs.map V.str) us → PyProof.Rows.StrsAre us zs
  | [], _, h => by cases h; exact .nil
  | z :: zs, _, h => by
    cases h with
    | cons a b =>
      obtain ⟨k, rfl⟩ := a
      exact .cons z k (strs_of b)
theorem pe_lenSetD {X : Cx} {a : Expr} {ta : TE} {p1 p2 p3 p4 : Pos} (gl : Gl X "len") (ml : X.mg "len" = none) (gs : Gl X "set") (ms : X.mg "set" = none) (ha : PE X a ta) (calm : X.calm = true := by rfl)
    (st : starEach [a] X.env = (false, eval a X.env) :: starEach [] X.env := by rfl) : PE X (.Call (.Name "len" p1) [.Call (.Name "set" p2) [a] [] p3] [] p4) (tLenSetD X.K ta) := ⟨fun pins s σ H Q I h => by
  refine Call_ (ld_blt I gl ml boot_len (PyProof.Rows.callWith_builtin1 (PyProof.Rows.args_cons ?_ rfl) rfl rfl))
  refine Call_ (ld_blt I gs ms boot_set (PyProof.Rows.callWith_type1 (PyProof.Rows.args_cons (thn (ha.run pins s σ H _ I h) fun v t y => PyProof.Rows.args_nil ?_) st) st rfl))
  obtain ⟨x, H1, J, rx, l, zs, rfl, hl, nd, few, fin⟩ := y
  cases rx
  obtain ⟨its, rv, pl, _⟩ := J.tuple hl
  refine call_set_texts (J.ok.hd calm) pl (by simpa using strs_of rv) nd few fun g e1 e2 e3 full old => PyProof.Rows.args_nil ?_
  obtain ⟨gh, gg, gd, gt, go⟩ := g
  dsimp only at e1 e2 e3
  subst e1 e2 e3
  have J2 : Inv X pins σ H1 { t with heap := gh, toks := gt } := J.kept fun b o e => old b o e
  obtain ⟨o, es, ep, tt, at_, ex, fl, _, _, _, free, size⟩ := full
  exact call_len_set at_ ex fl free (by rw [size] <;> omega) ⟨.int (zs.length : Nat), H1, J2.tok _, ⟨_, by rw [size]⟩, fin⟩⟩
end Lp
namespace Lp
open PySem PySem.Spec PyProof.Rows L2
/-! ### data that can be compared and shown: how deep, how long its text -/
structure Okd (D : PyData) (dep len : Nat) : Prop where
  lay : D.canLay0 = true
  deep : D.depth ≤ dep
  shw : D.showable = true
  fits : D.shown.length ≤ len
theorem Okd.le {D : PyData} {a b c e : Nat} (h : Okd D a b) (h1 : a ≤ c) (h2 : b ≤ e) : Okd D c e := ⟨h.lay, Nat.le_trans h.deep h1, h.shw, Nat.le_trans h.fits h2⟩
theorem okd_all {dep len : Nat} : ∀ {ds : List PyData}, (∀ d ∈ ds, Okd d dep len) → PyData.canLayAll0 ds = true ∧ PyData.depthAll ds ≤ dep ∧ PyData.showableAll ds = true ∧ ((PyData.shownAll ds).map (·.length)).sum ≤ ds.length * len ∧ (PyData.shownAll ds).length = ds.length
  | [], _ => by simp [PyData.canLayAll0, PyData.depthAll, PyData.showableAll, PyData.shownAll]
  | d :: ds, h => by
    obtain ⟨a1, a2, a3, a4, a5⟩ := okd_all fun x hx => h x (List.mem_cons_of_mem _ hx)
    have b := h d List.mem_cons_self
    have b2 := b.deep
    have b4 := b.fits
    refine ⟨?_, ?_, ?_, ?_, ?_⟩
    · simp only [PyData.canLayAll0, b.lay, a1, Bool.and_self]
    · simp only [PyData.depthAll]
      omega
    · simp only [PyData.showableAll, b.shw, a3, Bool.and_self]
    · simp only [PyData.shownAll, List.map_cons, List.sum_cons, List.length_cons, Nat.succ_mul]
      omega
    · simp only [PyData.shownAll, List.length_cons, a5]
theorem Okd.tup {ds : List PyData} {dep len m : Nat} (h : ∀ d ∈ ds, Okd d dep len) (hm : ds.length ≤ m) : Okd (.tuple ds) (dep + 1) (m * len + 2 * m + 3) := by
  obtain ⟨a1, a2, a3, a4, a5⟩ := okd_all h
  refine ⟨by simp only [PyData.canLay0, a1], by simp only [PyData.depth]; omega, by simp only [PyData.showable, a3], ?_⟩
  simp only [PyData.shown]
  have l := tupleText_len_le (PyData.shownAll ds)
  have l2 : ds.length * len ≤ m * len := Nat.mul_le_mul_right _ hm
  omega
theorem Okd.lst {ds : List PyData} {dep len m : Nat} (h : ∀ d ∈ ds, Okd d dep len) (hm : ds.length ≤ m) : Okd (.list ds) (dep + 1) (m * len + 2 * m + 3) := by
  obtain ⟨a1, a2, a3, a4, a5⟩ := okd_all h
  refine ⟨by simp only [PyData.canLay0, a1], by simp only [PyData.depth]; omega, by simp only [PyData.showable, a3], ?_⟩
  simp only [PyData.shown]
  have l := listText_len_le (PyData.shownAll ds)
  have l2 : ds.length * len ≤ m * len := Nat.mul_le_mul_right _ hm
  omega
theorem Okd.non : Okd .none 0 4 := ⟨by simp [PyData.canLay0], by simp [PyData.depth], by simp [PyData.showable], by show (Str.ofString "None").length ≤ 4; decide +kernel⟩
theorem Okd.str {z : Str} {m : Nat} (hm : z.cps.size ≤ m) (h : ∀ c ∈ z.cps.toList, c < 128) : Okd (.str z) 0 (10 * m + 2) := by
  refine ⟨?_, by simp [PyData.depth], by simp [PyData.showable], ?_⟩
  · simp only [PyData.canLay0]
    show z.cps.all (· < 0x110000) = true
    rw [← Array.all_toList, List.all_eq_true]
    exact fun c hc => decide_eq_true (Nat.lt_trans (h c hc) (by decide))
  · have h1 := StrLaws.reprText_len z fun c hc => Nat.lt_trans (h c hc) (by decide)
    have e : z.length = z.cps.size := rfl
    show (reprText z).length ≤ _
    omega
theorem Okd.shaped {D : PyData} {a b : Nat} (h : Okd D a b) (ha : a ≤ 64) : SeqAt.shaped D = true := by
  unfold SeqAt.shaped
  rw [h.lay, decide_eq_true (Nat.le_trans h.deep ha)]
  rfl
theorem Okd.same {D : PyData} {a b : Nat} (h : Okd D a b) : PyData.eqv D D = true := SeqAt.eqv_refl _ h.lay
/-! #### texts and pairs of texts that stand in the heap -/
theorem Dp_strs {K : PySem.W.Frag} {H : Hp} : ∀ zs : List Str, DpAll K H (zs.map V.str) (zs.map PyData.str)
  | [] => .nil
  | z :: zs => .cons (.str z) (Dp_strs zs)
theorem Dp_prAt {K : PySem.W.Frag} {H : Hp} : ∀ {rs : List Addr} {ps : List (Str × Str)}, PrAt K H rs ps → DpAll K H (rs.map V.ref) (ps.map dPr)
  | [], [], _ => .nil
  | [], _ :: _, h => h.elim
  | _ :: _, [], h => h.elim
  | r :: rs, p :: ps, h => .cons (.tup h.1 (.cons (.str _) (.cons (.str _) .nil))) (Dp_prAt h.2)
end Lp
namespace Lp
open PySem PySem.Spec PyProof.Rows L2
/-! ### dicts whose keys are tuples, of numbers or of such tuples; each key's own tuple is named, so that more may be known of it -/
mutual
inductive KyV (H : Hp) : NestedKey → V → Prop
  | num (i : Int) : KyV H (.num i) (.int i)
  | tup {a : Addr} {xs : List V} {ks : List NestedKey} : Rd H a (.tup xs) → KyAll H ks xs → KyV H (.tup ks) (.ref a)
inductive KyAll (H : Hp) : List NestedKey → List V → Prop
  | nil : KyAll H [] []
  | cons {k : NestedKey} {v : V} {ks : List NestedKey} {vs : List V} : KyV H k v → KyAll H ks vs → KyAll H (k :: ks) (v :: vs)
end
section
variable {P : Program} {w : World} {H H' : Hp} {h : Heap}
mutual
theorem KyV.nested (ok : HOk P w H h) : ∀ (k : NestedKey) (v : V) (u : Value), KyV H k v → RelV v u → NestedIs h k u
  | .none, _, _, x, _ => by cases x
  | .text _, _, _, x, _ => by cases x
  | .num i, _, _, x, r => by
    cases x
    obtain ⟨t, rfl⟩ := r
    exact .int i t
  | .tup ks, _, u, x, r => by
    cases x with
    | @tup a xs _ hr ha =>
      obtain rfl : u = Value.ref a := r
      obtain ⟨_, its, rv, o, h1, h2, n, h3⟩ := (show ObjOk P w H h a (.tup xs) from hr.ok ok)
      exact .tup h1 h2 h3 (by simpa using KyAll.nested ok ks _ _ ha rv)
theorem KyAll.nested (ok : HOk P w H h) : ∀ (ks : List NestedKey) (vs : List V) (us : List Value), KyAll H ks vs → Vals vs us → NestedAll h ks us
  | [], _, _, x, r => by cases x; cases r; exact .nil
  | k :: ks, _, _, x, r => by
    cases x with
    | cons x1 x2 =>
      cases r with
      | cons r1 r2 => exact .cons (KyV.nested ok k _ _ x1 r1) (KyAll.nested ok ks _ _ x2 r2)
end
mutual
theorem KyV.mono (f : ∀ a xs, Rd H a (.tup xs) → Rd H' a (.tup xs)) : ∀ (k : NestedKey) (v : V), KyV H k v → KyV H' k v
  | .none, _, x => by cases x
  | .text _, _, x => by cases x
  | .num i, _, x => by cases x; exact .num i
  | .tup ks, _, x => by
    cases x with
    | tup hr ha => exact .tup (f _ _ hr) (KyAll.mono f ks _ ha)
theorem KyAll.mono (f : ∀ a xs, Rd H a (.tup xs) → Rd H' a (.tup xs)) : ∀ (ks : List NestedKey) (vs : List V), KyAll H ks vs → KyAll H' ks vs
  | [], _, x => by cases x; exact .nil
  | k :: ks, _, x => by
    cases x with
    | cons x1 x2 => exact .cons (KyV.mono f k _ x1) (KyAll.mono f ks _ x2)
end
end
abbrev NEnt := NestedKey × Addr × V
abbrev NRel : List NEnt → List (NestedKey × Addr × Value) → Prop := Paired fun p q => p.1 = q.1 ∧ p.2.1 = q.2.1 ∧ RelV p.2.2 q.2.2
def valN (L : List NEnt) (k : NestedKey) : Option V := (L.find? fun x => decide (x.1 = k)).map fun x => x.2.2
def newN (k : NestedKey) (v : V) (x : NEnt) : NEnt := if x.1 = k then (x.1, x.2.1, v) else x
def putN (L : List NEnt) (k : NestedKey) (q : Addr) (v : V) : List NEnt := if (valN L k).isSome then L.map (newN k v) else L ++ [(k, q, v)]
theorem valN_pos {x : NEnt} {L : List NEnt} {k : NestedKey} (e : x.1 = k) : valN (x :: L) k = some x.2.2 := by
  unfold valN
  rw [List.find?_cons_of_pos (by exact decide_eq_true e)]
  rfl
theorem valN_neg {x : NEnt} {L : List NEnt} {k : NestedKey} (e : ¬ x.1 = k) : valN (x :: L) k = valN L k := by
  unfold valN
  rw [List.find?_cons_of_neg (by rw [decide_eq_false e]; exact Bool.false_ne_true)]
theorem putN_len (L : List NEnt) (k : NestedKey) (q : Addr) (v : V) : (putN L k q v).length ≤ L.length + 1 := by
  unfold putN
  split
  · rw [List.length_map]
    exact Nat.le_succ _
  · rw [List.length_append]
    exact Nat.le_refl _
theorem NRel.val {L : List NEnt} {xs : List (NestedKey × Addr × Value)} (r : NRel L xs) (k : NestedKey) : RelO (valN L k) ((atKey xs k).map (·.2)) := by
  induction r with
  | nil => exact True.intro
  | @cons p q ps qs hpq t ih =>
    obtain ⟨e1, _, e3⟩ := hpq
    by_cases e : p.1 = k
    · have f : atKey (q :: qs) k = some q.2 := by
        unfold atKey
        rw [List.find?_cons_of_pos (by exact decide_eq_true (e1.symm.trans e))]
        rfl
      rw [valN_pos e, f]
      exact e3
    · have f : atKey (q :: qs) k = atKey qs k := by
        unfold atKey
        rw [List.find?_cons_of_neg (by rw [decide_eq_false fun z => e (e1.trans z)]; exact Bool.false_ne_true)]
      rw [valN_neg e, f]
      exact ih
theorem NRel.renew {L : List NEnt} {xs : List (NestedKey × Addr × Value)} (r : NRel L xs) (k : NestedKey) {y : V} {u : Value} (ry : RelV y u) : NRel (L.map (newN k y)) (xs.map (putAt k u)) := by
  induction r with
  | nil => exact .nil
  | @cons p q ps qs hpq t ih =>
    obtain ⟨e1, e2, e3⟩ := hpq
    refine .cons ?_ ih
    by_cases e : p.1 = k
    · rw [newN, putAt, if_pos e, if_pos (e1.symm.trans e)]
      exact ⟨e1, e2, ry⟩
    · rw [newN, putAt, if_neg e, if_neg fun z => e (e1.trans z)]
      exact ⟨e1, e2, e3⟩
theorem NRel.put {L : List NEnt} {xs : List (NestedKey × Addr × Value)} (r : NRel L xs) (k : NestedKey) (b : Addr) {y : V} {u : Value} (ry : RelV y u) : NRel (putN L k b y) (storedH xs k b u) := by
  have e : (valN L k).isSome = (atKey xs k).isSome := by
    rw [(r.val k).isSome_eq, Option.isSome_map]
  unfold putN storedH
  rw [e]
  by_cases q : (atKey xs k).isSome = true
  · rw [if_pos q, if_pos q]
    exact r.renew k ry
  · rw [if_neg q, if_neg q]
    exact Paired.snoc r ⟨rfl, rfl, ry⟩
theorem NRel.back {L : List NEnt} {xs : List (NestedKey × Addr × Value)} (r : NRel L xs) {x : NestedKey × Addr × Value} (hx : x ∈ xs) : ∃ p ∈ L, p.1 = x.1 ∧ p.2.1 = x.2.1 := by
  induction r with
  | nil => cases hx
  | @cons p q ps qs hpq t ih =>
    rcases List.mem_cons.mp hx with e | hx
    · rw [e]
      exact ⟨p, List.mem_cons_self, hpq.1, hpq.2.1⟩
    · obtain ⟨p', h1, h2⟩ := ih hx
      exact ⟨p', List.mem_cons_of_mem _ h1, h2⟩
theorem NRel.ahead {L : List NEnt} {xs : List (NestedKey × Addr × Value)} (r : NRel L xs) {i : Nat} {p : NEnt} (hp : L[i]? = some p) : ∃ x, xs[i]? = some x ∧ p.1 = x.1 ∧ p.2.1 = x.2.1 ∧ RelV p.2.2 x.2.2 := by
  obtain ⟨x, h1, h2⟩ := paired_get r hp
  exact ⟨x, h1, h2⟩
def NObj (P : Program) (w : World) (L : List NEnt) (o : Obj) : Prop := o.ExactDict ∧ ∃ xs es ep, o.data = .dict es ep ∧ NRel L xs ∧ es.toList = xs.map (entryOfKey (nestedKind P w)) ∧ (xs.map (·.1)).Nodup
/-- such a dict -/
def nD (P : Program) (w : World) (d : Addr) (L : List NEnt) : HO := .ext fun h => (d == sysModules) = false ∧ L.length ≤ sizeLine ∧ ∃ o, h.get? d = some o ∧ NObj P w L o
def NKeys (H : Hp) (L : List NEnt) : Prop := ∀ x ∈ L, KyV H x.1 (.ref x.2.1) ∧ x.1.depth ≤ 8
theorem NKeys.mono {H H' : Hp} {L : List NEnt} (n : NKeys H L) (f : ∀ a xs, Rd H a (.tup xs) → Rd H' a (.tup xs)) : NKeys H' L := fun x hx => ⟨KyV.mono f _ _ (n x hx).1, (n x hx).2⟩
theorem NKeys.put {H : Hp} {L : List NEnt} {k : NestedKey} {q : Addr} {v : V} (n : NKeys H L) (hk : KyV H k (.ref q)) (hd : k.depth ≤ 8) : NKeys H (putN L k q v) := fun x hx => by
  unfold putN at hx
  split at hx
  · obtain ⟨y, hy, rfl⟩ := List.mem_map.mp hx
    have e : (newN k v y).1 = y.1 ∧ (newN k v y).2.1 = y.2.1 := by
      unfold newN
      split <;> exact ⟨rfl, rfl⟩
    rw [e.1, e.2]
    exact n y hy
  · rcases List.mem_append.mp hx with h | h
    · exact n x h
    · rw [List.mem_singleton.mp h]
      exact ⟨hk, hd⟩
section
variable {P : Program} {w : World} {H : Hp} {h : Heap} {d : Addr} {L : List NEnt}
theorem nD_ok {o : Obj} (hs : (d == sysModules) = false) (hl : L.length ≤ sizeLine) (ho : h.get? d = some o) (hn : NObj P w L o) : ObjOk P w H h d (nD P w d L) :=
  ⟨⟨hs, hl, o, ho, hn⟩, ⟨o, ho⟩, fun _ _ ⟨a, b, o, e, n⟩ k => ⟨a, b, o, k o e, n⟩⟩
theorem nD_raw (ok : HOk P w H h) (e : Rd H d (nD P w d L)) : (d == sysModules) = false ∧ L.length ≤ sizeLine ∧ ∃ o, h.get? d = some o ∧ NObj P w L o := by
  obtain ⟨q, _⟩ := (show ObjOk P w H h d (nD P w d L) from e.ok ok)
  exact q
theorem nD_of (ok : HOk P w H h) (e : Rd H d (nD P w d L)) (hk : NKeys H L) : (d == sysModules) = false ∧ L.length ≤ sizeLine ∧ ∃ xs, NRel L xs ∧ h.DictOfH (nestedKind P w) d xs := by
  obtain ⟨hs, hl, o, ho, hx, xs, es, ep, hd, hr, he, hn⟩ := nD_raw ok e
  refine ⟨hs, hl, xs, hr, o, es, ep, ho, hx, hd, he, fun x hx => ?_, hn⟩
  obtain ⟨p, hp, e1, e2⟩ := hr.back hx
  obtain ⟨k1, k2⟩ := hk p hp
  rw [← e1, ← e2]
  exact ⟨KyV.nested ok _ _ _ k1 rfl, k2⟩
theorem nD_type (ok : HOk P w H h) (e : Rd H d (nD P w d L)) : (∃ o, h.get? d = some o ∧ o.cls = .type "dict") ∧ (∀ b, Value.ref d = .ref b → ∃ ob, h.get? b = some ob ∧ ob.dict = none) := by
  obtain ⟨_, _, o, ho, hx, _⟩ := nD_raw ok e
  exact ⟨⟨o, ho, hx.1⟩, fun b q => by cases q; exact ⟨o, ho, hx.2.1⟩⟩
theorem nky_of (ok : HOk P w H h) {k : NestedKey} {q : Addr} (hk : KyV H k (.ref q)) (hd : k.depth ≤ 8) : (nestedKind P w).is h k q := ⟨KyV.nested ok _ _ _ hk rfl, hd⟩
end
/-! ### their rules -/
def tNNew (P : Program) (w : World) : TE := fun _ H Q => ∀ p, H p = none → Q (.ref p) (upd H p (nD P w p []))
def tNDisp1 (P : Program) (w : World) (tk tv : TE) : TE := fun σ H Q => ∀ p, H p = none → tk σ (upd H p (nD P w p [])) fun kx H1 => tv σ H1 fun vx H2 => H2 p = some (nD P w p []) ∧ ∃ (b : Addr) (key : NestedKey), kx = .ref b ∧ KyV H2 key (.ref b) ∧ key.depth ≤ 8 ∧ Q (.ref p) (upd H2 p (nD P w p [(key, b, vx)]))
def tNGet (P : Program) (w : World) (td ty : TE) : TE := fun σ H Q => td σ H fun x H1 => ty σ H1 fun y H2 => ∃ (a q : Addr) (L : List NEnt) (k : NestedKey) (v : V), x = .ref a ∧ y = .ref q ∧ Rd H2 a (nD P w a L) ∧ NKeys H2 L ∧ KyV H2 k (.ref q) ∧ k.depth ≤ 8 ∧ valN L k = some v ∧ Q v H2
def tNGet2 (P : Program) (w : World) (td ty tx : TE) : TE := fun σ H Q => td σ H fun x H1 => ∃ (a : Addr) (L0 : List NEnt), x = .ref a ∧ Rd H1 a (nD P w a L0) ∧ ty σ H1 fun y H2 => tx σ H2 fun z H3 => ∃ (q : Addr) (L : List NEnt) (k : NestedKey), y = .ref q ∧ Rd H3 a (nD P w a L) ∧ NKeys H3 L ∧ KyV H3 k (.ref q) ∧ k.depth ≤ 8 ∧ Q ((valN L k).getD z) H3
def sNPut (P : Program) (w : World) (td ty tv : TE) : TS := fun D σ H => tv σ H fun v H1 => td σ H1 fun x H2 => ty σ H2 fun y H3 => ∃ (a q : Addr) (L : List NEnt) (k : NestedKey), x = .ref a ∧ y = .ref q ∧ H3 a = some (nD P w a L) ∧ NKeys H3 L ∧ KyV H3 k (.ref q) ∧ k.depth ≤ 8 ∧ L.length < sizeLine ∧ D.nx σ (upd H3 a (nD P w a (putN L k q v)))
section
variable {X : Cx} {o i e f value : Expr} {pos pos' : Pos} {td ty tv tx : TE}
theorem room_9 {k : Nat} {A : Around} (r : Room k A) : A.units + 9 < cLine := by
  have := r.un
  omega
theorem room9 {A : Around} {P : Program} {w : World} (hu : A.units + 9 < cLine) : (nestedKind P w).room A.in1 := hu
theorem nD_write {pins : List (Addr × Obj)} {σ : L2.St} {H : Hp} {s : Shared} {h' : Heap} {a : Addr} {L L' : List NEnt} {xs' : List (NestedKey × Addr × Value)} (t' : Nat) (I : Inv X pins σ H s) (e : H a = some (nD X.prog X.w a L)) (hl : L'.length ≤ sizeLine) (r : NRel L' xs') (dd : h'.DictOfH (nestedKind X.prog X.w) a xs') (hs : Heap.SameBut a s.heap h') :
    Inv X pins σ (upd H a (nD X.prog X.w a L')) { s with heap := h', toks := t' } := by
  obtain ⟨ne, _⟩ := nD_raw I.hok (.inl e)
  obtain ⟨q, es, ep, hq, h2, h3, h4, _, h5⟩ := dd
  exact d_write I (by rw [e]; exact True.intro) hs ⟨q, hq⟩ (nD_ok ne hl hq ⟨h2, xs', es, ep, h3, r, h4, h5⟩)
theorem pe_ndnew : PE X (.Dict [] [] pos) (tNNew X.prog X.w) := ⟨fun pins s σ H Q I h =>
  wpAny_Dict_empty ⟨.ref s.heap.objs.size, _, I.laid (a := s.heap.objs.size) (o := nD X.prog X.w s.heap.objs.size []) (t' := s.toks) (fun _ _ q => Heap.get?_push_of_some _ q) (Nat.le_refl _)
    (nD_ok (beq_eq_false_iff_ne.mpr (Ne.symm (Nat.ne_of_lt I.big))) (Nat.zero_le _) (Heap.get?_push_size _ rfl) ⟨⟨rfl, rfl, rfl⟩, [], #[], 0, rfl, .nil, rfl, List.nodup_nil⟩), rfl, h _ (I.hok.fresh (Nat.le_refl _))⟩⟩
theorem pe_ndisp1 {k v : Expr} {tk tv : TE} (hu : X.A.units + 9 < cLine) (hk : PE X k tk) (hv : PE X v tv) : PE X (.Dict [some k] [v] pos) (tNDisp1 X.prog X.w tk tv) := ⟨fun pins s σ H Q I q => by
  have new := I.hok.fresh (Nat.le_refl s.heap.objs.size)
  have J := I.laid (a := s.heap.objs.size) (o := nD X.prog X.w s.heap.objs.size []) (h' := s.heap.push { cls := .type "dict", data := .dict #[] }) (t' := s.toks) (fun _ _ z => Heap.get?_push_of_some _ z) (Nat.le_refl _)
    (nD_ok (beq_eq_false_iff_ne.mpr (Ne.symm (Nat.ne_of_lt I.big))) (Nat.zero_le _) (Heap.get?_push_size _ rfl) ⟨⟨rfl, rfl, rfl⟩, [], #[], 0, rfl, .nil, rfl, List.nodup_nil⟩)
  refine wpAny_Dict_any rfl rfl (by simp) (show 1 ≤ 15 by decide) (pairTrees_cons_walk (thn (hk.run pins _ σ _ _ J (q _ new)) fun kv s1 y1 => ?_))
  obtain ⟨kx, H1, J1, rk, q1⟩ := y1
  refine thn (hv.run pins s1 σ H1 _ J1 q1) fun vv s2 y2 => ?_
  obtain ⟨vx, H2, J2, rv, e, b, key, rfl, hb, hd, fin⟩ := y2
  obtain rfl : kv = Value.ref b := rk
  refine pairTrees_nil_walk ?_
  obtain ⟨_, _, xs, rel, dd⟩ := nD_of J2.hok (.inl e) (fun x hx => nomatch hx)
  cases rel
  unfold storeAll
  simp only [List.forIn_cons, List.forIn_nil]
  refine wpAny_bind (wpAny_bind (wpAny_dictSet_heap (hsz := by simp) (show X.A.units + 8 < cLine by omega) (nky_of J2.hok hb hd) dd fun h' dd' hs => wpAny_pure (wpAny_pure ?_)))
  exact ⟨.ref s.heap.objs.size, _, nD_write _ J2 e (by show 1 ≤ sizeLine; decide) (NRel.put (L := []) .nil key b rv) dd' hs, rfl, fin⟩⟩
theorem pe_nget (hu : X.A.units + 9 < cLine) (ho : PE X o td) (hi : PE X i ty) (hs : NoSl i) : PE X (.Subscript o i pos) (tNGet X.prog X.w td ty) := by
  refine ⟨fun pins s σ H Q I h => ?_⟩
  refine subD_of PySem.F.slot_dict_getitem.lookup hs (thn (ho.run pins s σ H _ I h) fun u s1 y1 => ?_)
  obtain ⟨x, H1, I1, rx, q1⟩ := y1
  refine thn (hi.run pins s1 σ H1 _ I1 q1) fun iv s2 y2 => ?_
  obtain ⟨y, H2, I2, ry, a, q, L, k, v, rfl, rfl, hd, hk, hq, dk, hv, fin⟩ := y2
  obtain rfl : u = Value.ref a := rx
  obtain rfl : iv = Value.ref q := ry
  refine ⟨(nD_type I2.hok hd).1, ?_⟩
  obtain ⟨_, _, xs, rel, dd⟩ := nD_of I2.hok hd hk
  obtain ⟨w', hw, rw'⟩ := RelO.some_of (v := v) (o := (atKey xs k).map (·.2)) (by rw [← hv]; exact rel.val k)
  obtain ⟨p, hp, hp2⟩ := Option.map_eq_some_iff.mp hw
  refine wpAny_getItem_heap (room9 hu) (nky_of I2.hok hq dk) dd hp ?_
  rw [hp2]
  exact ⟨v, H2, I2.tok _, rw', fin⟩
theorem ps_nput (hu : X.A.units + 9 < cLine) (ho : PE X o td) (hi : PE X i ty) (hv : PE X value tv) (hs : swapsWith value (some (.Subscript o i pos')) pos.line X.env = pure false) :
    PS X (.Assign [.Subscript o i pos'] value pos) (sNPut X.prog X.w td ty tv) := by
  refine ⟨fun pins s σ H D I h => ?_⟩
  refine wpAny_Assign_Subscript (thn (hv.run pins s σ H _ I h) fun r s1 y1 => ?_) hs
  obtain ⟨v, H1, I1, rv, q1⟩ := y1
  refine thn (ho.run pins s1 σ H1 _ I1 q1) fun u s2 y2 => ?_
  obtain ⟨x, H2, I2, rx, q2⟩ := y2
  refine thn (hi.run pins s2 σ H2 _ I2 q2) fun iv s3 y3 => ?_
  obtain ⟨y, H3, I3, ry, a, q, L, k, rfl, rfl, hd, hk, hq, dk, hl, fin⟩ := y3
  obtain rfl : u = Value.ref a := rx
  obtain rfl : iv = Value.ref q := ry
  obtain ⟨_, z, xs, rel, dd⟩ := nD_of I3.hok (.inl hd) hk
  have hz : xs.length ≤ sizeLine := by
    rw [← Paired.length rel]
    exact z
  refine wpAny_setItem_heap (hsz := hz) (room9 hu) (nky_of I3.hok hq dk) dd fun h' dd' sb => ?_
  exact ⟨σ, _, nD_write _ I3 hd (by have := putN_len L k q v; omega) (rel.put k q rv) dd' sb, fin⟩
theorem pe_nget2 {apos cpos : Pos} (hu : X.A.units + 9 < cLine) (ho : PE X o td) (he : PE X e ty) (hf : PE X f tx) (m : M2 X o "get" apos e f cpos) : PE X (.Call (.Attribute o "get" apos) [e, f] [] cpos) (tNGet2 X.prog X.w td ty tx) := by
  refine ⟨fun pins s σ H Q I h => ?_⟩
  refine wpAny_Call_method m.base m.few m.line PySem.F.plainAttrs_dict PySem.F.slot_dict_get PySem.F.type_dict_get (thn (ho.run pins s σ H _ I h) fun u s1 y1 => ?_)
  obtain ⟨x, H1, I1, rx, a, L0, rfl, hd0, q1⟩ := y1
  obtain rfl : u = Value.ref a := rx
  obtain ⟨t1, t2⟩ := nD_type I1.hok hd0
  refine ⟨t1, t2, ?_⟩
  rw [m.trees]
  refine Calls.callWith_builtin rfl (Calls.evalArgs_plain (Calls.spliced_cons (thn (he.run pins s1 σ H1 _ I1 q1) fun iv s2 y2 => ?_)))
  obtain ⟨y, H2, I2, ry, q2⟩ := y2
  refine Calls.spliced_cons (thn (hf.run pins s2 σ H2 _ I2 q2) fun fv s3 y3 => Calls.spliced_nil ?_)
  obtain ⟨z, H3, I3, rz, q, L, k, rfl, hd, hk, hq, dk, fin⟩ := y3
  obtain rfl : iv = Value.ref q := ry
  obtain ⟨ne, _, xs, rel, dd⟩ := nD_of I3.hok hd hk
  refine call_meetsIn PySem.F.slot_dict_get dd.typeIs PySem.F.entry_dict_get (PySem.F.args_dict_get_3 _ _ _) (meetsH_dict_get_default (nestedKind X.prog X.w) a q ne fv) ⟨room9 hu, k, xs, nky_of I3.hok hq dk, dd, ?_⟩
  exact ⟨_, H3, I3.tok _, (rel.val k).getD rz, fin⟩
end
/-! ### walked by keys, locked -/
def Itn (P : Program) (w : World) (d : Addr) (o : Obj) (L : List NEnt) : It :=
  ⟨fun i H => H d = some (.frz o (nD P w d L)) ∧ i < L.length, fun i H x H' => H' = H ∧ ∃ (k : NestedKey) (q : Addr) (v : V), L[i]? = some (k, q, v) ∧ x = .ref q, fun i H => H d = some (.frz o (nD P w d L)) ∧ L.length ≤ i⟩
theorem walk_nkeys {P : Program} {w : World} {d : Addr} {o : Obj} {L : List NEnt} : Walk (Itn P w d o L) L.length (fun H => H d = some (.frz o (nD P w d L))) (fun i H x H' => H' = H ∧ ∃ (k : NestedKey) (q : Addr) (v : V), L[i]? = some (k, q, v) ∧ x = .ref q) :=
  ⟨fun _ _ hi q => ⟨q, hi⟩, fun _ q => ⟨q, Nat.le_refl _⟩, fun _ _ _ _ _ _ y => y⟩
theorem nD_frz {X : Cx} {pins : List (Addr × Obj)} {σ : L2.St} {H : Hp} {s : Shared} {d : Addr} {o : Obj} {L : List NEnt} (I : Inv X pins σ H s) (h : H d = some (.frz o (nD X.prog X.w d L))) :
    (d == sysModules) = false ∧ s.heap.get? d = some o ∧ o.ExactDict ∧ ∃ (es : Array DictEntry) (ep : Nat), o.data = .dict es ep ∧ es.size = L.length ∧ ∀ (i : Nat) (k : NestedKey) (q : Addr) (v : V), L[i]? = some (k, q, v) → ∃ en : DictEntry, es[i]? = some en ∧ en.key = .ref q := by
  obtain ⟨e1, e2⟩ := (show ObjOk X.prog X.w H s.heap d (.frz o (nD X.prog X.w d L)) from I.hok d _ h)
  obtain ⟨⟨hs, _, o', ho, hx, xs, es, ep, hd, hr, he, _⟩, _⟩ := (show ObjOk X.prog X.w H s.heap d (nD X.prog X.w d L) from e2)
  rw [e1] at ho
  cases ho
  refine ⟨hs, e1, hx, es, ep, hd, ?_, fun i k q v hi => ?_⟩
  · have l1 : es.toList.length = xs.length := by rw [he, List.length_map]
    rw [Paired.length hr, ← l1, Array.length_toList]
  · obtain ⟨x, h1, _, h3, _⟩ := hr.ahead hi
    refine ⟨entryOfKey (nestedKind X.prog X.w) x, ?_, congrArg Value.ref h3.symm⟩
    rw [← Array.getElem?_toList, he, List.getElem?_map, h1]
    rfl
theorem turn_nkeys {P : Program} {w : World} {K : PySem.W.Frag} {tg : Expr} {d : Addr} {o : Obj} {es : Array DictEntry} {ep : Nat} {L : List NEnt} (it : Addr) (hod : o.data = .dict es ep) : Turn P w K tg (Itn P w d o L) [it] it (fun i h => h.IsKeyIter it d i L.length ep) := by
  have self_ : it ∈ [it] := List.mem_singleton.mpr rfl
  refine { mem := self_, obj := fun n h here b hb => ?_, keep := fun n h h' here k => here.at fun u e => k it self_ u e, item := ?_, done := ?_, self := fun A n t Q E here q => wpAny_pyIter_keyiter here q }
  · obtain ⟨u, at_, _, fl⟩ := here
    refine ⟨u, by rw [List.mem_singleton.mp hb]; exact at_, fun v z => ?_⟩
    rw [fl] at z
    cases z
  · rintro Y rfl rfl rfl - n pp t σ G E J own here ⟨lk, lt⟩
    obtain ⟨e0, e1, e2, e3, e4, e5⟩ := own it self_
    obtain ⟨_, raw, ex, es2, ep2, fl, len, ent⟩ := nD_frz J lk
    cases fl.symm.trans hod
    obtain ⟨en, hen, key⟩ := ent n _ _ _ (List.getElem?_eq_getElem lt)
    refine next_key_item here raw fl len hen fun g here2 rest => ?_
    have J2 : Inv Y pp σ G { t with heap := g } := J.turned (t' := t.toks) (fun b u ne e => (rest.2 b ne).trans e) e0 e1 e3 e4 e5
    obtain ⟨u, at_, cl, fl2⟩ := id here2
    exact ⟨en.key, rfl, go_of (s := { t with heap := g }) at_ cl fl2 (by decide) ⟨.ref L[n].2.1, G, J2, key, ⟨rfl, _, _, _, List.getElem?_eq_getElem lt, rfl⟩, here2, fun b hb => (own b hb).1⟩⟩
  · rintro Y rfl rfl rfl still n pp t σ G E J own here ⟨lk, ge⟩
    obtain ⟨e0, e1, e2, e3, e4, e5⟩ := own it self_
    obtain ⟨_, raw, ex, es2, ep2, fl, len, _⟩ := nD_frz J lk
    cases fl.symm.trans hod
    exact next_key_end (J.ok.hd still) here raw fl len ge fun g rest => ⟨rfl, J.turned (t' := t.toks) (fun b u ne e => rest b u ne e) e0 e1 e3 e4 e5⟩
def iNKeys (P : Program) (w : World) (td : TE) : TI := fun σ H R => td σ H fun x H1 => ∃ (d : Addr) (o : Obj) (L : List NEnt), x = .ref d ∧ H1 d = some (.frz o (nD P w d L)) ∧ R (Itn P w d o L) H1
theorem pi_nkeys {X : Cx} {tg e : Expr} {td : TE} (he : PE X e td) : PI X tg e (iNKeys X.prog X.w td) := by
  refine ⟨fun pins s σ H R I h => ?_⟩
  refine thn (he.run pins s σ H _ I h) fun u s1 y1 => ?_
  obtain ⟨x, H1, I1, rx, d, o, L, rfl, hd, q⟩ := y1
  obtain rfl : u = Value.ref d := rx
  obtain ⟨hs, hgd, hx, es, ep, hdt, hsz, ent⟩ := nD_frz I1 hd
  refine iter_keys hs hgd hx hdt (pi_one (tk := s1.toks) I1 _ (turn_nkeys _ hdt) ⟨_, Heap.get?_push_size _ rfl, rfl, ?_⟩ q)
  rw [hsz] <;> rfl
end Lp
namespace Lp
open PySem PySem.Spec PyProof.Rows L2
/-! ### len(set(xs)) where all of xs are one number; sorted numbers are told by their order -/
theorem met_one (x : Int) (n : Nat) : ∀ i, i ≤ n → PyProof.Rows.firstMet (fun i => (List.replicate (n + 1) x).getD i 0) (i + 1) = [x]
  | 0, _ => by
    rw [PyProof.Rows.firstMet_succ]
    rfl
  | i + 1, h => by
    have g : (List.replicate (n + 1) x).getD (i + 1) 0 = x := by
      rw [List.getD_eq_getElem?_getD, List.getElem?_replicate, if_pos (by omega)]
      rfl
    rw [PyProof.Rows.firstMet_succ, met_one x n i (by omega)]
    show (if [x].any (· == (List.replicate (n + 1) x).getD (i + 1) 0) then [x] else [x] ++ [(List.replicate (n + 1) x).getD (i + 1) 0]) = [x]
    rw [g, if_pos (by simp)]
theorem ints_of : ∀ {ns : List Int} {us : List Value}, Vals (ns.map V.int) us → PyProof.Rows.IntsAre us ns
  | [], _, h => by cases h; exact .nil
  | n :: ns, _, h => by
    cases h with
    | cons a b =>
      obtain ⟨k, rfl⟩ := a
      exact .cons n k (ints_of b)
def tLenSetE (K : PySem.W.Frag) (ta : TE) : TE := fun σ H Q => ta σ H fun v H1 => ∃ (l : Addr) (x : Int) (n : Nat), v = .ref l ∧ SqL K H1 l ((List.replicate (n + 1) x).map V.int) ∧ n ≤ 1000 ∧ Q (.int 1) H1
theorem pe_lenSetE {X : Cx} {a : Expr} {ta : TE} {p1 p2 p3 p4 : Pos} (gl : Gl X "len") (ml : X.mg "len" = none) (gs : Gl X "set") (ms : X.mg "set" = none) (ha : PE X a ta) (calm : X.calm = true := by rfl)
    (st : starEach [a] X.env = (false, eval a X.env) :: starEach [] X.env := by rfl) : PE X (.Call (.Name "len" p1) [.Call (.Name "set" p2) [a] [] p3] [] p4) (tLenSetE X.K ta) := ⟨fun pins s σ H Q I h => by
  refine Call_ (ld_blt I gl ml boot_len (PyProof.Rows.callWith_builtin1 (PyProof.Rows.args_cons ?_ rfl) rfl rfl))
  refine Call_ (ld_blt I gs ms boot_set (PyProof.Rows.callWith_type1 (PyProof.Rows.args_cons (thn (ha.run pins s σ H _ I h) fun v t y => PyProof.Rows.args_nil ?_) st) st rfl))
  obtain ⟨x, H1, J, rx, l, z, n, rfl, hl, hn, fin⟩ := y
  cases rx
  obtain ⟨its, rv, pl, _⟩ := J.list hl
  have len : its.toArray.size = n + 1 := by
    rw [List.size_toArray, ← rv.length, List.length_map, List.length_replicate]
  refine call_set_list (J.ok.hd calm) pl.isList (by simpa using ints_of rv) (by rw [len]; unfold scanBound; omega) fun g tk hS keep => PyProof.Rows.args_nil ?_
  rw [len, met_one z n n (Nat.le_refl n)] at hS
  obtain ⟨o, es, ep, tt, at_, ex, fl, _, _, _, free, size⟩ := hS
  have J2 : Inv X pins σ H1 { t with heap := g, toks := tk } := J.kept fun b o e => keep b o (Heap.lt_size e) e
  exact call_len_set at_ ex fl free (by rw [size]; show ((1 : Nat) : Int) < 2 ^ 63; decide) ⟨.int 1, H1, J2.tok _, ⟨_, by rw [size]; rfl⟩, fin⟩⟩
/-- two sorted lists of the same numbers are one -/
theorem sorted_same : ∀ {a b : List Int}, a.Perm b → a.Pairwise (· ≤ ·) → b.Pairwise (· ≤ ·) → a = b
  | [], b, p, _, _ => (List.nil_perm.mp p).symm
  | x :: a, [], p, _, _ => by cases p.length_eq
  | x :: a, y :: b, p, ha, hb => by
    obtain ⟨a1, a2⟩ := List.pairwise_cons.mp ha
    obtain ⟨b1, b2⟩ := List.pairwise_cons.mp hb
    have e : x = y := by
      have hx : x ∈ y :: b := p.mem_iff.mp List.mem_cons_self
      have hy : y ∈ x :: a := p.mem_iff.mpr List.mem_cons_self
      have l1 : y ≤ x := by
        rcases List.mem_cons.mp hx with z | z
        · omega
        · exact b1 x z
      have l2 : x ≤ y := by
        rcases List.mem_cons.mp hy with z | z
        · omega
        · exact a1 y z
      omega
    subst e
    rw [sorted_same p.cons_inv a2 b2]
end Lp
namespace Lp
open PySem PySem.Spec PyProof.Rows L2
/-! ### a row that tells words apart -/
theorem end_sign {e X : List Bool} {b : Bool} {v : List Int} {h : Int} (ne : v ≠ []) (hX : sgn h v = X ++ [b]) (hf : e.count false + 1 ≤ (sgn h v).count false) (ht : e.count true + 1 ≤ (sgn h v).count true) :
    sgn h (afterL e v) = dropN (e.count false) (e.count true) X ++ [b] ++ e := by
  rw [after_sgn h e v ne, dropN_app, show e.count false - (sgn h v).count false = 0 by omega, show e.count true - (sgn h v).count true = 0 by omega, dropN_0, hX, dropN_app]
  rw [hX, List.count_append] at hf ht
  have f1 : e.count false - X.count false = 0 := by
    cases b
    · simp at hf; omega
    · simp at hf; omega
  have t1 : e.count true - X.count true = 0 := by
    cases b
    · simp at ht; omega
    · simp at ht; omega
  rw [f1, t1, dropN_0]
theorem tell_end {e XA XB : List Bool} {c : Bool} {va vb : List Int} {h : Int} (na : va ≠ []) (nb : vb ≠ []) (len : va.length = vb.length) (hA : sgn h va = XA ++ [c]) (hB : sgn h vb = XB ++ [!c])
    (fa : e.count false + 1 ≤ (sgn h va).count false) (ta : e.count true + 1 ≤ (sgn h va).count true) (fb : e.count false + 1 ≤ (sgn h vb).count false) (tb : e.count true + 1 ≤ (sgn h vb).count true) : afterL e va ≠ afterL e vb := by
  intro z
  have a1 := end_sign na hA fa ta
  have b1 := end_sign nb hB fb tb
  rw [z, b1] at a1
  have h1 := List.append_cancel_right a1
  have h2 := (List.append_inj' h1 rfl).2
  have h3 := (List.cons.inj h2).1
  cases c <;> cases h3
theorem pass_end {b : Bool} {v : List Int} {h : Int} (ne : v ≠ []) (hb : 1 ≤ (sgn h v).count b) : ∃ X, sgn h (passL b v) = X ++ [b] := by
  refine ⟨(sgn h v).erase b, ?_⟩
  rw [pass_sgn b h ne, List.erase_append_left _ (List.count_pos_iff.mp hb)]
/-- below a height, of the heights 1 to m -/
theorem count_rg {m : Nat} {h : Int} (h0 : 1 ≤ h) (h1 : h ≤ (m : Nat) + 1) {v : List Int} (p : v.Perm (rg 1 ((m : Nat) + 1))) : ((sgn h v).count false : Int) = h - 1 ∧ ((sgn h v).count true : Int) = (m : Nat) + 1 - h := by
  have two := count_two (sgn h v)
  have ln : v.length = m := by rw [p.length_eq, rg_len]; omega
  rw [sgn_len, ln] at two
  have up : (rg 1 ((m : Nat) + 1)).Pairwise (· ≤ ·) := by
    unfold rg
    exact List.pairwise_map.mpr (List.pairwise_lt_range.imp fun h => by omega)
  have e : (sgn h v).count false = ((rg 1 ((m : Nat) + 1)).filter fun y => decide (y < h)).length := by
    rw [(sgn_perm p).count_eq, zeros_count]
  have c : ∀ k : Nat, (((List.range k).map fun i : Nat => (1 : Int) + (i : Nat)).filter fun y => decide (y < h)).length = min k (h - 1).toNat := fun k => by
    induction k with
    | zero => simp
    | succ k ih =>
      rw [List.range_succ, List.map_append, List.filter_append, List.length_append, ih]
      by_cases w : (1 : Int) + (k : Nat) < h
      · simp [w]
        omega
      · simp [w]
        omega
  have e2 : ((rg 1 ((m : Nat) + 1)).filter fun y => decide (y < h)).length = min m (h - 1).toNat := by
    unfold rg
    have := c ((((m : Nat) : Int) + 1 - 1).toNat)
    rw [this]
    congr 1
    omega
  rw [e2] at e
  constructor
  · omega
  · omega
/-- the words' common end; the letter ahead of it in the longer one; the row -/
def tellRow (c : Bool) (e : List Bool) (m : Nat) : List Int :=
  rg 1 (1 + (e.count false : Nat)) ++ rg ((m : Nat) + 1 - (e.count true : Nat)) ((m : Nat) + 1) ++ (if c then (rg (1 + (e.count false : Nat)) ((m : Nat) + 1 - (e.count true : Nat))).reverse else rg (1 + (e.count false : Nat)) ((m : Nat) + 1 - (e.count true : Nat)))
theorem rg_glue {a b c : Int} (h1 : a ≤ b) (h2 : b ≤ c) : rg a b ++ rg b c = rg a c := by
  unfold rg
  obtain ⟨x, hx⟩ : ∃ x : Nat, b = a + (x : Nat) := ⟨(b - a).toNat, by omega⟩
  obtain ⟨y, hy⟩ : ∃ y : Nat, c = b + (y : Nat) := ⟨(c - b).toNat, by omega⟩
  subst hx
  subst hy
  rw [show (a + (x : Nat) - a).toNat = x by omega, show (a + (x : Nat) + (y : Nat) - (a + (x : Nat))).toNat = y by omega, show (a + (x : Nat) + (y : Nat) - a).toNat = x + y by omega, List.range_add, List.map_append, List.map_map]
  congr 1
  refine List.map_congr_left fun i _ => ?_
  show a + (x : Nat) + (i : Nat) = a + ((x + i : Nat) : Int)
  omega
theorem tellRow_perm {c : Bool} {e : List Bool} {m : Nat} (h : e.length ≤ m) : (tellRow c e m).Perm (rg 1 ((m : Nat) + 1)) := by
  have two := count_two e
  unfold tellRow
  have g1 := rg_glue (a := 1) (b := 1 + (e.count false : Nat)) (c := (m : Nat) + 1 - (e.count true : Nat)) (by omega) (by omega)
  have g2 := rg_glue (a := 1) (b := (m : Nat) + 1 - (e.count true : Nat)) (c := (m : Nat) + 1) (by omega) (by omega)
  have mid : (if c then (rg (1 + (e.count false : Nat)) ((m : Nat) + 1 - (e.count true : Nat))).reverse else rg (1 + (e.count false : Nat)) ((m : Nat) + 1 - (e.count true : Nat))).Perm (rg (1 + (e.count false : Nat)) ((m : Nat) + 1 - (e.count true : Nat))) := by
    cases c
    · exact .refl _
    · exact List.reverse_perm _
  rw [← g2, ← g1, List.append_assoc, List.append_assoc]
  exact (List.perm_append_comm.trans (mid.append_right _)).append_left _
theorem tellRow_last {c : Bool} {e : List Bool} {m : Nat} (h : e.length + 2 ≤ m) : ∃ X, sgn (if c then (e.count false : Nat) + 2 else (m : Nat) - (e.count true : Nat)) (tellRow c e m) = X ++ [!c] := by
  have two := count_two e
  cases c with
  | true =>
    have g := rg_glue (a := 1 + (e.count false : Nat)) (b := 1 + (e.count false : Nat) + 1) (c := (m : Nat) + 1 - (e.count true : Nat)) (by omega) (by omega)
    have one : rg (1 + (e.count false : Nat)) (1 + (e.count false : Nat) + 1) = [1 + ((e.count false : Nat) : Int)] := by
      unfold rg
      rw [show (1 + ((e.count false : Nat) : Int) + 1 - (1 + ((e.count false : Nat) : Int))).toNat = 1 by omega]
      simp
    unfold tellRow sgn
    rw [if_pos rfl, if_pos rfl, ← g, one, List.reverse_append, List.reverse_singleton, ← List.append_assoc, List.map_append]
    show ∃ X, _ ++ [decide (((e.count false : Nat) : Int) + 2 ≤ 1 + ((e.count false : Nat) : Int))] = X ++ [false]
    rw [decide_eq_false (show ¬ (((e.count false : Nat) : Int) + 2 ≤ 1 + ((e.count false : Nat) : Int)) by omega)]
    exact ⟨_, rfl⟩
  | false =>
    have g := rg_glue (a := 1 + (e.count false : Nat)) (b := (m : Nat) - (e.count true : Nat)) (c := (m : Nat) + 1 - (e.count true : Nat)) (by omega) (by omega)
    have one : rg ((m : Nat) - (e.count true : Nat)) ((m : Nat) + 1 - (e.count true : Nat)) = [((m : Nat) : Int) - (e.count true : Nat)] := by
      unfold rg
      rw [show (((m : Nat) : Int) + 1 - (e.count true : Nat) - (((m : Nat) : Int) - (e.count true : Nat))).toNat = 1 by omega]
      simp
    unfold tellRow sgn
    rw [if_neg Bool.false_ne_true, if_neg Bool.false_ne_true, ← g, one, ← List.append_assoc, List.map_append]
    show ∃ X, _ ++ [decide (((m : Nat) : Int) - (e.count true : Nat) ≤ ((m : Nat) : Int) - (e.count true : Nat))] = X ++ [true]
    rw [decide_eq_true (show ((m : Nat) : Int) - (e.count true : Nat) ≤ ((m : Nat) : Int) - (e.count true : Nat) by omega)]
    exact ⟨_, rfl⟩
/-- the row tells them apart: one word ends with c and e, the other with the other letter and e, or is e -/
theorem tell_apart {c : Bool} {e w : List Bool} {m : Nat} (h : e.length + 2 ≤ m) {v : List Bool} (hv : v = [] ∨ ∃ u, v = u ++ [!c]) : afterL (w ++ [c] ++ e) (tellRow c e m) ≠ afterL (v ++ e) (tellRow c e m) := by
  have two := count_two e
  have pr := tellRow_perm (c := c) (e := e) (m := m) (by omega)
  have rl : (tellRow c e m).length = m := by rw [pr.length_eq, rg_len]; omega
  have neOf : ∀ x : List Bool, afterL x (tellRow c e m) ≠ [] := fun x z => by
    have := afterL_len x (tellRow c e m)
    rw [z, rl] at this
    have : 0 = m := this
    omega
  have cnt : ∀ x : List Bool, e.count false + 1 ≤ (sgn (if c then (e.count false : Nat) + 2 else (m : Nat) - (e.count true : Nat)) (afterL x (tellRow c e m))).count false ∧ e.count true + 1 ≤ (sgn (if c then (e.count false : Nat) + 2 else (m : Nat) - (e.count true : Nat)) (afterL x (tellRow c e m))).count true := fun x => by
    have p := (afterL_perm x (tellRow c e m)).trans pr
    cases c with
    | true =>
      have k := count_rg (h := ((e.count false : Nat) : Int) + 2) (by omega) (by omega) p
      rw [if_pos rfl]
      omega
    | false =>
      have k := count_rg (h := ((m : Nat) : Int) - (e.count true : Nat)) (by omega) (by omega) p
      rw [if_neg Bool.false_ne_true]
      omega
  rw [afterL_app (w ++ [c]) e, afterL_app v e]
  have last : ∀ (x : List Bool) (b : Bool), ∃ X, sgn (if c then (e.count false : Nat) + 2 else (m : Nat) - (e.count true : Nat)) (afterL (x ++ [b]) (tellRow c e m)) = X ++ [b] := fun x b => by
    rw [afterL_app]
    refine pass_end (neOf x) ?_
    have k := cnt x
    cases b
    · omega
    · omega
  obtain ⟨XA, hA⟩ := last w c
  obtain ⟨XB, hB⟩ : ∃ X, sgn (if c then (e.count false : Nat) + 2 else (m : Nat) - (e.count true : Nat)) (afterL v (tellRow c e m)) = X ++ [!c] := by
    rcases hv with rfl | ⟨u, rfl⟩
    · exact tellRow_last h
    · exact last u (!c)
  exact tell_end (neOf _) (neOf _) (by rw [afterL_len, afterL_len]) hA hB (cnt _).1 (cnt _).2 (cnt _).1 (cnt _).2
/-- how many letters two words have in common at their ends -/
def comE : List Bool → List Bool → Nat
  | a :: x, b :: y => if a = b then comE x y + 1 else 0
  | _, _ => 0
end Lp
namespace Lp
open PySem PySem.Spec PyProof.Rows L2
/-! ### f(k = v, ..) alone, some parameters behind the star left out -/
section
variable {X : Cx} {x : Str} {st : Stmt} {ps : List Str} {j k : Nat} {sp : Sp} {tk : TA} {p pos : Pos} {kws : List (Str × V)} {ky : List Keyword}
theorem pe_udw (ks : List Str) (ms : List (Str × V)) (g : {α : Type} → List α → List α → List α) (c : ClK X.prog X.w X.K X.mg X.base k x st ps kws sp) (hr : Room j X.A) (hk : k ≤ j) (hg : Gl X x) (h0 : kws ≠ []) (hms : ∀ q ∈ ms, q ∈ kws)
    (hrel : ∀ {mz zs : List V} {mv ws : List Value}, Vals mz mv → Vals zs ws → Vals (g mz zs) (g mv ws))
    (bd : ∀ (D : Addr) (doc pm : Value) (an : Option Addr) (cdv ct : Value) (mv ws : List Value), mv.length = ms.length → ws.length = ks.length → KwChain D ((ms.map (·.1)).zip mv) (bindArgs (PySem.W.fnOf x x (defArgs st) (defBody st) (defScope st) .none (.ref D) doc pm an cdv ct) ⟨[], ks.zip ws⟩) (ps.zip (g mv ws)))
    (hkw : PK X ky tk)
    (hall : (backToKw pos (keywordEach ky X.env)).all (·.1.isSome) = true := by rfl) (hks : (backToKw pos (keywordEach ky X.env)).filterMap (·.1) = ks := by rfl)
    (hdb : (x == ("__debug__" : Str)) = false := by decide) (hpl : ((backTo pos (starEach [] X.env)).any (·.1) || (backToKw pos (keywordEach ky X.env)).any (·.1.isNone)) = false := by rfl) :
    PE X (.Call (.Name x p) [] ky pos) (tKw ks.length sp (fun zs => g (ms.map (·.2)) zs) tk) := by
  obtain ⟨f, fd, F, G, hm, _⟩ := c.ex
  obtain ⟨mv, kb⟩ := F.kbinds0 (ps := ps) 0 ks ms (fun _ mv ws => g mv ws) h0 hms (fun _ a b => hrel a b) (fun D doc pm an cdv ct us mv ws l1 l2 l3 => by
    have e0 : us = [] := List.length_eq_zero_iff.mp l1
    subst e0
    exact bd D doc pm an cdv ct mv ws l2 l3)
  refine ⟨fun pins s σ H Q I h => ?_⟩
  refine wpAny_Call_Name_kw (ld_glob I hg hm ?_ hdb)
  refine PySem.W.callWith_KW0 (h₀ := X.base) I.ok.mod.kin F.kp hall (thn (hkw.run pos pins s σ H _ I h) fun ws s2 ⟨zs, H2, I2, rz, l2, q2⟩ => ⟨I2.kIn, ?_⟩) hpl
  rw [hks]
  exact run_fnN G (hr.mono hk) kb pass0 I2 .nil rz rfl l2 q2
end
/-! ### sorted(d), the keys of d tuples of ints -/
section
variable {X : Cx} {pins : List (Addr × Obj)} {σ : L2.St} {H : Hp} {s : Shared}
theorem row_readsN (I : Inv X pins σ H s) {r : Addr} {m : List Int} (h : SqT X.K H r (m.map V.int)) : Reads s.heap (.ref r) (dRw m) [] := by
  obtain ⟨its, rv, ht, _⟩ := I.tuple h
  obtain ⟨o, ho, hc, n, hd⟩ := ht
  have rr : ReadsAll s.heap its.toArray.toList (m.map PyData.int) [] := ints_read (by simpa using rv)
  exact .tuple ho hc hd rr
def rSortDT (K : PySem.W.Frag) : List V → Hp → VK → Prop := fun xs H Q => ∃ (d : Addr) (kvs : List (List L2.Key × V)) (ms : List (List Int)), xs = [.ref d] ∧ H d = some (.dT kvs) ∧ kvs.map (·.1) = ms.map kyI ∧ (∀ m ∈ ms, m ≠ []) ∧
  ∀ (qs : List Addr) (p : Addr), RwAt K H qs (sortR ms) → H p = none → Q (.ref p) (upd H p (.lst (qs.map V.ref)))
theorem keys_rows {K : PySem.W.Frag} {H : Hp} : ∀ {kvs : List (List L2.Key × V)} {bs : List Addr} {ms : List (List Int)}, IsKeys H kvs bs → kvs.map (·.1) = ms.map kyI → RwAt K H bs ms := fun {kvs bs ms} h => by
  induction h generalizing ms with
  | nil =>
    intro e
    rw [List.map_eq_nil_iff.mp e.symm]
    exact trivial
  | cons a _ ih =>
    intro e
    cases ms with
    | nil => cases e
    | cons m ms =>
      obtain ⟨e1, e2⟩ := List.cons.inj e
      refine ⟨.inl (.inl ?_), ih e2⟩
      rw [← kyI_V, ← (show _ = kyI m from e1)]
      exact a
theorem call_sortDT (hc : X.calm = true) (hu : X.A.units + 64 < cLine) : CallR X (.builtin "sorted") (rSortDT X.K) := by
  intro pins s σ H xs us Q I r h
  obtain ⟨d, kvs, ms, rfl, hd, hk, ne, q⟩ := h
  obtain ⟨u, rfl, rx⟩ := r.one
  cases rx
  obtain ⟨z, hs, ks, pr, o, es, ep, ho, hx, hdt, he, hn⟩ := (show ObjOk X.prog X.w H s.heap d (.dT kvs) from I.hok d _ hd)
  have sizes : es.size = ks.length ∧ kvs.length = ks.length := ⟨size_of_entries he, Paired.length pr⟩
  obtain ⟨l1, l2⟩ := sizes
  have keys := keys_rows (K := X.K) (isKeys_of pr) hk
  have kl := keys.len
  rw [List.length_map] at kl
  refine Calls.call_function_entry PyProof.Rows.kind_sorted PyProof.Rows.plain_sorted PyProof.Rows.entry_sorted (PyProof.Rows.args_sorted1 _) ?_
  unfold Builtin.«sorted»
  refine wpAny_bind (m := checkCount "sorted" 1 1 _) (wpAny_pure (wpAny_bind (PySem.W.kdu_collect (A := X.A.in1) (kdl_raw hs hx hdt) (I.ok.hd hc) ho (by omega) fun h' tk acc hkp it => ?_)))
  have many : acc.size = ks.length := it.1.trans l1
  have ea : acc.toList = (ks.map fun x => x.2.1).map Value.ref := List.ext_getElem (by simp [many]) fun j p1 p2 => by
    have jk : j < ks.length := by simpa using p2
    have ja : j < acc.size := by omega
    obtain ⟨en, a1, a2⟩ := it.2 j acc[j] (Array.getElem?_eq_getElem ja)
    have a3 := (entry_at he j).symm.trans a1
    rw [List.getElem?_eq_getElem jk] at a3
    rw [Array.getElem_toList, a2, ← Option.some.inj a3, List.getElem_map, List.getElem_map]
    rfl
  have I1 : Inv X pins σ H { s with heap := h', toks := tk } := I.kept hkp
  have al2 : acc.toList.length ≤ sizeLine := by rw [ea, List.length_map, List.length_map]; omega
  refine wpAny_bind (wpAny_newList ?_ al2)
  have hoL := Heap.get?_push_size h' (o := seqObj "list" acc.toList.toArray 0) rfl
  have e1 : PySem.W.EachIs (fun v m => ∃ r, v = Value.ref r ∧ SqT X.K H r (m.map V.int)) acc.toList ms := by
    rw [ea]
    exact rows_each keys (vals_refs _)
  have e3 : PySem.W.EachIs (fun v m => ∃ as, Reads (h'.push (seqObj "list" acc.toList.toArray 0)) v (dRw m) as ∧ h'.objs.size ∉ as) acc.toList ms := e1.mono fun v m zz => by
    obtain ⟨r, e, hr⟩ := zz
    rw [e]
    exact ⟨[], PyProof.Rows.Reads.keeps (fun _ _ q => Heap.get?_push_of_some _ q) (row_readsN I1 hr), by simp⟩
  have al : PySem.W.AllAlike (ms.map dRw) := PySem.W.AllAlike.of fun a b => by
    show PySem.W.alike (.tuple (a.map PyData.int)) (.tuple (b.map PyData.int)) = true
    simp only [PySem.W.alike]
    exact PySem.W.alike_ints a b
  have so : PySem.W.Sortable (ms.map dRw) := .inl fun d hd => by
    obtain ⟨m, hm, e⟩ := List.mem_map.mp hd
    cases m with
    | nil => exact absurd rfl (ne _ hm)
    | cons x m => exact ⟨_, _, e.symm⟩
  have un : ∀ m, m ∈ ms → X.A.in1.units + 1 + (dRw m).depth < cLine := fun m _ => by
    have := depth_ints m
    have iu : X.A.in1.units ≤ X.A.units + 1 := by
      first | exact Nat.le_refl _ | (show _ ≤ _; simp [Around.in1]; omega)
    simp only [PyData.depth]
    omega
  refine wpAny_bind (wpAny_holding (PySem.W.list_sort_data (enc := dRw) (s := { s with heap := h'.push (seqObj "list" acc.toList.toArray 0), toks := tk }) hoL e1 e3 al so (by omega) un fun out ol e2 => ?_))
  rw [dataLe_tups] at e2
  obtain ⟨qs, rfl, h2⟩ := each_rows e2
  rw [List.length_map] at ol
  obtain ⟨ep2, he'⟩ := PyProof.Rows.sortedHeap_at (vs := acc.toList) (out := (qs.map Value.ref).toArray) hoL
  refine wpAny_pure ⟨_, rfl, .ref h'.objs.size, upd H h'.objs.size (.lst (qs.map V.ref)), I1.laid (t' := tk) (fun b u e => ?_) (Nat.le_refl _) ⟨by rw [List.length_map]; omega, qs.map Value.ref, ep2, vals_refs qs, he'⟩, rfl, q qs _ h2 (I1.hok.fresh (Nat.le_refl _))⟩
  have older := Heap.lt_size e
  rw [PyProof.Rows.sortedHeap_old (Nat.ne_of_lt older) (by rw [size_push']; exact Nat.lt_succ_of_lt older)]
  exact Heap.get?_push_of_some _ e
end
end Lp
namespace Lp
open PySem PySem.Spec PyProof.Rows L2
/-! ### for x, y in zip(tuple, list), both of one length -/
structure ZM (z a b : Addr) (N : Nat) : Prop where
  az : a < N
  bz : b < N
  ez : z = N + 4
def zmFp (N : Nat) : List Addr := [N + 4, N + 2, N + 3, N, N + 1]
def zmSt (N : Nat) (a b : Addr) (i : Nat) (h : Heap) : Prop :=
  IsZip h (N + 4) (N + 2) (N + 3) .none ∧ IsTupOf2 h (N + 2) (.ref N) (.ref (N + 1)) ∧ (∃ u v, IsTupOf2 h (N + 3) u v) ∧ h.IsTupleIter N a i ∧ h.IsListIter (N + 1) b i
def ItM (K : PySem.W.Frag) (a b : Addr) : It where
  go := fun i H => ∃ (xs ys : List V) (x y : V), SqT K H a xs ∧ SqL K H b ys ∧ xs[i]? = some x ∧ ys[i]? = some y
  yld := fun i H v H' => ∃ (T : Addr) (x y : V), v = .ref T ∧ H T = none ∧ H' = upd H T (.tup [x, y]) ∧ (∀ xs, SqT K H a xs → xs[i]? = some x) ∧ ∀ ys, SqL K H b ys → ys[i]? = some y
  stop := fun i H => ∃ xs ys : List V, SqT K H a xs ∧ SqL K H b ys ∧ xs.length = i ∧ ys.length = i
theorem zm_cases {N c : Nat} (h : c ∈ zmFp N) : c = N + 4 ∨ c = N + 2 ∨ c = N + 3 ∨ c = N ∨ c = N + 1 := by simpa [zmFp] using h
theorem zm_sep {N a b : Nat} (ha : a < N) (hb : b < N) : ZipSep2 (N + 4) (N + 2) (N + 3) N (N + 1) [N, a] [N + 1, b] :=
  zip_sep2 (fp1 := [a]) (fp2 := [b]) (fun x hx => by rw [List.mem_singleton.mp hx]; exact ha) (fun x hx => by rw [List.mem_singleton.mp hx]; exact hb)
theorem turn_zm {P : Program} {w : World} {K : PySem.W.Frag} {elts : List Expr} {kk : Nat} {tpos : Pos} {a b : Addr} {N : Nat} (ha : a < N) (hb : b < N) :
    Turn P w K (.Tuple elts kk tpos) (ItM K a b) (zmFp N) (N + 4) (zmSt N a b) where
  mem := by simp [zmFp]
  obj := fun i h st c hc => by
    obtain ⟨s1, s2, ⟨u, v, s3⟩, ⟨o4, e4, _, d4⟩, ⟨o5, e5, _, d5⟩⟩ := st
    rcases zm_cases hc with rfl | rfl | rfl | rfl | rfl
    · exact ⟨_, s1, fun _ z => nomatch z⟩
    · exact ⟨_, s2, fun _ z => nomatch z⟩
    · exact ⟨_, s3, fun _ z => nomatch z⟩
    · exact ⟨o4, e4, fun _ z => by rw [d4] at z; cases z⟩
    · exact ⟨o5, e5, fun _ z => by rw [d5] at z; cases z⟩
  keep := fun i h h' st k => by
    obtain ⟨s1, s2, ⟨u, v, s3⟩, s4, s5⟩ := st
    have m : ∀ c, c = N + 4 ∨ c = N + 2 ∨ c = N + 3 ∨ c = N ∨ c = N + 1 → c ∈ zmFp N := fun c z => by simpa [zmFp] using z
    refine ⟨k _ (m _ (by simp)) _ s1, k _ (m _ (by simp)) _ s2, ⟨u, v, k _ (m _ (by simp)) _ s3⟩, s4.at fun o z => k _ (m _ (by simp)) o z, s5.at fun o z => k _ (m _ (by simp)) o z⟩
  item := fun X hP hw hK hc i pins s σ H E I hf st hg => by
    subst hP hw hK
    obtain ⟨s1, s2, ⟨u0, v0, s3⟩, s4, s5⟩ := st
    obtain ⟨xs, ys, x, y, qa, qb, hx, hy⟩ := hg
    obtain ⟨ia, va, pa, _⟩ := I.tuple qa
    obtain ⟨ib, vb, pb, _⟩ := I.list qb
    obtain ⟨u, hu, ru⟩ := va.get hx
    obtain ⟨v, hv, rv⟩ := vb.get hy
    have hh : X.A.in1.handled = none := I.ok.hd hc
    have sep := zm_sep (N := N) ha hb
    have la : i < ia.toArray.size := (List.getElem?_eq_some_iff.mp hu).1
    have lb : i < ib.toArray.size := (List.getElem?_eq_some_iff.mp hv).1
    refine wpAny_pyNext_zipD2_item sep (Draws.tuple hh N a (Nat.ne_of_lt ha) ia.toArray) (Draws.list hh (N + 1) b (Nat.ne_of_lt (Nat.lt_succ_of_lt hb)) ib.toArray) s1 s2 s3 ⟨s4, pa⟩ ⟨s5, pb.isList⟩ la lb fun x1 x2 h1 tk e1 e2 t1 t3 t4 t5 tT sz k => ?_
    have q1 : x1 = u := Option.some.inj (e1.symm.trans (by simpa using hu))
    have q2 : x2 = v := Option.some.inj (e2.symm.trans (by simpa using hv))
    subst q1 q2
    have nz : s.heap.objs.size ≠ N + 4 := Nat.ne_of_gt (Heap.lt_size s1)
    refine ⟨_, rfl, wpAny_letOwnedTupleGo_zip (s := { s with heap := h1, toks := tk }) t1 fun h2 w1 sb => ?_⟩
    have at2 : ∀ c o, c ≠ N + 4 → h1.get? c = some o → h2.get? c = some o := fun c o nc e => sb.extBut c o nc e
    have new : ObjOk X.prog X.w (upd H s.heap.objs.size (.tup [x, y])) h2 s.heap.objs.size (.tup [x, y]) :=
      ⟨(by show 2 ≤ sizeLine; decide), [x1, x2], .cons ru (.cons rv .nil), ⟨_, at2 _ _ nz tT, rfl, _, rfl⟩⟩
    have I2 : Inv X pins σ (upd H s.heap.objs.size (.tup [x, y])) { s with heap := h2, toks := tk } :=
      I.turnedNew (ch := zmFp N) (fun c o nc e => by
        have n1 : c ≠ N + 4 := fun z => nc (by simp [zmFp, z])
        have n3 : c ≠ N + 3 := fun z => nc (by simp [zmFp, z])
        have n4 : c ≠ N := fun z => nc (by simp [zmFp, z])
        have n5 : c ≠ N + 1 := fun z => nc (by simp [zmFp, z])
        exact at2 c o n1 (k c o n1 n3 n4 n5 e)) hf (Nat.le_refl _) new
    refine ⟨.ref s.heap.objs.size, _, I2, rfl, ⟨_, x, y, rfl, I.hok.fresh (Nat.le_refl _), rfl, fun l hl => I.tuple_inj hl qa ▸ hx, fun l hl => I.list_inj hl qb ▸ hy⟩, ⟨w1, at2 _ _ sep.TIz (k _ _ sep.TIz sep.TITO sep.TIi1 sep.TIi2 s2), ⟨x1, x2, at2 _ _ sep.TOz t3⟩, t4.1.at fun o e => at2 _ o (by omega) e, t5.1.at fun o e => at2 _ o (by omega) e⟩, fun c hm => ?_⟩
    have lt : c < s.heap.objs.size := by
      rcases zm_cases hm with rfl | rfl | rfl | rfl | rfl
      · exact Heap.lt_size s1
      · exact Heap.lt_size s2
      · exact Heap.lt_size s3
      · obtain ⟨_, e, _⟩ := s4
        exact Heap.lt_size e
      · obtain ⟨_, e, _⟩ := s5
        exact Heap.lt_size e
    rw [upd_ne (Nat.ne_of_lt lt)]
    exact (hf c hm).1
  done := fun X hP hw hK hc i pins s σ H E I hf st hg => by
    subst hP hw hK
    obtain ⟨s1, s2, ⟨u0, v0, s3⟩, s4, s5⟩ := st
    obtain ⟨xs, ys, qa, qb, e1, e2⟩ := hg
    obtain ⟨ia, va, pa, _⟩ := I.tuple qa
    obtain ⟨ib, vb, pb, _⟩ := I.list qb
    have l1 : ia.toArray.size = i := by rw [← e1, va.length]; simp
    have l2 : ib.toArray.size = i := by rw [← e2, vb.length]; simp
    have hh : X.A.in1.handled = none := I.ok.hd hc
    refine wpAny_pyNext_zipD2_end (zm_sep (N := N) ha hb) (Draws.tuple hh N a (Nat.ne_of_lt ha) ia.toArray) (Draws.list hh (N + 1) b (Nat.ne_of_lt (Nat.lt_succ_of_lt hb)) ib.toArray) s1 s2 s3 ⟨s4, pa⟩ ⟨s5, pb.isList⟩ (by omega) (by omega) (.inl l1.symm) fun h1 tk k => ⟨rfl, I.turnedL (ch := zmFp N) (fun c o nc e => ?_) hf⟩
    exact k c o (fun z => nc (by simp [zmFp, z])) (fun z => nc (by simp [zmFp, z])) (fun z => nc (by simp [zmFp, z])) (fun z => nc (by simp [zmFp, z])) e
  self := fun B n z R D st fin => wpAny_pyIter_zip (show IsZip _ _ _ _ _ from st.1) fin
def iZm (K : PySem.W.Frag) (ta : TA) : TI := fun σ H R => ta σ H fun vs H1 => ∃ a b xs ys, vs = [.ref a, .ref b] ∧ SqT K H1 a xs ∧ SqL K H1 b ys ∧ R (ItM K a b) H1
theorem pi_zm {X : Cx} {e e2 : Expr} {ta : TA} {p pos tpos : Pos} {elts : List Expr} {kk : Nat} (hg : Gl X "zip") (hm : X.mg "zip" = none) (ha : PA X [e, e2] ta)
    (plain : (backTo pos (starEach [e2] X.env)).any (·.1) = false := by rfl) (two : starEach [e, e2] X.env = (false, eval e X.env) :: starEach [e2] X.env := by rfl) :
    PI X (.Tuple elts kk tpos) (.Call (.Name "zip" p) [e, e2] [] pos) (iZm X.K ta) := ⟨fun pins s σ H R I h => by
  refine Call_ (ld_blt I hg hm PyProof.Rows.boot_zip (PyProof.Rows.callWith_type1 (thn (ha.run pos pins s σ H _ I h) fun us s1 hh => ?_) two plain))
  obtain ⟨vs, H1, I1, r1, a, b, xs, ys, ex, qa, qb, q⟩ := hh
  subst ex
  match us, r1 with
  | [_, _], .cons ra (.cons rb .nil) =>
    cases ra
    cases rb
    obtain ⟨ia, va, pa, _⟩ := I1.tuple qa
    obtain ⟨ib, vb, pb, _⟩ := I1.list qb
    have la : a < s1.heap.objs.size := by
      obtain ⟨_, z, _⟩ := id pa
      exact Heap.lt_size z
    refine zip_begins2 (begins_tuple a ia.toArray) (begins_list b ib.toArray) pa pb.isList fun h1 t1 t2 t3 t4 t5 sz k => wpAny_pyIter_zip t1 ?_
    refine ⟨_, zmFp s1.heap.objs.size, _, _, H1, rfl, I1.kept (t' := s1.toks) k, turn_zm la pb.lt, ⟨t1, t2, ⟨_, _, t3⟩, ⟨_, t4, rfl, rfl⟩, ⟨_, t5, rfl, rfl⟩⟩, fun c hc => ?_, q⟩
    have le : s1.heap.objs.size ≤ c := by
      rcases zm_cases hc with z | z | z | z | z <;> omega
    exact I1.fpOk le (I1.hok.fresh le)⟩
/-- the walk -/
theorem for_zm {K : PySem.W.Frag} {a b : Addr} {xs ys : List V} {g : TG} {tb : TS} {D : Ends} {σ : L2.St} {H : Hp} (hl : xs.length = ys.length) (Pv : Nat → L2.St → Hp → Prop) (h0 : Pv 0 σ H) (hq : ∀ i σ H, Pv i σ H → SqT K H a xs ∧ SqL K H b ys)
    (step : ∀ (i : Nat) (x y : V) (T : Addr) (σ : L2.St) (H : Hp), xs[i]? = some x → ys[i]? = some y → Pv i σ H → H T = none → g (.ref T) σ (upd H T (.tup [x, y])) fun σ2 H2 => tb { D with nx := Pv (i + 1), ct := Pv (i + 1), bk := D.nx } σ2 H2) (last : ∀ σ H, Pv xs.length σ H → D.nx σ H) :
    ∃ W : Nat → Nat → L2.St → Hp → Prop, (∃ n0, W 0 n0 σ H) ∧ ∀ i m σ H, W i m σ H →
      ((ItM K a b).stop i H ∧ D.nx σ H) ∨ ((ItM K a b).go i H ∧ ∃ N : L2.St → Hp → Prop, (∀ σ' H', N σ' H' → ∃ m', m' < m ∧ W (i + 1) m' σ' H') ∧ ∀ v H', (ItM K a b).yld i H v H' → g v σ H' fun σ2 H2 => tb { D with nx := N, ct := N, bk := D.nx } σ2 H2) := by
  refine ⟨fun i m σ H => m + i = xs.length ∧ Pv i σ H, ⟨xs.length, rfl, h0⟩, fun i m σ H hW => ?_⟩
  obtain ⟨mi, pv⟩ := hW
  obtain ⟨qa, qb⟩ := hq i σ H pv
  cases m with
  | zero =>
    have ei : i = xs.length := by omega
    exact .inl ⟨⟨xs, ys, qa, qb, ei.symm, by omega⟩, last σ H (ei ▸ pv)⟩
  | succ m =>
    have l1 : i < xs.length := by omega
    have l2 : i < ys.length := by omega
    refine .inr ⟨⟨xs, ys, _, _, qa, qb, List.getElem?_eq_getElem l1, List.getElem?_eq_getElem l2⟩, Pv (i + 1), fun σ' H' z => ⟨m, Nat.lt_succ_self m, by omega, z⟩, fun v H' hy => ?_⟩
    obtain ⟨T, x, y, rfl, nT, rfl, f1, f2⟩ := hy
    exact step i x y T σ H (f1 xs qa) (f2 ys qb) pv nT
/-- enumerate of a tuple, for comprehensions -/
theorem walk_eT {K : PySem.W.Frag} {a : Addr} {xs : List V} : Walk (ItE (goT K a) (stopT K a) (isT K a)) xs.length (fun H => SqT K H a xs) (fun i H v H' => ∃ (T : Addr) (x : V), v = .ref T ∧ H T = none ∧ H' = upd H T (.tup [.int (i : Nat), x]) ∧ xs[i]? = some x) where
  goes := fun i H lt hq => ⟨xs, xs[i], hq, List.getElem?_eq_getElem lt⟩
  stops := fun H hq => ⟨xs, hq, Nat.le_refl _⟩
  yields := fun i H v H' lt hq hy => by
    obtain ⟨T, x, rfl, new, ix, rfl⟩ := hy
    exact ⟨T, x, rfl, new, rfl, ix xs hq⟩
end Lp
namespace Lp
open PySem PySem.Spec PyProof.Rows L2
/-! ### for x, y in zip(text, text), both of one length -/
def zsSt (N : Nat) (x y : Str) (tx ty : Tok) (i : Nat) (h : Heap) : Prop :=
  IsZip h (N + 4) (N + 2) (N + 3) .none ∧ IsTupOf2 h (N + 2) (.ref N) (.ref (N + 1)) ∧ (∃ u v, IsTupOf2 h (N + 3) u v) ∧ h.IsStrIter N (strIterType x) x tx i ∧ h.IsStrIter (N + 1) (strIterType y) y ty i
/-- the pairs of the letters of two texts -/
def ItS (x y : Str) : It where
  go := fun i _ => i < x.cps.size ∧ i < y.cps.size
  yld := fun i H v H' => ∃ (T : Addr) (c d : Nat), v = .ref T ∧ H T = none ∧ H' = upd H T (.tup [.str ⟨#[c]⟩, .str ⟨#[d]⟩]) ∧ x.cps[i]? = some c ∧ y.cps[i]? = some d
  stop := fun i _ => x.cps.size = i ∧ y.cps.size = i
theorem strIter_at {h h' : Heap} {a : Addr} {ty : String} {x : Str} {t : Tok} {i : Nat} (st : h.IsStrIter a ty x t i) (k : ∀ o, h.get? a = some o → h'.get? a = some o) : h'.IsStrIter a ty x t i := by
  obtain ⟨o, e, c, d⟩ := st
  exact ⟨o, k o e, c, d⟩
theorem zs_sep {N : Nat} : ZipSep2 (N + 4) (N + 2) (N + 3) N (N + 1) [N] [N + 1] :=
  zip_sep2 (fp1 := []) (fp2 := []) (fun _ hx => nomatch hx) (fun _ hx => nomatch hx)
theorem turn_zs {P : Program} {w : World} {K : PySem.W.Frag} {elts : List Expr} {kk : Nat} {tpos : Pos} {x y : Str} {tx ty : Tok} {N : Nat} :
    Turn P w K (.Tuple elts kk tpos) (ItS x y) (zmFp N) (N + 4) (zsSt N x y tx ty) where
  mem := by simp [zmFp]
  obj := fun i h st c hc => by
    obtain ⟨s1, s2, ⟨u, v, s3⟩, ⟨o4, e4, _, d4⟩, ⟨o5, e5, _, d5⟩⟩ := st
    rcases zm_cases hc with rfl | rfl | rfl | rfl | rfl
    · exact ⟨_, s1, fun _ z => nomatch z⟩
    · exact ⟨_, s2, fun _ z => nomatch z⟩
    · exact ⟨_, s3, fun _ z => nomatch z⟩
    · exact ⟨o4, e4, fun _ z => by rw [d4] at z; cases z⟩
    · exact ⟨o5, e5, fun _ z => by rw [d5] at z; cases z⟩
  keep := fun i h h' st k => by
    obtain ⟨s1, s2, ⟨u, v, s3⟩, s4, s5⟩ := st
    have m : ∀ c, c = N + 4 ∨ c = N + 2 ∨ c = N + 3 ∨ c = N ∨ c = N + 1 → c ∈ zmFp N := fun c z => by simpa [zmFp] using z
    refine ⟨k _ (m _ (by simp)) _ s1, k _ (m _ (by simp)) _ s2, ⟨u, v, k _ (m _ (by simp)) _ s3⟩, strIter_at s4 fun o z => k _ (m _ (by simp)) o z, strIter_at s5 fun o z => k _ (m _ (by simp)) o z⟩
  item := fun X hP hw hK hc i pins s σ H E I hf st hg => by
    subst hP hw hK
    obtain ⟨s1, s2, ⟨u0, v0, s3⟩, s4, s5⟩ := st
    obtain ⟨la, lb⟩ := hg
    have hh : X.A.in1.handled = none := I.ok.hd hc
    have sep := zs_sep (N := N)
    refine wpAny_pyNext_zipD2_item sep (Draws.text hh N x tx) (Draws.text hh (N + 1) y ty) s1 s2 s3 s4 s5 la lb fun x1 x2 h1 tk e1 e2 t1 t3 t4 t5 tT sz k => ?_
    obtain ⟨c, uc, hcx, rfl⟩ := e1
    obtain ⟨d, ud, hdy, rfl⟩ := e2
    have nz : s.heap.objs.size ≠ N + 4 := Nat.ne_of_gt (Heap.lt_size s1)
    refine ⟨_, rfl, wpAny_letOwnedTupleGo_zip (s := { s with heap := h1, toks := tk }) t1 fun h2 w1 sb => ?_⟩
    have at2 : ∀ c o, c ≠ N + 4 → h1.get? c = some o → h2.get? c = some o := fun c o nc e => sb.extBut c o nc e
    have new : ObjOk X.prog X.w (upd H s.heap.objs.size (.tup [.str ⟨#[c]⟩, .str ⟨#[d]⟩])) h2 s.heap.objs.size (.tup [.str ⟨#[c]⟩, .str ⟨#[d]⟩]) :=
      ⟨(by show 2 ≤ sizeLine; decide), [_, _], .cons ⟨_, rfl⟩ (.cons ⟨_, rfl⟩ .nil), ⟨_, at2 _ _ nz tT, rfl, _, rfl⟩⟩
    have I2 : Inv X pins σ (upd H s.heap.objs.size (.tup [.str ⟨#[c]⟩, .str ⟨#[d]⟩])) { s with heap := h2, toks := tk } :=
      I.turnedNew (ch := zmFp N) (fun c o nc e => by
        have n1 : c ≠ N + 4 := fun z => nc (by simp [zmFp, z])
        have n3 : c ≠ N + 3 := fun z => nc (by simp [zmFp, z])
        have n4 : c ≠ N := fun z => nc (by simp [zmFp, z])
        have n5 : c ≠ N + 1 := fun z => nc (by simp [zmFp, z])
        exact at2 c o n1 (k c o n1 n3 n4 n5 e)) hf (Nat.le_refl _) new
    refine ⟨.ref s.heap.objs.size, _, I2, rfl, ⟨_, c, d, rfl, I.hok.fresh (Nat.le_refl _), rfl, hcx, hdy⟩, ⟨w1, at2 _ _ sep.TIz (k _ _ sep.TIz sep.TITO sep.TIi1 sep.TIi2 s2), ⟨_, _, at2 _ _ sep.TOz t3⟩, strIter_at t4 fun o e => at2 _ o (by omega) e, strIter_at t5 fun o e => at2 _ o (by omega) e⟩, fun c hm => ?_⟩
    have lt : c < s.heap.objs.size := by
      rcases zm_cases hm with rfl | rfl | rfl | rfl | rfl
      · exact Heap.lt_size s1
      · exact Heap.lt_size s2
      · exact Heap.lt_size s3
      · obtain ⟨_, e, _⟩ := s4
        exact Heap.lt_size e
      · obtain ⟨_, e, _⟩ := s5
        exact Heap.lt_size e
    rw [upd_ne (Nat.ne_of_lt lt)]
    exact (hf c hm).1
  done := fun X hP hw hK hc i pins s σ H E I hf st hg => by
    subst hP hw hK
    obtain ⟨s1, s2, ⟨u0, v0, s3⟩, s4, s5⟩ := st
    obtain ⟨e1, e2⟩ := hg
    have hh : X.A.in1.handled = none := I.ok.hd hc
    refine wpAny_pyNext_zipD2_end (zs_sep (N := N)) (Draws.text hh N x tx) (Draws.text hh (N + 1) y ty) s1 s2 s3 s4 s5 (by omega) (by omega) (.inl e1.symm) fun h1 tk k => ⟨rfl, I.turnedL (ch := zmFp N) (fun c o nc e => ?_) hf⟩
    exact k c o (fun z => nc (by simp [zmFp, z])) (fun z => nc (by simp [zmFp, z])) (fun z => nc (by simp [zmFp, z])) (fun z => nc (by simp [zmFp, z])) e
  self := fun B n z R D st fin => wpAny_pyIter_zip (show IsZip _ _ _ _ _ from st.1) fin
def iZs (ta : TA) : TI := fun σ H R => ta σ H fun vs H1 => ∃ x y, vs = [.str x, .str y] ∧ R (ItS x y) H1
theorem pi_zs {X : Cx} {e e2 : Expr} {ta : TA} {p pos tpos : Pos} {elts : List Expr} {kk : Nat} (hg : Gl X "zip") (hm : X.mg "zip" = none) (ha : PA X [e, e2] ta)
    (plain : (backTo pos (starEach [e2] X.env)).any (·.1) = false := by rfl) (two : starEach [e, e2] X.env = (false, eval e X.env) :: starEach [e2] X.env := by rfl) :
    PI X (.Tuple elts kk tpos) (.Call (.Name "zip" p) [e, e2] [] pos) (iZs ta) := ⟨fun pins s σ H R I h => by
  refine Call_ (ld_blt I hg hm PyProof.Rows.boot_zip (PyProof.Rows.callWith_type1 (thn (ha.run pos pins s σ H _ I h) fun us s1 hh => ?_) two plain))
  obtain ⟨vs, H1, I1, r1, x, y, ex, q⟩ := hh
  subst ex
  match us, r1 with
  | [_, _], .cons ra (.cons rb .nil) =>
    obtain ⟨tx, rfl⟩ := ra
    obtain ⟨ty, rfl⟩ := rb
    refine zip_begins2 (begins_text x tx) (begins_text y ty) trivial trivial fun h1 t1 t2 t3 t4 t5 sz k => wpAny_pyIter_zip t1 ?_
    refine ⟨_, zmFp s1.heap.objs.size, _, _, H1, rfl, I1.kept (t' := s1.toks) k, turn_zs (tx := tx) (ty := ty), ⟨t1, t2, ⟨_, _, t3⟩, ⟨_, t4, rfl, rfl⟩, ⟨_, t5, rfl, rfl⟩⟩, fun c hc => ?_, q⟩
    have le : s1.heap.objs.size ≤ c := by
      rcases zm_cases hc with z | z | z | z | z <;> omega
    exact I1.fpOk le (I1.hok.fresh le)⟩
theorem walk_zs {x y : Str} {n : Nat} (h1 : x.cps.size = n) (h2 : y.cps.size = n) : Walk (ItS x y) n (fun _ => True) (fun i H v H' => ∃ (T : Addr) (c d : Nat), v = .ref T ∧ H T = none ∧ H' = upd H T (.tup [.str ⟨#[c]⟩, .str ⟨#[d]⟩]) ∧ x.cps[i]? = some c ∧ y.cps[i]? = some d) where
  goes := fun i H lt _ => ⟨by omega, by omega⟩
  stops := fun H _ => ⟨h1, h2⟩
  yields := fun i H v H' lt _ hy => hy
end Lp
namespace Lp
open PySem PySem.Spec PyProof.Rows L2
/-! ### a call of a def that a local name holds; list.remove of a text -/
/-- slot i holds the def that stands under the name y -/
def tCallV (i : Nat) (f : Addr) (sp : Sp) (t : TA) : TE := fun σ H Q => σ[i]? = some (some (.ref f)) ∧ t σ H fun vs H1 => sp vs H1 Q E0
theorem pe_v {X : Cx} {k j i : Nat} {y x : Str} {st : Stmt} {ps : List Str} {sp : Sp} {f : Addr} {p pos : Pos} {e : Expr} {es : List Expr} {t : TA} (c : Cl X.prog X.w X.K X.mg X.base k y st ps sp) (hm : X.mg y = some (.ref f)) (hr : Room j X.A) (hk : k ≤ j)
    (hf : PE X (.Name x p) (tVar i)) (ha : PA X (e :: es) t) (he : starEach (e :: es) X.env = (false, eval e X.env) :: starEach es X.env := by rfl) (hpl : (backTo pos (starEach es X.env)).any (·.1) = false := by rfl) :
    PE X (.Call (.Name x p) (e :: es) [] pos) (tCallV i f sp t) := by
  obtain ⟨g, fd, F, G, hm2, b⟩ := c.ex
  cases hm.symm.trans hm2
  refine ⟨fun pins s σ H Q I h => ?_⟩
  obtain ⟨h1, h2⟩ := h
  have one := hf.run pins s σ H (fun v H1 => v = .ref f ∧ H1 = H) I ⟨.ref f, h1, rfl, rfl⟩
  refine wpAny_Call_Name_kw (thn one fun u s1 hh => ?_)
  obtain ⟨v, H1, I1, r1, ev, eh⟩ := hh
  subst ev eh
  cases r1
  refine PySem.W.callWith_K (h₀ := X.base) I1.ok.mod.kin F.kp (thn (ha.run pos pins s1 σ _ _ I1 h2) fun us s2 z => ?_) he hpl
  obtain ⟨vs, H2, I2, r, q⟩ := z
  refine ⟨I2.kIn, run_fn (dvs := []) G (hr.mono hk) b .nil pass0 I2 r ?_⟩
  rw [List.append_nil]
  exact q
def rRemS : V → List V → Hp → VK → Prop := fun x xs H Q => ∃ (l : Addr) (zs : List Str) (z : Str), x = .ref l ∧ xs = [.str z] ∧ H l = some (.lst (zs.map V.str)) ∧ z ∈ zs ∧ Q .non (upd H l (.lst ((zs.erase z).map V.str)))
theorem map_erase_at {f : Str → V} : ∀ (l : List Str) (j : Nat), (l.eraseIdx j).map f = (l.map f).eraseIdx j
  | [], _ => rfl
  | _ :: _, 0 => rfl
  | a :: r, j + 1 => congrArg (f a :: ·) (map_erase_at r j)
theorem flats_strs : ∀ zs : List Str, (zs.map V.str).all flatV = true
  | [] => rfl
  | z :: zs => by
    rw [List.map_cons, List.all_cons, flats_strs zs]
    rfl
theorem idx_le : ∀ {zs : List Str} {m : Nat} (h : m < zs.length), zs.idxOf zs[m] ≤ m
  | z :: zs, 0, _ => by
    rw [List.idxOf_cons]
    simp
  | z :: zs, m + 1, h => by
    have h2 : m < zs.length := Nat.lt_of_succ_lt_succ h
    have ih := idx_le h2
    show (z :: zs).idxOf zs[m] ≤ m + 1
    rw [List.idxOf_cons]
    cases (z == zs[m])
    · show zs.idxOf zs[m] + 1 ≤ m + 1
      omega
    · exact Nat.zero_le _
theorem mt_removeS {X : Cx} : MtM X "list.remove" rRemS := by
  intro pins s σ H x xs v us Q I rx rxs h
  obtain ⟨l, zs, z, rfl, rfl, there, mem, q⟩ := h
  cases rx
  obtain ⟨u, rfl, ru⟩ := rxs.one
  obtain ⟨small, its, n, rv, len, e⟩ := I.lstM there
  obtain ⟨j, hj⟩ : ∃ j, zs.idxOf z = j := ⟨_, rfl⟩
  have jz : j < zs.length := by rw [← hj]; exact List.idxOf_lt_length_of_mem mem
  have at_j : zs[j] = z := by subst hj; exact List.getElem_idxOf _
  have before : ∀ m (hm : m < zs.length), m < j → zs[m] ≠ z := fun m hm lt => by
    have le := idx_le hm
    exact fun e => by
      rw [e] at le
      omega
  rw [List.length_map] at small len
  have eq : ∀ m (hm : m < zs.length) (hm2 : m < its.length), eqU (.str z) its[m] = decide (zs[m] = z) := fun m hm hm2 => by
    obtain ⟨y, hy, ry⟩ := rv.get (i := m) (x := .str zs[m]) (by rw [List.getElem?_map, List.getElem?_eq_getElem hm]; rfl)
    have ey : its[m] = y := Option.some.inj ((List.getElem?_eq_getElem hm2).symm.trans hy)
    rw [ey, eqU_of ry rfl]
    show (zs[m] == z) = _
    by_cases c : zs[m] = z
    · rw [decide_eq_true c, beq_iff_eq]
      exact c
    · rw [decide_eq_false c]
      exact beq_eq_false_iff_ne.mpr c
  refine call_meets PySem.F.slot_list_remove ⟨_, e, rfl⟩ PySem.F.entry_list_remove (PySem.F.args_list_remove_2 _ _)
    (SeqAt.list_removeAt l its.toArray n none #[] u (eqU (.str z)) j (by rw [List.size_toArray]; omega) ?_ ?_ (by rw [List.size_toArray]; omega)) ⟨e, fun y hy => mem_eqAt ru rfl rv (flats_strs zs) y (by simpa using hy), ?_⟩
  · rw [List.getElem_toArray, eq j jz (by omega)]
    exact decide_eq_true at_j
  · intro m hm lt
    rw [List.size_toArray] at hm
    rw [List.getElem_toArray, eq m (by omega) hm]
    exact decide_eq_false (before m (by omega) lt)
  · have out := rv.eraseIdx j
    rw [← map_erase_at] at out
    have er : zs.eraseIdx j = zs.erase z := by rw [List.erase_eq_eraseIdx_of_idxOf hj]
    rw [er] at out
    refine ⟨.non, _, I.lset (its' := its.eraseIdx j) (t' := s.toks) there e ?_ out ?_, rfl, q⟩
    · rw [List.eraseIdxIfInBounds_toArray]
    · have := List.length_erase_le (a := z) (l := zs)
      rw [List.length_map]
      omega
end Lp
namespace Lp
open PySem PySem.Spec PyProof.Rows L2
/-! ### a dict comprehension that is bound to a name -/
abbrev OverBlk (X : Cx) (scope : Scope) (R : Cx → Prop) : Prop := ∀ (s : Shared) (H : Hp) (C : Addr) (cl : List (Str × Addr)) (fp : List Addr), R (X.blk s H scope (compEnvC scope cl C X.env) fp)
abbrev dcE (kx vx tg iter : Expr) (ifs : List Expr) (scope : Scope) (pos : Pos) : Expr := .DictComp kx vx [⟨tg, iter, ifs, 0⟩] scope pos
theorem ps_setDc {X : Cx} {i : Nat} {y : Str} {py pos spos : Pos} {kx vx tg iter : Expr} {ifs : List Expr} {scope : Scope} {own : List (Str × Nat)} {wi : TI} {g : TG} {tt : TT} {tk tv : TE} (calm : X.calm = true) (diff : X.N.Nodup) (name : X.N[i]? = some y)
    (loc : X.env.scope.names.lookup y = some .local) (swaps : swapsWith (dcE kx vx tg iter ifs scope pos) (some (.Name y py)) spos.line X.env = pure true) (it : PI X tg iter wi) (ok : BlkOk X.N X.env.scope scope own)
    (hg : OverBlk X scope fun Y => PG Y tg g) (ht : OverBlk X scope fun Y => PTs Y ifs tt) (hk : OverBlk X scope fun Y => PE Y kx tk) (hv : OverBlk X scope fun Y => PE Y vx tv) (plain : ∀ x, foldedSetIterable iter X.env x = pure x := by intro _; rfl) :
    PS X (.Assign [.Name y py] (dcE kx vx tg iter ifs scope pos) spos) (tAsg (tDc wi g tt tk tv (own.map (·.2))) (gName i)) := by
  constructor
  intro pins s σ H D I h
  replace h : tDc wi g tt tk tv (own.map (·.2)) σ H (fun x H1 => gName i x σ H1 D.nx) := h
  rw [exec_Assign_Name_used _ _ _ _ swaps]
  apply wpAny_bind
  apply wpAny_standAt
  apply wpAny_bind
  show wpAny _ X.A (do
    let _ ← comprehension (dcE kx vx tg iter ifs scope pos) scope X.env (firstIterPos [⟨tg, iter, ifs, 0⟩] pos) newDict false (eval iter X.env) (some (assign (.Name y py) X.env))) _ _ s
  have core := dc_core (Qf := fun _ s' => SP X pins D .next s') (pos := pos) (pos' := firstIterPos [⟨tg, iter, ifs, 0⟩] pos) (use := some (assign (.Name y py) X.env)) calm diff I it ok hg ht hk hv plain h fun L C s' m H' J q hn f => by
    show wpAny _ _ (assign (.Name y py) X.env (.ref L)) _ _ _
    obtain ⟨f0, f1, f2, f3, f4, f5⟩ := f
    refine wpAny_assign_Name (store_ok2 (v := V.ref L) J diff name (.inl loc) rfl (fun s2 J2 z => ?_) (.inr loc))
    obtain ⟨a, sb, ha⟩ := z
    have away : C ≠ a := ha.elim (fun z => by rw [z]; exact f1) fun z e => f4 y a z e.symm
    exact ⟨m, hn.sameBut sb away, fun h3 sb3 => ⟨_, H', J2.turned (t' := s2.toks) (fun b o hb e => (sb3.2 b hb).trans e) f0 f1 f3 f4 f5, q⟩⟩
  exact wpAny_bind (thn core fun _ s' hq => wpAny_pure (wpAny_pure hq))
theorem sw_dict {kx vx : Expr} {gs : List Comprehension} {scope : Scope} {pos py : Pos} {y : Str} {l : Nat} {env : Env} (inFn : env.scope.kind = .function) (loc : env.scope.names.lookup y = some .local) (one : (py.line == pos.line) = true)
    (free : (scope.names.any fun (n, k) => n == y && (k == .local || k == .cell)) = false) : swapsWith (.DictComp kx vx gs scope pos) (some (.Name y py)) l env = pure true := by
  have k1 : env.kindOf y = some .local := loc
  have k2 : env.blockKind = .function := by
    unfold Env.blockKind
    rw [inFn]
    rfl
  unfold swapsWith
  simp only [k2, k1, free, Expr.pos, one]
  rfl
end Lp
namespace Lp
open PySem PySem.Spec PyProof.Rows L2
/-! ### list.extend by a tuple, whatever object the tuple is -/
abbrev lstO (us : Array Value) (k : Nat) : Obj := { cls := .type "list", dict := none, data := .seq us k, slots := #[] }
abbrev tupO (us : Array Value) (k : Nat) (dd : Option Addr) (sl : Array (Option Value)) : Obj := { cls := .type "tuple", dict := dd, data := .seq us k, slots := sl }
theorem meets_extT (l t : Addr) (us vs : Array Value) (k m : Nat) (dd : Option Addr) (sl : Array (Option Value)) (door : ¬(!us.isEmpty && Builtin.List.listTooLong (us.size + vs.size)) = true) (fits : us.size ≤ sizeLine) (both : us.size + vs.size ≤ sizeLine + 1) :
    Meets (Builtin.«list.extend» ⟨[.ref l, .ref t], []⟩)
      (fun _ R s => s.heap.get? l = some (lstO us k) ∧ s.heap.get? t = some (tupO vs m dd sl) ∧ R (.ok (.ret Value.none)) { s with heap := s.heap.update l (Obj.mapSeq fun xs => xs ++ vs) }) :=
  .of_wp fun prog w A R s h => by
    obtain ⟨hp, g, d, tk, os⟩ := s
    obtain ⟨atL, atT, fin⟩ := h
    have size : (us ++ vs).size ≤ sizeLine + 1 := by
      rw [Array.size_append]
      exact both
    have i1 := AutoSeq1.idx_int
    have i2 := AutoSeq1.sub_tuple_tuple
    have i3 := AutoSeq1.sub_list_list
    have i4 := AutoSeq1.sub_tuple_list
    have i5 := AutoSeq1.sub_list_tuple
    wp_walk using (wpAny_updateSeq atL rfl (hz := fits) (_hz' := size)), AutoSeq1.wpAny_loadPart' atL, AutoSeq1.wpAny_loadPart' atT
    exact ⟨_, rfl, fin⟩
def rExtT (K : PySem.W.Frag) : V → List V → Hp → VK → Prop := fun x vs H Q => ∃ (l b : Addr) (xs zs : List V), x = .ref l ∧ vs = [.ref b] ∧ H l = some (.lst xs) ∧ SqT K H b zs ∧ xs.length + zs.length ≤ 100000 ∧ Q .non (upd H l (.lst (xs ++ zs)))
theorem mt_extendT {X : Cx} : MtM X "list.extend" (rExtT X.K) := by
  intro pins s σ H x vs v us Q I rx rv h
  obtain ⟨l, b, xs, zs, rfl, rfl, there, tup, few, q⟩ := h
  cases rx
  obtain ⟨u, rfl, ru⟩ := rv.one
  cases ru
  obtain ⟨_, its, n, r, len, e⟩ := I.lstM there
  obtain ⟨its2, r2, ⟨⟨cls, dd, data, sl⟩, e2, hc, n2, hd⟩, _⟩ := I.tuple tup
  simp only at hc hd
  subst hc hd
  have len2 := r2.length
  have line : 100000 < sizeLine := len_lt (by decide)
  have s1 : its.toArray.size = xs.length := by rw [List.size_toArray, len]
  have s2 : its2.toArray.size = zs.length := by rw [List.size_toArray, len2]
  have door : ¬ (!its.toArray.isEmpty && Builtin.List.listTooLong (its.toArray.size + its2.toArray.size)) = true := by
    rw [notLongL (by omega), Bool.and_false]
    exact Bool.false_ne_true
  refine call_meets F.slot_list_extend ⟨_, e, rfl⟩ F.entry_list_extend (F.args_list_extend_2 _ _) (meets_extT l b its.toArray its2.toArray n n2 dd sl door (by omega) (by omega)) ⟨e, e2, .non, _, I.lset (its' := its ++ its2) (t' := s.toks) there e (by simp) (r.append r2) ?_, rfl, q⟩
  rw [List.length_append]
  omega
/-! ### sorted of a list of texts -/
def rSortTxL (K : PySem.W.Frag) : List V → Hp → VK → Prop := fun vs H Q => ∃ (a : Addr) (zs : List Str), vs = [.ref a] ∧ SqL K H a (zs.map V.str) ∧ zs.length ≤ 1000 ∧ ∀ p : Addr, H p = none → Q (.ref p) (upd H p (.lst ((sortS zs).map V.str)))
theorem cr_sortTxL {X : Cx} (hu : X.A.units + 64 < cLine) : CallR X (.builtin "sorted") (rSortTxL X.K) := by
  intro pins s σ H vs us Q I r h
  obtain ⟨a, zs, rfl, hs, few, q⟩ := h
  obtain ⟨its, rv, hl, hz⟩ := I.list hs
  rw [Vals.ref1 r]
  have e1 := texts_each rv
  have e3 : PySem.W.EachIs (fun v z => ∃ as, Reads s.heap v (PyData.str z) as) its zs := e1.mono fun v z h => by
    obtain ⟨k, rfl⟩ := h
    exact ⟨[], Reads.str z k⟩
  rw [List.length_map] at hz
  refine PySem.W.sorted_data (enc := PyData.str) hl.isList e1 e3 (texts_alike zs) (texts_sortable zs) (by omega) (fun z _ => by
    have d : (PyData.str z).depth ≤ 60 := Nat.zero_le _
    omega) fun out ol e2 => ?_
  rw [dataLe_texts] at e2
  have small : ((sortS zs).map V.str).length ≤ sizeLine := by
    rw [List.length_map, (sortS_perm zs).length_eq]
    omega
  obtain ⟨ep, there⟩ := PyProof.Rows.sortedAll_at s.heap its out.toArray
  exact ⟨.ref _, upd H (s.heap.objs.size + 1) (.lst ((sortS zs).map V.str)), I.laid (t' := s.toks) (fun _ _ => PyProof.Rows.sortedAll_old) (Nat.le_succ _) ⟨small, out, ep, each_texts e2, by simpa using there⟩, rfl, q _ (I.hok.fresh (Nat.le_succ _))⟩
end Lp
namespace Lp
open PySem PySem.Spec PyProof.Rows L2
/-! ### for x, y in zip(tuple, text), both of one length -/
def ztSt (N : Nat) (a : Addr) (y : Str) (ty : Tok) (i : Nat) (h : Heap) : Prop :=
  IsZip h (N + 4) (N + 2) (N + 3) .none ∧ IsTupOf2 h (N + 2) (.ref N) (.ref (N + 1)) ∧ (∃ u v, IsTupOf2 h (N + 3) u v) ∧ h.IsTupleIter N a i ∧ h.IsStrIter (N + 1) (strIterType y) y ty i
def ItTS (K : PySem.W.Frag) (a : Addr) (y : Str) : It where
  go := fun i H => ∃ (xs : List V) (x : V), SqT K H a xs ∧ xs[i]? = some x ∧ i < y.cps.size
  yld := fun i H v H' => ∃ (T : Addr) (x : V) (d : Nat), v = .ref T ∧ H T = none ∧ H' = upd H T (.tup [x, .str ⟨#[d]⟩]) ∧ (∀ xs, SqT K H a xs → xs[i]? = some x) ∧ y.cps[i]? = some d
  stop := fun i H => ∃ xs : List V, SqT K H a xs ∧ xs.length = i ∧ y.cps.size = i
theorem zt_sep {N a : Nat} (ha : a < N) : ZipSep2 (N + 4) (N + 2) (N + 3) N (N + 1) [N, a] [N + 1] :=
  zip_sep2 (fp1 := [a]) (fp2 := []) (fun x hx => by rw [List.mem_singleton.mp hx]; exact ha) (fun _ hx => nomatch hx)
theorem turn_zt {P : Program} {w : World} {K : PySem.W.Frag} {elts : List Expr} {kk : Nat} {tpos : Pos} {a : Addr} {y : Str} {ty : Tok} {N : Nat} (ha : a < N) :
    Turn P w K (.Tuple elts kk tpos) (ItTS K a y) (zmFp N) (N + 4) (ztSt N a y ty) where
  mem := by simp [zmFp]
  obj := fun i h st c hc => by
    obtain ⟨s1, s2, ⟨u, v, s3⟩, ⟨o4, e4, _, d4⟩, ⟨o5, e5, _, d5⟩⟩ := st
    rcases zm_cases hc with rfl | rfl | rfl | rfl | rfl
    · exact ⟨_, s1, fun _ z => nomatch z⟩
    · exact ⟨_, s2, fun _ z => nomatch z⟩
    · exact ⟨_, s3, fun _ z => nomatch z⟩
    · exact ⟨o4, e4, fun _ z => by rw [d4] at z; cases z⟩
    · exact ⟨o5, e5, fun _ z => by rw [d5] at z; cases z⟩
  keep := fun i h h' st k => by
    obtain ⟨s1, s2, ⟨u, v, s3⟩, s4, s5⟩ := st
    have m : ∀ c, c = N + 4 ∨ c = N + 2 ∨ c = N + 3 ∨ c = N ∨ c = N + 1 → c ∈ zmFp N := fun c z => by simpa [zmFp] using z
    exact ⟨k _ (m _ (by simp)) _ s1, k _ (m _ (by simp)) _ s2, ⟨u, v, k _ (m _ (by simp)) _ s3⟩, s4.at fun o z => k _ (m _ (by simp)) o z, strIter_at s5 fun o z => k _ (m _ (by simp)) o z⟩
  item := fun X hP hw hK hc i pins s σ H E I hf st hg => by
    subst hP hw hK
    obtain ⟨s1, s2, ⟨u0, v0, s3⟩, s4, s5⟩ := st
    obtain ⟨xs, x, qa, hx, lb⟩ := hg
    obtain ⟨ia, va, pa, _⟩ := I.tuple qa
    obtain ⟨u, hu, ru⟩ := va.get hx
    have hh : X.A.in1.handled = none := I.ok.hd hc
    have sep := zt_sep (N := N) ha
    have la : i < ia.toArray.size := (List.getElem?_eq_some_iff.mp hu).1
    refine wpAny_pyNext_zipD2_item sep (Draws.tuple hh N a (Nat.ne_of_lt ha) ia.toArray) (Draws.text hh (N + 1) y ty) s1 s2 s3 ⟨s4, pa⟩ s5 la lb fun x1 x2 h1 tk e1 e2 t1 t3 t4 t5 tT sz k => ?_
    have q1 : x1 = u := Option.some.inj (e1.symm.trans (by simpa using hu))
    subst q1
    obtain ⟨d, ud, hdy, rfl⟩ := e2
    have nz : s.heap.objs.size ≠ N + 4 := Nat.ne_of_gt (Heap.lt_size s1)
    refine ⟨_, rfl, wpAny_letOwnedTupleGo_zip (s := { s with heap := h1, toks := tk }) t1 fun h2 w1 sb => ?_⟩
    have at2 : ∀ c o, c ≠ N + 4 → h1.get? c = some o → h2.get? c = some o := fun c o nc e => sb.extBut c o nc e
    have new : ObjOk X.prog X.w (upd H s.heap.objs.size (.tup [x, .str ⟨#[d]⟩])) h2 s.heap.objs.size (.tup [x, .str ⟨#[d]⟩]) :=
      ⟨(by show 2 ≤ sizeLine; decide), [x1, _], .cons ru (.cons ⟨_, rfl⟩ .nil), ⟨_, at2 _ _ nz tT, rfl, _, rfl⟩⟩
    have I2 : Inv X pins σ (upd H s.heap.objs.size (.tup [x, .str ⟨#[d]⟩])) { s with heap := h2, toks := tk } :=
      I.turnedNew (ch := zmFp N) (fun c o nc e => by
        have n1 : c ≠ N + 4 := fun z => nc (by simp [zmFp, z])
        have n3 : c ≠ N + 3 := fun z => nc (by simp [zmFp, z])
        have n4 : c ≠ N := fun z => nc (by simp [zmFp, z])
        have n5 : c ≠ N + 1 := fun z => nc (by simp [zmFp, z])
        exact at2 c o n1 (k c o n1 n3 n4 n5 e)) hf (Nat.le_refl _) new
    refine ⟨.ref s.heap.objs.size, _, I2, rfl, ⟨_, x, d, rfl, I.hok.fresh (Nat.le_refl _), rfl, fun l hl => I.tuple_inj hl qa ▸ hx, hdy⟩, ⟨w1, at2 _ _ sep.TIz (k _ _ sep.TIz sep.TITO sep.TIi1 sep.TIi2 s2), ⟨x1, _, at2 _ _ sep.TOz t3⟩, t4.1.at fun o e => at2 _ o (by omega) e, strIter_at t5 fun o e => at2 _ o (by omega) e⟩, fun c hm => ?_⟩
    have lt : c < s.heap.objs.size := by
      rcases zm_cases hm with rfl | rfl | rfl | rfl | rfl
      · exact Heap.lt_size s1
      · exact Heap.lt_size s2
      · exact Heap.lt_size s3
      · obtain ⟨_, e, _⟩ := s4
        exact Heap.lt_size e
      · obtain ⟨_, e, _⟩ := s5
        exact Heap.lt_size e
    rw [upd_ne (Nat.ne_of_lt lt)]
    exact (hf c hm).1
  done := fun X hP hw hK hc i pins s σ H E I hf st hg => by
    subst hP hw hK
    obtain ⟨s1, s2, ⟨u0, v0, s3⟩, s4, s5⟩ := st
    obtain ⟨xs, qa, e1, e2⟩ := hg
    obtain ⟨ia, va, pa, _⟩ := I.tuple qa
    have l1 : ia.toArray.size = i := by rw [← e1, va.length]; simp
    have hh : X.A.in1.handled = none := I.ok.hd hc
    refine wpAny_pyNext_zipD2_end (zt_sep (N := N) ha) (Draws.tuple hh N a (Nat.ne_of_lt ha) ia.toArray) (Draws.text hh (N + 1) y ty) s1 s2 s3 ⟨s4, pa⟩ s5 (by omega) (by omega) (.inl l1.symm) fun h1 tk k => ⟨rfl, I.turnedL (ch := zmFp N) (fun c o nc e => ?_) hf⟩
    exact k c o (fun z => nc (by simp [zmFp, z])) (fun z => nc (by simp [zmFp, z])) (fun z => nc (by simp [zmFp, z])) (fun z => nc (by simp [zmFp, z])) e
  self := fun B n z R D st fin => wpAny_pyIter_zip (show IsZip _ _ _ _ _ from st.1) fin
def iZt (K : PySem.W.Frag) (ta : TA) : TI := fun σ H R => ta σ H fun vs H1 => ∃ (a : Addr) (xs : List V) (y : Str), vs = [.ref a, .str y] ∧ SqT K H1 a xs ∧ R (ItTS K a y) H1
theorem pi_zt {X : Cx} {e e2 : Expr} {ta : TA} {p pos tpos : Pos} {elts : List Expr} {kk : Nat} (hg : Gl X "zip") (hm : X.mg "zip" = none) (ha : PA X [e, e2] ta)
    (plain : (backTo pos (starEach [e2] X.env)).any (·.1) = false := by rfl) (two : starEach [e, e2] X.env = (false, eval e X.env) :: starEach [e2] X.env := by rfl) :
    PI X (.Tuple elts kk tpos) (.Call (.Name "zip" p) [e, e2] [] pos) (iZt X.K ta) := ⟨fun pins s σ H R I h => by
  refine Call_ (ld_blt I hg hm PyProof.Rows.boot_zip (PyProof.Rows.callWith_type1 (thn (ha.run pos pins s σ H _ I h) fun us s1 hh => ?_) two plain))
  obtain ⟨vs, H1, I1, r1, a, xs, y, ex, qa, q⟩ := hh
  subst ex
  match us, r1 with
  | [_, _], .cons ra (.cons rb .nil) =>
    cases ra
    obtain ⟨ty, rfl⟩ := rb
    obtain ⟨ia, va, pa, _⟩ := I1.tuple qa
    have la : a < s1.heap.objs.size := by
      obtain ⟨_, z, _⟩ := id pa
      exact Heap.lt_size z
    refine zip_begins2 (begins_tuple a ia.toArray) (begins_text y ty) pa trivial fun h1 t1 t2 t3 t4 t5 sz k => wpAny_pyIter_zip t1 ?_
    refine ⟨_, zmFp s1.heap.objs.size, _, _, H1, rfl, I1.kept (t' := s1.toks) k, turn_zt la, ⟨t1, t2, ⟨_, _, t3⟩, ⟨_, t4, rfl, rfl⟩, ⟨_, t5, rfl, rfl⟩⟩, fun c hc => ?_, q⟩
    have le : s1.heap.objs.size ≤ c := by
      rcases zm_cases hc with z | z | z | z | z <;> omega
    exact I1.fpOk le (I1.hok.fresh le)⟩
theorem walk_zt {K : PySem.W.Frag} {a : Addr} {xs : List V} {y : Str} {n : Nat} (h1 : xs.length = n) (h2 : y.cps.size = n) : Walk (ItTS K a y) n (fun H => SqT K H a xs) (fun i H v H' => ∃ (T : Addr) (x : V) (d : Nat), v = .ref T ∧ H T = none ∧ H' = upd H T (.tup [x, .str ⟨#[d]⟩]) ∧ xs[i]? = some x ∧ y.cps[i]? = some d) where
  goes := fun i H lt q => ⟨xs, xs[i]'(by omega), q, List.getElem?_eq_getElem _, by omega⟩
  stops := fun H q => ⟨xs, q, h1, h2⟩
  yields := fun i H v H' lt q hy => by
    obtain ⟨T, x, d, e1, e2, e3, e4, e5⟩ := hy
    exact ⟨T, x, d, e1, e2, e3, e4 _ q, e5⟩
end Lp
namespace Lp
open PySem PySem.Spec PyProof.Rows L2
/-! ### sets of texts that can be walked -/
def keyT (e : Int × Value) : Str := match e.2 with
  | .str z _ => z
  | _ => Str.ofString ""
def GoodT (P : Program) (w : World) (e : Int × Value) : Prop := ∃ (z : Str) (t : Tok), e.2 = Value.str z t ∧ e.1 = (strKind P w).hash z
structure Tex (P : Program) (w : World) (S : Str → Bool) (n : Nat) (es : Array (Int × Value)) (t : SetTable) : Prop where
  good : ∀ e ∈ es.toList, GoodT P w e
  diff : (es.toList.map keyT).Nodup
  has : ∀ z, S z = true ↔ z ∈ es.toList.map keyT
  few : es.size < scanBound
  fits : t.fits es.size = true
  size : es.size = n
  ris : Ris t.place.toList
  led : w.params.followText "set-order" = true ∨ t.led = true
def SetS (P : Program) (w : World) (h : Heap) (a : Addr) (S : Str → Bool) (n : Nat) : Prop := ∃ (o : Obj) (es : Array (Int × Value)) (ep : Nat) (t : SetTable), h.get? a = some o ∧ o.ExactSet ∧ o.data = .set es ep t ∧ Tex P w S n es t
section
variable {P : Program} {w : World}
theorem SetS.stays {h g : Heap} {a : Addr} {S : Str → Bool} {n : Nat} (x : SetS P w h a S n) (k : ∀ o, h.get? a = some o → g.get? a = some o) : SetS P w g a S n := by
  obtain ⟨o, es, ep, t, at_, rest⟩ := x
  exact ⟨o, es, ep, t, k o at_, rest⟩
theorem SetS.as {h : Heap} {a : Addr} {S S' : Str → Bool} {n : Nat} (x : SetS P w h a S n) (e : ∀ z, S' z = S z) : SetS P w h a S' n := by
  rw [show S' = S from funext e]
  exact x
theorem goodT_elems {l : List (Int × Value)} (g : ∀ e ∈ l, GoodT P w e) : ElemsOf (strKind P w) l := fun e he => by
  obtain ⟨z, t, e1, e2⟩ := g e he
  refine ⟨⟨z, ?_, e2⟩, ?_⟩
  · rw [e1]
    exact strKind_is P w z t
  · rw [e1]
    rfl
theorem goodT_is {e : Int × Value} (g : GoodT P w e) (k : Str) : (strKind P w).is k e.2 = true ↔ keyT e = k := by
  obtain ⟨z, t, e1, _⟩ := g
  unfold keyT
  rw [e1]
  show Value.isStrOf k (.str z t) = true ↔ z = k
  simp [Value.isStrOf]
theorem goodT_mem {l : List (Int × Value)} (g : ∀ e ∈ l, GoodT P w e) (k : Str) : k ∈ l.map keyT ↔ ∃ e ∈ l, (strKind P w).is k e.2 = true := by
  rw [List.mem_map]
  exact ⟨fun ⟨e, he, q⟩ => ⟨e, he, (goodT_is (g e he) k).mpr q⟩, fun ⟨e, he, q⟩ => ⟨e, he, (goodT_is (g e he) k).mp q⟩⟩
variable {A : Around} {E : Value → Shared → Prop} {s : Shared} {a : Addr} {S : Str → Bool} {n : Nat}
/-- what is stored, perhaps in a larger table -/
theorem store_texts {say : Bool → Sem Unit} (quiet : ∀ (b : Bool) (s' : Shared) (Q' : Unit → Shared → Prop), Q' () s' → wpAny (model P w) A (say b) Q' E s') {o : Obj} {es new : Array (Int × Value)} {ep : Nat} {t t2 : SetTable}
    (at_ : s.heap.get? a = some o) (ex : o.ExactSet) (data : o.data = .set es ep t) {S' : Str → Bool} (tex : Tex P w S' new.size new t2) {dummy : Bool} {R : Option Bool → Shared → Prop}
    (fin : ∀ h', Heap.SameBut a s.heap h' → SetS P w h' a S' new.size → R (some true) { s with heap := h' }) :
    wpAny (model P w) A (do
        storeSet a new t2
        if (!dummy && t2.tooFull) = true then do
            say (relayAll t2 new (SetTable.grown new.size)).2.2
            storeSet a (relayAll t2 new (SetTable.grown new.size)).1 (relayAll t2 new (SetTable.grown new.size)).2.1
            pure (some true)
          else pure (some true)) R E s := by
  have st1 := store_at (es' := new) (t' := t2) at_ data
  have but := Heap.SameBut.update s.heap a (Obj.putSet new t2)
  refine wpAny_bind (wpAny_storeSet_of at_ data ?_ (fits_of_scanBound tex.few))
  split
  · have q1 := relayAll_perm t2 new (SetTable.grown new.size)
    have q2 := relayAll_fits t2 new (SetTable.grown new.size)
    have q3 := relayAll_ris t2 new (SetTable.grown new.size)
    have q4 := relayAll_led t2 new (SetTable.grown new.size)
    generalize relayAll t2 new (SetTable.grown new.size) = Z at q1 q2 q3 q4 ⊢
    obtain ⟨last, t3, gave⟩ := Z
    dsimp only at q1 q2 q3 q4 ⊢
    have same : last.size = new.size := by
      have := q1.length_eq
      rwa [Array.length_toList, Array.length_toList] at this
    have few : last.size < scanBound := by rw [same]; exact tex.few
    refine wpAny_bind (quiet _ _ _ (wpAny_bind (wpAny_storeSet_of st1 rfl ?_ (fits_of_scanBound few))))
    have st2 := store_at (es' := last) (t' := t3) st1 rfl
    refine wpAny_pure (fin _ (but.trans (Heap.SameBut.update _ a _)) ⟨_, last, _, t3, st2, ex, rfl, ?_⟩)
    have pk := q1.map keyT
    exact { good := fun e he => tex.good e (q1.mem_iff.mp he), diff := pk.nodup_iff.mpr tex.diff, has := fun z => (tex.has z).trans pk.mem_iff.symm, few := few, fits := q2, size := same, ris := q3, led := tex.led.imp id fun z => by rw [q4]; exact z }
  · exact wpAny_pure (fin _ but ⟨_, new, _, t2, st1, ex, rfl, tex⟩)
theorem add_text {k : Str} {tk : Tok} {Q : Bool → Shared → Prop} (x : SetS P w s.heap a S n) (room : n + 1 < scanBound)
    (fin : ∀ h', Heap.SameBut a s.heap h' → SetS P w h' a (fun z => S z || decide (z = k)) (if S k = true then n else n + 1) → Q (!S k) { s with heap := h' }) :
    wpAny (model P w) A (setAddHashed a (.str k tk) ((strKind P w).hash k)) Q E s := by
  obtain ⟨o, es, ep, t, at_, ex, data, tex⟩ := x
  have isK : (strKind P w).is k (.str k tk) = true := strKind_is P w k tk
  have scans : (Value.str k tk).scannable = true := rfl
  have elems := goodT_elems tex.good
  unfold setAddHashed setAddHashedIn
  refine wpAny_holding (wpAny_bind (wpAny_setState_of at_ data tex.fits ?_))
  dsimp only
  rw [byScan_of scans tex.few elems]
  simp only [↓reduceIte]
  unfold setAddByScan
  refine wpAny_bind (wpAny_bind (wpAny_rule (wpAny_bind (wpAny_setScan_of isK at_ data tex.fits elems ?_))))
  cases there : List.findIdx? (fun e => (strKind P w).is k e.2) es.toList with
  | some j =>
    obtain ⟨lt, found, _⟩ := List.findIdx?_eq_some_iff_getElem.mp there
    have yes : S k = true := (tex.has k).mpr ((goodT_mem tex.good k).mpr ⟨es.toList[j], List.getElem_mem lt, found⟩)
    have has2 : ∀ z, (S z || decide (z = k)) = true ↔ z ∈ es.toList.map keyT := fun z => by
      rw [Bool.or_eq_true, decide_eq_true_eq, ← tex.has z]
      exact ⟨fun c => c.elim id fun e => by rw [e]; exact yes, .inl⟩
    have tex2 : Tex P w (fun z => S z || decide (z = k)) (if S k = true then n else n + 1) es t := ⟨tex.good, tex.diff, has2, tex.few, tex.fits, by rw [if_pos yes]; exact tex.size, tex.ris, tex.led⟩
    have q := fin s.heap (Heap.SameBut.refl a s.heap) ⟨o, es, ep, t, at_, ex, data, tex2⟩
    rw [yes] at q
    exact wpAny_pure (wpAny_pure q)
  | none =>
    have notIn : k ∉ es.toList.map keyT := fun m => by
      obtain ⟨e, he, q⟩ := (goodT_mem (P := P) (w := w) tex.good k).mp m
      have c := List.findIdx?_eq_none_iff.mp there e he
      rw [q] at c
      cases c
    have no : S k = false := Bool.eq_false_iff.mpr fun q => notIn ((tex.has k).mp q)
    have speak : ∀ (b : Bool) {s' : Shared} {Q' : Unit → Shared → Prop}, Q' () s' → wpAny (model P w) A (match b with | true => rule "set.scan.the-table-gave-way" | false => pure ()) Q' E s' :=
      fun b s' Q' q => match b with
        | true => wpAny_rule q
        | false => wpAny_pure q
    dsimp only
    have q1 := layNew_perm t es ((strKind P w).hash k) (.str k tk)
    have q2 := layNew_fits t es ((strKind P w).hash k) (.str k tk)
    have q3 := layNew_ris t es ((strKind P w).hash k) (.str k tk) tex.ris
    have q4 := layNew_led t es ((strKind P w).hash k) (.str k tk)
    generalize layNew t es ((strKind P w).hash k) (.str k tk) = Z at q1 q2 q3 q4 ⊢
    obtain ⟨new, t1, dummy, gave⟩ := Z
    dsimp only at q1 q2 q3 q4 ⊢
    rw [Array.toList_push] at q1
    have pm : new.toList.Perm (((strKind P w).hash k, Value.str k tk) :: es.toList) := q1.trans (List.perm_append_singleton _ _)
    have pk : (new.toList.map keyT).Perm (k :: es.toList.map keyT) := pm.map keyT
    have size : new.size = n + 1 := by
      have := pm.length_eq
      rw [Array.length_toList, List.length_cons, Array.length_toList, tex.size] at this
      exact this
    have tex1 : ∀ t' : SetTable, t'.fits new.size = true → Ris t'.place.toList → (t'.led = t1.led) → Tex P w (fun z => S z || decide (z = k)) new.size new t' := fun t' f1 f2 f3 =>
      { good := fun e he => (List.mem_cons.mp (pm.mem_iff.mp he)).elim (fun z => by rw [z]; exact ⟨k, tk, rfl, rfl⟩) (tex.good e)
        diff := pk.nodup_iff.mpr (List.nodup_cons.mpr ⟨notIn, tex.diff⟩)
        has := fun z => by
          rw [Bool.or_eq_true, decide_eq_true_eq, tex.has z, pk.mem_iff, List.mem_cons]
          exact Or.comm
        few := by rw [size]; exact room
        fits := f1
        size := rfl
        ris := f2
        led := tex.led.imp id fun z => by rw [f3, q4]; exact z }
    have done : ∀ h', Heap.SameBut a s.heap h' → SetS P w h' a (fun z => S z || decide (z = k)) new.size → Q true { s with heap := h' } := fun h' but r => by
      have q := fin h' but
      rw [no] at q
      rw [size] at r
      exact q r
    have quiet : ∀ (b : Bool) (s' : Shared) (Q' : Unit → Shared → Prop), Q' () s' → wpAny (model P w) A (match b with | true => rule "set.scan.the-table-gave-way" | false => pure ()) Q' E s' := fun b s' Q' => speak b
    refine wpAny_bind (speak _ ?_)
    split
    · refine wpAny_bind ?_
      rw [hashByValue_scannable 8 scans]
      refine wpAny_pure (store_texts quiet at_ ex data (tex1 _ ?_ ?_ ?_) fun h' but r => wpAny_pure (done h' but r))
      · first | (split <;> first | exact q2 | exact SetTable.fits_plain_off q2) | exact q2
      · first | (split <;> exact q3) | exact q3
      · first | (split <;> rfl) | rfl
    · refine wpAny_bind (wpAny_pure ?_)
      simp only [↓reduceIte]
      exact store_texts quiet at_ ex data (tex1 _ q2 q3 rfl) fun h' but r => wpAny_pure (done h' but r)
end
end Lp
namespace Lp
open PySem PySem.Spec PyProof.Rows L2
/-! ### set(xs) of a list of texts, sorted(set(xs)) -/
abbrev metL (zs : List Str) (i : Nat) : Str → Bool := fun z => decide (z ∈ zs.take i)
section
variable {P : Program} {w : World} {A : Around} {R : Result → Shared → Prop} {it : Addr} {fp wr : List Addr} {G : Array GenState → Array GenState → Prop} {Pv : Nat → Value → Prop} {St : Nat → Shared → Prop}
theorem fill_list {zs : List Str} (few : zs.length ≤ 1000) (W : WalksS P w A.in1 it fp wr G zs.length Pv St) {a : Addr} (off : a ∉ fp) (tells : ∀ (i : Nat) (v : Value), Pv i v → ∃ t, zs[i]?.map (fun z => Value.str z t) = some v) :
    ∀ (d i n : Nat) (s : Shared), i + d = zs.length → n ≤ i → St i s → SetS P w s.heap a (metL zs i) n → (∀ s' m, Moved (a :: wr) G s s' → SetS P w s'.heap a (metL zs zs.length) m → m ≤ zs.length → R (.ok (.ret .none)) s') →
      codeAny (model P w) A (.builtin "set.update.loop" ⟨[.ref a, .ref it], []⟩) R s := by
  have offW : a ∉ wr := fun m => off (W.sub a m)
  have more : ∀ {b}, b ∈ wr → b ∈ a :: wr := fun m => List.mem_cons_of_mem _ m
  have keeps : ∀ {s s' : Shared} {f : Str → Bool} {n : Nat}, Moved wr G s s' → SetS P w s.heap a f n → SetS P w s'.heap a f n := fun mv x => x.stays fun o at_ => mv.heap a _ offW at_
  intro d
  induction d with
  | zero =>
    intro i n s e le st x fin
    rw [Nat.add_zero] at e
    subst e
    refine codeAny_builtin PyProof.Rows.F.entry_set_update_loop ?_
    rw [Around.under_plainId PyProof.Rows.F.plain_set_update_loop _]
    exact wpAny_bind (m := pyNext (.ref it)) (W.done s _ _ st fun s' mv => wpAny_pure (fin s' n (mv.mono fun b => more) (keeps mv x) le))
  | succ d again =>
    intro i n s e le st x fin
    have lt : i < zs.length := by omega
    have tk : zs.take (i + 1) = zs.take i ++ [zs[i]] := by rw [List.take_add_one, List.getElem?_eq_getElem lt]; rfl
    have next : ∀ z, metL zs (i + 1) z = (metL zs i z || decide (z = zs[i])) := fun z => by
      unfold metL
      rw [tk, ← Bool.decide_or]
      exact decide_eq_decide.mpr (by rw [List.mem_append, List.mem_singleton])
    refine codeAny_builtin PyProof.Rows.F.entry_set_update_loop ?_
    rw [Around.under_plainId PyProof.Rows.F.plain_set_update_loop _]
    refine wpAny_bind (m := pyNext (.ref it)) (W.item i s _ _ lt st fun v s' hv st' mv => ?_)
    obtain ⟨t, ev⟩ := tells i v hv
    rw [List.getElem?_eq_getElem lt] at ev
    cases ev
    refine wpAny_bind (m := holding [Value.str zs[i] t] (setAdd a (.str zs[i] t))) (wpAny_holding ?_)
    unfold setAdd
    refine wpAny_holding (wpAny_bind ((strKind P w).pyHash (k := zs[i]) (strKind_is _ _ _ _) ?_))
    refine add_text (s := { s' with toks := s'.toks + 1 }) (show SetS P w s'.heap a (metL zs i) n from keeps mv x) (by unfold scanBound; omega) fun g but y => ?_
    have y2 : SetS P w g a (metL zs (i + 1)) (if metL zs i zs[i] = true then n else n + 1) := y.as next
    have old : ∀ {b o}, b ≠ a → s'.heap.get? b = some o → g.get? b = some o := fun ne z => (but.2 _ ne).trans z
    refine wpAny_pure ⟨plainId_quiet PyProof.Rows.F.plain_set_update_loop _, again (i + 1) _ _ (by omega) (by split <;> omega) (W.frame _ s' _ _ st' (Nat.le_succ _) fun b hb o z => old (fun q => off (q ▸ hb)) z) y2 fun s2 m mv2 z lm => ?_⟩
    exact fin s2 m (Moved.trans W.gtrans ((mv.mono fun b => more).then_heap (Nat.le_succ _) fun b o nb z => old (fun q => nb (q ▸ List.mem_cons_self)) z) mv2) z lm
end
section
variable {P : Program} {w : World} {A : Around} {E : Value → Shared → Prop} {s : Shared}
/-- a new set, and whether it is walked in its own order -/
theorem new_set (x : Value) {Q : Value → Shared → Prop} (fin : Q (.ref s.heap.objs.size) { s with heap := s.heap.push (bareSet (!w.params.followText "set-order")) }) : codeAny (model P w) A (.call (.builtin "set.__new__") ⟨[.type "set", x], []⟩) (wants Q E) s := by
  apply codeAny_of_tree
  show wpAny _ A.in1 (do
    checkBuiltinCall "set.__new__" ⟨[.type "set", x], []⟩
    again (.builtin "set.__new__" ⟨[.type "set", x], []⟩)) _ _ s
  refine wpAny_bind (wpAny_of_eq (PySem.F.newCall_set_1 x) (wpAny_pure ⟨plainId_quiet PySem.F.plain_set_new _, codeAny_builtin PySem.F.entry_set_new ?_⟩))
  have self := PySem.sub_set_self
  obtain ⟨hp, g, d, tk, os⟩ := s
  rw [Around.under_plainId PySem.F.plain_set_new _]
  unfold Builtin.«set.__new__» Builtin.Frozenset.newClass
  dsimp only
  wp_walk
  refine wpAny_askSetting (wpAny_pure ?_)
  dsimp only
  simp only [newObj]
  exact wpAny_bind (wpAny_alloc (wpAny_pure (wpAny_pure fin)))
theorem empty_texts {h : Heap} {a : Addr} {led : Bool} {zs : List Str} (at_ : h.get? a = some (bareSet led)) (own : w.params.followText "set-order" = true ∨ led = true) : SetS P w h a (metL zs 0) 0 :=
  ⟨_, #[], 0, _, at_, ⟨rfl, rfl, rfl⟩, rfl, { good := fun e he => by simp at he, diff := by simp, has := fun z => by simp, few := by decide, fits := by rfl, size := rfl, ris := List.Pairwise.nil, led := own }⟩
/-- the set that a list of texts fills -/
theorem init_list {a t : Addr} {led : Bool} {us : Array Value} {zs : List Str} {Q : Value → Shared → Prop} (calm : A.handled = none) (here : s.heap.get? a = some (bareSet led)) (tup : s.heap.IsList t us) (ne : a ≠ t)
    (are : PyProof.Rows.StrsAre us.toList zs) (few : zs.length ≤ 1000) (own : w.params.followText "set-order" = true ∨ led = true)
    (q : ∀ s' : Shared, s'.gens = s.gens → s'.drawn = s.drawn → s'.os = s.os → (∃ m, SetS P w s'.heap a (metL zs zs.length) m ∧ m ≤ zs.length) → (∀ b o, b ≠ a → s.heap.get? b = some o → s'.heap.get? b = some o) → Q .none s') :
    codeAny (model P w) A (.call (.builtin "set.__init__") ⟨[.ref a, .ref t], []⟩) (wants Q E) s := by
  have ty : s.TypeIs (.ref a) "set" := ⟨_, here, rfl⟩
  have sz : us.size = zs.length := by rw [← Array.length_toList, PyProof.Rows.StrsAre.len_eq are]
  refine codeAny_mono (codeAny_call_builtin (R := wants Q E) PySem.F.called_set.init.plain PySem.F.entry_set_init (PySem.check_set_init_1 ty ?_)) fun _ _ z => z
  obtain ⟨⟨cls, dict, data, slots⟩, at_, ec, n, ed⟩ := tup
  dsimp only at ec ed
  subst ec
  subst ed
  have tup : s.heap.IsList t us := ⟨_, at_, rfl, n, rfl⟩
  have noSet := PySem.F.sub_list_set
  have noFroz := PySem.F.sub_list_frozenset
  have noDict : (Value.type "list" == Value.type "dict") = false := by decide
  unfold Builtin.«set.__init__» noKeywords Builtin.Frozenset.updateFrom
  generalize eI : pyIter = I
  wp_walk
  subst eI
  refine wpAny_pyIter_list tup ?_
  have far : t ≠ s.heap.objs.size := Nat.ne_of_lt (Heap.lt_size at_)
  have aLt : a < s.heap.objs.size := Heap.lt_size here
  have calm1 : A.in1.in1.handled = none := by simp [calm]
  have off : a ∉ [s.heap.objs.size, t] := by
    rw [List.mem_cons, List.mem_singleton]
    exact fun z => z.elim (Nat.ne_of_lt aLt) ne
  have tells : ∀ (i : Nat) (v : Value), us[i]? = some v → ∃ k, zs[i]?.map (fun z => Value.str z k) = some v := fun i v e => by
    have e' : us.toList[i]? = some v := by rw [Array.getElem?_toList]; exact e
    obtain ⟨k, rfl⟩ := SS.strs_at are i v e'
    have lt : i < zs.length := by
      have := (Array.getElem?_eq_some_iff.mp e).1
      omega
    refine ⟨k, ?_⟩
    rw [List.getD_eq_getElem?_getD, List.getElem?_eq_getElem lt]
    rfl
  refine wpAny_bind (wpAny_runValue ?_)
  have W := (Walks.list (prog := P) (w := w) calm1 _ t far us).toS
  rw [sz] at W
  have gets : (s.heap.push { cls := .type "list_iterator", data := .fields #[.ref t, .int 0 0] }).get? a = some (bareSet led) := Heap.get?_push_of_some _ here
  refine fill_list (A := A.in1) few W off tells zs.length 0 0 _ (Nat.zero_add _) (Nat.le_refl _) ⟨⟨_, Heap.get?_push_size _ rfl, rfl, rfl⟩, tup.push _⟩ (empty_texts gets own) ?_
  · intro s' m mv full lm
    refine wpAny_pure (wpAny_pure (q s' mv.gens mv.drawn mv.os ⟨m, full, lm⟩ fun b o nb z => ?_))
    refine mv.heap b o (fun m => ?_) (Heap.get?_push_of_some _ z)
    rcases List.mem_cons.mp m with e | m
    · exact nb e
    · have e := List.mem_singleton.mp m
      exact Nat.ne_of_lt (Heap.lt_size z) e
theorem call_set_list {t : Addr} {us : Array Value} {zs : List Str} {Q : Value → Shared → Prop} (calm : A.handled = none) (tup : s.heap.IsList t us) (are : PyProof.Rows.StrsAre us.toList zs) (few : zs.length ≤ 1000)
    (q : ∀ s' : Shared, s'.gens = s.gens → s'.drawn = s.drawn → s'.os = s.os → (∃ m, SetS P w s'.heap s.heap.objs.size (metL zs zs.length) m ∧ m ≤ zs.length) → (∀ b o, s.heap.get? b = some o → s'.heap.get? b = some o) → Q (.ref s.heap.objs.size) s') :
    wpAny (model P w) A (call (.type "set") [.ref t]) Q E s := by
  obtain ⟨_, _, line⟩ := PySem.F.called_set.mro
  have f1 := PySem.F.called_set.made
  have f2 := PySem.F.called_set.sub
  have f3 := PySem.F.called_set.notType
  have f4 := PySem.F.called_set.canCreate
  have f5 := PySem.F.typeCall_set_1 (.ref t)
  refine wpAny_call (codeAny_of_tree (wpAny_pure ⟨Code.quiet_builtin _ (by decide +kernel), codeAny_builtin PySem.F.entry_type_call ?_⟩))
  rw [Around.under_plain (weight_type_call_type "set" [.ref t] []) rfl]
  repeat (any_goals (first | assumption | wp_step))
  refine codeAny_mono (new_set (.ref t) (E := E) (Q := fun v g => v = .ref s.heap.objs.size ∧ g = { s with heap := s.heap.push (bareSet (!w.params.followText "set-order")) }) ⟨rfl, rfl⟩) fun r g made => ?_
  have own : w.params.followText "set-order" = true ∨ (!w.params.followText "set-order") = true := by
    cases w.params.followText "set-order"
    · exact .inr rfl
    · exact .inl rfl
  generalize (!w.params.followText "set-order") = led at made own
  match r, made with
  | .error _, made => exact made
  | .ok (.ret v), made =>
    obtain ⟨rfl, rfl⟩ := made
    have at_ : (s.heap.push (bareSet led)).get? s.heap.objs.size = some (bareSet led) := Heap.get?_push_size _ rfl
    have ty : Shared.TypeIs { s with heap := s.heap.push (bareSet led) } (.ref s.heap.objs.size) "set" := ⟨_, at_, rfl⟩
    have f6 := PySem.F.called_set.init.lookup
    have f7 := PySem.F.called_set.init.bind (.ref s.heap.objs.size)
    have ne : s.heap.objs.size ≠ t := by
      obtain ⟨o, z, _⟩ := id tup
      exact Nat.ne_of_gt (Heap.lt_size z)
    repeat (any_goals (first | assumption | wp_step))
    refine codeAny_mono (init_list (s := { s with heap := s.heap.push (bareSet led) }) (E := E) (Q := fun v s' => v = .none ∧ Q (.ref s.heap.objs.size) s') (by simp [calm]) at_ (tup.push _) ne are few own fun s' e1 e2 e3 full old => ⟨rfl, q s' e1 e2 e3 full fun b o z => old b o (Nat.ne_of_lt (Heap.lt_size z)) (Heap.get?_push_of_some _ z)⟩) fun r2 g2 made2 => ?_
    match r2, made2 with
    | .error _, made2 => exact made2
    | .ok (.ret v), made2 =>
      obtain ⟨rfl, fin⟩ := made2
      repeat (any_goals (first | assumption | wp_step))
end
def txtV : Value → Str
  | .str z _ => z
  | _ => Str.ofString ""
theorem each_txt : ∀ {us : List Value}, (∀ u ∈ us, ∃ (z : Str) (t : Tok), u = Value.str z t) → PySem.W.EachIs (fun u z => ∃ t, u = Value.str z t) us (us.map txtV)
  | [], _ => .nil
  | u :: us, h => by
    obtain ⟨z, t, rfl⟩ := h u List.mem_cons_self
    exact .cons ⟨t, rfl⟩ (each_txt fun v hv => h v (List.mem_cons_of_mem _ hv))
section
variable {P : Program} {w : World} {A : Around} {E : Value → Shared → Prop} {s : Shared}
theorem sort_set {a : Addr} {S : Str → Bool} {m : Nat} {Q : Value → Shared → Prop} (x : SetS P w s.heap a S m) (calm : A.handled = none) (few : m ≤ 1000) (room : A.units + 64 < cLine)
    (q : ∀ (g : Shared) (us out : List Value) (ys : List Str), (∀ b o, s.heap.get? b = some o → g.heap.get? b = some o) → g.gens = s.gens → g.os = s.os → s.heap.objs.size ≤ g.heap.objs.size → PySem.W.EachIs (fun u z => ∃ k, u = Value.str z k) out (sortS ys) → ys.Nodup → (∀ z, z ∈ ys ↔ S z = true) → ys.length ≤ 1000 →
      Q (.ref g.heap.objs.size) { g with heap := sortedHeap (g.heap.push (seqObj "list" us.toArray 0)) g.heap.objs.size us out.toArray }) :
    wpAny (model P w) A (call (.builtin "sorted") [.ref a]) Q E s := by
  obtain ⟨o, es, ep, t, at_, ex, data, tex⟩ := x
  refine Calls.call_function_entry kind_sorted plain_sorted entry_sorted (args_sorted1 (.ref a)) ?_
  unfold Builtin.«sorted»
  refine wpAny_bind (m := checkCount "sorted" 1 1 1) (wpAny_pure (wpAny_bind (collect_set (A := A.in1) calm ⟨o, at_, ex.1, data⟩ tex.fits tex.few tex.ris tex.led fun g us old size g1 g2 pm => ?_)))
  have num : us.length = m := by rw [pm.length_eq, List.length_map, Array.length_toList]; exact tex.size
  have small : us.toArray.size ≤ sizeLine := by
    rw [List.size_toArray, num]
    exact Nat.le_of_lt (len_lt (by omega))
  have texts : ∀ u ∈ us, ∃ (z : Str) (t : Tok), u = Value.str z t := fun u hu => by
    obtain ⟨e, he, rfl⟩ := List.mem_map.mp (pm.mem_iff.mp hu)
    obtain ⟨z, k, e1, _⟩ := tex.good e he
    exact ⟨z, k, e1⟩
  have is := each_txt texts
  have keys : (us.map txtV).Perm (es.toList.map keyT) := by
    have p := pm.map txtV
    rw [List.map_map] at p
    exact p
  generalize hzs : us.map txtV = zs at is keys
  have zl : zs.length = m := by rw [← hzs, List.length_map, num]
  refine wpAny_bind (wpAny_newList ?_ (by rw [← List.size_toArray]; exact small))
  have new : (g.heap.push (seqObj "list" us.toArray 0)).get? g.heap.objs.size = some (seqObj "list" us.toArray 0) := Heap.get?_push_size g.heap rfl
  have reads : PySem.W.EachIs (fun v z => ∃ as, Reads (g.heap.push (seqObj "list" us.toArray 0)) v (PyData.str z) as ∧ g.heap.objs.size ∉ as) us zs := is.mono fun v z h => by
    obtain ⟨k, rfl⟩ := h
    exact ⟨[], Reads.str z k, by simp⟩
  have sorted := PySem.W.list_sort_data (prog := P) (w := w) (A := A.in1) (E := E) (s := { g with heap := g.heap.push (seqObj "list" us.toArray 0) }) (enc := PyData.str) (Q := fun v s' => v = .none ∧ Q (.ref g.heap.objs.size) s') new is reads (texts_alike zs) (texts_sortable zs) (by rw [zl, ← num, ← List.size_toArray]; exact small)
    (fun z _ => by show A.units + 1 + 1 + 0 < cLine; omega) fun out _ e => ⟨rfl, q g us out zs old g1 g2 size (by rw [dataLe_texts] at e; exact e) (keys.nodup_iff.mpr tex.diff) (fun z => by rw [tex.has z]; exact keys.mem_iff) (by omega)⟩
  refine wpAny_bind (wpAny_holding (wpAny_mono sorted (fun v s' h => ?_) fun _ _ z => z))
  obtain ⟨rfl, h⟩ := h
  exact wpAny_pure ⟨_, rfl, h⟩
end
/-- sorted(set(xs)), xs a list of texts -/
def tSortSet (K : PySem.W.Frag) (ta : TE) : TE := fun σ H Q => ta σ H fun v H1 => ∃ (l : Addr) (zs : List Str), v = .ref l ∧ SqL K H1 l (zs.map V.str) ∧ zs.length ≤ 1000 ∧ ∀ (p : Addr) (ys : List Str), ys.Nodup → (∀ z, z ∈ ys ↔ z ∈ zs) → H1 p = none → Q (.ref p) (upd H1 p (.lst ((sortS ys).map V.str)))
theorem pe_sortSet {X : Cx} {a : Expr} {ta : TE} {p1 p2 p3 p4 : Pos} (hu : X.A.units + 64 < cLine) (gl : Gl X "sorted") (ml : X.mg "sorted" = none) (gs : Gl X "set") (ms : X.mg "set" = none) (ha : PE X a ta) (calm : X.calm = true := by rfl)
    (st : starEach [a] X.env = (false, eval a X.env) :: starEach [] X.env := by rfl) : PE X (.Call (.Name "sorted" p1) [.Call (.Name "set" p2) [a] [] p3] [] p4) (tSortSet X.K ta) := ⟨fun pins s σ H Q I h => by
  refine Call_ (ld_blt I gl ml boot_sorted (PyProof.Rows.callWith_builtin1 (PyProof.Rows.args_cons ?_ rfl) rfl rfl))
  refine Call_ (ld_blt I gs ms boot_set (PyProof.Rows.callWith_type1 (PyProof.Rows.args_cons (thn (ha.run pins s σ H _ I h) fun v t y => PyProof.Rows.args_nil ?_) st) st rfl))
  obtain ⟨x, H1, J, rx, l, zs, rfl, hl, few, fin⟩ := y
  cases rx
  obtain ⟨its, rv, pl, _⟩ := J.list hl
  refine call_set_list (J.ok.hd calm) pl.isList (by simpa using strs_of rv) few fun g e1 e2 e3 full old => PyProof.Rows.args_nil ?_
  obtain ⟨gh, gg, gd, gt, go⟩ := g
  dsimp only at e1 e2 e3
  subst e1 e2 e3
  have J2 : Inv X pins σ H1 { t with heap := gh, toks := gt } := J.kept fun b o e => old b o e
  obtain ⟨m, full, lm⟩ := full
  refine sort_set (s := { t with heap := gh, toks := gt }) full (J2.ok.hd calm) (by omega) hu fun g us out ys old2 g1 g2 size is nd mem yl => ?_
  obtain ⟨hh, hg, hd, ht, ho⟩ := g
  dsimp only at old2 g1 g2 size ⊢
  subst g1 g2
  have new : H1 hh.objs.size = none := J2.hok.fresh size
  have line : ((sortS ys).map V.str).length ≤ sizeLine := by
    rw [List.length_map, (sortS_perm ys).length_eq]
    exact Nat.le_of_lt (len_lt (by omega))
  obtain ⟨ep, there⟩ := PyProof.Rows.sortedHeap_at (vs := us) (out := out.toArray) (Heap.get?_push_size hh rfl : (hh.push (seqObj "list" us.toArray 0)).get? hh.objs.size = some (seqObj "list" us.toArray 0))
  have keeps : ∀ b o, gh.get? b = some o → (sortedHeap (hh.push (seqObj "list" us.toArray 0)) hh.objs.size us out.toArray).get? b = some o := fun b o z => by
    have z2 := old2 b o z
    have lt := Heap.lt_size z2
    rw [PyProof.Rows.sortedHeap_old (Nat.ne_of_lt lt) (by rw [size_push']; exact Nat.lt_succ_of_lt lt)]
    exact Heap.get?_push_of_some _ z2
  have J3 : Inv X pins σ (upd H1 hh.objs.size (.lst ((sortS ys).map V.str))) { t with heap := sortedHeap (hh.push (seqObj "list" us.toArray 0)) hh.objs.size us out.toArray, drawn := hd, toks := ht } :=
    L2.Inv.call (s := { t with heap := gh, toks := gt }) J2 (ch := []) (Un.laid keeps size new) (J2.hok.laid keeps size ⟨line, out, ep, each_texts is, by simpa using there⟩) J2.bare (fun _ z => nomatch z)
  exact ⟨.ref hh.objs.size, _, J3, rfl, fin _ ys nd (fun z => by rw [mem z]; unfold metL; rw [decide_eq_true_iff, List.take_length]) new⟩⟩
end Lp
namespace Lp
open PySem PySem.Spec PyProof.Rows L2
def top (i : Nat) : Stmt := PySem.Challenge.pw_lastpasses_k63_possible_kinds.main.body.getD i (.Pass ⟨0, 0, 0, 0⟩)
section
variable {P : Program} {w : World} {K : PySem.W.Frag} {mg : Str → Option Value} {base : Heap}
/-! ### the cells of the script -/
abbrev s__law_cell : Stmt := top 23
abbrev N__law_cell : List Str := ["_law_script", "_law_k", "_law_state", "_law_number"]
theorem sc__law_cell : FnScope N__law_cell ["_law_script", "_law_k"] (defScope s__law_cell) := ⟨rfl, rfl, rfl, by decide +kernel, rfl, by decide +kernel, by decide +kernel⟩
def spCell (K : PySem.W.Frag) : Sp := fun vs H Q _ => ∃ (l : Addr) (ns : List Int) (k : Nat), vs = [.ref l, .int (k : Nat)] ∧ SqL K H l (ns.map V.int) ∧ k ≤ 1000 ∧ ∀ (i : Int) (H' : Hp), Same H H' → Q (.int i) H'
theorem ok_cell (D : Df K mg "_law_cell" s__law_cell) (m_len : mg "len" = none) : Cl P w K mg base 1 "_law_cell" s__law_cell ["_law_script", "_law_k"] (spCell K) := by
  refine D.ok sc__law_cell (fun _ _ _ _ _ _ us hl => match us, hl with | [_, _], _ => rfl) (fun vs H Q E h => ?_) (fun f cdv A outer s H vs Q E hr h => ?_)
  · obtain ⟨l, ns, k, rfl, _⟩ := h
    rfl
  · obtain ⟨l, ns, k, rfl, hS, hk, q⟩ := h
    refine ⟨_, 
      (pss_cons (ps_if (pt_cmpR op_lt (pv 1) (pe_callB call_lenS (by rfl) m_len (by decide +kernel) (pa_cons (pv 0) pa_nil)) (nomark _)) (pss_one (ps_ret (pe_ix ix_list (pv 0) (pv 1) (fun _ _ => rfl)))) pss_nil) 
      (pss_cons (ps_set (i := 2) sc__law_cell.nd rfl (Or.inl rfl) (pe_op op_mod (pe_op op_mul pe_int (pe_op op_add (pe_op op_add (pe_op op_mul (pv 1) (pv 1)) (pe_op op_mul pe_int (pv 1))) pe_int)) pe_int)) 
      (pss_cons (ps_for PassesOwn.never rfl (pi_list (pe_slice sl_list (pv 0) po_none (po_some pe_int))) (pg_name (i := 3) sc__law_cell.nd rfl (Or.inl rfl)) (pss_one (ps_set (i := 2) sc__law_cell.nd rfl (Or.inl rfl) (pe_op op_mod (pe_op op_add (pe_op op_mul (pv 2) pe_int) (pv 3)) pe_int)))) 
      (pss_one (ps_ret (pv 2)))))), ?_⟩
    refine ⟨_, rfl, _, rfl, l, ns.map V.int, rfl, .inl hS, _, _, rfl, rfl, _, rfl, ite2 (fun e => ?_) (fun e => ?_)⟩
    · have lt : k < ns.length := by
        have e2 := of_decide_eq_true e
        rw [List.length_map] at e2
        omega
      have g : (ns.map V.int)[k]? = some (.int ns[k]) := by
        rw [List.getElem?_map, List.getElem?_eq_getElem lt]
        rfl
      exact ⟨_, rfl, _, rfl, l, _, _, _, rfl, rfl, hS, atI_nat g, q _ _ (Same.refl H)⟩
    · refine ⟨_, rfl, _, rfl, _, _, rfl, rfl, .inl ⟨by omega, by omega⟩, _, rfl, _, _, rfl, rfl, .inl ⟨by decide, by decide⟩, _, _, rfl, rfl, _, _, rfl, rfl, _, _, rfl, rfl, .inl ⟨by decide, by decide⟩, _, _, rfl, rfl, (by show (0 : Int) < 2147483399; decide), ?_⟩
      refine ⟨_, rfl, 3, rfl, l, ns.map V.int, rfl, hS, fun c nc => ?_⟩
      have sm : Same H (upd H c (.lst (cutV (ns.map V.int) none (some 3)))) := same_upd nc
      refine ⟨c, rfl, ⟨_, .inl (.inl upd_same)⟩, ?_⟩
      refine for_list (xs := cutV (ns.map V.int) none (some 3)) (fun i σ H2 => ∃ (z : Int) (y : Option V), σ = [some (.ref l), some (.int (k : Nat)), some (.int z), y] ∧ -(2 ^ 64) < z ∧ z < 2 ^ 64 ∧ H2 = upd H c (.lst (cutV (ns.map V.int) none (some 3))))
        ⟨_, none, rfl, ?_, ?_, rfl⟩ (fun i σ H2 _ h2 => ?_) (fun i x σ H2 hx h2 => ?_) (fun σ H2 h2 => ?_)
      · exact Int.lt_of_lt_of_le (by decide) (Int.emod_nonneg _ (by decide))
      · exact Int.lt_trans (Int.emod_lt_of_pos _ (by decide)) (by decide)
      · obtain ⟨z, y, _, _, _, rfl⟩ := h2
        exact .inl (.inl upd_same)
      · obtain ⟨z, y, rfl, h3, h4, rfl⟩ := h2
        have hm : x ∈ ns.map V.int := List.mem_of_mem_drop (List.mem_of_mem_take (List.mem_of_getElem? hx))
        obtain ⟨n, _, rfl⟩ := List.mem_map.mp hm
        refine ⟨_, rfl, _, _, rfl, rfl, .inl ⟨h3, h4⟩, _, rfl, _, _, rfl, rfl, _, _, rfl, rfl, (by show (0 : Int) < 2147483399; decide), ?_⟩
        refine ⟨_, some (.int n), rfl, ?_, ?_, rfl⟩
        · exact Int.lt_of_lt_of_le (by decide) (Int.emod_nonneg _ (by decide))
        · exact Int.lt_trans (Int.emod_lt_of_pos _ (by decide)) (by decide)
      · obtain ⟨z, y, rfl, h3, h4, rfl⟩ := h2
        exact ⟨_, rfl, q _ _ sm⟩
/-! ### the pool -/
abbrev s__law_pool : Stmt := top 24
abbrev N__law_pool : List Str := ["_law_number", "_law_digits"]
theorem sc__law_pool : FnScope N__law_pool ["_law_number"] (defScope s__law_pool) := ⟨rfl, rfl, rfl, by decide +kernel, rfl, by decide +kernel, by decide +kernel⟩
def spPool : Sp := fun vs H Q _ => ∃ n : Int, vs = [.int n] ∧ ∀ p H', Same H H' → H p = none → Pool H' p → Q (.ref p) H'
theorem ok_pool (D : Df K mg "_law_pool" s__law_pool) (m_abs : mg "abs" = none) : Cl P w K mg base 1 "_law_pool" s__law_pool ["_law_number"] spPool := by
  refine D.ok sc__law_pool (fun _ _ _ _ _ _ us hl => match us, hl with | [_], _ => rfl) (fun vs H Q E h => ?_) (fun f cdv A outer s H vs Q E hr h => ?_)
  · obtain ⟨n, rfl, _⟩ := h
    rfl
  · obtain ⟨n, rfl, q⟩ := h
    have fin : ∀ d : Int, 0 ≤ d → ∀ p, H p = none → Q (.ref p) (upd H p (.lst [.int (n % 2147483399), .int d, .int 0])) := fun d hd p np =>
      q p _ (same_upd np) np ⟨_, d, 0, upd_same, Int.emod_nonneg _ (by decide), Int.emod_lt_of_pos _ (by decide), hd⟩
    refine ⟨_, 
      (pss_cons (ps_set (i := 1) sc__law_pool.nd rfl (Or.inl rfl) (pe_ifExp (PW.pt (pw_or (pt_cmpR op_lt (pv 0) pe_int (nomark _)) (pw_or1 (pt_cmpR op_ge (pv 0) (pe_op op_pow pe_int pe_int) (nomark _))))) (pe_callB call_abs (by rfl) m_abs (by decide +kernel) (pa_cons (pv 0) pa_nil)) pe_int)) 
      (pss_one (ps_ret (pe_lst (pa_cons (pe_op op_mod (pv 0) pe_int) (pa_cons (pv 1) (pa_cons pe_int pa_nil))))))), ?_⟩
    refine ⟨_, rfl, _, _, rfl, rfl, _, rfl, ?_⟩
    have three : ∀ d : Int, ([V.int (n % 2147483399), V.int d, V.int 0] : List V).length ≤ sizeLine := fun d => by
      show 3 ≤ sizeLine
      decide
    by_cases h0 : n < 0
    · rw [decide_eq_true h0]
      refine iteT (iteT ⟨_, rfl, _, rfl, _, rfl, _, _, rfl, rfl, (by show (0 : Int) < 2147483399; decide), _, rfl, three _, fun p np => fin _ ?_ p np⟩)
      rw [if_pos h0]
      omega
    · rw [decide_eq_false h0]
      refine iteF ⟨_, rfl, _, _, rfl, rfl, ⟨by decide, by decide, by decide⟩, _, _, rfl, rfl, _, rfl, ?_⟩
      refine ite2 (fun e => ?_) (fun e => ?_)
      · refine ⟨_, rfl, _, rfl, _, rfl, _, _, rfl, rfl, (by show (0 : Int) < 2147483399; decide), _, rfl, three _, fun p np => fin _ ?_ p np⟩
        rw [if_neg h0]
        omega
      · exact ⟨_, rfl, _, _, rfl, rfl, (by show (0 : Int) < 2147483399; decide), _, rfl, three _, fun p np => fin _ (Int.le_refl _) p np⟩
/-! ### a draw -/
abbrev s__law_draw : Stmt := top 25
abbrev N__law_draw : List Str := ["_law_pool_here", "_law_count", "_law_state", "_law_digit"]
theorem sc__law_draw : FnScope N__law_draw ["_law_pool_here", "_law_count"] (defScope s__law_draw) := ⟨rfl, rfl, rfl, by decide +kernel, rfl, by decide +kernel, by decide +kernel⟩
def spDraw : Sp := fun vs H Q _ => ∃ (a : Addr) (c : Int), vs = [.ref a, .int c] ∧ 1 ≤ c ∧ c ≤ 1000000 ∧ Pool H a ∧ ∀ (d : Int) (H' : Hp), 0 ≤ d → d < c → Kp a H H' → Pool H' a → Q (.int d) H'
theorem ok_draw (D : Df K mg "_law_draw" s__law_draw) (m_divmod : mg "divmod" = none) : Cl P w K mg base 1 "_law_draw" s__law_draw ["_law_pool_here", "_law_count"] spDraw := by
  refine D.ok sc__law_draw (fun _ _ _ _ _ _ us hl => match us, hl with | [_, _], _ => rfl) (fun vs H Q E h => ?_) (fun f cdv A outer s H vs Q E hr h => ?_)
  · obtain ⟨a, c, rfl, _⟩ := h
    rfl
  · obtain ⟨a, c, rfl, c1, c2, ⟨st, dg, n, ha, s0, s1, d0⟩, q⟩ := h
    refine ⟨_, 
      (pss_cons (ps_asg (pe_op op_add (pe_ix ix_list (pv 0) pe_int (fun _ _ => rfl)) pe_int) (pg_sub (pv 0) pe_int set_list)) 
      (pss_cons (ps_set (i := 2) sc__law_draw.nd rfl (Or.inl rfl) (pe_ix ix_list (pv 0) pe_int (fun _ _ => rfl))) 
      (pss_cons (ps_asg (pe_op op_mod (pe_op op_add (pe_op op_mul (pv 2) (pe_op op_add (pe_op op_mod (pv 2) pe_int) pe_int)) (pe_op op_mul pe_int (pe_ix ix_list (pv 0) pe_int (fun _ _ => rfl)))) pe_int) (pg_sub (pv 0) pe_int set_list)) 
      (pss_cons (ps_if (pt_cmpR op_gt (pe_ix ix_list (pv 0) pe_int (fun _ _ => rfl)) pe_int (nomark _)) (pss_cons (ps_asg (pe_callB call_divmodW (by rfl) m_divmod (by decide +kernel) (pa_cons (pe_ix ix_list (pv 0) pe_int (fun _ _ => rfl)) (pa_cons (pv 1) pa_nil))) (pg_tup (by rfl) (pgs_cons (pg_sub (pv 0) pe_int set_list) (pgs_cons (pg_name (i := 3) sc__law_draw.nd rfl (Or.inl rfl)) pgs_nil)))) (pss_one (ps_ret (pv 3)))) pss_nil) 
      (pss_one (ps_ret (pe_op op_mod (pe_op op_fdiv (pe_ix ix_list (pv 0) pe_int (fun _ _ => rfl)) pe_int) (pv 1)))))))), ?_⟩
    have at0 : ∀ x y z : V, atI [x, y, z] (0 : Int) = some x := fun _ _ _ => rfl
    have at1 : ∀ x y z : V, atI [x, y, z] (1 : Int) = some y := fun _ _ _ => rfl
    have at2 : ∀ x y z : V, atI [x, y, z] (2 : Int) = some z := fun _ _ _ => rfl
    refine ⟨_, rfl, a, _, 2, _, rfl, rfl, .inl (.inl ha), at2 _ _ _, _, _, rfl, rfl, ?_⟩
    refine ⟨_, rfl, a, _, 2, 2, rfl, rfl, ha, rfl, ?_⟩
    refine ⟨_, rfl, a, _, 0, _, rfl, rfl, .inl (.inl upd_same), at0 _ _ _, ?_⟩
    have b1 : 0 ≤ st % 40961 := Int.emod_nonneg _ (by decide)
    have b2 : st % 40961 < 40961 := Int.emod_lt_of_pos _ (by decide)
    refine ⟨_, rfl, _, rfl, _, _, rfl, rfl, (by show (0 : Int) < 40961; decide), _, _, rfl, rfl, _, _, rfl, rfl, .inl ⟨by omega, by omega⟩, ?_⟩
    refine ⟨_, rfl, a, _, 2, _, rfl, rfl, .inl (.inl upd_same), at2 _ _ _, _, _, rfl, rfl, .inl ⟨by decide, by decide⟩, _, _, rfl, rfl, _, _, rfl, rfl, (by show (0 : Int) < 2147483399; decide), ?_⟩
    refine ⟨_, rfl, a, _, 0, 0, rfl, rfl, upd_same, rfl, ?_⟩
    rw [upd_upd]
    refine ⟨_, rfl, a, _, 1, _, rfl, rfl, .inl (.inl upd_same), at1 _ _ _, _, _, rfl, rfl, _, rfl, ?_⟩
    have kp : ∀ xs, Kp a H (upd H a (.lst xs)) := fun xs b o e ne => by
      rw [upd_ne ne]
      exact e
    refine ite2 (fun e => ?_) (fun e => ?_)
    · refine ⟨_, rfl, a, _, 1, _, rfl, rfl, .inl (.inl upd_same), at1 _ _ _, _, rfl, dg, c, rfl, ⟨by omega, ?_⟩, fun p np => ?_⟩
      · exact small_div (by omega) (by omega)
      · have pa : p ≠ a := fun z => by
          subst z
          rw [upd_same] at np
          cases np
        refine ⟨p, _, rfl, .inl (.inl upd_same), rfl, _, _, rfl, _, rfl, a, _, 1, 1, rfl, rfl, (upd_ne pa.symm).trans upd_same, rfl, _, _, rfl, rfl, ?_⟩
        refine ⟨_, rfl, q _ _ (Int.emod_nonneg _ (by omega)) (Int.emod_lt_of_pos _ (by omega)) (fun b o eb ne => ?_) ⟨_, dg / c, n + 1, upd_same, Int.emod_nonneg _ (by decide), Int.emod_lt_of_pos _ (by decide), Int.ediv_nonneg d0 (by omega)⟩⟩
        have bp : b ≠ p := fun zz => by
          subst zz
          rw [upd_ne ne, eb] at np
          cases np
        rw [upd_ne ne, upd_ne bp, upd_ne ne]
        exact eb
    · refine ⟨_, rfl, a, _, 0, _, rfl, rfl, .inl (.inl upd_same), at0 _ _ _, _, _, rfl, rfl, ⟨by decide, by decide⟩, _, rfl, _, _, rfl, rfl, (by show 0 < c; omega), ?_⟩
      exact q _ _ (Int.emod_nonneg _ (by omega)) (Int.emod_lt_of_pos _ (by omega)) (kp _) ⟨_, dg, n + 1, upd_same, Int.emod_nonneg _ (by decide), Int.emod_lt_of_pos _ (by decide), d0⟩
end
section
variable {P : Program} {w : World} {K : PySem.W.Frag} {mg : Str → Option Value} {base : Heap}
/-! ### names -/
structure Nm (z : Str) : Prop where
  pos : 1 ≤ z.cps.size
  most : z.cps.size ≤ 6
  own : ∀ c ∈ z.cps.toList, 97 ≤ c ∧ c < 123
def abcS : Str := "abcdefghijklmnopqrstuvwxyz"
def inTx (i j : Str) : Bool := !(Builtin.Str.occurrences j i 0 j.length 1).isEmpty
theorem abc_has : ∀ k : Fin 26, inTx ⟨#[97 + k.val]⟩ abcS = true := by decide +kernel
theorem abc_in {c : Nat} (h : 97 ≤ c ∧ c < 123) : inTx ⟨#[c]⟩ abcS = true := by
  have e := abc_has ⟨c - 97, by omega⟩
  rw [show 97 + (⟨c - 97, by omega⟩ : Fin 26).val = c by show 97 + (c - 97) = c; omega] at e
  exact e
def rInTx : V → V → Hp → VK → Prop := fun x y H Q => ∃ i j, x = .str i ∧ y = .str j ∧ Q (.bl (inTx i j)) H
theorem op_inTx {X : Cx} : OpR X (compareOp .In) rInTx := op_in_str
abbrev s_is_name : Stmt := top 7
abbrev N_is_name : List Str := ["value", "letter"]
theorem sc_is_name : FnScope N_is_name ["value"] (defScope s_is_name) := ⟨rfl, rfl, rfl, by decide +kernel, rfl, by decide +kernel, by decide +kernel⟩
def spName : Sp := fun vs H Q _ => ∃ z : Str, vs = [.str z] ∧ Nm z ∧ ∀ H', Same H H' → Q (.bl true) H'
theorem ok_name (D : Df K mg "is_name" s_is_name) (m_isinstance : mg "isinstance" = none) (m_str : mg "str" = none) (m_len : mg "len" = none) (m_all : mg "all" = none) {tg : Tok} (g_LONGEST_NAME : mg "LONGEST_NAME" = some (.int 6 tg)) {tl : Tok} (g_LETTERS : mg "LETTERS" = some (.str abcS tl)) : Cl P w K mg base 1 "is_name" s_is_name ["value"] spName := by
  refine D.ok sc_is_name (fun _ _ _ _ _ _ us hl => match us, hl with | [_], _ => rfl) (fun vs H Q E h => ?_) (fun f cdv A outer s H vs Q E hr h => ?_)
  · obtain ⟨z, rfl, _⟩ := h
    rfl
  · obtain ⟨z, rfl, nz, q⟩ := h
    refine ⟨_, 
      (pss_cons (ps_if (PW.pt (pw_or (pt_not (pt_val (pe_callB call_isi (by rfl) m_isinstance (by decide +kernel) (pa_cons (pv 0) (pa_cons (pe_bltn (v := .ty "str") (by rfl) m_str (by decide +kernel) rfl) pa_nil))))) (pw_or1 (pt_not (pt_chain op_le op_le pe_int (pe_callB call_len_str (by rfl) m_len (by decide +kernel) (pa_cons (pv 0) pa_nil)) (pe_glob (v := .int 6) (by rfl) g_LONGEST_NAME ⟨_, rfl⟩)))))) (pss_one (ps_ret pe_bl)) pss_nil) 
      (pss_one (ps_ret (pe_callB (cr_all rfl) (by rfl) m_all (by decide +kernel) (pa_cons (pe_lc (own := [("letter", 1)]) (g := gName 1) (te := (tOp rInTx (tVar 1) (tC _))) rfl sc_is_name.nd (pi_str (pv 0)) (blkOk_by (own := [("letter", 1)]) (N := N_is_name) (sc := (defScope s_is_name)) (by decide +kernel)) (fun _ _ _ _ _ => (pg_name (i := 1) sc_is_name.nd rfl (Or.inl rfl))) (fun _ _ _ _ _ => pts_nil) (fun _ _ _ _ _ => (pe_cmpR op_inTx (pv 1) (pe_glob (v := .str "abcdefghijklmnopqrstuvwxyz") (by rfl) g_LETTERS ⟨_, rfl⟩) (by rfl)))) pa_nil))))), ?_⟩
    refine ⟨_, rfl, .str z, .ty "str", .type "str", .type "str", _, rfl, .ty _, .base (.str z), kit_str (T := "str") (by decide), _, rfl, ?_⟩
    have p1 := nz.pos
    have p2 := nz.most
    have sz : z.length ≤ sizeLine := by
      show z.cps.size ≤ _
      exact Nat.le_of_lt (len_lt (by omega))
    refine iteF ⟨_, rfl, _, rfl, sz, _, _, rfl, rfl, _, rfl, ?_⟩
    rw [show decide ((1 : Int) ≤ ((z.length : Nat) : Int)) = true from decide_eq_true (by show (1 : Int) ≤ ((z.cps.size : Nat) : Int); omega)]
    refine iteT ⟨_, _, rfl, rfl, _, rfl, ?_⟩
    rw [show decide (((z.length : Nat) : Int) ≤ (6 : Int)) = true from decide_eq_true (by show ((z.cps.size : Nat) : Int) ≤ 6; omega)]
    refine iteF ⟨_, rfl, z, rfl, fun D nD => ?_⟩
    refine lc_it walk_str (fun i F => F D = some (.lst ((List.replicate i true).map V.bl)) ∧ Same H F) ⟨upd_same, same_upd nD⟩ (fun _ _ _ _ => trivial) (fun i v F F' hi hK hv => ?_) (fun F hK => ?_)
    · obtain ⟨hD, sF⟩ := hK
      obtain ⟨rfl, c, hc, rfl⟩ := hv
      refine ⟨rfl, _, rfl, _, _, rfl, rfl, ?_⟩
      rw [show inTx ⟨#[c]⟩ (Str.ofString "abcdefghijklmnopqrstuvwxyz") = true from abc_in (nz.own c (List.mem_of_getElem? (by rw [Array.getElem?_toList]; exact hc)))]
      refine ⟨_, hD, ?_, ?_, fun b o e => ?_⟩
      · rw [List.length_map, List.length_replicate]
        exact len_lt (by omega)
      · rw [upd_same, List.replicate_succ', List.map_append]
        rfl
      · rw [upd_ne (ne_of_none e nD)]
        exact sF _ _ e
    · obtain ⟨hD, sF⟩ := hK
      refine ⟨D, List.replicate _ true, rfl, .inl (.inl hD), ?_⟩
      rw [all_true]
      exact q _ sF
abbrev s_is_name_row : Stmt := top 8
abbrev N_is_name_row : List Str := ["value", "name"]
theorem sc_is_name_row : FnScope N_is_name_row ["value"] (defScope s_is_name_row) := ⟨rfl, rfl, rfl, by decide +kernel, rfl, by decide +kernel, by decide +kernel⟩
structure NmR (zs : List Str) : Prop where
  two : 2 ≤ zs.length
  most : zs.length ≤ 12
  own : ∀ z ∈ zs, Nm z
  nd : zs.Nodup
def spNameRow (K : PySem.W.Frag) : Sp := fun vs H Q _ => ∃ (r : Addr) (zs : List Str), vs = [.ref r] ∧ SqT K H r (zs.map V.str) ∧ NmR zs ∧ ∀ H', Same H H' → Q (.bl true) H'
theorem ok_namerow (D : Df K mg "is_name_row" s_is_name_row) (c_is_name : Cl P w K mg base 1 "is_name" s_is_name ["value"] spName) (m_isinstance : mg "isinstance" = none) (m_tuple : mg "tuple" = none) (m_len : mg "len" = none) (m_all : mg "all" = none) (m_set : mg "set" = none) {tg : Tok} (g_MOST_PEOPLE : mg "MOST_PEOPLE" = some (.int 12 tg)) :
    Cl P w K mg base 2 "is_name_row" s_is_name_row ["value"] (spNameRow K) := by
  refine D.ok sc_is_name_row (fun _ _ _ _ _ _ us hl => match us, hl with | [_], _ => rfl) (fun vs H Q E h => ?_) (fun f cdv A outer s H vs Q E hr h => ?_)
  · obtain ⟨r, zs, rfl, _⟩ := h
    rfl
  · obtain ⟨r, zs, rfl, hS, row, q⟩ := h
    refine ⟨_, 
      (pss_cons (ps_if (PW.pt (pw_or (pt_not (pt_val (pe_callB call_isi (by rfl) m_isinstance (by decide +kernel) (pa_cons (pv 0) (pa_cons (pe_bltn (v := .ty "tuple") (by rfl) m_tuple (by decide +kernel) rfl) pa_nil))))) (pw_or1 (pt_not (pt_chain op_le op_le pe_int (pe_callB call_lenS (by rfl) m_len (by decide +kernel) (pa_cons (pv 0) pa_nil)) (pe_glob (v := .int 12) (by rfl) g_MOST_PEOPLE ⟨_, rfl⟩)))))) (pss_one (ps_ret pe_bl)) pss_nil) 
      (pss_one (ps_ret (pe_and (pe_callB (cr_all rfl) (by rfl) m_all (by decide +kernel) (pa_cons (pe_lc (own := [("name", 1)]) (g := gName 1) (te := (tCall spName [] E0 (tCons (tVar 1) tNil))) rfl sc_is_name_row.nd (pi_tup (pv 0)) (blkOk_by (own := [("name", 1)]) (N := N_is_name_row) (sc := (defScope s_is_name_row)) (by decide +kernel)) (fun _ _ _ _ _ => (pg_name (i := 1) sc_is_name_row.nd rfl (Or.inl rfl))) (fun _ _ _ _ _ => pts_nil) (fun _ _ _ _ _ => (pe_u c_is_name hr (by omega) (by rfl) (pa_cons (pv 1) pa_nil)))) pa_nil)) (pe_one (pe_cmpR op_eq (pe_lenSetD (by rfl) m_len (by rfl) m_set (pv 0)) (pe_callB call_lenS (by rfl) m_len (by decide +kernel) (pa_cons (pv 0) pa_nil)) (nomark _))))))), ?_⟩
    have p1 := row.two
    have p2 := row.most
    refine ⟨_, rfl, .ref r, .ty "tuple", .type "tuple", .type "tuple", _, rfl, .ty _, (Tv.tup hS).ty, kit_tuple (Tv.tup hS).mem, _, rfl, ?_⟩
    refine iteF ⟨_, rfl, r, _, rfl, .inr hS, _, _, rfl, rfl, _, rfl, ?_⟩
    rw [show decide ((2 : Int) ≤ (((zs.map V.str).length : Nat) : Int)) = true from decide_eq_true (by rw [List.length_map]; omega)]
    refine iteT ⟨_, _, rfl, rfl, _, rfl, ?_⟩
    rw [show decide ((((zs.map V.str).length : Nat) : Int) ≤ (12 : Int)) = true from decide_eq_true (by rw [List.length_map]; omega)]
    refine iteF ⟨_, rfl, r, rfl, ⟨_, hS⟩, fun D nD => ?_⟩
    refine lc_tup (xs := zs.map V.str) (fun i F => F D = some (.lst ((List.replicate i true).map V.bl)) ∧ Same H F) ⟨upd_same, same_upd nD⟩ (fun i F _ hK => SqT.same hK.2 hS) (fun i v F hv hK => ?_) (fun F hK => ?_)
    · obtain ⟨hD, sF⟩ := hK
      have hm : v ∈ zs.map V.str := List.mem_of_getElem? hv
      obtain ⟨z, hz, rfl⟩ := List.mem_map.mp hm
      have il := lt_of_get hv
      refine ⟨rfl, _, rfl, z, rfl, row.own z hz, fun F2 s2 => ?_⟩
      refine ⟨_, s2 _ _ hD, ?_, ?_, fun b o e => ?_⟩
      · rw [List.length_map, List.length_replicate]
        exact len_lt (by omega)
      · rw [upd_same, List.replicate_succ', List.map_append]
        rfl
      · rw [upd_ne (ne_of_none e nD)]
        exact s2 _ _ (sF _ _ e)
    · obtain ⟨hD, sF⟩ := hK
      refine ⟨D, List.replicate _ true, rfl, .inl (.inl hD), ?_⟩
      rw [all_true]
      have hF := SqT.same sF hS
      refine ⟨true, rfl, _, rfl, r, zs, rfl, hF, row.nd, by omega, _, rfl, r, _, rfl, .inr hF, rfl, ?_⟩
      rw [List.length_map]
      show Q (.bl (decide (V.int ((zs.length : Nat) : Int) = V.int ((zs.length : Nat) : Int)))) F
      rw [decide_eq_true rfl]
      exact q _ sF
end
section
variable {P : Program} {w : World} {K : PySem.W.Frag} {mg : Str → Option Value} {base : Heap}
/-! ### records -/
theorem nm_okd {z : Str} (h : Nm z) : Okd (.str z) 0 62 := (Okd.str (m := 6) h.most fun c hc => Nat.lt_trans (h.own c hc).2 (by decide)).le (Nat.le_refl _) (by decide)
theorem names_okd {zs : List Str} (h : ∀ z ∈ zs, Nm z) : ∀ d ∈ zs.map PyData.str, Okd d 0 62 := fun d hd => by
  obtain ⟨z, hz, rfl⟩ := List.mem_map.mp hd
  exact nm_okd (h z hz)
abbrev s_have_same_names : Stmt := top 11
abbrev N_have_same_names : List Str := ["names", "others"]
theorem sc_have_same_names : FnScope N_have_same_names ["names", "others"] (defScope s_have_same_names) := ⟨rfl, rfl, rfl, by decide +kernel, rfl, by decide +kernel, by decide +kernel⟩
def spSameNames (K : PySem.W.Frag) : Sp := fun vs H Q _ => ∃ (a b : Addr) (zs ys : List Str), vs = [.ref a, .ref b] ∧ SqT K H a (zs.map V.str) ∧ SqT K H b (ys.map V.str) ∧ NmR zs ∧ zs.Perm ys ∧ ∀ H', Same H H' → Q (.bl true) H'
theorem NmR.perm {zs ys : List Str} (h : NmR zs) (p : zs.Perm ys) : NmR ys := ⟨by rw [← p.length_eq]; exact h.two, by rw [← p.length_eq]; exact h.most, fun z hz => h.own z (p.mem_iff.mpr hz), p.nodup_iff.mp h.nd⟩
theorem ok_samenames (D : Df K mg "have_same_names" s_have_same_names) (c_is_name_row : Cl P w K mg base 2 "is_name_row" s_is_name_row ["value"] (spNameRow K)) (m_sorted : mg "sorted" = none) :
    Cl P w K mg base 3 "have_same_names" s_have_same_names ["names", "others"] (spSameNames K) := by
  refine D.ok sc_have_same_names (fun _ _ _ _ _ _ us hl => match us, hl with | [_, _], _ => rfl) (fun vs H Q E h => ?_) (fun f cdv A outer s H vs Q E hr h => ?_)
  · obtain ⟨a, b, zs, ys, rfl, _⟩ := h
    rfl
  · obtain ⟨a, b, zs, ys, rfl, ha, hb, row, pm, q⟩ := h
    refine ⟨_, 
      (pss_one (ps_ret (pe_and (pe_u c_is_name_row hr (by omega) (by rfl) (pa_cons (pv 0) pa_nil)) (pe_and (pe_u c_is_name_row hr (by omega) (by rfl) (pa_cons (pv 1) pa_nil)) (pe_one (pe_cmpR (op_eqD hr.units) (pe_callB (cr_sortTx hr.units) (by rfl) m_sorted (by decide +kernel) (pa_cons (pv 0) pa_nil)) (pe_callB (cr_sortTx hr.units) (by rfl) m_sorted (by decide +kernel) (pa_cons (pv 1) pa_nil)) (nomark _))))))), ?_⟩
    have row2 := row.perm pm
    have l1 := row.most
    have l2 := row2.most
    refine ⟨_, rfl, a, zs, rfl, ha, row, fun H1 s1 => ⟨true, rfl, _, rfl, b, ys, rfl, SqT.same s1 hb, row2, fun H2 s2 => ⟨true, rfl, ?_⟩⟩⟩
    have s12 := s1.trans s2
    refine iteT ⟨_, rfl, a, zs, rfl, SqT.same s12 ha, by omega, fun p np => ?_⟩
    have sp := same_upd (o := .lst ((sortS zs).map V.str)) np
    have hp : upd H2 p (.lst ((sortS zs).map V.str)) p = some (.lst ((sortS zs).map V.str)) := upd_same
    have s13 := s12.trans sp
    generalize upd H2 p (.lst ((sortS zs).map V.str)) = H3 at sp hp s13 ⊢
    refine ⟨_, rfl, b, ys, rfl, SqT.same s13 hb, by omega, fun p2 np2 => ?_⟩
    have sp2 := same_upd (o := .lst ((sortS ys).map V.str)) np2
    have ok : ∀ {zs : List Str}, NmR zs → Okd (.list ((sortS zs).map PyData.str)) 1 1000 := fun {zs} row => (Okd.lst (m := 12) (names_okd fun z hz => row.own z ((sortS_perm zs).mem_iff.mp hz)) (by rw [List.length_map, (sortS_perm zs).length_eq]; exact row.most)).le (by decide) (by decide)
    refine ⟨_, _, .lst (.inl (.inl (sp2 _ _ hp))) (Dp_strs _), .lst (.inl (.inl upd_same)) (Dp_strs _), (ok row).shaped (by decide), (ok row2).shaped (by decide), ?_⟩
    rw [sortS_eq pm, (ok row2).same]
    exact q _ (s13.trans sp2)
/-- a record: two rows of names, a kind between -/
structure RecAt (K : PySem.W.Frag) (H : Hp) (r : Addr) (zs : List Str) (k : Bool) (ys : List Str) (a b : Addr) : Prop where
  top : SqT K H r [.ref a, .str (ltr k), .ref b]
  fore : H a = some (.tup (zs.map V.str))
  aft : SqT K H b (ys.map V.str)
theorem RecAt.same {H G : Hp} {r a b : Addr} {zs ys : List Str} {k : Bool} (s : Same H G) (h : RecAt K H r zs k ys a b) : RecAt K G r zs k ys a b := ⟨SqT.same s h.top, s _ _ h.fore, SqT.same s h.aft⟩
end
section
variable {P : Program} {w : World} {K : PySem.W.Frag} {mg : Str → Option Value} {base : Heap}
/-! ### what the leaving shows -/
def stayN (s p l : Str) : Str := if l = p then s else p
abbrev pairN (t : Bool) (l st : Str) : Str × Str := if t = true then (l, st) else (st, l)
/-- sitter, those who come, those who leave: the pairs (shorter, taller), none if someone else leaves -/
def shownL (t : Bool) : Str → List Str → List Str → Option (List (Str × Str))
  | s, p :: ps, l :: ls => if l = p ∨ l = s then (shownL t (stayN s p l) ps ls).map fun r => pairN t l (stayN s p l) :: r else none
  | _, [], _ => some []
  | _, _ :: _, [] => some []
theorem eq_strB (a z : Str) : (a == z) = decide (z = a) := by
  by_cases e : z = a
  · subst e
    rw [decide_eq_true rfl, beq_self_eq_true]
  · rw [decide_eq_false e]
    exact beq_eq_false_iff_ne.mpr (Ne.symm e)
theorem inV_two (z a b : Str) : inV (.str z) [.str a, .str b] = decide (z = a ∨ z = b) := by
  show ((a == z) || ((b == z) || false)) = _
  rw [Bool.or_false, eq_strB, eq_strB, ← Bool.decide_or]
theorem walk_zT {K : PySem.W.Frag} {a b : Addr} {xs ys : List V} {n : Nat} (h1 : xs.length = n) (h2 : n ≤ ys.length) : Walk (RZ.ItzT K a b) n (fun H => SqT K H a xs ∧ SqT K H b ys) (YPair (fun i => xs[i]?) fun i => ys[i]?) where
  goes := fun i H lt q => ⟨xs, ys, xs[i]'(by omega), ys[i]'(by omega), q.1, q.2, List.getElem?_eq_getElem _, List.getElem?_eq_getElem _⟩
  stops := fun H q => ⟨xs, ys, q.1, q.2, .inl (by omega)⟩
  yields := fun i H v H' lt q y => by
    obtain ⟨T, x, z, e1, e2, e3, e4, e5⟩ := y
    exact ⟨T, x, z, e1, e2, e3, e4 _ q.1, e5 _ q.2⟩
theorem SqT.lst {H : Hp} {r l : Addr} {xs ys : List V} {o : HO} (h : SqT K H r xs) (hl : H l = some (.lst ys)) : SqT K (upd H l o) r xs := by
  rcases h with (h | ⟨ob, h⟩) | h
  · exact .inl (.inl (by rw [upd_ne (fun e => by subst e; rw [hl] at h; cases h)]; exact h))
  · exact .inl (.inr ⟨ob, by rw [upd_ne (fun e => by subst e; rw [hl] at h; cases h)]; exact h⟩)
  · exact .inr h
theorem shown_step {t : Bool} {s p l : Str} {ps ls : List Str} (h : l = p ∨ l = s) : shownL t s (p :: ps) (l :: ls) = (shownL t (stayN s p l) ps ls).map fun r => pairN t l (stayN s p l) :: r := by
  rw [shownL, if_pos h]
theorem shown_stop {t : Bool} {s p l : Str} {ps ls : List Str} (h : ¬ (l = p ∨ l = s)) : shownL t s (p :: ps) (l :: ls) = none := by
  rw [shownL, if_neg h]
theorem ite_tv {c : Bool} {i j : Nat} {σ : L2.St} {H : Hp} {Q : VK} {a b : Str} (ei : ∀ Q : VK, Q (.str a) H → tVar i σ H Q) (ej : ∀ Q : VK, Q (.str b) H → tVar j σ H Q) (h : Q (.str (if c = true then a else b)) H) : if c = true then tVar i σ H Q else tVar j σ H Q := by
  cases c
  · exact ej Q h
  · exact ei Q h
theorem decS (a b : Str) : decide (V.str a = V.str b) = decide (a = b) := decide_eq_decide.mpr ⟨fun z => V.str.inj z, fun z => by rw [z]⟩
abbrev s_compared_names : Stmt := top 14
abbrev N_compared_names : List Str := ["record", "before", "kind", "behind", "sitter", "pairs", "person", "leaver", "stayer"]
theorem sc_compared_names : FnScope N_compared_names ["record"] (defScope s_compared_names) := ⟨rfl, rfl, rfl, by decide +kernel, rfl, by decide +kernel, by decide +kernel⟩
def spCmpN (K : PySem.W.Frag) : Sp := fun vs H Q _ => ∃ (r a b : Addr) (z : Str) (zs ys : List Str) (k : Bool), vs = [.ref r] ∧ RecAt K H r (z :: zs) k ys a b ∧ zs.length ≤ ys.length ∧ zs.length ≤ 12 ∧
  (shownL k z zs ys = none → ∀ H', Same H H' → Q .non H') ∧ ∀ ps, shownL k z zs ys = some ps → ∀ (p : Addr) (rs : List Addr) (H' : Hp), Same H H' → H p = none → H' p = some (.lst (rs.map V.ref)) → PrAt K H' rs ps → Q (.ref p) H'
theorem ok_cmpn (D : Df K mg "compared_names" s_compared_names) (m_zip : mg "zip" = none) : Cl P w K mg base 1 "compared_names" s_compared_names ["record"] (spCmpN K) := by
  refine D.ok sc_compared_names (fun _ _ _ _ _ _ us hl => match us, hl with | [_], _ => rfl) (fun vs H Q E h => ?_) (fun f cdv A outer s H vs Q E hr h => ?_)
  · obtain ⟨r, a, b, z, zs, ys, k, rfl, _⟩ := h
    rfl
  · obtain ⟨r, a, b, z, zs, ys, k, rfl, rec, h1, h2, qn, qs⟩ := h
    refine ⟨_, 
      (pss_cons (ps_asg (pv 0) (pg_tup (by rfl) (pgs_cons (pg_name (i := 1) sc_compared_names.nd rfl (Or.inl rfl)) (pgs_cons (pg_name (i := 2) sc_compared_names.nd rfl (Or.inl rfl)) (pgs_cons (pg_name (i := 3) sc_compared_names.nd rfl (Or.inl rfl)) pgs_nil))))) 
      (pss_cons (ps_set (i := 4) sc_compared_names.nd rfl (Or.inl rfl) (pe_ix ix_tup (pv 1) pe_int (fun _ _ => rfl))) 
      (pss_cons (ps_set (i := 5) sc_compared_names.nd rfl (Or.inl rfl) (pe_lst pa_nil)) 
      (pss_cons (ps_for PassesOwn.never rfl (RZ.pi_zipA (by rfl) m_zip (pa_cons (pe_slice sl_tupC (pv 1) (po_some pe_int) po_none) (pa_cons (pv 3) pa_nil))) (pg_tup (by rfl) (pgs_cons (pg_name (i := 6) sc_compared_names.nd rfl (Or.inl rfl)) (pgs_cons (pg_name (i := 7) sc_compared_names.nd rfl (Or.inl rfl)) pgs_nil))) (pss_cons (ps_if (pt_cmpR op_notIn_seq (pv 7) (pe_tup (pa_cons (pv 6) (pa_cons (pv 4) pa_nil))) (by rfl)) (pss_one (ps_ret pe_non)) pss_nil) (pss_cons (ps_set (i := 8) sc_compared_names.nd rfl (Or.inl rfl) (pe_ifExp (pt_cmpR op_eq (pv 7) (pv 6) (nomark _)) (pv 4) (pv 6))) (pss_cons (ps_expr (pe_bm PySem.F.plainAttrs_list PySem.F.slot_list_append PySem.F.type_list_append mt_append (pv 5) (pa_cons (pe_ifExp (pt_cmpR op_eq (pv 2) pe_str (nomark _)) (pe_tup (pa_cons (pv 7) (pa_cons (pv 8) pa_nil))) (pe_tup (pa_cons (pv 8) (pa_cons (pv 7) pa_nil)))) pa_nil))) (pss_one (ps_set (i := 4) sc_compared_names.nd rfl (Or.inl rfl) (pv 8))))))) 
      (pss_one (ps_ret (pv 5))))))), ?_⟩
    refine ⟨_, rfl, r, _, rfl, rec.top, rfl, _, _, rfl, _, _, rfl, _, _, rfl, rfl, ?_⟩
    refine ⟨_, rfl, a, _, 0, .str z, rfl, rfl, .inl (.inl rec.fore), atI_nat (j := 0) rfl, Nat.zero_le _, fun l nl => ?_⟩
    have sl := same_upd (o := .lst []) nl
    have hl : upd H l (.lst []) l = some (.lst []) := upd_same
    have rec1 := rec.same sl
    generalize upd H l (.lst []) = H1 at sl hl rec1 ⊢
    refine ⟨_, rfl, _, rfl, a, _, rfl, rec1.fore, fun c H2 s2 hc => ?_⟩
    have hc' : H2 c = some (.tup (zs.map V.str)) := by
      rw [hc, show ((1 : Int)) = ((1 : Nat) : Int) from rfl]
      unfold cutV
      rw [HT.sIx_none, HT.sIx_nat, List.length_map, List.length_cons, show min 1 (zs.length + 1) = 1 by omega, List.map_cons, List.drop_succ_cons, List.drop_zero, List.take_of_length_le (by rw [List.length_map]; omega)]
    have cl : c ≠ l := fun e => by
      subst e
      rw [s2 _ _ hl] at hc'
      cases hc'
    refine ⟨_, rfl, c, b, zs.map V.str, ys.map V.str, rfl, .inr ⟨.inl (.inl hc'), SqT.same s2 rec1.aft, ?_⟩⟩
    refine for_it (walk_zT (xs := zs.map V.str) (ys := ys.map V.str) (n := zs.length) (by rw [List.length_map]) (by rw [List.length_map]; exact h1)) (fun i σ F => ∃ (sit : Str) (acc : List (Str × Str)) (rs : List Addr) (y6 y7 y8 : Option V), σ = [some (.ref r), some (.ref a), some (.str (ltr k)), some (.ref b), some (.str sit), some (.ref l), y6, y7, y8] ∧
        Same H F ∧ F c = some (.tup (zs.map V.str)) ∧ SqT K F b (ys.map V.str) ∧ F l = some (.lst (rs.map V.ref)) ∧ rs.length = i ∧ PrAt K F rs acc ∧ shownL k z zs ys = (shownL k sit (zs.drop i) (ys.drop i)).map (acc ++ ·))
      ⟨z, [], [], none, none, none, rfl, sl.trans s2, hc', SqT.same s2 rec1.aft, s2 _ _ hl, rfl, trivial, ?_⟩ (fun i σ F hi hI => ?_) (fun i x σ F F' hi hI hv => ?_) (fun σ F hI => ?_)
    · rw [List.drop_zero, List.drop_zero]
      cases shownL k z zs ys <;> rfl
    · obtain ⟨_, _, _, _, _, _, _, _, hcF, hbF, _⟩ := hI
      exact ⟨.inl (.inl hcF), hbF⟩
    · obtain ⟨sit, acc, rs, y6, y7, y8, rfl, sF, hcF, hbF, hlF, rl, pr, eq⟩ := hI
      obtain ⟨T, x, y, rfl, nT, rfl, hx, hy⟩ := hv
      have ly : i < ys.length := by omega
      have ex : x = .str zs[i] := by
        replace hx : (zs.map V.str)[i]? = some x := hx
        rw [List.getElem?_map, List.getElem?_eq_getElem hi] at hx
        exact (Option.some.inj hx).symm
      have ey : y = .str ys[i] := by
        replace hy : (ys.map V.str)[i]? = some y := hy
        rw [List.getElem?_map, List.getElem?_eq_getElem ly] at hy
        exact (Option.some.inj hy).symm
      subst ex ey
      rw [List.drop_eq_getElem_cons hi, List.drop_eq_getElem_cons ly] at eq
      generalize hp : zs[i] = p at eq ⊢
      generalize hq : ys[i] = q at eq ⊢
      have sT := same_upd (o := .tup [.str p, .str q]) nT
      refine ⟨T, _, rfl, .inl (.inl upd_same), rfl, _, _, rfl, _, _, rfl, rfl, ?_⟩
      refine ⟨_, rfl, _, rfl, _, rfl, (by show 2 ≤ sizeLine; decide), fun u nu => ⟨u, _, rfl, .inr (.inl (.inl upd_same)), rfl, rfl, _, rfl, ?_⟩⟩
      have sT2 := sT.trans (same_upd (o := .tup [.str p, .str sit]) nu)
      generalize upd (upd F T (.tup [.str p, .str q])) u (.tup [.str p, .str sit]) = F1 at sT2 ⊢
      rw [inV_two]
      by_cases h : q = p ∨ q = sit
      · rw [decide_eq_true h]
        rw [shown_step h] at eq
        refine iteF ⟨_, rfl, _, rfl, rfl, _, rfl, ?_⟩
        rw [decS]
        refine ite_tv (fun Q h => ⟨_, rfl, h⟩) (fun Q h => ⟨_, rfl, h⟩) ?_
        rw [show (if decide (q = p) = true then sit else p) = stayN sit p q by unfold stayN; by_cases e : q = p <;> simp [e]]
        generalize stayN sit p q = st at eq ⊢
        have hl1 := sT2 _ _ hlF
        refine ⟨_, rfl, .inl ⟨rfl, _, .inl (.inl hl1)⟩, _, rfl, rfl, _, rfl, ?_⟩
        cases k
        · rw [decide_eq_false (by decide +kernel)]
          refine iteF ⟨_, rfl, _, rfl, (by show 2 ≤ sizeLine; decide), fun w nw => ?_⟩
          have sW := same_upd (o := .tup [.str (pairN false q st).1, .str (pairN false q st).2]) nw
          have hW : upd F1 w (.tup [.str (pairN false q st).1, .str (pairN false q st).2]) w = some (.tup [.str (pairN false q st).1, .str (pairN false q st).2]) := upd_same
          refine ⟨l, _, _, rfl, rfl, sW _ _ hl1, ?_, ?_⟩
          · rw [List.length_map, rl]
            exact len_lt (by omega)
          have hl2 := sW _ _ hl1
          have sAll := sT2.trans sW
          have cl2 : c ≠ l := fun e => by
            subst e
            rw [hlF] at hcF
            cases hcF
          refine ⟨_, rfl, st, acc ++ [pairN false q st], rs ++ [w], _, _, _, rfl, fun b o e => ?_, ?_, SqT.lst (SqT.same sAll hbF) hl2, ?_, ?_, ?_, ?_⟩
          · rw [upd_ne (ne_of_none e nl)]
            exact sAll _ _ (sF _ _ e)
          · rw [upd_ne cl2]
            exact sAll _ _ hcF
          · rw [upd_same, List.map_append]
            rfl
          · rw [List.length_append, rl]
            rfl
          · exact (pr.imp fun r _ p e => SqT.lst (SqT.same sAll e) hl2).snoc (SqT.lst (.inl (.inl hW)) hl2)
          · rw [eq, Option.map_map]
            exact congrArg (fun g => Option.map g _) (funext fun r => (List.append_assoc acc [pairN false q st] r).symm)
        · rw [decide_eq_true (by decide +kernel)]
          refine iteT ⟨_, rfl, _, rfl, (by show 2 ≤ sizeLine; decide), fun w nw => ?_⟩
          have sW := same_upd (o := .tup [.str (pairN true q st).1, .str (pairN true q st).2]) nw
          have hW : upd F1 w (.tup [.str (pairN true q st).1, .str (pairN true q st).2]) w = some (.tup [.str (pairN true q st).1, .str (pairN true q st).2]) := upd_same
          refine ⟨l, _, _, rfl, rfl, sW _ _ hl1, ?_, ?_⟩
          · rw [List.length_map, rl]
            exact len_lt (by omega)
          have hl2 := sW _ _ hl1
          have sAll := sT2.trans sW
          have cl2 : c ≠ l := fun e => by
            subst e
            rw [hlF] at hcF
            cases hcF
          refine ⟨_, rfl, st, acc ++ [pairN true q st], rs ++ [w], _, _, _, rfl, fun b o e => ?_, ?_, SqT.lst (SqT.same sAll hbF) hl2, ?_, ?_, ?_, ?_⟩
          · rw [upd_ne (ne_of_none e nl)]
            exact sAll _ _ (sF _ _ e)
          · rw [upd_ne cl2]
            exact sAll _ _ hcF
          · rw [upd_same, List.map_append]
            rfl
          · rw [List.length_append, rl]
            rfl
          · exact (pr.imp fun r _ p e => SqT.lst (SqT.same sAll e) hl2).snoc (SqT.lst (.inl (.inl hW)) hl2)
          · rw [eq, Option.map_map]
            exact congrArg (fun g => Option.map g _) (funext fun r => (List.append_assoc acc [pairN true q st] r).symm)
      · rw [decide_eq_false h]
        rw [shown_stop h] at eq
        exact iteT (qn eq _ (sF.trans sT2))
    · obtain ⟨sit, acc, rs, y6, y7, y8, rfl, sF, hcF, hbF, hlF, rl, pr, eq⟩ := hI
      rw [List.drop_length, shownL] at eq
      exact ⟨_, rfl, qs _ eq l rs F sF nl hlF (by show PrAt K F rs (acc ++ []); rw [List.append_nil]; exact pr)⟩
end
section
theorem shown_len {t : Bool} : ∀ {s : Str} {ps ls : List Str} {r : List (Str × Str)}, shownL t s ps ls = some r → r.length ≤ ps.length
  | s, p :: ps, l :: ls, r, h => by
    rw [shownL] at h
    split at h
    · obtain ⟨r2, h2, rfl⟩ := Option.map_eq_some_iff.mp h
      have := shown_len h2
      rw [List.length_cons, List.length_cons]
      omega
    · cases h
  | _, [], ls, r, h => by
    cases ls <;> (rw [shownL] at h; cases h; exact Nat.le_refl _)
  | _, _ :: _, [], r, h => by
    rw [shownL] at h
    cases h
    exact Nat.zero_le _
end
section
variable {P : Program} {w : World} {K : PySem.W.Frag} {mg : Str → Option Value} {base : Heap}
/-! ### drawn names -/
abbrev oneC (c : Nat) : Str := ⟨#[c]⟩
abbrev txC (cs : List Nat) : Str := ⟨cs.toArray⟩
theorem fold_one : ∀ (cs : List Nat) (acc : Array Nat), (cs.map oneC).foldl (fun acc p => acc ++ (Str.ofString "").cps ++ p.cps) acc = acc ++ cs.toArray
  | [], acc => by simp
  | c :: cs, acc => by
    rw [List.map_cons, List.foldl_cons, fold_one cs, show (Str.ofString "").cps = #[] by decide +kernel]
    apply Array.ext'
    simp
theorem join_one : ∀ cs : List Nat, Txt.join (Str.ofString "") (cs.map oneC) = txC cs
  | [] => by decide +kernel
  | c :: cs => by
    show (⟨(cs.map oneC).foldl (fun acc p => acc ++ (Str.ofString "").cps ++ p.cps) (oneC c).cps⟩ : Str) = txC (c :: cs)
    rw [fold_one]
    congr 1
    apply Array.ext'
    simp
theorem nm_txC {cs : List Nat} (h1 : 1 ≤ cs.length) (h2 : cs.length ≤ 6) (h3 : ∀ c ∈ cs, 97 ≤ c ∧ c < 123) : Nm (txC cs) := ⟨by show 1 ≤ cs.toArray.size; simpa using h1, by show cs.toArray.size ≤ 6; simpa using h2, fun c hc => h3 c (by simpa using hc)⟩
def ownT : List Str := ["run", "enter", "leave", "undo", "row", "place", "word", "deeds", "desk", "repeat", "never", "ok"]
def nmB (z : Str) : Bool := decide (1 ≤ z.cps.size) && decide (z.cps.size ≤ 6) && z.cps.toList.all fun c => decide (97 ≤ c) && decide (c < 123)
theorem nm_of {z : Str} (h : nmB z = true) : Nm z := by
  unfold nmB at h
  rw [Bool.and_eq_true, Bool.and_eq_true, decide_eq_true_eq, decide_eq_true_eq, List.all_eq_true] at h
  refine ⟨h.1.1, h.1.2, fun c hc => ?_⟩
  have := h.2 c hc
  rw [Bool.and_eq_true, decide_eq_true_eq, decide_eq_true_eq] at this
  exact this
theorem own_nm : ∀ z ∈ ownT, Nm z := fun z hz => nm_of (List.all_eq_true.mp (show ownT.all nmB = true by decide +kernel) z hz)
theorem own_at {j : Int} (h0 : 0 ≤ j) (h1 : j < 12) : ∃ z, atI (ownT.map V.str) j = some (.str z) ∧ Nm z := by
  obtain ⟨n, rfl⟩ : ∃ n : Nat, j = (n : Nat) := ⟨j.toNat, by omega⟩
  have lt : n < ownT.length := by show n < 12; omega
  exact ⟨ownT[n], atI_nat (by rw [List.getElem?_map, List.getElem?_eq_getElem lt]; rfl), own_nm _ (List.getElem_mem lt)⟩
theorem abc_cps : abcS.cps.toList = (List.range 26).map (97 + ·) := by decide +kernel
theorem abc_at {i : Nat} {c : Nat} (h : abcS.cps[i]? = some c) : c = 97 + i ∧ i < 26 := by
  rw [← Array.getElem?_toList, abc_cps, List.getElem?_map] at h
  obtain ⟨k, hk, rfl⟩ := Option.map_eq_some_iff.mp h
  obtain ⟨lt, e⟩ := List.getElem?_eq_some_iff.mp hk
  rw [List.getElem_range] at e
  rw [List.length_range] at lt
  exact ⟨by rw [e], lt⟩
theorem abc_get {i : Nat} (h : i < 26) : atI abcS.cps.toList ((i : Nat) : Int) = some (97 + i) := atI_nat (by
  rw [abc_cps, List.getElem?_map, List.getElem?_range h]
  rfl)
/-- a name cut, with another letter -/
def otherS (z : Str) (j : Nat) : Str := cutS z none (some 5) ++ oneC (97 + j)
theorem cut5 (z : Str) : cutS z none (some 5) = ⟨(z.cps.toList.take 5).toArray⟩ := by
  unfold cutS
  rw [HT.sIx_none, show (5 : Int) = ((5 : Nat) : Int) from rfl, HT.sIx_nat]
  show (⟨_⟩ : Str) = _
  congr 2
  rw [Nat.sub_zero, List.drop_zero]
  refine List.take_eq_take_iff.mpr ?_
  have e : z.length = z.cps.toList.length := Array.length_toList.symm
  omega
theorem other_cps (z : Str) (j : Nat) : (otherS z j).cps.toList = z.cps.toList.take 5 ++ [97 + j] := by
  unfold otherS
  rw [cut5]
  show ((z.cps.toList.take 5).toArray ++ #[97 + j]).toList = _
  simp
theorem other_inj {z : Str} {j k : Nat} (h : otherS z j = otherS z k) : j = k := by
  have e := congrArg (fun z : Str => z.cps.toList) h
  rw [other_cps, other_cps] at e
  have e2 := List.append_cancel_left e
  have e3 := List.head_eq_of_cons_eq e2
  omega
theorem other_nm {z : Str} (h : Nm z) {j : Nat} (hj : j < 26) : Nm (otherS z j) := by
  have e := other_cps z j
  have l := congrArg List.length e
  rw [List.length_append, List.length_take, Array.length_toList, Array.length_toList] at l
  have p := h.pos
  simp only [List.length_cons, List.length_nil] at l
  refine ⟨by omega, by omega, fun c hc => ?_⟩
  rw [e] at hc
  rcases List.mem_append.mp hc with x | x
  · exact h.own c (List.mem_of_mem_take x)
  · rw [List.mem_singleton.mp x]
    omega
theorem pigeonS {l : List Str} : ∀ {r : List Str}, l.Nodup → (∀ x ∈ l, x ∈ r) → l.length ≤ r.length := by
  induction l with
  | nil => exact fun _ _ => Nat.zero_le _
  | cons a l ih =>
    intro r nd h
    obtain ⟨na, nd⟩ := List.nodup_cons.mp nd
    have ma := h a List.mem_cons_self
    have le := ih (r := r.erase a) nd fun x hx => (List.mem_erase_of_ne fun z => na (by rw [← z]; exact hx)).mpr (h x (List.mem_cons_of_mem _ hx))
    have pos := List.length_pos_of_mem ma
    rw [List.length_erase_of_mem ma] at le
    rw [List.length_cons]
    omega
abbrev candS (z : Str) : List Str := z :: (List.range 26).map (otherS z)
theorem cand_nm {z : Str} (h : Nm z) : ∀ x ∈ candS z, Nm x := fun x hx => by
  rcases List.mem_cons.mp hx with e | hx
  · rw [e]
    exact h
  · obtain ⟨j, hj, rfl⟩ := List.mem_map.mp hx
    exact other_nm h (List.mem_range.mp hj)
theorem cand_new {z : Str} {zs : List Str} (hl : zs.length ≤ 25) : ∃ x r, (candS z).filter (fun x => decide (x ∉ zs)) = x :: r := by
  cases e : (candS z).filter (fun x => decide (x ∉ zs)) with
  | cons x r => exact ⟨x, r, rfl⟩
  | nil =>
    rw [List.filter_eq_nil_iff] at e
    have nd : ((List.range 26).map (otherS z)).Nodup := by
      unfold List.Nodup
      rw [List.pairwise_map]
      exact List.nodup_range.imp fun ne h => ne (other_inj h)
    have := pigeonS nd fun x hx => Decidable.byContradiction fun no => e x (List.mem_cons_of_mem _ hx) (decide_eq_true no)
    rw [List.length_map, List.length_range] at this
    omega
theorem len_ones : ∀ cs : List Nat, ((cs.map oneC).map (·.length)).sum = cs.length
  | [] => rfl
  | c :: cs => by
    rw [List.map_cons, List.map_cons, List.sum_cons, len_ones cs, List.length_cons]
    show 1 + cs.length = _
    omega
theorem inV_strs (x : Str) : ∀ zs : List Str, inV (.str x) (zs.map V.str) = decide (x ∈ zs)
  | [] => (decide_eq_false (fun h => nomatch h)).symm
  | z :: zs => by
    show ((z == x) || inV (.str x) (zs.map V.str)) = _
    rw [inV_strs x zs, eq_strB, ← Bool.decide_or]
    exact decide_eq_decide.mpr (by rw [List.mem_cons])
theorem flat_strs2 : ∀ zs : List Str, (zs.map V.str).all flatV = true
  | [] => rfl
  | _ :: zs => flat_strs2 zs
def rAddTx : V → V → Hp → VK → Prop := fun x y H Q => ∃ i j, x = .str i ∧ y = .str j ∧ i.length + j.length ≤ sizeLine ∧ Q (.str (i ++ j)) H
theorem op_addTx {X : Cx} : OpR X (binaryOp .Add) rAddTx := op_add_str
abbrev s__law_names : Stmt := top 26
abbrev N__law_names : List Str := ["_law_pool_here", "_law_many", "_law_own", "_law_letters", "_law_found", "_law_turn", "_law_spelt", "_law_some", "_law_letter", "_law_k", "_law_call"]
theorem sc__law_names : FnScope N__law_names ["_law_pool_here", "_law_many"] (defScope s__law_names) := ⟨rfl, rfl, rfl, by decide +kernel, rfl, by decide +kernel, by decide +kernel⟩
def spNames : Sp := fun vs H Q _ => ∃ (a : Addr) (m : Int), vs = [.ref a, .int m] ∧ 0 ≤ m ∧ m ≤ 12 ∧ Pool H a ∧ ∀ (d : Addr) (zs : List Str) (H' : Hp), Kp a H H' → Pool H' a → H d = none → H' d = some (.lst (zs.map V.str)) → (zs.length : Int) = m → (∀ z ∈ zs, Nm z) → zs.Nodup → Q (.ref d) H'
theorem ok_names (D : Df K mg "_law_names" s__law_names) (c__law_draw : Cl P w K mg base 1 "_law_draw" s__law_draw ["_law_pool_here", "_law_count"] spDraw) (m_range : mg "range" = none) : Cl P w K mg base 2 "_law_names" s__law_names ["_law_pool_here", "_law_many"] spNames := by
  refine D.ok sc__law_names (fun _ _ _ _ _ _ us hl => match us, hl with | [_, _], _ => rfl) (fun vs H Q E h => ?_) (fun f cdv A outer s H vs Q E hr h => ?_)
  · obtain ⟨a, m, rfl, _⟩ := h
    rfl
  · obtain ⟨a, m, rfl, m0, m1, hp, q⟩ := h
    refine ⟨_, 
      (pss_cons (ps_set (i := 2) sc__law_names.nd rfl (Or.inl rfl) (pe_lst (pa_cons pe_str (pa_cons pe_str (pa_cons pe_str (pa_cons pe_str (pa_cons pe_str (pa_cons pe_str (pa_cons pe_str (pa_cons pe_str (pa_cons pe_str (pa_cons pe_str (pa_cons pe_str (pa_cons pe_str pa_nil)))))))))))))) 
      (pss_cons (ps_asg (pe_tup (pa_cons pe_str (pa_cons (pe_lst pa_nil) pa_nil))) (pg_tup (by rfl) (pgs_cons (pg_name (i := 3) sc__law_names.nd rfl (Or.inr rfl)) (pgs_cons (pg_name (i := 4) sc__law_names.nd rfl (Or.inr rfl)) pgs_nil)))) 
      (pss_cons (ps_for PassesOwn.never rfl (pi_range1 (by rfl) m_range (pa_cons (pv 1) pa_nil)) (pg_name (i := 5) sc__law_names.nd rfl (Or.inl rfl)) (pss_cons (ps_set (i := 6) sc__law_names.nd rfl (Or.inr rfl) (pe_ix ix_list (pv 2) (pe_u c__law_draw hr (by omega) (by rfl) (pa_cons (pv 0) (pa_cons pe_int pa_nil))) (fun _ _ => rfl))) (C8.pss_cut (ps_if (pt_cmpR op_gt (pe_u c__law_draw hr (by omega) (by rfl) (pa_cons (pv 0) (pa_cons pe_int pa_nil))) pe_int (nomark _)) (pss_one (ps_set (i := 6) sc__law_names.nd rfl (Or.inr rfl) (pe_join pe_str (pe_lc (own := [("_law_k", 9)]) (g := gName 9) (te := (tOp rIxS (tVar 3) (tCall spDraw [] E0 (tCons (tVar 0) (tCons (tC _) tNil))))) rfl sc__law_names.nd (pi_range1 (by rfl) m_range (pa_cons (pe_op op_add pe_int (pe_u c__law_draw hr (by omega) (by rfl) (pa_cons (pv 0) (pa_cons pe_int pa_nil)))) pa_nil)) (blkOk_by (own := [("_law_k", 9)]) (N := N__law_names) (sc := (defScope s__law_names)) (by decide +kernel)) (fun _ _ _ _ _ => (pg_name (i := 9) sc__law_names.nd rfl (Or.inl rfl))) (fun _ _ _ _ _ => pts_nil) (fun _ _ _ _ _ => (pe_ix ix_str (pv 3) (pe_u c__law_draw hr (by omega) (by rfl) (pa_cons (pv 0) (pa_cons pe_int pa_nil))) (fun _ _ => rfl))))))) pss_nil) (pss_cons (ps_set (i := 7) sc__law_names.nd rfl (Or.inl rfl) (pe_op op_cat (pe_lst (pa_cons (pv 6) pa_nil)) (pe_lc (own := [("_law_letter", 8)]) (g := gName 8) (te := (tOp rAddTx (tSl rSlS (tVar 6) tNoPart (tPart (tC _))) (tVar 8))) rfl sc__law_names.nd (pi_str (pv 3)) (blkOk_by (own := [("_law_letter", 8)]) (N := N__law_names) (sc := (defScope s__law_names)) (by decide +kernel)) (fun _ _ _ _ _ => (pg_name (i := 8) sc__law_names.nd rfl (Or.inl rfl))) (fun _ _ _ _ _ => pts_nil) (fun _ _ _ _ _ => (pe_op op_addTx (pe_slice sl_str (pv 6) po_none (po_some pe_int)) (pv 8)))))) (pss_one (ps_expr (pe_bm PySem.F.plainAttrs_list PySem.F.slot_list_append PySem.F.type_list_append mt_append (pv 4) (pa_cons (pe_ix ix_list (pe_lc (own := [("_law_call", 10)]) (g := gName 10) (tt := (tTest (tOp (rIn K true) (tVar 10) (tVar 4)))) rfl sc__law_names.nd (pi_list (pv 7)) (blkOk_by (own := [("_law_call", 10)]) (N := N__law_names) (sc := (defScope s__law_names)) (by decide +kernel)) (fun _ _ _ _ _ => (pg_name (i := 10) sc__law_names.nd rfl (Or.inl rfl))) (fun _ _ _ _ _ => pts_one (pt_cmpR op_notIn_seq (pv 10) (pv 4) (by rfl))) (fun _ _ _ _ _ => (pv 10))) pe_int (fun _ _ => rfl)) pa_nil)))))))) 
      (pss_one (ps_ret (pv 4)))))), ?_⟩
    refine ⟨(by show 12 ≤ sizeLine; decide), fun o no => ⟨Nat.zero_le _, fun f nf => ⟨(by show 2 ≤ sizeLine; decide), fun t nt => ⟨t, _, rfl, .inl (.inl upd_same), rfl, _, _, rfl, _, _, rfl, rfl, ?_⟩⟩⟩⟩
    have so := same_upd (o := .lst (ownT.map V.str)) no
    have ho0 : upd H o (.lst (ownT.map V.str)) o = some (.lst (ownT.map V.str)) := upd_same
    have sf := same_upd (o := .lst []) nf
    have hf0 : upd (upd H o (.lst (ownT.map V.str))) f (.lst []) f = some (.lst []) := upd_same
    have st := same_upd (o := .tup [.str abcS, .ref f]) nt
    have ho := st _ _ (sf _ _ ho0)
    have hf := st _ _ hf0
    have sH := (so.trans sf).trans st
    have nfH : H f = none := so.free nf
    have fo : f ≠ o := (ne_of_none ho0 nf).symm
    have fa : f ≠ a := hp.ne nfH
    have oa : o ≠ a := hp.ne no
    have hpt := hp.of fun u e => sH a u e
    obtain ⟨N, rfl⟩ : ∃ N : Nat, m = (N : Nat) := ⟨m.toNat, by omega⟩
    refine ⟨_, rfl, ((N : Nat) : Int), rfl, by omega, by omega, ?_⟩
    rw [Int.toNat_natCast]
    refine for_range (lo := 0) (n := N) (fun i σ G => ∃ (zs : List Str) (y5 y6 y7 y8 y9 y10 : Option V), σ = [some (.ref a), some (.int (N : Nat)), some (.ref o), some (.str abcS), some (.ref f), y5, y6, y7, y8, y9, y10] ∧ Kp a H G ∧ Pool G a ∧ G o = some (.lst (ownT.map V.str)) ∧ G f = some (.lst (zs.map V.str)) ∧ zs.length = i ∧ (∀ z ∈ zs, Nm z) ∧ zs.Nodup)
      ⟨[], _, _, _, _, _, _, rfl, .of_same sH, hpt, ho, hf, rfl, (fun z hz => nomatch hz), List.nodup_nil⟩ (fun i σ G hi hI => ?_) (fun σ G hI => ?_)
    · obtain ⟨zs, y5, y6, y7, y8, y9, y10, rfl, kG, pG, hoG, hfG, zl, znm, znd⟩ := hI
      refine ⟨_, rfl, _, rfl, a, 12, rfl, by decide, by decide, pG, fun j H2 j0 j1 k2 p2 => ?_⟩
      obtain ⟨z0, at0, nm0⟩ := own_at j0 j1
      refine ⟨o, _, j, _, rfl, rfl, .inl (.inl (k2 _ _ hoG oa)), at0, ?_⟩
      refine ⟨fun σ F => ∃ (z : Str) (y9 : Option V), σ = [some (.ref a), some (.int (N : Nat)), some (.ref o), some (.str abcS), some (.ref f), some (.int (0 + (i : Nat))), some (.str z), y7, y8, y9, y10] ∧ Nm z ∧ Kp a G F ∧ Pool F a, ?_, fun σ F hM => ?_⟩
      · refine ⟨_, rfl, a, 3, rfl, by decide, by decide, p2, fun c H3 c0 c1 k3 p3 => ⟨_, _, rfl, rfl, _, rfl, ite2 (fun e => ?_) (fun e => ?_)⟩⟩
        · refine ⟨⟨_, rfl⟩, _, rfl, a, 6, rfl, by decide, by decide, p3, fun g H4 g0 g1 k4 p4 => ⟨1, g, rfl, rfl, 1 + g, rfl, by omega, by omega, fun D nD => ?_⟩⟩
          have Da : D ≠ a := p4.ne nD
          have k24 := (k2.trans k3).trans k4
          have fD := k24.free nD Da
          obtain ⟨M, hM⟩ : ∃ M : Nat, (1 + g).toNat = M := ⟨_, rfl⟩
          rw [hM]
          refine lc_range (lo := 0) (n := M) (fun j F => ∃ cs : List Nat, F D = some (.lst ((cs.map oneC).map V.str)) ∧ cs.length = j ∧ (∀ c ∈ cs, 97 ≤ c ∧ c < 123) ∧ Kp a G F ∧ Pool F a) ⟨[], upd_same, rfl, (fun c hc => nomatch hc), k24.upd fD, p4.upd Da.symm⟩ (fun j F hj hK => ?_) (fun F hK => ?_)
          · obtain ⟨cs, hD, cl, hcs, kF, pF⟩ := hK
            refine ⟨rfl, _, rfl, _, rfl, a, 26, rfl, by decide, by decide, pF, fun d F2 d0 d1 k5 p5 => ?_⟩
            obtain ⟨n, rfl⟩ : ∃ n : Nat, d = (n : Nat) := ⟨d.toNat, by omega⟩
            refine ⟨abcS, ((n : Nat) : Int), 97 + n, rfl, rfl, (by decide +kernel), abc_get (by omega), _, k5 _ _ hD Da, ?_, cs ++ [97 + n], ?_, ?_, fun c hc => ?_, (kF.trans k5).upd fD, p5.upd Da.symm⟩
            · rw [List.length_map, List.length_map]
              exact len_lt (by omega)
            · rw [upd_same, List.map_append, List.map_append]
              rfl
            · rw [List.length_append, cl]
              rfl
            · rcases List.mem_append.mp hc with x | x
              · exact hcs c x
              · rw [List.mem_singleton.mp x]
                omega
          · obtain ⟨cs, hD, cl, hcs, kF, pF⟩ := hK
            refine ⟨_, D, cs.map oneC, rfl, rfl, .inl (.inl (.inl hD)), ?_, ?_⟩
            · rw [len_ones, List.length_map, show (Str.ofString "").length = 0 by decide +kernel]
              omega
            · rw [join_one]
              exact ⟨txC cs, _, rfl, nm_txC (by omega) (by omega) hcs, kF, pF⟩
        · exact ⟨z0, _, rfl, nm0, k2.trans k3, p3⟩
      · obtain ⟨z, y9, rfl, nz, kF, pF⟩ := hM
        have hfF := kF _ _ hfG fa
        have hoF := kF _ _ hoG oa
        refine ⟨_, rfl, (by show 1 ≤ sizeLine; decide), fun u nu => ⟨_, rfl, abcS, rfl, fun D nD => ?_⟩⟩
        have su := same_upd (o := .lst [.str z]) nu
        have hu : upd F u (.lst [.str z]) u = some (.lst [.str z]) := upd_same
        generalize upd F u (.lst [.str z]) = F0 at su hu nD ⊢
        have sz : z.length ≤ sizeLine := Nat.le_of_lt (len_lt (by have := nz.most; show z.cps.size ≤ _; omega))
        refine lc_it walk_str (fun j B => B D = some (.lst (((List.range j).map (otherS z)).map V.str)) ∧ Same F0 B) ⟨upd_same, same_upd nD⟩ (fun _ _ _ _ => trivial) (fun j v B B' hj hK hv => ?_) (fun B hK => ?_)
        · obtain ⟨hD, sB⟩ := hK
          obtain ⟨rfl, c, hc, rfl⟩ := hv
          obtain ⟨rfl, c26⟩ := abc_at hc
          refine ⟨rfl, _, rfl, _, rfl, z, rfl, sz, _, rfl, _, _, rfl, rfl, ?_, _, hD, ?_, ?_, fun b o e => ?_⟩
          · rw [cut5]
            show (z.cps.toList.take 5).toArray.size + 1 ≤ sizeLine
            rw [List.size_toArray, List.length_take, sizeLine_eq]
            omega
          · rw [List.length_map, List.length_map, List.length_range]
            exact len_lt (by omega)
          · rw [upd_same, List.range_succ, List.map_append, List.map_append]
            rfl
          · rw [upd_ne (ne_of_none e nD)]
            exact sB _ _ e
        · obtain ⟨hD, sB⟩ := hK
          rw [show abcS.cps.size = 26 by decide +kernel] at hD
          refine ⟨u, D, _, _, rfl, rfl, sB _ _ hu, hD, ?_, fun p np => ?_⟩
          · rw [List.length_map, List.length_map, List.length_range, sizeLine_eq]
            show 1 + 26 ≤ 16777216
            decide
          have sp := same_upd (o := .lst ((candS z).map V.str)) np
          have hp3 : upd B p (.lst ((candS z).map V.str)) p = some (.lst ((candS z).map V.str)) := upd_same
          have sFp := (su.trans sB).trans sp
          have hfB := sFp _ _ hfF
          have clen : (candS z).length = 27 := by rw [List.length_cons, List.length_map, List.length_range]
          refine ⟨_, rfl, .inl ⟨rfl, _, .inl (.inl hfB)⟩, _, rfl, p, rfl, ⟨_, .inl (.inl hp3)⟩, fun D2 nD2 => ?_⟩
          refine lc_list (xs := (candS z).map V.str) (fun j C => C D2 = some (.lst ((((candS z).take j).filter fun x => decide (x ∉ zs)).map V.str)) ∧ Same (upd B p (.lst ((candS z).map V.str))) C) ⟨upd_same, same_upd nD2⟩ (fun j C _ hK => .inl (.inl (hK.2 _ _ hp3))) (fun j v C hv hK => ?_) (fun C hK => ?_)
          · obtain ⟨hD2, sC⟩ := hK
            have jl := lt_of_get hv
            have ev : v = .str (candS z)[j] := by
              rw [List.getElem?_map, List.getElem?_eq_getElem jl] at hv
              exact (Option.some.inj hv).symm
            subst ev
            have hfC := sC _ _ hfB
            refine ⟨rfl, _, rfl, _, rfl, f, _, rfl, .inl (.inl (.inl hfC)), rfl, flat_strs2 zs, _, rfl, ?_⟩
            have jl2 : j < (candS z).length := jl
            have tk : (candS z).take (j + 1) = (candS z).take j ++ [(candS z)[j]] := by rw [List.take_add_one, List.getElem?_eq_getElem jl2]; rfl
            rw [tk, List.filter_append]
            generalize (candS z)[j] = x at jl ⊢
            show if (!inV (.str x) (zs.map V.str)) = true then _ else _
            rw [inV_strs]
            by_cases hx : x ∈ zs
            · rw [decide_eq_true hx, show [x].filter (fun x => decide (x ∉ zs)) = [] from by rw [List.filter_cons, if_neg (by simp [hx])]; rfl, List.append_nil]
              exact iteF ⟨hD2, sC⟩
            · rw [decide_eq_false hx, show [x].filter (fun x => decide (x ∉ zs)) = [x] from by rw [List.filter_cons, if_pos (by simp [hx])]; rfl]
              have fl := List.length_filter_le (fun x => decide (x ∉ zs)) ((candS z).take j)
              rw [List.length_take] at fl
              refine iteT ⟨_, rfl, _, hD2, ?_, ?_, fun b o e => ?_⟩
              · rw [List.length_map]
                exact len_lt (by omega)
              · rw [upd_same, List.map_append]
                rfl
              · rw [upd_ne (ne_of_none e nD2)]
                exact sC _ _ e
          · obtain ⟨hD2, sC⟩ := hK
            rw [List.length_map, List.take_length] at hD2
            obtain ⟨x, rest, ef⟩ := cand_new (z := z) (zs := zs) (by omega)
            have hx : x ∈ (candS z).filter fun x => decide (x ∉ zs) := by rw [ef]; exact List.mem_cons_self
            obtain ⟨h1, h2⟩ := List.mem_filter.mp hx
            have h3 := of_decide_eq_true h2
            rw [ef] at hD2
            have sAll := sFp.trans sC
            have hfC := sAll _ _ hfF
            refine ⟨D2, _, 0, _, rfl, rfl, .inl (.inl hD2), atI_nat (j := 0) rfl, f, _, _, rfl, rfl, hfC, ?_, ?_⟩
            · rw [List.length_map]
              exact len_lt (by omega)
            refine ⟨zs ++ [x], _, _, _, _, _, _, rfl, ((kG.trans kF).trans (.of_same sAll)).upd nfH, (pF.of fun u e => sAll a u e).upd fa.symm, (upd_ne fo.symm).trans (sAll _ _ hoF), ?_, ?_, fun y hy => ?_, ?_⟩
            · rw [upd_same, List.map_append]
              rfl
            · rw [List.length_append, zl]
              rfl
            · rcases List.mem_append.mp hy with m | m
              · exact znm y m
              · rw [List.mem_singleton.mp m]
                exact cand_nm nz x h1
            · rw [List.nodup_append]
              refine ⟨znd, by simp, fun y hy w hw e => ?_⟩
              rw [List.mem_singleton.mp hw] at e
              exact h3 (e ▸ hy)
    · obtain ⟨zs, y5, y6, y7, y8, y9, y10, rfl, kG, pG, hoG, hfG, zl, znm, znd⟩ := hI
      exact ⟨_, rfl, q f zs G kG pG nfH hfG (by omega) znm znd⟩
end
section
variable {P : Program} {w : World} {K : PySem.W.Frag} {mg : Str → Option Value} {base : Heap}
/-! ### things in a drawn order -/
theorem erase_permV {α : Type} : ∀ (l : List α) (k : Nat) (h : k < l.length), (l[k] :: l.eraseIdx k).Perm l
  | a :: l, 0, _ => .refl _
  | a :: l, k + 1, h => by
    show (l[k]'(Nat.lt_of_succ_lt_succ h) :: a :: l.eraseIdx k).Perm (a :: l)
    exact (List.Perm.swap ..).trans (.cons a (erase_permV l k (Nat.lt_of_succ_lt_succ h)))
abbrev s__law_mixed : Stmt := top 27
abbrev N__law_mixed : List Str := ["_law_pool_here", "_law_things", "_law_left", "_law_found", "_law_k"]
theorem sc__law_mixed : FnScope N__law_mixed ["_law_pool_here", "_law_things"] (defScope s__law_mixed) := ⟨rfl, rfl, rfl, by decide +kernel, rfl, by decide +kernel, by decide +kernel⟩
def spShufV (K : PySem.W.Frag) : Sp := fun vs H Q _ => ∃ (a t : Addr) (ns : List V), vs = [.ref a, .ref t] ∧ t ≠ a ∧ (SqL K H t ns ∨ SqT K H t ns) ∧ ns.length ≤ 100 ∧ Pool H a ∧
  ∀ (p : Addr) (ms : List V) (H' : Hp), Kp a H H' → Pool H' a → H p = none → H' p = some (.tup ms) → ms.Perm ns → Q (.ref p) H'
theorem ok_shufv (D : Df K mg "_law_mixed" s__law_mixed) (c__law_draw : Cl P w K mg base 1 "_law_draw" s__law_draw ["_law_pool_here", "_law_count"] spDraw)
    (m_len : mg "len" = none) (m_tuple : mg "tuple" = none) (m_list : mg "list" = none) (m_range : mg "range" = none) : Cl P w K mg base 2 "_law_mixed" s__law_mixed ["_law_pool_here", "_law_things"] (spShufV K) := by
  refine D.ok sc__law_mixed (fun _ _ _ _ _ _ us hl => match us, hl with | [_, _], _ => rfl) (fun vs H Q E h => ?_) (fun f cdv A outer s H vs Q E hr h => ?_)
  · obtain ⟨a, t, ns, rfl, _⟩ := h
    rfl
  · obtain ⟨a, t, all, rfl, ta, hS, most, hp, q⟩ := h
    refine ⟨_, 
      (pss_cons (ps_par (i := 2) (j := 3) (by rfl) sc__law_mixed.nd rfl rfl (by decide) rfl rfl (pa_cons (pe_callTy call_list_of (by rfl) m_list (by decide +kernel) (pa_cons (pv 1) pa_nil)) (pa_cons (pe_lst pa_nil) pa_nil)) (by rfl)) 
      (pss_cons (ps_for PassesOwn.never rfl (pi_range1 (by rfl) m_range (pa_cons (pe_callB call_lenS (by rfl) m_len (by decide +kernel) (pa_cons (pv 1) pa_nil)) pa_nil)) (pg_name (i := 4) sc__law_mixed.nd rfl (Or.inl rfl)) (pss_one (ps_expr (pe_bm PySem.F.plainAttrs_list PySem.F.slot_list_append PySem.F.type_list_append mt_append (pv 3) (pa_cons (pe_bm PySem.F.plainAttrs_list PySem.F.slot_list_pop PySem.F.type_list_pop mt_popAt (pv 2) (pa_cons (pe_u c__law_draw hr (by omega) (by rfl) (pa_cons (pv 0) (pa_cons (pe_callB call_lenS (by rfl) m_len (by decide +kernel) (pa_cons (pv 2) pa_nil)) pa_nil))) pa_nil)) pa_nil))))) 
      (pss_one (ps_ret (pe_callTy call_tuple_of (by rfl) m_tuple (by decide +kernel) (pa_cons (pv 3) pa_nil)))))), ?_⟩
    refine ⟨_, rfl, t, _, rfl, hS, fun l nl => ⟨Nat.zero_le _, fun D nD => ⟨_, _, rfl, ?_⟩⟩⟩
    have la : l ≠ a := hp.ne nl
    have Dl : D ≠ l := fun z => by
      subst z
      rw [upd_same] at nD
      cases nD
    rw [upd_ne Dl] at nD
    have Da : D ≠ a := hp.ne nD
    have s2 : Same H (upd (upd H l (.lst all)) D (.lst [])) := (same_upd nl).trans (same_upd ((upd_ne Dl).trans nD))
    refine ⟨_, rfl, t, all, rfl, hS.elim (fun z => .inl (s2.seq z)) (fun z => .inr (SqT.same s2 z)), ?_⟩
    refine ⟨(all.length : Nat), rfl, by omega, ?_, ?_⟩
    · omega
    refine for_range (lo := 0) (n := ((all.length : Nat) : Int).toNat) (fun i σ H3 => ∃ (y : Option V) (taken left : List V), σ = [some (.ref a), some (.ref t), some (.ref l), some (.ref D), y] ∧ H3 l = some (.lst left) ∧ H3 D = some (.lst taken) ∧ taken.length = i ∧ (taken ++ left).Perm all ∧ Pool H3 a ∧ Kp a H H3)
      ⟨none, [], all, rfl, ?_, upd_same, rfl, .refl _, (hp.upd la.symm).upd Da.symm, .of_same s2⟩ (fun i σ H3 hi hI => ?_) (fun σ H3 hI => ?_)
    · rw [upd_ne Dl.symm, upd_same]
    · obtain ⟨y, taken, left, rfl, hl3, hD3, ht, hpm, p3, k3⟩ := hI
      have ln : taken.length + left.length = all.length := by
        rw [← List.length_append]
        exact hpm.length_eq
      refine ⟨_, rfl, .inl ⟨rfl, _, .inl (.inl hD3)⟩, _, rfl, .inl ⟨rfl, _, .inl (.inl hl3)⟩, _, rfl, _, rfl, l, _, rfl, .inl (.inl (.inl hl3)), a, _, rfl, ?_, ?_, p3, fun j H4 j0 j1 k4 p4 => ?_⟩
      · omega
      · omega
      · have lt : j.toNat < left.length := by omega
        have hl4 : H4 l = some (.lst left) := k4 l _ hl3 la
        have hD4 : H4 D = some (.lst taken) := k4 D _ hD3 Da
        refine ⟨l, left, j, j.toNat, left[j.toNat], rfl, rfl, hl4, by omega, by omega, seqIx j0 (by omega), List.getElem?_eq_getElem lt, D, taken, _, rfl, rfl, ?_, ?_, ?_⟩
        · rw [upd_ne Dl]
          exact hD4
        · exact len_lt (by omega)
        · refine ⟨_, taken ++ [left[j.toNat]], left.eraseIdx j.toNat, rfl, ?_, ?_, ?_, (by rw [List.append_assoc]; exact (erase_permV left _ lt).append_left taken : ((taken ++ [left[j.toNat]]) ++ left.eraseIdx j.toNat).Perm (taken ++ left)).trans hpm, (p4.upd la.symm).upd Da.symm, ((k3.trans k4).upd nl).upd nD⟩
          · rw [upd_ne Dl.symm, upd_same]
          · exact upd_same
          · rw [List.length_append, ht]
            rfl
    · obtain ⟨y, taken, left, rfl, hl3, hD3, ht, hpm, p3, k3⟩ := hI
      have ln : taken.length + left.length = all.length := by
        rw [← List.length_append]
        exact hpm.length_eq
      have l0 : left = [] := List.length_eq_zero_iff.mp (by
        omega)
      subst l0
      rw [List.append_nil] at hpm
      refine ⟨_, rfl, D, taken, rfl, .inl ⟨.inl (.inl hD3), fun p np => ?_⟩⟩
      have pa : p ≠ a := p3.ne np
      have pf : H p = none := k3.free np pa
      exact q p taken _ (k3.upd pf) (p3.upd pa.symm) pf upd_same hpm
end
section
variable {P : Program} {w : World} {K : PySem.W.Frag} {mg : Str → Option Value} {base : Heap}
/-! ### ranks by name -/
theorem Each.paired {β : Type} {R S : Addr → β → Prop} (f : ∀ a b, R a b → S a b) : ∀ {l : List Addr} {m : List β}, Each R l m → Paired S l m
  | [], [], _ => .nil
  | [], _ :: _, h => h.elim
  | _ :: _, [], h => h.elim
  | _ :: _, _ :: _, h => .cons (f _ _ h.1) (Each.paired f h.2)
abbrev s__law_ranked : Stmt := top 29
abbrev N__law_ranked : List Str := ["_law_folk", "_law_k", "_law_person"]
theorem sc__law_ranked : FnScope N__law_ranked ["_law_folk"] (defScope s__law_ranked) := ⟨rfl, rfl, rfl, by decide +kernel, rfl, by decide +kernel, by decide +kernel⟩
def kvN : List Str → Nat → List (Key × V)
  | [], _ => []
  | z :: zs, i => (Sum.inr z, .int (i : Nat)) :: kvN zs (i + 1)
/-- a table of ranks by name -/
def RkT (kvs : List (Key × V)) (zs : List Str) : Prop := ∀ (i : Nat) (z : Str), zs[i]? = some z → valV kvs (Sum.inr z) = some (.int (i : Nat))
theorem kvN_out {y : Str} : ∀ {zs : List Str} {i : Nat} {acc : List (Key × V)}, y ∉ zs → valV (mergeK acc (kvN zs i)) (Sum.inr y) = valV acc (Sum.inr y)
  | [], _, _, _ => rfl
  | z :: zs, i, acc, h => by
    have h1 : ¬ y = z := fun e => h (by rw [e]; exact List.mem_cons_self)
    show valV (mergeK (putK acc (Sum.inr z) (.int (i : Nat))) (kvN zs (i + 1))) _ = _
    rw [kvN_out fun m => h (List.mem_cons_of_mem _ m), valV_put, if_neg fun e => h1 (Sum.inr.inj e)]
theorem kvN_get : ∀ {zs : List Str} {i : Nat} {acc : List (Key × V)}, zs.Nodup → ∀ (j : Nat) (y : Str), zs[j]? = some y → valV (mergeK acc (kvN zs i)) (Sum.inr y) = some (.int ((i + j : Nat) : Int))
  | [], _, _, _, _, _, h => nomatch h
  | z :: zs, i, acc, nd, j, y, h => by
    obtain ⟨n1, n2⟩ := List.nodup_cons.mp nd
    show valV (mergeK (putK acc (Sum.inr z) (.int (i : Nat))) (kvN zs (i + 1))) _ = _
    cases j with
    | zero =>
      cases h
      rw [kvN_out n1, valV_put, if_pos rfl]
      rfl
    | succ j =>
      have h2 : zs[j]? = some y := h
      rw [kvN_get n2 j y h2]
      congr 3
      omega
theorem ranks_of {zs : List Str} (nd : zs.Nodup) : RkT (mergeK [] (kvN zs 0)) zs := fun i z h => by
  rw [kvN_get nd i z h, Nat.zero_add]
theorem kvN_app (z : Str) : ∀ (zs : List Str) (i : Nat), kvN (zs ++ [z]) i = kvN zs i ++ [(Sum.inr z, .int ((i + zs.length : Nat) : Int))]
  | [], i => rfl
  | y :: zs, i => by
    show _ :: kvN (zs ++ [z]) (i + 1) = _
    rw [kvN_app z zs (i + 1), List.length_cons, show i + 1 + zs.length = i + (zs.length + 1) by omega]
    rfl
def spRanked (K : PySem.W.Frag) : Sp := fun vs H Q _ => ∃ (t : Addr) (zs : List Str), vs = [.ref t] ∧ SqT K H t (zs.map V.str) ∧ zs.Nodup ∧ zs.length ≤ 12 ∧ ∀ (p : Addr) (H' : Hp), Same H H' → H p = none → (∃ kvs, H' p = some (.dK kvs) ∧ RkT kvs zs) → Q (.ref p) H'
theorem ok_ranked (D : Df K mg "_law_ranked" s__law_ranked) (m_dict : mg "dict" = none) (m_enumerate : mg "enumerate" = none) : Cl P w K mg base 1 "_law_ranked" s__law_ranked ["_law_folk"] (spRanked K) := by
  refine D.ok sc__law_ranked (fun _ _ _ _ _ _ us hl => match us, hl with | [_], _ => rfl) (fun vs H Q E h => ?_) (fun f cdv A outer s H vs Q E hr h => ?_)
  · obtain ⟨t, zs, rfl, _⟩ := h
    rfl
  · obtain ⟨t, zs, rfl, hS, nd, l12, q⟩ := h
    refine ⟨_, 
      (pss_one (ps_ret (pe_callTy (call_dictP (by rfl)) (by rfl) m_dict (by decide +kernel) (pa_cons (pe_lc (own := [("_law_k", 1), ("_law_person", 2)]) (g := gTup K 2 (gCons (gName 1) (gCons (gName 2) gNil))) rfl sc__law_ranked.nd (pi_enumT (by rfl) m_enumerate (pa_cons (pv 0) pa_nil)) (blkOk_by (own := [("_law_k", 1), ("_law_person", 2)]) (N := N__law_ranked) (sc := (defScope s__law_ranked)) (by decide +kernel)) (fun _ _ _ _ _ => (pg_tup (by rfl) (pgs_cons (pg_name (i := 1) sc__law_ranked.nd rfl (Or.inl rfl)) (pgs_cons (pg_name (i := 2) sc__law_ranked.nd rfl (Or.inl rfl)) pgs_nil)))) (fun _ _ _ _ _ => pts_nil) (fun _ _ _ _ _ => (pe_tup (pa_cons (pv 2) (pa_cons (pv 1) pa_nil))))) pa_nil)))), ?_⟩
    refine ⟨_, rfl, t, _, rfl, hS, fun D nD => ?_⟩
    refine lc_it walk_eT (fun i F => ∃ rs : List Addr, F D = some (.lst (rs.map V.ref)) ∧ Each (fun r kv => F r = some (.tup [L2.kV kv.1, kv.2])) rs (kvN (zs.take i) 0) ∧ Same H F) ⟨[], upd_same, trivial, same_upd nD⟩ (fun i F _ hK => SqT.same hK.choose_spec.2.2 hS) (fun i v F F' hi hK hv => ?_) (fun F hK => ?_)
    · obtain ⟨rs, hD, each, sF⟩ := hK
      obtain ⟨T, x, rfl, nT, rfl, hx⟩ := hv
      rw [List.length_map] at hi
      rw [List.getElem?_map, List.getElem?_eq_getElem hi] at hx
      have ex : x = .str zs[i] := (Option.some.inj hx).symm
      subst ex
      have sT := same_upd (o := .tup [.int (i : Nat), .str zs[i]]) nT
      have el := each.len
      have kl : ∀ (l : List Str) (k : Nat), (kvN l k).length = l.length := fun l => by
        induction l with
        | nil => intro k; rfl
        | cons z l ih => intro k; show (kvN l (k + 1)).length + 1 = _; rw [ih, List.length_cons]
      rw [kl, List.length_take] at el
      refine ⟨T, _, rfl, .inl (.inl upd_same), rfl, _, _, rfl, _, _, rfl, rfl, rfl, _, rfl, _, rfl, (by show 2 ≤ sizeLine; decide), fun u nu => ?_⟩
      have su := same_upd (o := .tup [.str zs[i], .int (i : Nat)]) nu
      have hD2 := su _ _ (sT _ _ hD)
      have hu : upd (upd F T (.tup [.int (i : Nat), .str zs[i]])) u (.tup [.str zs[i], .int (i : Nat)]) u = some (.tup [.str zs[i], .int (i : Nat)]) := upd_same
      have sAll := sT.trans su
      generalize upd (upd F T (.tup [.int (i : Nat), .str zs[i]])) u (.tup [.str zs[i], .int (i : Nat)]) = F2 at hD2 hu sAll ⊢
      refine ⟨_, hD2, ?_, rs ++ [u], ?_, ?_, fun b o e => ?_⟩
      · rw [List.length_map]
        exact len_lt (by omega)
      · rw [upd_same, List.map_append]
        rfl
      · rw [List.take_add_one, List.getElem?_eq_getElem hi]
        show Each _ _ (kvN (zs.take i ++ [zs[i]]) 0)
        rw [kvN_app, List.length_take, Nat.zero_add, show min i zs.length = i by omega]
        exact (each.imp fun r _ kv e => (upd_ne fun z => by rw [z] at e; rw [e] at hD; cases hD).trans (sAll _ _ e)).snoc ((upd_ne fun z => by rw [z] at hu; rw [hu] at hD2; cases hD2).trans hu)
      · rw [upd_ne (ne_of_none e nD)]
        exact sAll _ _ (sF _ _ e)
    · obtain ⟨rs, hD, each, sF⟩ := hK
      rw [List.length_map, List.take_length] at each
      refine ⟨D, rs, kvN zs 0, rfl, .inl (.inl hD), Each.paired (fun r kv e => .inl (.inl e)) each, fun p np => ?_⟩
      exact q p _ (sF.trans (same_upd np)) (sF.free np) ⟨_, upd_same, ranks_of nd⟩
end
section
variable {P : Program} {w : World} {K : PySem.W.Frag} {mg : Str → Option Value} {base : Heap}
/-! ### the law's own pass -/
def lowS (lt : Str → Str → Bool) (s p : Str) : Str := if lt s p = true then s else p
def highS (lt : Str → Str → Bool) (s p : Str) : Str := if lt s p = true then p else s
abbrev goN (t : Bool) (lt : Str → Str → Bool) (s p : Str) : Str := if t = true then lowS lt s p else highS lt s p
abbrev stN (t : Bool) (lt : Str → Str → Bool) (s p : Str) : Str := if t = true then highS lt s p else lowS lt s p
def goneL (t : Bool) (lt : Str → Str → Bool) : Str → List Str → List Str
  | s, [] => [s]
  | s, p :: ps => goN t lt s p :: goneL t lt (stN t lt s p) ps
def toldL (t : Bool) (lt : Str → Str → Bool) : Str → List Str → List (Str × Str)
  | _, [] => []
  | s, p :: ps => (lowS lt s p, highS lt s p) :: toldL t lt (stN t lt s p) ps
def rkLt (os : List Str) (x y : Str) : Bool := decide (os.idxOf x < os.idxOf y)
theorem ite_tup2 {c : Bool} {i j : Nat} {σ : L2.St} {H : Hp} {Q : VK} {a b : Str} (ei : ∀ Q : VK, Q (.str a) H → tVar i σ H Q) (ej : ∀ Q : VK, Q (.str b) H → tVar j σ H Q)
    (h : ∀ T, H T = none → Q (.ref T) (upd H T (.tup [.str (if c = true then a else b), .str (if c = true then b else a)]))) : if c = true then tTup (tCons (tVar i) (tCons (tVar j) tNil)) σ H Q else tTup (tCons (tVar j) (tCons (tVar i) tNil)) σ H Q := by
  have two : ∀ x y : V, [x, y].length ≤ sizeLine := fun x y => by show 2 ≤ sizeLine; decide
  cases c
  · refine ej (fun x H1 => tCons (tVar i) tNil σ H1 fun xs H2 => (x :: xs).length ≤ sizeLine ∧ ∀ p, H2 p = none → Q (.ref p) (upd H2 p (.tup (x :: xs)))) ?_
    exact ei (fun x H1 => [V.str b, x].length ≤ sizeLine ∧ ∀ p, H1 p = none → Q (.ref p) (upd H1 p (.tup [.str b, x]))) ⟨two _ _, h⟩
  · refine ei (fun x H1 => tCons (tVar j) tNil σ H1 fun xs H2 => (x :: xs).length ≤ sizeLine ∧ ∀ p, H2 p = none → Q (.ref p) (upd H2 p (.tup (x :: xs)))) ?_
    exact ej (fun x H1 => [V.str a, x].length ≤ sizeLine ∧ ∀ p, H1 p = none → Q (.ref p) (upd H1 p (.tup [.str a, x]))) ⟨two _ _, h⟩
theorem isTb (t : Bool) : decide (V.str (ltr t) = V.str (Str.ofString "T")) = t := by cases t <;> decide +kernel
theorem RkT.at {kvs : List (Key × V)} {os : List Str} (h : RkT kvs os) {x : Str} (hx : x ∈ os) : valV kvs (Sum.inr x) = some (.int ((os.idxOf x : Nat) : Int)) :=
  h _ x (by rw [List.getElem?_eq_getElem (List.idxOf_lt_length_of_mem hx), List.getElem_idxOf])
theorem low_if (lt : Str → Str → Bool) (s p : Str) : (if lt s p = true then s else p) = lowS lt s p := rfl
theorem high_if (lt : Str → Str → Bool) (s p : Str) : (if lt s p = true then p else s) = highS lt s p := rfl
abbrev s__law_pass : Stmt := top 28
abbrev N__law_pass : List Str := ["_law_line", "_law_sort", "_law_ranks_by", "_law_sitter", "_law_gone", "_law_told", "_law_person", "_law_low", "_law_high"]
theorem sc__law_pass : FnScope N__law_pass ["_law_line", "_law_sort", "_law_ranks_by"] (defScope s__law_pass) := ⟨rfl, rfl, rfl, by decide +kernel, rfl, by decide +kernel, by decide +kernel⟩
def spPass (K : PySem.W.Frag) : Sp := fun vs H Q _ => ∃ (l d : Addr) (z : Str) (zs os : List Str) (t : Bool) (kvs : List (Key × V)), vs = [.ref l, .str (ltr t), .ref d] ∧ H l = some (.tup ((z :: zs).map V.str)) ∧ H d = some (.dK kvs) ∧ RkT kvs os ∧ os.Nodup ∧ (∀ x ∈ z :: zs, x ∈ os) ∧ zs.length ≤ 12 ∧
  ∀ (p g u : Addr) (rs : List Addr) (H' : Hp), Same H H' → H p = none → H' p = some (.tup [.ref g, .ref u]) → H' g = some (.tup ((goneL t (rkLt os) z zs).map V.str)) → H' u = some (.tup (rs.map V.ref)) → PrAt K H' rs (sortP (toldL t (rkLt os) z zs)) → Q (.ref p) H'
theorem ok_pass (D : Df K mg "_law_pass" s__law_pass) (m_tuple : mg "tuple" = none) (m_sorted : mg "sorted" = none) : Cl P w K mg base 1 "_law_pass" s__law_pass ["_law_line", "_law_sort", "_law_ranks_by"] (spPass K) := by
  refine D.ok sc__law_pass (fun _ _ _ _ _ _ us hl => match us, hl with | [_, _, _], _ => rfl) (fun vs H Q E h => ?_) (fun f cdv A outer s H vs Q E hr h => ?_)
  · obtain ⟨l, d, z, zs, os, t, kvs, rfl, _⟩ := h
    rfl
  · obtain ⟨l, d, z, zs, os, t, kvs, rfl, hl, hd, rk, nd, sub, l12, q⟩ := h
    refine ⟨_, 
      (pss_cons (ps_par3 (i := 3) (j := 4) (l := 5) (by rfl) sc__law_pass.nd rfl rfl rfl (by decide) (by decide) (by decide) rfl rfl rfl (pa_cons (pe_ix ix_tup (pv 0) pe_int (fun _ _ => rfl)) (pa_cons (pe_lst pa_nil) (pa_cons (pe_lst pa_nil) pa_nil))) (by rfl)) 
      (pss_cons (ps_for PassesOwn.never rfl (pi_tup (pe_slice sl_tupC (pv 0) (po_some pe_int) po_none)) (pg_name (i := 6) sc__law_pass.nd rfl (Or.inl rfl)) (pss_cons (ps_asg (pe_ifExp (pt_cmpR op_lt (pe_dget (uni hr) (pv 2) (pv 3) (fun _ _ => rfl)) (pe_dget (uni hr) (pv 2) (pv 6) (fun _ _ => rfl)) (nomark _)) (pe_tup (pa_cons (pv 3) (pa_cons (pv 6) pa_nil))) (pe_tup (pa_cons (pv 6) (pa_cons (pv 3) pa_nil)))) (pg_tup (by rfl) (pgs_cons (pg_name (i := 7) sc__law_pass.nd rfl (Or.inl rfl)) (pgs_cons (pg_name (i := 8) sc__law_pass.nd rfl (Or.inl rfl)) pgs_nil)))) (pss_cons (ps_expr (pe_bm PySem.F.plainAttrs_list PySem.F.slot_list_append PySem.F.type_list_append mt_append (pv 5) (pa_cons (pe_tup (pa_cons (pv 7) (pa_cons (pv 8) pa_nil))) pa_nil))) (pss_cons (ps_expr (pe_bm PySem.F.plainAttrs_list PySem.F.slot_list_append PySem.F.type_list_append mt_append (pv 4) (pa_cons (pe_ifExp (pt_cmpR op_eq (pv 1) pe_str (nomark _)) (pv 7) (pv 8)) pa_nil))) (pss_one (ps_set (i := 3) sc__law_pass.nd rfl (Or.inl rfl) (pe_ifExp (pt_cmpR op_eq (pv 1) pe_str (nomark _)) (pv 8) (pv 7)))))))) 
      (pss_one (ps_ret (pe_tup (pa_cons (pe_callTy call_tuple_of (by rfl) m_tuple (by decide +kernel) (pa_cons (pe_op op_cat (pv 4) (pe_lst (pa_cons (pv 3) pa_nil))) pa_nil)) (pa_cons (pe_callTy call_tuple_of (by rfl) m_tuple (by decide +kernel) (pa_cons (pe_callB (cr_sortPr hr.units) (by rfl) m_sorted (by decide +kernel) (pa_cons (pv 5) pa_nil)) pa_nil)) pa_nil))))))), ?_⟩
    refine ⟨_, rfl, l, _, 0, .str z, rfl, rfl, .inl (.inl hl), atI_nat (j := 0) rfl, Nat.zero_le _, fun g ng => ⟨Nat.zero_le _, fun u nu => ⟨_, _, _, rfl, ?_⟩⟩⟩
    have sg := same_upd (o := .lst []) ng
    have hg0 : upd H g (.lst []) g = some (.lst []) := upd_same
    have su := same_upd (o := .lst []) nu
    have hu1 : upd (upd H g (.lst [])) u (.lst []) u = some (.lst []) := upd_same
    have hg1 := su _ _ hg0
    have gu : g ≠ u := ne_of_none hg0 nu
    have nuH : H u = none := sg.free nu
    have s1 := sg.trans su
    generalize upd (upd H g (.lst [])) u (.lst []) = H1 at hu1 hg1 s1 ⊢
    refine ⟨_, rfl, _, rfl, l, _, rfl, s1 _ _ hl, fun c H2 s2 hc => ?_⟩
    have hc' : H2 c = some (.tup (zs.map V.str)) := by
      rw [hc, show ((1 : Int)) = ((1 : Nat) : Int) from rfl]
      unfold cutV
      rw [HT.sIx_none, HT.sIx_nat, List.length_map, List.length_cons, show min 1 (zs.length + 1) = 1 by omega, List.map_cons, List.drop_succ_cons, List.drop_zero, List.take_of_length_le (by rw [List.length_map]; omega)]
    refine ⟨c, rfl, ⟨_, .inl (.inl hc')⟩, ?_⟩
    refine for_tup (xs := zs.map V.str) (fun i σ F => ∃ (s : Str) (gs : List Str) (ps : List (Str × Str)) (rs : List Addr) (y6 y7 y8 : Option V), σ = [some (.ref l), some (.str (ltr t)), some (.ref d), some (.str s), some (.ref g), some (.ref u), y6, y7, y8] ∧
        Same H F ∧ F c = some (.tup (zs.map V.str)) ∧ F g = some (.lst (gs.map V.str)) ∧ F u = some (.lst (rs.map V.ref)) ∧ PrAt K F rs ps ∧ gs.length = i ∧ rs.length = i ∧ s ∈ os ∧ goneL t (rkLt os) z zs = gs ++ goneL t (rkLt os) s (zs.drop i) ∧ toldL t (rkLt os) z zs = ps ++ toldL t (rkLt os) s (zs.drop i))
      ⟨z, [], [], [], none, none, none, rfl, s1.trans s2, hc', s2 _ _ hg1, s2 _ _ hu1, trivial, rfl, rfl, sub z List.mem_cons_self, rfl, rfl⟩ (fun i σ F _ hI => ?_) (fun i x σ F hx hI => ?_) (fun σ F hI => ?_)
    · obtain ⟨_, _, _, _, _, _, _, _, _, hcF, _⟩ := hI
      exact .inl (.inl hcF)
    · obtain ⟨s, gs, ps, rs, y6, y7, y8, rfl, sF, hcF, hgF, huF, pr, gl, rl, ms, eg, et⟩ := hI
      have hi := lt_of_get hx
      have hi : i < zs.length := hi
      have ex : x = .str zs[i] := by
        rw [List.getElem?_map, List.getElem?_eq_getElem hi] at hx
        exact (Option.some.inj hx).symm
      subst ex
      have mp : zs[i] ∈ os := sub _ (List.mem_cons_of_mem _ (List.getElem_mem hi))
      rw [List.drop_eq_getElem_cons hi, goneL] at eg
      rw [List.drop_eq_getElem_cons hi, toldL] at et
      generalize zs[i] = p at mp eg et ⊢
      have hdF := sF _ _ hd
      refine ⟨_, rfl, _, rfl, d, _, rfl, .inl ⟨kvs, .inr s, .inl hdF, rfl, (rk.at ms).symm⟩, _, rfl, _, rfl, d, _, rfl, .inl ⟨kvs, .inr p, .inl hdF, rfl, (rk.at mp).symm⟩, _, _, rfl, rfl, _, rfl, ?_⟩
      rw [show decide (((os.idxOf s : Nat) : Int) < ((os.idxOf p : Nat) : Int)) = rkLt os s p from decide_eq_decide.mpr (by omega)]
      refine ite_tup2 (fun Q h => ⟨_, rfl, h⟩) (fun Q h => ⟨_, rfl, h⟩) fun T nT => ?_
      rw [low_if, high_if]
      have sT := same_upd (o := .tup [.str (lowS (rkLt os) s p), .str (highS (rkLt os) s p)]) nT
      have hT : upd F T (.tup [.str (lowS (rkLt os) s p), .str (highS (rkLt os) s p)]) T = some (.tup [.str (lowS (rkLt os) s p), .str (highS (rkLt os) s p)]) := upd_same
      have hst : stN t (rkLt os) s p ∈ os := by
        unfold stN highS lowS
        repeat' split
        all_goals first | exact mp | exact ms
      have ego : (if t = true then lowS (rkLt os) s p else highS (rkLt os) s p) = goN t (rkLt os) s p := rfl
      have est : (if t = true then highS (rkLt os) s p else lowS (rkLt os) s p) = stN t (rkLt os) s p := rfl
      generalize upd F T (.tup [.str (lowS (rkLt os) s p), .str (highS (rkLt os) s p)]) = F1 at sT hT ⊢
      refine ⟨T, _, rfl, .inl (.inl hT), rfl, _, _, rfl, _, _, rfl, rfl, ?_⟩
      have huF1 := sT _ _ huF
      refine ⟨_, rfl, .inl ⟨rfl, _, .inl (.inl huF1)⟩, _, rfl, _, rfl, (by show 2 ≤ sizeLine; decide), fun w nw => ?_⟩
      have sw := same_upd (o := .tup [.str (lowS (rkLt os) s p), .str (highS (rkLt os) s p)]) nw
      have hw : upd F1 w (.tup [.str (lowS (rkLt os) s p), .str (highS (rkLt os) s p)]) w = some (.tup [.str (lowS (rkLt os) s p), .str (highS (rkLt os) s p)]) := upd_same
      generalize upd F1 w (.tup [.str (lowS (rkLt os) s p), .str (highS (rkLt os) s p)]) = F2 at sw hw ⊢
      have s2F := sT.trans sw
      have huF2 := s2F _ _ huF
      have hgF2 := s2F _ _ hgF
      have wu : w ≠ u := fun e => by
        subst e
        rw [huF1] at nw
        cases nw
      have wg : w ≠ g := fun e => by
        subst e
        rw [sT _ _ hgF] at nw
        cases nw
      have cu : c ≠ u := fun e => by
        subst e
        rw [hcF] at huF
        cases huF
      have cg : c ≠ g := fun e => by
        subst e
        rw [hcF] at hgF
        cases hgF
      refine ⟨u, _, _, rfl, rfl, huF2, ?_, ?_⟩
      · rw [List.length_map, rl]
        exact len_lt (by omega)
      have hgF3 : upd F2 u (.lst (rs.map V.ref ++ [.ref w])) g = some (.lst (gs.map V.str)) := (upd_ne gu).trans hgF2
      refine ⟨_, rfl, .inl ⟨rfl, _, .inl (.inl hgF3)⟩, _, rfl, rfl, _, rfl, ?_⟩
      rw [isTb]
      refine ite_tv (fun Q h => ⟨_, rfl, h⟩) (fun Q h => ⟨_, rfl, h⟩) ?_
      rw [ego]
      refine ⟨g, _, _, rfl, rfl, hgF3, ?_, ?_⟩
      · rw [List.length_map, gl]
        exact len_lt (by omega)
      refine ⟨_, rfl, rfl, _, rfl, ?_⟩
      rw [isTb]
      refine ite_tv (fun Q h => ⟨_, rfl, h⟩) (fun Q h => ⟨_, rfl, h⟩) ?_
      rw [est]
      refine ⟨stN t (rkLt os) s p, gs ++ [goN t (rkLt os) s p], ps ++ [(lowS (rkLt os) s p, highS (rkLt os) s p)], rs ++ [w], _, _, _, rfl, fun b o e => ?_, ?_, ?_, ?_, ?_, ?_, ?_, hst, ?_, ?_⟩
      · rw [upd_ne (ne_of_none e ng), upd_ne (ne_of_none e nuH)]
        exact s2F _ _ (sF _ _ e)
      · rw [upd_ne cg, upd_ne cu]
        exact s2F _ _ hcF
      · rw [upd_same, List.map_append]
        rfl
      · rw [upd_ne gu.symm, upd_same, List.map_append]
        rfl
      · exact (pr.imp fun r _ p e => SqT.lst (SqT.lst (SqT.same s2F e) huF2) hgF3).snoc (SqT.lst (SqT.lst (.inl (.inl hw)) huF2) hgF3)
      · rw [List.length_append, gl]
        rfl
      · rw [List.length_append, rl]
        rfl
      · rw [eg, List.append_assoc]
        rfl
      · rw [et, List.append_assoc]
        rfl
    · obtain ⟨s, gs, ps, rs, y6, y7, y8, rfl, sF, hcF, hgF, huF, pr, gl, rl, ms, eg, et⟩ := hI
      rw [List.length_map] at gl rl
      rw [List.length_map, List.drop_length, goneL] at eg
      rw [List.length_map, List.drop_length, toldL, List.append_nil] at et
      refine ⟨_, rfl, _, rfl, (by show 1 ≤ sizeLine; decide), fun v nv => ⟨g, v, _, _, rfl, rfl, same_upd nv _ _ hgF, upd_same, ?_, fun x nx => ⟨x, _, rfl, .inl ⟨.inl (.inl upd_same), fun y ny => ?_⟩⟩⟩⟩
      · rw [List.length_map, gl]
        exact Nat.le_of_lt (len_lt (by show zs.length + 1 ≤ _; omega))
      have e1 : gs.map V.str ++ [.str s] = (goneL t (rkLt os) z zs).map V.str := by rw [eg, List.map_append]; rfl
      have sA := ((same_upd (o := .lst [.str s]) nv).trans (same_upd (o := .lst (gs.map V.str ++ [.str s])) nx)).trans (same_upd (o := .tup (gs.map V.str ++ [.str s])) ny)
      have hy : upd (upd (upd F v (.lst [.str s])) x (.lst (gs.map V.str ++ [.str s]))) y (.tup (gs.map V.str ++ [.str s])) y = some (.tup ((goneL t (rkLt os) z zs).map V.str)) := by rw [← e1]; exact upd_same
      generalize upd (upd (upd F v (.lst [.str s])) x (.lst (gs.map V.str ++ [.str s]))) y (.tup (gs.map V.str ++ [.str s])) = F1 at sA hy ⊢
      refine ⟨_, rfl, u, rs, ps, rfl, .inl (.inl (sA _ _ huF)), pr.imp fun _ _ _ e => SqT.same sA e, fun q1 k pr1 nk => ⟨k, _, rfl, .inl ⟨.inl (.inl upd_same), fun m nm => ⟨(by show 2 ≤ sizeLine; decide), fun r nr => ?_⟩⟩⟩⟩
      have sB := ((same_upd (o := .lst (q1.map V.ref)) nk).trans (same_upd (o := .tup (q1.map V.ref)) nm)).trans (same_upd (o := .tup [.ref y, .ref m]) nr)
      have hm : upd (upd (upd F1 k (.lst (q1.map V.ref))) m (.tup (q1.map V.ref))) r (.tup [.ref y, .ref m]) m = some (.tup (q1.map V.ref)) := same_upd nr _ _ upd_same
      have fr : H r = none := (sF.trans sA).free (((same_upd (o := .lst (q1.map V.ref)) nk).trans (same_upd (o := .tup (q1.map V.ref)) nm)).free nr)
      refine q r y m q1 _ ((sF.trans sA).trans sB) fr upd_same (sB _ _ hy) hm ?_
      rw [et]
      exact pr1.imp fun _ _ _ e => SqT.same sB e
end
section
variable {P : Program} {w : World} {K : PySem.W.Frag} {mg : Str → Option Value} {base : Heap}
/-! ### what the leaving shows, as the law walks it -/
theorem stay_if {s p l : Str} (h : l = s ∨ l = p) (ne : s ≠ p) : (if decide (l = s) = true then p else s) = stayN s p l := by
  unfold stayN
  rcases h with e | e
  · rw [decide_eq_true e, if_pos rfl, if_neg (fun z => ne (e.symm.trans z))]
  · rw [decide_eq_false (fun z => ne (z.symm.trans e)), if_neg Bool.false_ne_true, if_pos e]
theorem stay_mem {s p l : Str} : stayN s p l = s ∨ stayN s p l = p := by
  unfold stayN
  split
  · exact .inl rfl
  · exact .inr rfl
end
section
/-! ### a pass shows its comparisons; whatever is shown has an order -/
theorem gone_shown (t : Bool) (lt : Str → Str → Bool) : ∀ {ps : List Str} {s : Str}, (s :: ps).Nodup → shownL t s ps (goneL t lt s ps) = some (toldL t lt s ps)
  | [], _, _ => rfl
  | p :: ps, s, nd => by
    obtain ⟨n1, n2⟩ := List.nodup_cons.mp nd
    obtain ⟨n3, n4⟩ := List.nodup_cons.mp n2
    have ne : s ≠ p := fun e => n1 (e ▸ List.mem_cons_self)
    have ns : s ∉ ps := fun m => n1 (List.mem_cons_of_mem _ m)
    have key : (goN t lt s p = p ∨ goN t lt s p = s) ∧ stayN s p (goN t lt s p) = stN t lt s p ∧ pairN t (goN t lt s p) (stN t lt s p) = (lowS lt s p, highS lt s p) ∧ (stN t lt s p = s ∨ stN t lt s p = p) := by
      unfold stayN goN stN pairN lowS highS
      cases t <;> cases lt s p <;> simp [ne, ne.symm]
    obtain ⟨k1, k2, k3, k4⟩ := key
    have nd2 : (stN t lt s p :: ps).Nodup := by
      rcases k4 with e | e
      · rw [e]
        exact List.nodup_cons.mpr ⟨ns, n4⟩
      · rw [e]
        exact n2
    rw [goneL, toldL, shown_step k1, k2, gone_shown t lt nd2, k3]
    rfl
def Bf (os : List Str) (x y : Str) : Prop := ∃ a b c, os = a ++ x :: (b ++ y :: c)
theorem bf_rank {os : List Str} (nd : os.Nodup) {x y : Str} (h : Bf os x y) : rkLt os x y = true ∧ rkLt os y x = false := by
  obtain ⟨a, b, c, e⟩ := h
  have ix : os.idxOf x = a.length := by
    have lt : a.length < os.length := by rw [e, List.length_append, List.length_cons]; omega
    have g : os[a.length] = x := by
      apply Option.some.inj
      rw [← List.getElem?_eq_getElem lt, e, List.getElem?_append_right (Nat.le_refl _), Nat.sub_self]
      rfl
    rw [← g]
    exact nd.idxOf_getElem _ lt
  have iy : os.idxOf y = a.length + (b.length + 1) := by
    have lt : a.length + (b.length + 1) < os.length := by rw [e, List.length_append, List.length_cons, List.length_append, List.length_cons]; omega
    have g : os[a.length + (b.length + 1)] = y := by
      apply Option.some.inj
      rw [← List.getElem?_eq_getElem lt, e, List.getElem?_append_right (by omega), show a.length + (b.length + 1) - a.length = b.length + 1 by omega, List.getElem?_cons_succ, List.getElem?_append_right (Nat.le_refl _), Nat.sub_self]
      rfl
    rw [← g]
    exact nd.idxOf_getElem _ lt
  unfold rkLt
  rw [ix, iy]
  exact ⟨decide_eq_true (by omega), decide_eq_false (by omega)⟩
theorem order_of (t : Bool) : ∀ {ps ls : List Str} {s : Str} {prs : List (Str × Str)} {acc : List Str}, shownL t s ps ls = some prs → ls.Perm (s :: ps) → (s :: ps).Nodup → s ∈ acc →
    ∃ os u v, os.Perm (acc ++ ps) ∧ os = u ++ acc ++ v ∧ ∀ lt : Str → Str → Bool, (∀ x y, Bf os x y → lt x y = true ∧ lt y x = false) → goneL t lt s ps = ls
  | [], ls, s, prs, acc, h, pm, nd, ms => by
    refine ⟨acc, [], [], by rw [List.append_nil], by simp, fun lt _ => ?_⟩
    rw [goneL]
    exact (List.perm_singleton.mp pm).symm
  | p :: ps, [], s, prs, acc, h, pm, nd, ms => by cases pm.length_eq
  | p :: ps, l :: ls, s, prs, acc, h, pm, nd, ms => by
    obtain ⟨n1, n2⟩ := List.nodup_cons.mp nd
    obtain ⟨n3, n4⟩ := List.nodup_cons.mp n2
    have ne : s ≠ p := fun e => n1 (e ▸ List.mem_cons_self)
    have ns : s ∉ ps := fun m => n1 (List.mem_cons_of_mem _ m)
    have hl : l = p ∨ l = s := Decidable.byContradiction fun z => by rw [shown_stop z] at h; cases h
    rw [shown_step hl] at h
    obtain ⟨r, hr, _⟩ := Option.map_eq_some_iff.mp h
    obtain ⟨a1, a2, ea⟩ := List.append_of_mem ms
    -- those who stay
    have pm2 : ls.Perm (stayN s p l :: ps) ∧ (stayN s p l :: ps).Nodup := by
      unfold stayN
      rcases hl with e | e
      · subst e
        rw [if_pos rfl]
        exact ⟨(pm.trans (List.Perm.swap ..)).cons_inv, List.nodup_cons.mpr ⟨ns, n4⟩⟩
      · subst e
        rw [if_neg ne]
        exact ⟨pm.cons_inv, n2⟩
    by_cases hi : (t = true ∧ l = s) ∨ (t = false ∧ l = p)
    · obtain ⟨os, u, v, q1, q2, q3⟩ := order_of t (acc := acc ++ [p]) hr pm2.1 pm2.2 (by
        rcases stay_mem (s := s) (p := p) (l := l) with e | e
        · rw [e]
          exact List.mem_append_left _ ms
        · rw [e]
          exact List.mem_append_right _ List.mem_cons_self)
      refine ⟨os, u, [p] ++ v, by simpa using q1, by rw [q2]; simp, fun lt hlt => ?_⟩
      have b := (hlt s p ⟨u ++ a1, a2, v, by rw [q2, ea]; simp⟩).1
      rw [goneL]
      have k : goN t lt s p = l ∧ stN t lt s p = stayN s p l := by
        unfold stayN goN stN lowS highS
        rw [b]
        rcases hi with ⟨e1, e2⟩ | ⟨e1, e2⟩ <;> subst e1 <;> subst e2 <;> simp [ne]
      rw [k.1, k.2, q3 lt hlt]
    · obtain ⟨os, u, v, q1, q2, q3⟩ := order_of t (acc := p :: acc) hr pm2.1 pm2.2 (by
        rcases stay_mem (s := s) (p := p) (l := l) with e | e
        · rw [e]
          exact List.mem_cons_of_mem _ ms
        · rw [e]
          exact List.mem_cons_self)
      refine ⟨os, u ++ [p], v, q1.trans (by simpa using List.perm_middle.symm), by rw [q2]; simp, fun lt hlt => ?_⟩
      have b := (hlt p s ⟨u, a1, a2 ++ v, by rw [q2, ea]; simp⟩).2
      rw [goneL]
      have k : goN t lt s p = l ∧ stN t lt s p = stayN s p l := by
        unfold stayN goN stN lowS highS
        rw [b]
        rcases hl with e | e
        · cases t with
          | false => exact absurd (.inr ⟨rfl, e⟩) hi
          | true => subst e; simp
        · cases t with
          | true => exact absurd (.inl ⟨rfl, e⟩) hi
          | false => subst e; simp [ne]
      rw [k.1, k.2, q3 lt hlt]
theorem explained {t : Bool} {z : Str} {zs ys : List Str} {prs : List (Str × Str)} (h : shownL t z zs ys = some prs) (pm : ys.Perm (z :: zs)) (nd : (z :: zs).Nodup) : ∃ os, os.Perm (z :: zs) ∧ goneL t (rkLt os) z zs = ys := by
  obtain ⟨os, u, v, q1, _, q3⟩ := order_of t (acc := [z]) h pm nd List.mem_cons_self
  have q1 : os.Perm (z :: zs) := q1
  exact ⟨os, q1, q3 _ fun x y b => bf_rank (q1.nodup_iff.mpr nd) b⟩
end
section
variable {P : Program} {w : World} {K : PySem.W.Frag} {mg : Str → Option Value} {base : Heap}
/-! ### all orders of some names -/
def nextL (sr : List Str) (l : List Str) : List (List Str) := (sr.filter fun x => decide (x ∉ l)).map fun x => l ++ [x]
def lvlL (sr : List Str) : Nat → List (List Str)
  | 0 => [[]]
  | k + 1 => (lvlL sr k).flatMap (nextL sr)
theorem lvl_len {sr : List Str} (h : sr.length ≤ 5) : ∀ k, (lvlL sr k).length ≤ 5 ^ k
  | 0 => Nat.le_refl _
  | k + 1 => by
    have ih := lvl_len h k
    have one : ∀ (F : List (List Str)), (F.flatMap (nextL sr)).length ≤ F.length * 5 := fun F => by
      induction F with
      | nil => exact Nat.zero_le _
      | cons l F ih =>
        rw [List.flatMap_cons, List.length_append, List.length_cons]
        have b : (nextL sr l).length ≤ sr.length := by
          unfold nextL
          rw [List.length_map]
          exact List.length_filter_le _ _
        omega
    have := one (lvlL sr k)
    rw [lvlL, Nat.pow_succ]
    omega
theorem lvl_mem {sr : List Str} : ∀ {k : Nat} {l : List Str}, l ∈ lvlL sr k ↔ l.length = k ∧ l.Nodup ∧ ∀ x ∈ l, x ∈ sr
  | 0, l => by
    rw [lvlL, List.mem_singleton]
    constructor
    · rintro rfl
      exact ⟨rfl, List.nodup_nil, fun x hx => nomatch hx⟩
    · rintro ⟨h, _⟩
      exact List.length_eq_zero_iff.mp h
  | k + 1, l => by
    rw [lvlL, List.mem_flatMap]
    constructor
    · rintro ⟨m, hm, hl⟩
      obtain ⟨h1, h2, h3⟩ := lvl_mem.mp hm
      obtain ⟨x, hx, rfl⟩ := List.mem_map.mp hl
      obtain ⟨h4, h5⟩ := List.mem_filter.mp hx
      have h5 := of_decide_eq_true h5
      refine ⟨by rw [List.length_append, h1]; rfl, ?_, fun y hy => ?_⟩
      · rw [List.nodup_append]
        refine ⟨h2, by simp, fun y hy z hz e => ?_⟩
        rw [List.mem_singleton.mp hz] at e
        exact h5 (e ▸ hy)
      · rcases List.mem_append.mp hy with z | z
        · exact h3 y z
        · rw [List.mem_singleton.mp z]
          exact h4
    · rintro ⟨h1, h2, h3⟩
      have ne : l ≠ [] := fun e => by rw [e] at h1; cases h1
      have e := List.dropLast_concat_getLast ne
      refine ⟨l.dropLast, lvl_mem.mpr ⟨by rw [List.length_dropLast, h1]; rfl, h2.sublist (List.dropLast_sublist l), fun x hx => h3 x (List.dropLast_subset l hx)⟩, ?_⟩
      refine List.mem_map.mpr ⟨l.getLast ne, List.mem_filter.mpr ⟨h3 _ (List.getLast_mem ne), decide_eq_true fun m => ?_⟩, e⟩
      rw [← e, List.nodup_append] at h2
      exact h2.2.2 _ m _ List.mem_cons_self rfl
theorem lvl_take {F : List (List Str)} {sr : List Str} {j : Nat} (h : j < F.length) : (F.take (j + 1)).flatMap (nextL sr) = (F.take j).flatMap (nextL sr) ++ nextL sr F[j] := by
  rw [List.take_add_one, List.getElem?_eq_getElem h, List.flatMap_append]
  simp
theorem lvl_part {F : List (List Str)} {sr : List Str} (j : Nat) : ((F.take j).flatMap (nextL sr)).length ≤ (F.flatMap (nextL sr)).length := by
  have e : F.flatMap (nextL sr) = (F.take j).flatMap (nextL sr) ++ (F.drop j).flatMap (nextL sr) := by rw [← List.flatMap_append, List.take_append_drop]
  rw [e, List.length_append]
  omega
abbrev LineS (H : Hp) (r : Addr) (l : List Str) : Prop := H r = some (.tup (l.map V.str))
abbrev s__law_orders : Stmt := top 30
abbrev N__law_orders : List Str := ["_law_folk", "_law_found", "_law_turn", "_law_longer", "_law_line", "_law_person"]
theorem sc__law_orders : FnScope N__law_orders ["_law_folk"] (defScope s__law_orders) := ⟨rfl, rfl, rfl, by decide +kernel, rfl, by decide +kernel, by decide +kernel⟩
def spOrd (K : PySem.W.Frag) : Sp := fun vs H Q _ => ∃ (a : Addr) (zs : List Str), vs = [.ref a] ∧ SqL K H a (zs.map V.str) ∧ zs.length ≤ 5 ∧
  ∀ (p : Addr) (rs : List Addr) (H' : Hp), Same H H' → H p = none → H' p = some (.lst (rs.map V.ref)) → Each (LineS H') rs (lvlL (sortS zs) zs.length) → Q (.ref p) H'
theorem tupU {G : Hp} {r l : Addr} {xs ys : List V} {o : HO} (h : G r = some (.tup xs)) (hl : G l = some (.lst ys)) : upd G l o r = some (.tup xs) := by
  rw [upd_ne (fun e => by subst e; rw [hl] at h; cases h)]
  exact h
theorem ok_ord (D : Df K mg "_law_orders" s__law_orders) (m_sorted : mg "sorted" = none) : Cl P w K mg base 1 "_law_orders" s__law_orders ["_law_folk"] (spOrd K) := by
  refine D.ok sc__law_orders (fun _ _ _ _ _ _ us hl => match us, hl with | [_], _ => rfl) (fun vs H Q E h => ?_) (fun f cdv A outer s H vs Q E hr h => ?_)
  · obtain ⟨a, zs, rfl, _⟩ := h
    rfl
  · obtain ⟨a, zs, rfl, hS, hn, q⟩ := h
    refine ⟨_, 
      (pss_cons (ps_set (i := 1) sc__law_orders.nd rfl (Or.inl rfl) (pe_lst (pa_cons (pe_tup pa_nil) pa_nil))) 
      (pss_cons (ps_for PassesOwn.never rfl (pi_list (pv 0)) (pg_name (i := 2) sc__law_orders.nd rfl (Or.inl rfl)) (pss_cons (ps_set (i := 3) sc__law_orders.nd rfl (Or.inl rfl) (pe_lst pa_nil)) (pss_cons (ps_for PassesOwn.never rfl (pi_list (pv 1)) (pg_name (i := 4) sc__law_orders.nd rfl (Or.inr rfl)) (pss_one (ps_expr (pe_bm PySem.F.plainAttrs_list PySem.F.slot_list_extend PySem.F.type_list_extend mt_extend (pv 3) (pa_cons (pe_lc (own := [("_law_person", 5)]) (g := gName 5) (te := (tOp rCatC (tVar 4) (tTup (tCons (tVar 5) tNil)))) (tt := (tTest (tOp (rIn K true) (tVar 5) (tVar 4)))) rfl sc__law_orders.nd (pi_list (pe_callB (cr_sortTxL hr.units) (by rfl) m_sorted (by decide +kernel) (pa_cons (pv 0) pa_nil))) (blkOk_by (own := [("_law_person", 5)]) (N := N__law_orders) (sc := (defScope s__law_orders)) (by decide +kernel)) (fun _ _ _ _ _ => (pg_name (i := 5) sc__law_orders.nd rfl (Or.inl rfl))) (fun _ _ _ _ _ => pts_one (pt_cmpR op_notIn_seq (pv 5) (pv 4) (by rfl))) (fun _ _ _ _ _ => (pe_op op_catC (pv 4) (pe_tup (pa_cons (pv 5) pa_nil))))) pa_nil))))) (pss_one (ps_set (i := 1) sc__law_orders.nd rfl (Or.inl rfl) (pv 3)))))) 
      (pss_one (ps_ret (pv 1))))), ?_⟩
    have srl : (sortS zs).length ≤ 5 := by rw [(sortS_perm zs).length_eq]; exact hn
    refine ⟨Nat.zero_le _, fun t0 nt0 => ⟨(by show 1 ≤ sizeLine; decide), fun f0 nf0 => ?_⟩⟩
    have s0 : Same H (upd H t0 (.tup [])) := same_upd nt0
    have s1 := s0.trans (same_upd (o := .lst [.ref t0]) nf0)
    refine ⟨_, rfl, a, rfl, ⟨_, s1.seq hS⟩, ?_⟩
    refine for_list (xs := zs.map V.str) (fun i σ G => ∃ (y2 y3 y4 y5 : Option V) (fo : Addr) (rs : List Addr), σ = [some (.ref a), some (.ref fo), y2, y3, y4, y5] ∧ Same H G ∧ H fo = none ∧ G fo = some (.lst (rs.map V.ref)) ∧ Each (LineS G) rs (lvlL (sortS zs) i))
      ⟨none, none, none, none, f0, [t0], rfl, s1, s0.free nf0, upd_same, ⟨same_upd nf0 t0 _ upd_same, trivial⟩⟩ (fun i σ G _ hI => ?_) (fun i x σ G hx hI => ?_) (fun σ G hI => ?_)
    · obtain ⟨_, _, _, _, _, _, _, sm, _⟩ := hI
      exact sm.seq hS
    · obtain ⟨y2, y3, y4, y5, fo, rs, rfl, sm, ff, hf, each⟩ := hI
      have lt : i < zs.length := lt_of_get hx
      have el := each.len
      have b1 : (lvlL (sortS zs) (i + 1)).length ≤ 5 ^ 5 := Nat.le_trans (lvl_len srl (i + 1)) (Nat.pow_le_pow_right (by decide) (by omega))
      have b0 : (lvlL (sortS zs) i).length ≤ 5 ^ 5 := Nat.le_trans (lvl_len srl i) (Nat.pow_le_pow_right (by decide) (by omega))
      have fl : ∀ l ∈ lvlL (sortS zs) i, l.length = i := fun l hl => (lvl_mem.mp hl).1
      rw [lvlL] at b1
      have tk : lvlL (sortS zs) (i + 1) = (lvlL (sortS zs) i).flatMap (nextL (sortS zs)) := rfl
      generalize lvlL (sortS zs) i = F at each el b0 b1 fl tk
      refine ⟨Nat.zero_le _, fun lo nlo => ?_⟩
      have slo := same_upd (o := .lst []) nlo
      refine ⟨_, rfl, fo, rfl, ⟨_, .inl (.inl (slo fo _ hf))⟩, ?_⟩
      have flo : H lo = none := sm.free nlo
      refine for_list (xs := rs.map V.ref) (fun j σ G2 => ∃ (y4 y5 : Option V) (qs : List Addr), σ = [some (.ref a), some (.ref fo), some x, some (.ref lo), y4, y5] ∧ Same G G2 ∧ G2 lo = some (.lst (qs.map V.ref)) ∧ Each (LineS G2) qs ((F.take j).flatMap (nextL (sortS zs))))
        ⟨_, _, [], rfl, slo, upd_same, trivial⟩ (fun j σ G2 _ hJ => ?_) (fun j x σ G2 hx2 hJ => ?_) (fun σ G2 hJ => ?_)
      · obtain ⟨_, _, _, _, sg, _⟩ := hJ
        exact .inl (.inl (sg fo _ hf))
      · obtain ⟨y4, y5, qs, rfl, sg, hlo, eq⟩ := hJ
        have lt2 := lt_of_get hx2
        have ex2 := Option.some.inj (hx2.symm.trans (getR lt2))
        subst ex2
        have ltF : j < F.length := by omega
        obtain ⟨L, hL, hat⟩ := each.get (List.getElem?_eq_getElem lt2)
        have eL : F[j] = L := Option.some.inj ((List.getElem?_eq_getElem ltF).symm.trans hL)
        have lenL := fl L (by rw [← eL]; exact List.getElem_mem ltF)
        have hat2 := sg _ _ hat
        have ql := eq.len
        have qb := lvl_part (F := F) (sr := sortS zs) (j + 1)
        have ft := lvl_take (sr := sortS zs) ltF
        rw [eL] at ft
        rw [ft, List.length_append] at qb
        refine ⟨_, rfl, .inl ⟨rfl, _, .inl (.inl hlo)⟩, _, rfl, a, zs, rfl, (sm.trans sg).seq hS, by omega, fun so nso => ⟨so, rfl, ⟨_, .inl (.inl upd_same)⟩, fun D nD => ?_⟩⟩
        have sso := same_upd (o := .lst ((sortS zs).map V.str)) nso
        have hso : upd G2 so (.lst ((sortS zs).map V.str)) so = some (.lst ((sortS zs).map V.str)) := upd_same
        generalize upd G2 so (.lst ((sortS zs).map V.str)) = G3 at sso hso nD ⊢
        refine lc_list (xs := (sortS zs).map V.str) (fun k F2 => ∃ ps : List Addr, F2 D = some (.lst (ps.map V.ref)) ∧ Each (LineS F2) ps ((((sortS zs).take k).filter fun x => decide (x ∉ L)).map fun x => L ++ [x]) ∧ Same G3 F2) ⟨[], upd_same, trivial, same_upd nD⟩ (fun k F2 _ hK => .inl (.inl (hK.choose_spec.2.2 _ _ hso))) (fun k v F2 hv hK => ?_) (fun F2 hK => ?_)
        · obtain ⟨ps, hD, ep, sf⟩ := hK
          have kl : k < (sortS zs).length := lt_of_get hv
          have ev : v = .str (sortS zs)[k] := by
            rw [List.getElem?_map, List.getElem?_eq_getElem kl] at hv
            exact (Option.some.inj hv).symm
          subst ev
          have hat3 := sf _ _ (sso _ _ hat2)
          have tk2 : (sortS zs).take (k + 1) = (sortS zs).take k ++ [(sortS zs)[k]] := by rw [List.take_add_one, List.getElem?_eq_getElem kl]; rfl
          have pl := ep.len
          have fb := List.length_filter_le (fun x => decide (x ∉ L)) ((sortS zs).take k)
          rw [List.length_take] at fb
          rw [List.length_map] at pl
          refine ⟨rfl, _, rfl, _, rfl, rs[j], _, rfl, .inr (.inl (.inl hat3)), rfl, flat_strs2 L, _, rfl, ?_⟩
          rw [tk2, List.filter_append, List.map_append]
          generalize (sortS zs)[k] = x
          show if (!inV (.str x) (L.map V.str)) = true then _ else _
          rw [inV_strs]
          by_cases hx : x ∈ L
          · rw [decide_eq_true hx, show [x].filter (fun x => decide (x ∉ L)) = [] from by rw [List.filter_cons, if_neg (by simp [hx])]; rfl, List.map_nil, List.append_nil]
            exact iteF ⟨ps, hD, ep, sf⟩
          · rw [decide_eq_false hx, show [x].filter (fun x => decide (x ∉ L)) = [x] from by rw [List.filter_cons, if_pos (by simp [hx])]; rfl]
            refine iteT ⟨_, rfl, _, rfl, (by show 1 ≤ sizeLine; decide), fun t nt => ?_⟩
            have st := same_upd (o := .tup [.str x]) nt
            refine ⟨rs[j], t, _, _, rfl, rfl, st _ _ hat3, upd_same, ?_, fun c F3 s3 h3 => ?_⟩
            · rw [List.length_map, lenL]
              exact Nat.le_of_lt (len_lt (by show i + 1 ≤ _; omega))
            have s23 := st.trans s3
            have hD3 := s23 D _ hD
            refine ⟨_, hD3, ?_, ps ++ [c], ?_, ?_, fun b o eb => ?_⟩
            · rw [List.length_map]
              exact len_lt (by omega)
            · rw [upd_same, List.map_append]
              rfl
            · refine Each.snoc (ep.imp fun r _ l hl => tupU (s23 _ _ hl) hD3) (tupU ?_ hD3)
              rw [h3]
              show _ = some (HO.tup ((L ++ [x]).map V.str))
              rw [List.map_append]
              rfl
            · rw [upd_ne (ne_of_none eb nD)]
              exact s23 b o (sf b o eb)
        · obtain ⟨ps, hD, ep, sf⟩ := hK
          rw [List.length_map, List.take_length] at ep
          have ep : Each (LineS F2) ps (nextL (sortS zs) L) := ep
          have pl := ep.len
          have hlo2 := sf lo _ (sso _ _ hlo)
          refine ⟨lo, D, _, _, rfl, rfl, hlo2, hD, ?_, _, _, qs ++ ps, rfl, fun b o eb => ?_, ?_, ?_⟩
          · rw [List.length_map, List.length_map]
            exact Nat.le_of_lt (len_lt (by omega))
          · rw [upd_ne (ne_of_none eb nlo)]
            exact sf b o (sso b o (sg b o eb))
          · rw [upd_same, List.map_append]
          · rw [ft]
            exact Each.app (eq.imp fun r _ l hl => tupU (sf _ _ (sso _ _ hl)) hlo2) (ep.imp fun r _ l hl => tupU hl hlo2)
      · obtain ⟨y4, y5, qs, rfl, sg, hlo, eq⟩ := hJ
        rw [List.length_map, el, List.take_length, ← tk] at eq
        exact ⟨_, rfl, _, _, _, _, lo, qs, rfl, sm.trans sg, flo, hlo, eq⟩
    · obtain ⟨y2, y3, y4, y5, fo, rs, rfl, sm, ff, hf, each⟩ := hI
      rw [List.length_map] at each
      exact ⟨_, rfl, q fo rs _ sm ff hf each⟩
end
section
variable {P : Program} {w : World} {K : PySem.W.Frag} {mg : Str → Option Value} {base : Heap}
/-! ### by all orders -/
theorem eqv_strsAll : ∀ a b : List Str, PyData.eqvAll (a.map PyData.str) (b.map PyData.str) = decide (a = b)
  | [], [] => by simp only [List.map_nil, PyData.eqvAll]; rfl
  | [], _ :: _ => by simp only [List.map_nil, List.map_cons, PyData.eqvAll]; rfl
  | _ :: _, [] => by simp only [List.map_nil, List.map_cons, PyData.eqvAll]; rfl
  | x :: a, y :: b => by
    simp only [List.map_cons, PyData.eqvAll]
    rw [eqv_strsAll a b, show PyData.eqv (.str x) (.str y) = decide (x = y) from rfl]
    by_cases h1 : x = y <;> by_cases h2 : a = b <;> simp [h1, h2]
theorem eqv_strs (a b : List Str) : PyData.eqv (.tuple (a.map PyData.str)) (.tuple (b.map PyData.str)) = decide (a = b) := by
  simp only [PyData.eqv]
  exact eqv_strsAll a b
theorem all_in {zs os : List Str} (nd : os.Nodup) (hl : zs.length ≤ os.length) (sub : ∀ x ∈ os, x ∈ zs) : ∀ x ∈ zs, x ∈ os := fun x hx => Decidable.byContradiction fun no => by
  have := pigeonS (List.nodup_cons.mpr ⟨no, nd⟩) fun y hy => (List.mem_cons.mp hy).elim (fun e => e ▸ hx) (sub y)
  rw [List.length_cons] at this
  omega
theorem gone_len (t : Bool) (lt : Str → Str → Bool) : ∀ (ps : List Str) (s : Str), (goneL t lt s ps).length = ps.length + 1
  | [], _ => rfl
  | p :: ps, s => by rw [goneL, List.length_cons, gone_len t lt ps, List.length_cons]
theorem gone_perm (t : Bool) (lt : Str → Str → Bool) : ∀ (ps : List Str) (s : Str), (goneL t lt s ps).Perm (s :: ps)
  | [], _ => .refl _
  | p :: ps, s => by
    rw [goneL]
    have ih := gone_perm t lt ps (stN t lt s p)
    have two : (goN t lt s p = s ∧ stN t lt s p = p) ∨ (goN t lt s p = p ∧ stN t lt s p = s) := by
      unfold goN stN lowS highS
      cases t <;> cases lt s p <;> simp
    rcases two with ⟨e1, e2⟩ | ⟨e1, e2⟩
    · rw [e1]
      rw [e2] at ih
      rw [e2]
      exact .cons _ ih
    · rw [e1]
      rw [e2] at ih
      rw [e2]
      exact (List.Perm.cons _ ih).trans (.swap ..)

/-- what is shown speaks of the row's names -/
theorem shown_names {t : Bool} : ∀ {ps ls : List Str} {s : Str} {r : List (Str × Str)}, shownL t s ps ls = some r → ∀ q ∈ r, q.1 ∈ s :: ps ∧ q.2 ∈ s :: ps
  | p :: ps, l :: ls, s, r, h => by
    by_cases hl : l = p ∨ l = s
    · rw [shown_step hl] at h
      obtain ⟨r2, h2, rfl⟩ := Option.map_eq_some_iff.mp h
      have st : stayN s p l ∈ s :: p :: ps := by
        rcases stay_mem (s := s) (p := p) (l := l) with e | e
        · rw [e]; exact List.mem_cons_self
        · rw [e]; exact List.mem_cons_of_mem _ List.mem_cons_self
      have lm : l ∈ s :: p :: ps := by
        rcases hl with e | e
        · rw [e]; exact List.mem_cons_of_mem _ List.mem_cons_self
        · rw [e]; exact List.mem_cons_self
      intro q hq
      rcases List.mem_cons.mp hq with e | hq
      · rw [e]
        cases t
        · exact ⟨st, lm⟩
        · exact ⟨lm, st⟩
      · have up : ∀ x ∈ stayN s p l :: ps, x ∈ s :: p :: ps := fun x hx => by
          rcases List.mem_cons.mp hx with e | hx
          · rw [e]; exact st
          · exact List.mem_cons_of_mem _ (List.mem_cons_of_mem _ hx)
        obtain ⟨a, b⟩ := shown_names h2 q hq
        exact ⟨up _ a, up _ b⟩
    · rw [shown_stop hl] at h
      cases h
  | [], ls, s, r, h => by
    cases ls <;> (rw [shownL] at h; cases h; exact fun q hq => nomatch hq)
  | _ :: _, [], s, r, h => by
    rw [shownL] at h
    cases h
    exact fun q hq => nomatch hq
abbrev recD (zs : List Str) (k : Bool) (ys : List Str) : PyData := .tuple [.tuple (zs.map PyData.str), .str (ltr k), .tuple (ys.map PyData.str)]
theorem RecAt.dp {H : Hp} {r a b : Addr} {zs ys : List Str} {k : Bool} (h : RecAt K H r zs k ys a b) : Dp K H (.ref r) (recD zs k ys) := .tup h.top (.cons (.tup (.inl (.inl h.fore)) (Dp_strs _)) (.cons (.str _) (.cons (.tup h.aft (Dp_strs _)) .nil)))
theorem rec_okd {zs ys : List Str} {k : Bool} (row : NmR zs) (pm : zs.Perm ys) : Okd (recD zs k ys) 2 4000 := by
  have one : ∀ {xs : List Str}, NmR xs → Okd (.tuple (xs.map PyData.str)) 1 1000 := fun {xs} r => (Okd.tup (m := 12) (names_okd r.own) (by rw [List.length_map]; exact r.most)).le (by decide) (by decide)
  refine (Okd.tup (m := 3) (dep := 1) (len := 1000) (fun d hd => ?_) (Nat.le_refl _)).le (by decide) (by decide)
  rcases List.mem_cons.mp hd with e | hd
  · rw [e]
    exact one row
  rcases List.mem_cons.mp hd with e | hd
  · rw [e]
    refine (Okd.str (m := 1) ?_ ?_).le (by decide) (by decide)
    · cases k <;> decide +kernel
    · cases k <;> decide +kernel
  · rw [List.mem_singleton.mp hd]
    exact one (row.perm pm)
end
section
variable {P : Program} {w : World} {K : PySem.W.Frag} {mg : Str → Option Value} {base : Heap}
/-! ### another row after the pass -/
theorem swp {as : List Str} {i j : Nat} (h1 : i < as.length) (h2 : j < as.length) : ((as.set i as[j]).set j as[i]).Perm as := List.set_set_perm h1 h2
theorem ixN_nat {n j : Nat} (h : j < n) : ixN n ((j : Nat) : Int) = some j := by
  unfold ixN
  rw [if_pos (by omega), if_pos (by omega), Int.toNat_natCast]
def backS : V → Str
  | .str z => z
  | _ => Str.ofString ""
theorem perm_strs {ms : List V} {zs : List Str} (h : ms.Perm (zs.map V.str)) : ∃ xs : List Str, ms = xs.map V.str ∧ xs.Perm zs := by
  refine ⟨ms.map backS, ?_, ?_⟩
  · rw [List.map_map]
    conv => lhs; rw [← List.map_id ms]
    refine List.map_congr_left fun v hv => ?_
    obtain ⟨z, _, rfl⟩ := List.mem_map.mp (h.mem_iff.mp hv)
    rfl
  · have e := h.map backS
    rw [List.map_map, show (backS ∘ V.str) = id from rfl, List.map_id] at e
    exact e
abbrev s__law_changed : Stmt := top 31
abbrev N__law_changed : List Str := ["_law_pool_here", "_law_line", "_law_later", "_law_way", "_law_k", "_law_j", "_law_found"]
theorem sc__law_changed : FnScope N__law_changed ["_law_pool_here", "_law_line", "_law_later"] (defScope s__law_changed) := ⟨rfl, rfl, rfl, by decide +kernel, rfl, by decide +kernel, by decide +kernel⟩
def spChg (K : PySem.W.Frag) : Sp := fun vs H Q _ => ∃ (a l b : Addr) (zs ys : List Str), vs = [.ref a, .ref l, .ref b] ∧ Pool H a ∧ l ≠ a ∧ b ≠ a ∧ H l = some (.tup (zs.map V.str)) ∧ H b = some (.tup (ys.map V.str)) ∧ ys.Perm zs ∧ 1 ≤ zs.length ∧ zs.length ≤ 12 ∧
  ∀ (p : Addr) (xs : List Str) (H' : Hp), Kp a H H' → Pool H' a → p ≠ a → H' p = some (.tup (xs.map V.str)) → xs.Perm zs → Q (.ref p) H'
theorem ok_chg (D : Df K mg "_law_changed" s__law_changed) (c__law_draw : Cl P w K mg base 1 "_law_draw" s__law_draw ["_law_pool_here", "_law_count"] spDraw) (c__law_mixed : Cl P w K mg base 2 "_law_mixed" s__law_mixed ["_law_pool_here", "_law_things"] (spShufV K)) (m_len : mg "len" = none) (m_tuple : mg "tuple" = none) (m_list : mg "list" = none) (m_max : mg "max" = none) :
    Cl P w K mg base 3 "_law_changed" s__law_changed ["_law_pool_here", "_law_line", "_law_later"] (spChg K) := by
  refine D.ok sc__law_changed (fun _ _ _ _ _ _ us hl => match us, hl with | [_, _, _], _ => rfl) (fun vs H Q E h => ?_) (fun f cdv A outer s H vs Q E hr h => ?_)
  · obtain ⟨a, l, b, zs, ys, rfl, _⟩ := h
    rfl
  · obtain ⟨a, l, b, zs, ys, rfl, hp, la, ba, hl, hb, pm, z1, z12, q⟩ := h
    refine ⟨_, 
      (pss_cons (ps_par3 (i := 3) (j := 4) (l := 5) (by rfl) sc__law_changed.nd rfl rfl rfl (by decide) (by decide) (by decide) rfl rfl rfl (pa_cons (pe_u c__law_draw hr (by omega) (by rfl) (pa_cons (pv 0) (pa_cons pe_int pa_nil))) (pa_cons (pe_u c__law_draw hr (by omega) (by rfl) (pa_cons (pv 0) (pa_cons (pe_callB call_lenS (by rfl) m_len (by decide +kernel) (pa_cons (pv 1) pa_nil)) pa_nil))) (pa_cons (pe_u c__law_draw hr (by omega) (by rfl) (pa_cons (pv 0) (pa_cons (pe_callB call_lenS (by rfl) m_len (by decide +kernel) (pa_cons (pv 1) pa_nil)) pa_nil))) pa_nil))) (by rfl)) 
      (pss_cons (ps_if (pt_cmpR op_eq (pv 3) pe_int (nomark _)) (pss_one (ps_ret (pe_backT (pv 2)))) pss_nil) 
      (pss_cons (ps_if (pt_cmpR op_eq (pv 3) pe_int (nomark _)) (pss_one (ps_ret (pe_u c__law_mixed hr (by omega) (by rfl) (pa_cons (pv 0) (pa_cons (pv 1) pa_nil))))) pss_nil) 
      (pss_cons (ps_if (pt_cmpR op_eq (pv 3) pe_int (nomark _)) (pss_one (ps_ret (pv 1))) pss_nil) 
      (C8.pss_cut (ps_if (pt_cmpR op_eq (pv 3) pe_int (nomark _)) (pss_one (ps_set (i := 5) sc__law_changed.nd rfl (Or.inl rfl) (pe_callB (call_max2 rfl) (by rfl) m_max (by decide +kernel) (pa_cons pe_int (pa_cons (pe_op op_sub (pv 4) pe_int) pa_nil))))) pss_nil) 
      (pss_cons (ps_set (i := 6) sc__law_changed.nd rfl (Or.inl rfl) (pe_callTy call_list_of (by rfl) m_list (by decide +kernel) (pa_cons (pv 2) pa_nil))) 
      (pss_cons (ps_asg (pe_tup (pa_cons (pe_ix ix_tup (pv 2) (pv 5) (fun _ _ => rfl)) (pa_cons (pe_ix ix_tup (pv 2) (pv 4) (fun _ _ => rfl)) pa_nil))) (pg_tup (by rfl) (pgs_cons (pg_sub (pv 6) (pv 4) set_list) (pgs_cons (pg_sub (pv 6) (pv 5) set_list) pgs_nil)))) 
      (pss_one (ps_ret (pe_callTy call_tuple_of (by rfl) m_tuple (by decide +kernel) (pa_cons (pv 6) pa_nil))))))))))), ?_⟩
    have zl : 1 ≤ ((zs.map V.str).length : Int) ∧ ((zs.map V.str).length : Int) ≤ 12 := by rw [List.length_map]; omega
    refine ⟨_, rfl, a, 6, rfl, by decide, by decide, hp, fun way H1 w0 w1 k1 p1 => ⟨_, rfl, _, rfl, l, _, rfl, .inr (.inl (.inl (k1 _ _ hl la))), a, _, rfl, by omega, by omega, p1, fun k H2 k0 kn k2 p2 => ⟨_, rfl, _, rfl, l, _, rfl, .inr (.inl (.inl (k2 _ _ (k1 _ _ hl la) la))), a, _, rfl, by omega, by omega, p2, fun j H3 j0 jn k3 p3 => ⟨_, _, _, rfl, ?_⟩⟩⟩⟩
    have kk := (k1.trans k2).trans k3
    have hl3 := kk _ _ hl la
    have hb3 := kk _ _ hb ba
    rw [List.length_map] at kn jn
    have yl := pm.length_eq
    obtain ⟨k, rfl⟩ : ∃ n : Nat, k = (n : Nat) := ⟨k.toNat, by omega⟩
    refine ⟨_, rfl, rfl, _, rfl, ite2 (fun e => ?_) (fun e => ?_)⟩
    · refine ⟨_, rfl, b, _, rfl, .inl (.inl hb3), fun p np => ?_⟩
      have pa := p3.ne np
      refine q p ys.reverse _ (kk.trans (.of_same (same_upd np))) (p3.upd pa.symm) pa ?_ (ys.reverse_perm.trans pm)
      rw [upd_same, List.map_reverse]
    refine ⟨_, rfl, rfl, _, rfl, ite2 (fun e => ?_) (fun e => ?_)⟩
    · refine ⟨_, rfl, _, rfl, a, l, _, rfl, la, .inr (.inl (.inl hl3)), by rw [List.length_map]; omega, p3, fun p ms H4 k4 p4 np hm pr => ?_⟩
      obtain ⟨xs, rfl, pr2⟩ := perm_strs pr
      exact q p xs H4 (kk.trans k4) p4 (p3.ne np) hm pr2
    refine ⟨_, rfl, rfl, _, rfl, ite2 (fun e => ?_) (fun e => ?_)⟩
    · exact ⟨_, rfl, q l zs H3 kk p3 la hl3 (.refl _)⟩
    refine ⟨fun σ G => G = H3 ∧ ∃ j : Nat, σ = [some (.ref a), some (.ref l), some (.ref b), some (.int way), some (.int (k : Nat)), some (.int (j : Nat)), none] ∧ j < zs.length, ?_, fun σ G hM => ?_⟩
    · obtain ⟨j, rfl⟩ : ∃ n : Nat, j = (n : Nat) := ⟨j.toNat, by omega⟩
      refine ⟨_, rfl, rfl, _, rfl, ite2 (fun e => ?_) (fun e => ?_)⟩
      · refine ⟨_, rfl, _, _, rfl, rfl, _, _, rfl, rfl, k - 1, ?_, by omega⟩
        rw [show (if ((k : Nat) : Int) - 1 > 0 then ((k : Nat) : Int) - 1 else 0) = ((k - 1 : Nat) : Int) by split <;> omega]
        rfl
      · exact ⟨rfl, j, rfl, by omega⟩
    · obtain ⟨rfl, j, rfl, jn⟩ := hM
      have a1 : atI (ys.map V.str) ((j : Nat) : Int) = some (.str (ys[j]'(by omega))) := atI_nat (by rw [List.getElem?_map, List.getElem?_eq_getElem (by omega)]; rfl)
      have a2 : atI (ys.map V.str) ((k : Nat) : Int) = some (.str (ys[k]'(by omega))) := atI_nat (by rw [List.getElem?_map, List.getElem?_eq_getElem (by omega)]; rfl)
      refine ⟨_, rfl, b, _, rfl, .inr (.inl (.inl hb3)), fun f nf => ?_⟩
      have sf := same_upd (o := .lst (ys.map V.str)) nf
      have hf : upd G f (.lst (ys.map V.str)) f = some (.lst (ys.map V.str)) := upd_same
      have fa := p3.ne nf
      refine ⟨_, rfl, _, rfl, b, _, _, _, rfl, rfl, .inl (.inl (sf _ _ hb3)), a1, _, rfl, _, rfl, b, _, _, _, rfl, rfl, .inl (.inl (sf _ _ hb3)), a2, (by show 2 ≤ sizeLine; decide), fun T nT => ?_⟩
      have sT := same_upd (o := .tup [.str (ys[j]'(by omega)), .str (ys[k]'(by omega))]) nT
      have hfT := sT _ _ hf
      have lny : (ys.map V.str).length = ys.length := List.length_map ..
      refine ⟨T, _, rfl, .inl (.inl upd_same), rfl, _, _, rfl, _, rfl, _, rfl, f, _, _, k, rfl, rfl, hfT, ixN_nat (by omega), _, _, rfl, _, rfl, _, rfl, f, _, _, j, rfl, rfl, upd_same, ixN_nat (by rw [List.length_set]; omega), rfl, ?_⟩
      refine ⟨_, rfl, f, _, rfl, .inl ⟨.inl (.inl upd_same), fun p np => ?_⟩⟩
      have fH := kk.free nf fa
      have k9 := (((kk.trans (.of_same (sf.trans sT))).upd fH (o := .lst ((ys.map V.str).set k (.str (ys[j]'(by omega)))))).upd fH (o := .lst (((ys.map V.str).set k (.str (ys[j]'(by omega)))).set j (.str (ys[k]'(by omega)))))).trans (.of_same (same_upd (o := .tup (((ys.map V.str).set k (.str (ys[j]'(by omega)))).set j (.str (ys[k]'(by omega))))) np))
      have p8 := ((p3.of fun u e => (sf.trans sT) a u e).upd fa.symm (o := .lst ((ys.map V.str).set k (.str (ys[j]'(by omega)))))).upd fa.symm (o := .lst (((ys.map V.str).set k (.str (ys[j]'(by omega)))).set j (.str (ys[k]'(by omega)))))
      have pa := p8.ne np
      refine q p ((ys.set k (ys[j]'(by omega))).set j (ys[k]'(by omega))) _ k9 (p8.upd pa.symm) pa ?_ ((swp _ _).trans pm)
      rw [upd_same, List.map_set, List.map_set]
end
section
/-! ### the alphabetically first order that all comparisons allow -/
def okN (ps : List (Str × Str)) (o : List Str) (x : Str) : Bool := decide (∀ p ∈ ps, p.2 = x → p.1 ∈ o)
/-- again and again the first name whose shorter ones all stand already -/
def goG (ps : List (Str × Str)) : Nat → List Str → List Str → List Str × List Str
  | 0, o, r => (o, r)
  | n + 1, o, r => match r.find? (okN ps o) with
    | none => (o, r)
    | some x => goG ps n (o ++ [x]) (r.erase x)
def fitP (ps : List (Str × Str)) (os : List Str) : Bool := ps.all fun p => rkLt os p.1 p.2
def ordOf (ps : List (Str × Str)) (sr : List Str) : Option (List Str) := if (goG ps sr.length [] sr).2 = [] then some (goG ps sr.length [] sr).1 else none
def Closed (ps : List (Str × Str)) (o : List Str) : Prop := ∀ p ∈ ps, p.2 ∈ o → rkLt o p.1 p.2 = true
theorem rk_pre {o t : List Str} {x y : Str} (hx : x ∈ o) (hy : y ∈ o) : rkLt (o ++ t) x y = rkLt o x y := by
  unfold rkLt
  rw [List.idxOf_append, List.idxOf_append, if_pos hx, if_pos hy]
theorem rk_fresh {o t : List Str} {x y : Str} (hx : x ∈ o) (hy : y ∉ o) : rkLt (o ++ t) x y = true := by
  unfold rkLt
  rw [List.idxOf_append, List.idxOf_append, if_pos hx, if_neg hy]
  have := List.idxOf_lt_length_of_mem hx
  exact decide_eq_true (by omega)
theorem rk_mem {o : List Str} {x y : Str} (h : rkLt o x y = true) (hy : y ∈ o) : x ∈ o := by
  have h := of_decide_eq_true h
  have := List.idxOf_lt_length_of_mem hy
  exact List.idxOf_lt_length_iff.mp (by omega)
theorem Closed.snoc {ps : List (Str × Str)} {o : List Str} {x : Str} (h : Closed ps o) (hx : x ∉ o) (ok : okN ps o x = true) : Closed ps (o ++ [x]) := fun p hp hm => by
  have ok := of_decide_eq_true ok
  rcases List.mem_append.mp hm with m | m
  · have b := h p hp m
    rw [rk_pre (rk_mem b m) m]
    exact b
  · have e := List.mem_singleton.mp m
    exact rk_fresh (ok p hp e) (by rw [e]; exact hx)
theorem split_perm {o r sr : List Str} {x : Str} (h : (o ++ r).Perm sr) (hx : x ∈ r) : ((o ++ [x]) ++ r.erase x).Perm sr := by
  refine List.Perm.trans ?_ h
  rw [List.append_assoc]
  exact (List.perm_cons_erase hx).symm.append_left o
theorem perm_fresh {o r sr : List Str} {x : Str} (h : (o ++ r).Perm sr) (nd : sr.Nodup) (hx : x ∈ r) : x ∉ o := fun m => by
  have := (h.nodup_iff.mpr nd)
  rw [List.nodup_append] at this
  exact this.2.2 x m x hx rfl
/-- where some order fits, there is a free name -/
theorem not_stuck {ps : List (Str × Str)} {o r sr os : List Str} (h : (o ++ r).Perm sr) (pm : os.Perm sr) (names : ∀ p ∈ ps, p.1 ∈ sr) (fit : fitP ps os = true) (ne : r ≠ []) : ∃ x ∈ r, okN ps o x = true := by
  obtain ⟨y, hy⟩ := List.exists_mem_of_ne_nil r ne
  have yo : y ∈ os := pm.mem_iff.mpr (h.mem_iff.mp (List.mem_append_right _ hy))
  cases e : os.find? (fun z => decide (z ∈ r)) with
  | none => exact absurd (decide_eq_true hy) (by simpa using List.find?_eq_none.mp e y yo)
  | some x =>
    obtain ⟨hx, as, bs, eo, hno⟩ := List.find?_eq_some_iff_append.mp e
    have xr := of_decide_eq_true hx
    refine ⟨x, xr, decide_eq_true fun p hp ep => ?_⟩
    have f := of_decide_eq_true (List.all_eq_true.mp fit p hp)
    have xa : x ∉ as := fun m => by
      have := hno x m
      rw [decide_eq_true xr] at this
      cases this
    rw [ep, eo, List.idxOf_append, List.idxOf_append, if_neg xa, List.idxOf_cons_self] at f
    have pa : p.1 ∈ as := Decidable.byContradiction fun n => by
      rw [if_neg n] at f
      omega
    have pr : p.1 ∉ r := fun m => by
      have := hno p.1 pa
      rw [decide_eq_true m] at this
      cases this
    rcases List.mem_append.mp (h.mem_iff.mpr (names p hp)) with m | m
    · exact m
    · exact absurd m pr
theorem goG_full {ps : List (Str × Str)} {sr os : List Str} (pm : os.Perm sr) (names : ∀ p ∈ ps, p.1 ∈ sr) (fit : fitP ps os = true) : ∀ {n : Nat} {o r : List Str}, (o ++ r).Perm sr → r.length = n → (goG ps n o r).2 = []
  | 0, o, r, _, hn => List.length_eq_zero_iff.mp hn
  | n + 1, o, r, h, hn => by
    have ne : r ≠ [] := fun e => by rw [e] at hn; cases hn
    obtain ⟨x, hx, okx⟩ := not_stuck h pm names fit ne
    rw [goG]
    cases e : r.find? (okN ps o) with
    | none => exact absurd okx (by simpa using List.find?_eq_none.mp e x hx)
    | some y =>
      have my := List.mem_of_find?_eq_some e
      have l := List.length_erase_of_mem my
      exact goG_full pm names fit (split_perm h my) (by omega)
theorem goG_closed {ps : List (Str × Str)} {sr : List Str} (nd : sr.Nodup) : ∀ {n : Nat} {o r : List Str}, (o ++ r).Perm sr → Closed ps o → ((goG ps n o r).1 ++ (goG ps n o r).2).Perm sr ∧ Closed ps (goG ps n o r).1
  | 0, o, r, h, c => ⟨h, c⟩
  | n + 1, o, r, h, c => by
    rw [goG]
    cases e : r.find? (okN ps o) with
    | none => exact ⟨h, c⟩
    | some y =>
      have my := List.mem_of_find?_eq_some e
      exact goG_closed nd (split_perm h my) (c.snoc (perm_fresh h nd my) (List.find?_some e))
theorem ord_fits {ps : List (Str × Str)} {sr os : List Str} (nd : sr.Nodup) (names : ∀ p ∈ ps, p.2 ∈ sr) (h : ordOf ps sr = some os) : os.Perm sr ∧ fitP ps os = true := by
  unfold ordOf at h
  split at h
  · rename_i e
    cases h
    obtain ⟨p, c⟩ := goG_closed (ps := ps) nd (n := sr.length) (o := []) (r := sr) (.refl _) (fun p _ m => nomatch m)
    rw [e, List.append_nil] at p
    exact ⟨p, List.all_eq_true.mpr fun q hq => c q hq (p.mem_iff.mpr (names q hq))⟩
  · cases h
/-! #### among all orders -/
def dfsL (sr : List Str) : Nat → List Str → List (List Str)
  | 0, o => [o]
  | k + 1, o => (nextL sr o).flatMap (dfsL sr k)
theorem lvl_dfs' (sr : List Str) : ∀ k j, (lvlL sr j).flatMap (dfsL sr k) = lvlL sr (j + k)
  | 0, j => by
    show (lvlL sr j).flatMap (fun o => [o]) = _
    rw [List.flatMap_singleton']
    rfl
  | k + 1, j => by
    have ih := lvl_dfs' sr k (j + 1)
    rw [lvlL, List.flatMap_assoc] at ih
    rw [show j + (k + 1) = j + 1 + k by omega, ← ih]
    rfl
theorem lvl_dfs (sr : List Str) (k : Nat) : lvlL sr k = dfsL sr k [] := by
  have h := lvl_dfs' sr k 0
  rw [Nat.zero_add] at h
  rw [← h, lvlL, List.flatMap_cons, List.flatMap_nil, List.append_nil]
theorem dfs_pre {sr : List Str} : ∀ {k : Nat} {l os : List Str}, os ∈ dfsL sr k l → ∃ t, os = l ++ t
  | 0, l, os, h => ⟨[], by rw [List.append_nil]; exact List.mem_singleton.mp h⟩
  | k + 1, l, os, h => by
    obtain ⟨m, hm, ho⟩ := List.mem_flatMap.mp h
    obtain ⟨x, _, rfl⟩ := List.mem_map.mp hm
    obtain ⟨t, rfl⟩ := dfs_pre ho
    exact ⟨[x] ++ t, by rw [List.append_assoc]⟩
theorem dfs_bad {ps : List (Str × Str)} {sr : List Str} {k : Nat} {o : List Str} {a : Str} (ha : a ∉ o) (bad : okN ps o a = false) : (dfsL sr k (o ++ [a])).find? (fitP ps) = none := by
  refine List.find?_eq_none.mpr fun os hos => ?_
  obtain ⟨t, rfl⟩ := dfs_pre hos
  have bad := of_decide_eq_false bad
  rw [Bool.not_eq_true]
  refine Bool.eq_false_iff.mpr fun fit => bad fun p hp ep => Decidable.byContradiction fun n => ?_
  have f := of_decide_eq_true (List.all_eq_true.mp fit p hp)
  rw [ep, List.append_assoc, List.idxOf_append (a := p.1), List.idxOf_append (a := a), if_neg n, if_neg ha] at f
  rw [show ([a] ++ t).idxOf a = 0 from List.idxOf_cons_self] at f
  omega
theorem dfs_first {ps : List (Str × Str)} {sr : List Str} (nd : sr.Nodup) (names : ∀ p ∈ ps, p.2 ∈ sr) : ∀ {k : Nat} {o : List Str}, Closed ps o → (o ++ sr.filter fun x => decide (x ∉ o)).Perm sr → (sr.filter fun x => decide (x ∉ o)).length = k →
    (goG ps k o (sr.filter fun x => decide (x ∉ o))).2 = [] → (dfsL sr k o).find? (fitP ps) = some (goG ps k o (sr.filter fun x => decide (x ∉ o))).1
  | 0, o, c, pm, hk, _ => by
    have e := List.length_eq_zero_iff.mp hk
    rw [e, List.append_nil] at pm
    have f : fitP ps o = true := List.all_eq_true.mpr fun q hq => c q hq (pm.mem_iff.mpr (names q hq))
    show [o].find? _ = some o
    rw [List.find?_cons, f]
  | k + 1, o, c, pm, hk, hg => by
    generalize hr : (sr.filter fun x => decide (x ∉ o)) = r at pm hk hg ⊢
    rw [goG] at hg ⊢
    cases e : r.find? (okN ps o) with
    | none =>
      rw [e] at hg
      have hg : r = [] := hg
      rw [hg] at hk
      cases hk
    | some x =>
      rw [e] at hg
      have hg : (goG ps k (o ++ [x]) (r.erase x)).2 = [] := hg
      obtain ⟨hx, as, bs, er, hno⟩ := List.find?_eq_some_iff_append.mp e
      have mx := List.mem_of_find?_eq_some e
      have xo := perm_fresh pm nd mx
      have ndr : r.Nodup := by rw [← hr]; exact nd.filter _
      have ef : (sr.filter fun y => decide (y ∉ o ++ [x])) = r.erase x := by
        rw [ndr.erase_eq_filter, ← hr, List.filter_filter]
        refine List.filter_congr fun y _ => ?_
        by_cases h1 : y ∈ o <;> by_cases h2 : y = x <;> simp [h1, h2]
      have l := List.length_erase_of_mem mx
      have ih := dfs_first nd names (k := k) (o := o ++ [x]) (c.snoc xo hx) (by rw [ef]; exact split_perm pm mx) (by rw [ef]; omega) (by rw [ef]; exact hg)
      rw [ef] at ih
      show ((nextL sr o).flatMap (dfsL sr k)).find? _ = some (goG ps k (o ++ [x]) (r.erase x)).1
      generalize goG ps k (o ++ [x]) (r.erase x) = g at ih ⊢
      unfold nextL
      rw [hr, er, List.map_append, List.map_cons, List.flatMap_append, List.flatMap_cons, List.find?_append, List.find?_append, ih]
      have none1 : ((as.map fun y => o ++ [y]).flatMap (dfsL sr k)).find? (fitP ps) = none := by
        refine List.find?_eq_none.mpr fun os hos => ?_
        obtain ⟨m, hm, ho⟩ := List.mem_flatMap.mp hos
        obtain ⟨a, ha, rfl⟩ := List.mem_map.mp hm
        have b : okN ps o a = false := by simpa using hno a ha
        have ao : a ∉ o := perm_fresh pm nd (by rw [er]; exact List.mem_append_left _ ha)
        exact List.find?_eq_none.mp (dfs_bad ao b) os ho
      rw [none1]
      rfl
theorem first_fit {ps : List (Str × Str)} {sr : List Str} (nd : sr.Nodup) (names : ∀ p ∈ ps, p.1 ∈ sr ∧ p.2 ∈ sr) : (lvlL sr sr.length).find? (fitP ps) = ordOf ps sr := by
  have e0 : (sr.filter fun x => decide (x ∉ ([] : List Str))) = sr := List.filter_eq_self.mpr fun x _ => by simp
  unfold ordOf
  by_cases h : (goG ps sr.length [] sr).2 = []
  · rw [if_pos h, lvl_dfs]
    have := dfs_first (ps := ps) nd (fun p hp => (names p hp).2) (k := sr.length) (o := []) (fun p _ m => nomatch m) (by rw [e0]; exact .refl _) (by rw [e0]) (by rw [e0]; exact h)
    rw [e0] at this
    exact this
  · rw [if_neg h]
    refine List.find?_eq_none.mpr fun os hos => ?_
    rw [Bool.not_eq_true]
    refine Bool.eq_false_iff.mpr fun fit => h ?_
    obtain ⟨h1, h2, h3⟩ := lvl_mem.mp hos
    have pm : os.Perm sr := (List.perm_ext_iff_of_nodup h2 nd).mpr fun x => ⟨h3 x, all_in h2 (by omega) h3 x⟩
    exact goG_full pm (fun p hp => (names p hp).1) fit (n := sr.length) (o := []) (r := sr) (.refl _) rfl
/-! #### records -/
structure Rc where
  k : Bool
  z : Str
  zs : List Str
  ys : List Str
def allP : List Rc → Option (List (Str × Str))
  | [] => some []
  | q :: rs => (shownL q.k q.z q.zs q.ys).bind fun a => (allP rs).map (a ++ ·)
def fitR (rs : List Rc) (os : List Str) : Bool := rs.all fun q => decide (goneL q.k (rkLt os) q.z q.zs = q.ys)
def firstO (rs : List Rc) (sr : List Str) : Option (List Str) := match allP rs with
  | none => none
  | some ps => ordOf ps sr
theorem rk_asym {os : List Str} {x y : Str} (h : rkLt os x y = true) : rkLt os y x = false := decide_eq_false (by have := of_decide_eq_true h; omega)
theorem rk_tot {os : List Str} {x y : Str} (hx : x ∈ os) (ne : x ≠ y) (h : rkLt os x y = false) : rkLt os y x = true := by
  refine decide_eq_true ?_
  have h := of_decide_eq_false h
  have : os.idxOf x ≠ os.idxOf y := fun e => ne (by
    have lt := List.idxOf_lt_length_of_mem hx
    have a := List.getElem_idxOf lt
    have lt2 : os.idxOf y < os.length := by omega
    have b := List.getElem_idxOf lt2
    rw [← a, ← b]
    congr 1)
  omega
/-- what a pass by an order tells stands in this order -/
theorem told_rk {t : Bool} {os : List Str} : ∀ {ps : List Str} {s : Str}, (s :: ps).Nodup → (∀ x ∈ s :: ps, x ∈ os) → ∀ q ∈ toldL t (rkLt os) s ps, rkLt os q.1 q.2 = true
  | [], s, _, _, q, hq => nomatch hq
  | p :: ps, s, nd, sub, q, hq => by
    obtain ⟨n1, n2⟩ := List.nodup_cons.mp nd
    obtain ⟨n3, n4⟩ := List.nodup_cons.mp n2
    have ne : s ≠ p := fun e => n1 (e ▸ List.mem_cons_self)
    have ns : s ∉ ps := fun m => n1 (List.mem_cons_of_mem _ m)
    have k4 : stN t (rkLt os) s p = s ∨ stN t (rkLt os) s p = p := by
      unfold stN lowS highS
      cases t <;> cases rkLt os s p <;> simp
    rw [toldL] at hq
    rcases List.mem_cons.mp hq with e | hq
    · rw [e]
      unfold lowS highS
      cases h : rkLt os s p with
      | true => exact h
      | false => exact rk_tot (sub s List.mem_cons_self) ne h
    · refine told_rk (s := stN t (rkLt os) s p) (ps := ps) ?_ ?_ q hq
      · rcases k4 with e | e
        · rw [e]
          exact List.nodup_cons.mpr ⟨ns, n4⟩
        · rw [e]
          exact n2
      · intro x hx
        rcases List.mem_cons.mp hx with e | hx
        · rw [e]
          rcases k4 with e | e
          · rw [e]
            exact sub s List.mem_cons_self
          · rw [e]
            exact sub p (List.mem_cons_of_mem _ List.mem_cons_self)
        · exact sub x (List.mem_cons_of_mem _ (List.mem_cons_of_mem _ hx))
/-- what stands so in an order goes so -/
theorem gone_rk {t : Bool} {os : List Str} : ∀ {ps ls : List Str} {s : Str} {prs : List (Str × Str)}, shownL t s ps ls = some prs → ls.Perm (s :: ps) → (s :: ps).Nodup → (∀ q ∈ prs, rkLt os q.1 q.2 = true) → goneL t (rkLt os) s ps = ls
  | [], ls, s, prs, h, pm, nd, all => by
    rw [goneL]
    exact (List.perm_singleton.mp pm).symm
  | p :: ps, [], s, prs, h, pm, nd, all => by cases pm.length_eq
  | p :: ps, l :: ls, s, prs, h, pm, nd, all => by
    obtain ⟨n1, n2⟩ := List.nodup_cons.mp nd
    obtain ⟨n3, n4⟩ := List.nodup_cons.mp n2
    have ne : s ≠ p := fun e => n1 (e ▸ List.mem_cons_self)
    have ns : s ∉ ps := fun m => n1 (List.mem_cons_of_mem _ m)
    have hl : l = p ∨ l = s := Decidable.byContradiction fun z => by rw [shown_stop z] at h; cases h
    rw [shown_step hl] at h
    obtain ⟨r, hr, e⟩ := Option.map_eq_some_iff.mp h
    have pm2 : ls.Perm (stayN s p l :: ps) ∧ (stayN s p l :: ps).Nodup := by
      unfold stayN
      rcases hl with e | e
      · subst e
        rw [if_pos rfl]
        exact ⟨(pm.trans (List.Perm.swap ..)).cons_inv, List.nodup_cons.mpr ⟨ns, n4⟩⟩
      · subst e
        rw [if_neg ne]
        exact ⟨pm.cons_inv, n2⟩
    have ih := gone_rk (os := os) hr pm2.1 pm2.2 fun q hq => all q (by rw [← e]; exact List.mem_cons_of_mem _ hq)
    have b := all (pairN t l (stayN s p l)) (by rw [← e]; exact List.mem_cons_self)
    rw [goneL]
    have k : goN t (rkLt os) s p = l ∧ stN t (rkLt os) s p = stayN s p l := by
      have asym : ∀ x y, rkLt os x y = true → rkLt os y x = false := fun x y => rk_asym
      unfold stayN goN stN lowS highS
      unfold pairN stayN at b
      rcases hl with e | e <;> subst e <;> cases t <;> simp [ne, ne.symm] at b ⊢ <;> simp [b, asym _ _ b, ne, ne.symm]
    rw [k.1, k.2, ih]
structure RcOk (sr : List Str) (q : Rc) : Prop where
  fore : (q.z :: q.zs).Perm sr
  aft : q.ys.Perm (q.z :: q.zs)
theorem fit_all {sr os : List Str} (nd : sr.Nodup) (pm : os.Perm sr) : ∀ {rs : List Rc}, (∀ q ∈ rs, RcOk sr q) → fitR rs os = match allP rs with | none => false | some ps => fitP ps os
  | [], _ => rfl
  | q :: rs, h => by
    have ih := fit_all nd pm (rs := rs) fun q hq => h q (List.mem_cons_of_mem _ hq)
    have hq := h q List.mem_cons_self
    have ndq : (q.z :: q.zs).Nodup := hq.fore.nodup_iff.mpr nd
    have sub : ∀ x ∈ q.z :: q.zs, x ∈ os := fun x hx => pm.mem_iff.mpr (hq.fore.mem_iff.mp hx)
    have gs := gone_shown q.k (rkLt os) ndq
    unfold fitR at ih ⊢
    rw [List.all_cons, ih, allP]
    cases e : shownL q.k q.z q.zs q.ys with
    | none =>
      have no : ¬ goneL q.k (rkLt os) q.z q.zs = q.ys := fun z => by rw [z, e] at gs; cases gs
      rw [decide_eq_false no]
      rfl
    | some a =>
      have one : decide (goneL q.k (rkLt os) q.z q.zs = q.ys) = a.all fun p => rkLt os p.1 p.2 := by
        by_cases z : goneL q.k (rkLt os) q.z q.zs = q.ys
        · rw [decide_eq_true z]
          rw [z, e] at gs
          have ea := Option.some.inj gs
          refine (List.all_eq_true.mpr fun p hp => ?_).symm
          rw [ea] at hp
          exact told_rk ndq sub p hp
        · rw [decide_eq_false z]
          refine (Bool.eq_false_iff.mpr fun al => z ?_).symm
          exact gone_rk e hq.aft ndq fun p hp => List.all_eq_true.mp al p hp
      rw [one]
      cases allP rs with
      | none => simp
      | some ps =>
        show (_ && fitP ps os) = fitP (a ++ ps) os
        unfold fitP
        rw [List.all_append]
theorem allP_names {sr : List Str} : ∀ {rs : List Rc} {ps : List (Str × Str)}, (∀ q ∈ rs, RcOk sr q) → allP rs = some ps → ∀ p ∈ ps, p.1 ∈ sr ∧ p.2 ∈ sr
  | [], ps, _, e => by
    cases e
    exact fun p hp => nomatch hp
  | q :: rs, ps, h, e => by
    rw [allP] at e
    obtain ⟨a, ea, e⟩ := Option.bind_eq_some_iff.mp e
    obtain ⟨b, eb, rfl⟩ := Option.map_eq_some_iff.mp e
    have hq := h q List.mem_cons_self
    intro p hp
    rcases List.mem_append.mp hp with m | m
    · obtain ⟨h1, h2⟩ := shown_names ea p m
      exact ⟨hq.fore.mem_iff.mp h1, hq.fore.mem_iff.mp h2⟩
    · exact allP_names (fun q hq => h q (List.mem_cons_of_mem _ hq)) eb p m
/-- the first of all orders that fits all records -/
theorem first_of_all {sr : List Str} {rs : List Rc} (nd : sr.Nodup) (h : ∀ q ∈ rs, RcOk sr q) : (lvlL sr sr.length).find? (fitR rs) = firstO rs sr := by
  have e : ∀ os ∈ lvlL sr sr.length, fitR rs os = match allP rs with | none => false | some ps => fitP ps os := fun os hos => by
    obtain ⟨h1, h2, h3⟩ := lvl_mem.mp hos
    exact fit_all nd ((List.perm_ext_iff_of_nodup h2 nd).mpr fun x => ⟨h3 x, all_in h2 (by omega) h3 x⟩) h
  unfold firstO
  cases ea : allP rs with
  | none =>
    refine List.find?_eq_none.mpr fun os hos => ?_
    rw [e os hos, ea]
    exact Bool.false_ne_true
  | some ps =>
    show _ = ordOf ps sr
    rw [← first_fit nd (allP_names h ea)]
    refine find_congr fun os hos => ?_
    rw [e os hos, ea]
where
  find_congr {α : Type} {p q : α → Bool} : ∀ {l : List α}, (∀ x ∈ l, p x = q x) → l.find? p = l.find? q
    | [], _ => rfl
    | x :: l, h => by
      rw [List.find?_cons, List.find?_cons, h x List.mem_cons_self, find_congr fun y hy => h y (List.mem_cons_of_mem _ hy)]
/-- what fits: the order found goes as all records tell -/
theorem firstO_fits {sr os : List Str} {rs : List Rc} (nd : sr.Nodup) (h : ∀ q ∈ rs, RcOk sr q) (e : firstO rs sr = some os) : os.Perm sr ∧ fitR rs os = true := by
  unfold firstO at e
  cases ea : allP rs with
  | none =>
    rw [ea] at e
    cases e
  | some ps =>
    rw [ea] at e
    obtain ⟨p, f⟩ := ord_fits nd (fun p hp => (allP_names h ea p hp).2) e
    exact ⟨p, by rw [fit_all nd p h, ea]; exact f⟩
end
section
variable {P : Program} {w : World} {K : PySem.W.Frag} {mg : Str → Option Value} {base : Heap}
/-! ### records, checked -/
abbrev s_may_be_records : Stmt := top 12
abbrev N_may_be_records : List Str := ["value"]
theorem sc_may_be_records : FnScope N_may_be_records ["value"] (defScope s_may_be_records) := ⟨rfl, rfl, rfl, by decide +kernel, rfl, by decide +kernel, by decide +kernel⟩
def spMayR (K : PySem.W.Frag) : Sp := fun vs H Q _ => ∃ (r : Addr) (xs : List V), vs = [.ref r] ∧ SqT K H r xs ∧ 1 ≤ xs.length ∧ xs.length ≤ 20 ∧ ∀ H', Same H H' → Q (.bl true) H'
theorem ok_mayr (D : Df K mg "may_be_records" s_may_be_records) (m_isinstance : mg "isinstance" = none) (m_tuple : mg "tuple" = none) (m_len : mg "len" = none) {tg : Tok} (g_MOST_RECORDS : mg "MOST_RECORDS" = some (.int 20 tg)) :
    Cl P w K mg base 1 "may_be_records" s_may_be_records ["value"] (spMayR K) := by
  refine D.ok sc_may_be_records (fun _ _ _ _ _ _ us hl => match us, hl with | [_], _ => rfl) (fun vs H Q E h => ?_) (fun f cdv A outer s H vs Q E hr h => ?_)
  · obtain ⟨r, xs, rfl, _⟩ := h
    rfl
  · obtain ⟨r, xs, rfl, hS, h1, h2, q⟩ := h
    refine ⟨_, 
      (pss_one (ps_ret (pe_and (pe_callB call_isi (by rfl) m_isinstance (by decide +kernel) (pa_cons (pv 0) (pa_cons (pe_bltn (v := .ty "tuple") (by rfl) m_tuple (by decide +kernel) rfl) pa_nil))) (pe_one (pe_chain op_le op_le pe_int (pe_callB call_lenS (by rfl) m_len (by decide +kernel) (pa_cons (pv 0) pa_nil)) (pe_glob (v := .int 20) (by rfl) g_MOST_RECORDS ⟨_, rfl⟩)))))), ?_⟩
    refine ⟨_, rfl, .ref r, .ty "tuple", .type "tuple", .type "tuple", _, rfl, .ty _, (Tv.tup hS).ty, kit_tuple (Tv.tup hS).mem, _, rfl, iteT ?_⟩
    refine ⟨_, rfl, r, _, rfl, .inr hS, _, _, rfl, rfl, _, rfl, ?_⟩
    rw [show decide ((1 : Int) ≤ ((xs.length : Nat) : Int)) = true from decide_eq_true (by omega)]
    refine iteT ⟨_, _, rfl, rfl, ?_⟩
    show Q (.bl (decide (((xs.length : Nat) : Int) ≤ (20 : Int)))) H
    rw [show decide (((xs.length : Nat) : Int) ≤ (20 : Int)) = true from decide_eq_true (by omega)]
    exact q _ (Same.refl H)
/-- a part of what is checked: it is right, its first part is a row of these names -/
def Rightly (K : PySem.W.Frag) (sp : Sp) (H : Hp) (sr : List Str) (x : V) : Prop := (∃ (r a : Addr) (rest : List V) (zs : List Str), x = .ref r ∧ SqT K H r (.ref a :: rest) ∧ SqT K H a (zs.map V.str) ∧ NmR zs ∧ sortS zs = sr) ∧ ∀ H' (Q : VK), Same H H' → (∀ H'', Same H' H'' → Q (.bl true) H'') → sp [x] H' Q E0
abbrev s_wrong_record : Stmt := top 13
abbrev N_wrong_record : List Str := ["records", "is_right", "index", "record"]
theorem sc_wrong_record : FnScope N_wrong_record ["records", "is_right"] (defScope s_wrong_record) := ⟨rfl, rfl, rfl, by decide +kernel, rfl, by decide +kernel, by decide +kernel⟩
def spWrongR (K : PySem.W.Frag) (f : Addr) (sp : Sp) : Sp := fun vs H Q _ => ∃ (r : Addr) (xs : List V) (sr : List Str), vs = [.ref r, .ref f] ∧ SqT K H r xs ∧ (∀ x ∈ xs, Rightly K sp H sr x) ∧ ∀ H', Same H H' → Q .non H'
theorem ok_wrongr {k : Nat} {y : Str} {st : Stmt} {ps : List Str} {sp : Sp} {fa : Addr} (c_r : Cl P w K mg base k y st ps sp) (g_r : mg y = some (.ref fa)) (k4 : k ≤ 4) (D : Df K mg "wrong_record" s_wrong_record) (m_enumerate : mg "enumerate" = none) (m_sorted : mg "sorted" = none) :
    Cl P w K mg base 5 "wrong_record" s_wrong_record ["records", "is_right"] (spWrongR K fa sp) := by
  refine D.ok sc_wrong_record (fun _ _ _ _ _ _ us hl => match us, hl with | [_, _], _ => rfl) (fun vs H Q E h => ?_) (fun f cdv A outer s H vs Q E hr h => ?_)
  · obtain ⟨r, xs, sr, rfl, _⟩ := h
    rfl
  · obtain ⟨r, xs, sr, rfl, hS, all, q⟩ := h
    refine ⟨_, 
      (pss_cons (ps_for PassesOwn.never rfl (pi_enumT (by rfl) m_enumerate (pa_cons (pv 0) pa_nil)) (pg_tup (by rfl) (pgs_cons (pg_name (i := 2) sc_wrong_record.nd rfl (Or.inl rfl)) (pgs_cons (pg_name (i := 3) sc_wrong_record.nd rfl (Or.inl rfl)) pgs_nil))) (pss_one (ps_if (PW.pt (pw_or (pt_not (pt_val (pe_v c_r g_r hr (by omega) (pv 1) (pa_cons (pv 3) pa_nil)))) (pw_or1 (pt_cmpR (op_neD hr.units) (pe_callB (cr_sortTx hr.units) (by rfl) m_sorted (by decide +kernel) (pa_cons (pe_ix ix_tup (pv 3) pe_int (fun _ _ => rfl)) pa_nil)) (pe_callB (cr_sortTx hr.units) (by rfl) m_sorted (by decide +kernel) (pa_cons (pe_ix ix_tup (pe_ix ix_tup (pv 0) pe_int (fun _ _ => rfl)) pe_int (fun _ _ => rfl)) pa_nil)) (nomark _))))) (pss_one (ps_ret (pv 2))) pss_nil))) 
      (pss_one (ps_ret pe_non))), ?_⟩
    refine ⟨_, rfl, r, xs, rfl, hS, ?_⟩
    refine walk_enumT (xs := xs) (fun i σ G => ∃ y2 y3 : Option V, σ = [some (.ref r), some (.ref fa), y2, y3] ∧ Same H G) ⟨none, none, rfl, Same.refl H⟩ (fun i σ G _ hI => ?_) (fun i x T σ G hx hI nT => ?_) (fun σ G hI => ?_)
    · obtain ⟨_, _, _, sG⟩ := hI
      exact SqT.same sG hS
    · obtain ⟨y2, y3, rfl, sG⟩ := hI
      obtain ⟨⟨p, a, rest, zs, rfl, hp, ha, nm, es⟩, right⟩ := all x (List.mem_of_getElem? hx)
      have l0 : 0 < xs.length := by have := (List.getElem?_eq_some_iff.mp hx).1; omega
      obtain ⟨⟨p0, a0, rest0, zs0, e0, hp0, ha0, nm0, es0⟩, _⟩ := all xs[0] (List.getElem_mem l0)
      have sT := sG.trans (same_upd (o := .tup [.int (i : Nat), .ref p]) nT)
      have hT : upd G T (.tup [.int (i : Nat), .ref p]) T = some (.tup [.int (i : Nat), .ref p]) := upd_same
      generalize upd G T (.tup [.int (i : Nat), .ref p]) = G1 at sT hT ⊢
      refine ⟨T, _, rfl, .inl (.inl hT), rfl, _, _, rfl, _, _, rfl, rfl, ?_⟩
      refine ⟨rfl, _, rfl, right _ _ sT fun G2 s2 => ⟨true, rfl, iteF ?_⟩⟩
      have sG2 := sT.trans s2
      refine ⟨_, rfl, p, _, 0, .ref a, rfl, rfl, SqT.same sG2 hp, atI_nat (j := 0) rfl, a, zs, rfl, SqT.same sG2 ha, by have := nm.most; omega, fun l nl => ?_⟩
      have sl := same_upd (o := .lst ((sortS zs).map V.str)) nl
      have hl : upd G2 l (.lst ((sortS zs).map V.str)) l = some (.lst ((sortS zs).map V.str)) := upd_same
      have sG3 := sG2.trans sl
      generalize upd G2 l (.lst ((sortS zs).map V.str)) = G3 at sl hl sG3 ⊢
      refine ⟨_, rfl, r, _, 0, .ref p0, rfl, rfl, SqT.same sG3 hS, atI_nat (j := 0) (by rw [List.getElem?_eq_getElem l0, e0]), p0, _, 0, .ref a0, rfl, rfl, SqT.same sG3 hp0, atI_nat (j := 0) rfl, a0, zs0, rfl, SqT.same sG3 ha0, by have := nm0.most; omega, fun l2 nl2 => ?_⟩
      have sl2 := same_upd (o := .lst ((sortS zs0).map V.str)) nl2
      have ok : Okd (.list ((sortS zs).map PyData.str)) 1 1000 := (Okd.lst (m := 12) (names_okd fun z hz => nm.own z ((sortS_perm zs).mem_iff.mp hz)) (by rw [List.length_map, (sortS_perm zs).length_eq]; exact nm.most)).le (by decide) (by decide)
      have hl2 : upd G3 l2 (.lst ((sortS zs0).map V.str)) l2 = some (.lst ((sortS zs).map V.str)) := by rw [es, ← es0]; exact upd_same
      refine ⟨_, _, .lst (.inl (.inl (sl2 _ _ hl))) (Dp_strs _), .lst (.inl (.inl hl2)) (Dp_strs _), ok.shaped (by decide), ok.shaped (by decide), _, rfl, ?_⟩
      rw [ok.same]
      exact iteF ⟨_, _, rfl, sG3.trans sl2⟩
    · obtain ⟨y2, y3, rfl, sG⟩ := hI
      exact q _ sG
abbrev s_check_all_right : Stmt := top 16
abbrev N_check_all_right : List Str := ["records", "is_right", "index"]
theorem sc_check_all_right : FnScope N_check_all_right ["records", "is_right"] (defScope s_check_all_right) := ⟨rfl, rfl, rfl, by decide +kernel, rfl, by decide +kernel, by decide +kernel⟩
def spAllR (K : PySem.W.Frag) (f : Addr) (sp : Sp) : Sp := fun vs H Q _ => ∃ (r : Addr) (xs : List V) (sr : List Str), vs = [.ref r, .ref f] ∧ SqT K H r xs ∧ 1 ≤ xs.length ∧ xs.length ≤ 20 ∧ (∀ x ∈ xs, Rightly K sp H sr x) ∧ ∀ H', Same H H' → Q .non H'
theorem Rightly.same {sp : Sp} {H G : Hp} {sr : List Str} {x : V} (s : Same H G) (h : Rightly K sp H sr x) : Rightly K sp G sr x := by
  obtain ⟨⟨r, a, rest, zs, e, h1, h2, h3, h4⟩, right⟩ := h
  exact ⟨⟨r, a, rest, zs, e, SqT.same s h1, SqT.same s h2, h3, h4⟩, fun H' Q s' q => right H' Q (s.trans s') q⟩
theorem ok_allr {sp : Sp} {fa : Addr} (D : Df K mg "check_all_right" s_check_all_right) (c_may_be_records : Cl P w K mg base 1 "may_be_records" s_may_be_records ["value"] (spMayR K)) (c_wrong_record : Cl P w K mg base 5 "wrong_record" s_wrong_record ["records", "is_right"] (spWrongR K fa sp)) :
    Cl P w K mg base 6 "check_all_right" s_check_all_right ["records", "is_right"] (spAllR K fa sp) := by
  refine D.ok sc_check_all_right (fun _ _ _ _ _ _ us hl => match us, hl with | [_, _], _ => rfl) (fun vs H Q E h => ?_) (fun f cdv A outer s H vs Q E hr h => ?_)
  · obtain ⟨r, xs, sr, rfl, _⟩ := h
    rfl
  · obtain ⟨r, xs, sr, rfl, hS, h1, h2, all, q⟩ := h
    refine ⟨_, 
      (pss_cons (ps_if (pt_not (pt_val (pe_u c_may_be_records hr (by omega) (by rfl) (pa_cons (pv 0) pa_nil)))) (pss_one ps_never) pss_nil) 
      (pss_cons (ps_set (i := 2) sc_check_all_right.nd rfl (Or.inl rfl) (pe_u c_wrong_record hr (by omega) (by rfl) (pa_cons (pv 0) (pa_cons (pv 1) pa_nil)))) 
      (pss_one (ps_if (pt_cmpR op_notN (pv 2) pe_non (nomark _)) (pss_one ps_never) pss_nil)))), ?_⟩
    refine ⟨_, rfl, r, xs, rfl, hS, h1, h2, fun H1 s1 => ⟨true, rfl, iteF ?_⟩⟩
    refine ⟨_, rfl, _, rfl, r, xs, sr, rfl, SqT.same s1 hS, fun x hx => (all x hx).same s1, fun H2 s2 => ⟨_, rfl, rfl, _, rfl, ?_⟩⟩
    rw [decide_eq_true rfl]
    exact iteF (q _ (s1.trans s2))
end
section
variable {P : Program} {w : World} {K : PySem.W.Frag} {mg : Str → Option Value} {base : Heap}
/-! ### the records of the law -/
def RcAt (K : PySem.W.Frag) (H : Hp) (r : Addr) (q : Rc) : Prop := ∃ a b : Addr, RecAt K H r (q.z :: q.zs) q.k q.ys a b
abbrev RcsAt (K : PySem.W.Frag) (H : Hp) (rs : List Addr) (qs : List Rc) : Prop := Each (RcAt K H) rs qs
theorem RcAt.same {H G : Hp} {r : Addr} {q : Rc} (s : Same H G) (h : RcAt K H r q) : RcAt K G r q := by
  obtain ⟨a, b, h⟩ := h
  exact ⟨a, b, h.same s⟩
theorem RcsAt.same {H G : Hp} {rs : List Addr} {qs : List Rc} (s : Same H G) (h : RcsAt K H rs qs) : RcsAt K G rs qs := h.imp fun _ _ _ e => RcAt.same s e
/-- records of the names sr (sorted) -/
structure RcOn (sr : List Str) (q : Rc) : Prop where
  row : NmR (q.z :: q.zs)
  srt : sortS (q.z :: q.zs) = sr
  aft : (q.z :: q.zs).Perm q.ys
theorem RcOn.ok {sr : List Str} {q : Rc} (h : RcOn sr q) : RcOk sr q := ⟨by rw [← h.srt]; exact (sortS_perm _).symm, h.aft.symm⟩
end
section
variable {P : Program} {w : World} {K : PySem.W.Frag} {mg : Str → Option Value} {base : Heap}
/-! ### who is known to be shorter -/
abbrev kvT (ls : List Str) : List (Key × V) := ls.map fun l => (Sum.inr l, .bl true)
abbrev addT (ls : List Str) (l : Str) : List Str := if l ∈ ls then ls else ls ++ [l]
theorem put_kvT (ls : List Str) (l : Str) : putK (kvT ls) (Sum.inr l) (.bl true) = kvT (addT ls l) := by
  unfold putK
  have any : ((kvT ls).any fun kv => decide (kv.1 = Sum.inr l)) = decide (l ∈ ls) := by
    induction ls with
    | nil => rfl
    | cons a ls ih =>
      show (decide ((Sum.inr a : Key) = Sum.inr l) || (kvT ls).any fun kv => decide (kv.1 = Sum.inr l)) = _
      rw [ih]
      by_cases e : a = l
      · subst e
        simp
      · simp [e, Ne.symm e]
  rw [any]
  by_cases h : l ∈ ls
  · rw [decide_eq_true h, if_pos rfl, addT, if_pos h, List.map_map]
    refine List.map_congr_left fun a _ => ?_
    show (if (Sum.inr a : Key) = Sum.inr l then ((Sum.inr a : Key), V.bl true) else (Sum.inr a, .bl true)) = _
    split <;> rfl
  · rw [decide_eq_false h, if_neg Bool.false_ne_true, addT, if_neg h]
    exact (List.map_append (l₁ := ls) (l₂ := [l]) (f := fun l => ((Sum.inr l : Key), V.bl true))).symm
/-- the table of the shorter ones: each name's own dict -/
abbrev kvS (sr : List Str) (as : List Addr) : List (Key × V) := (sr.zip as).map fun p => (Sum.inr p.1, .ref p.2)
def LowAt (ps : List (Str × Str)) (H : Hp) (a : Addr) (z : Str) : Prop := ∃ ls : List Str, H a = some (.dK (kvT ls)) ∧ ls.Nodup ∧ ∀ l, l ∈ ls ↔ (l, z) ∈ ps
abbrev ShAt (ps : List (Str × Str)) (H : Hp) (as : List Addr) (sr : List Str) : Prop := Each (LowAt ps H) as sr
theorem valS_none {y : Str} : ∀ {sr : List Str} {as : List Addr}, y ∉ sr → valV (kvS sr as) (Sum.inr y) = none
  | [], _, _ => rfl
  | _ :: _, [], _ => rfl
  | z :: sr, a :: as, h => by
    show valV ((Sum.inr z, V.ref a) :: kvS sr as) (Sum.inr y) = none
    rw [valV_neg fun e => h (by rw [← Sum.inr.inj e]; exact List.mem_cons_self), valS_none fun m => h (List.mem_cons_of_mem _ m)]
theorem valS {y : Str} {a : Addr} : ∀ {sr : List Str} {as : List Addr} {i : Nat}, sr.Nodup → sr[i]? = some y → as[i]? = some a → valV (kvS sr as) (Sum.inr y) = some (.ref a)
  | [], _, _, _, h, _ => nomatch h
  | _ :: _, [], _, _, _, h => nomatch h
  | z :: sr, b :: as, 0, _, h1, h2 => by
    cases h1
    cases h2
    exact valV_pos rfl
  | z :: sr, b :: as, i + 1, nd, h1, h2 => by
    obtain ⟨n1, n2⟩ := List.nodup_cons.mp nd
    have m : y ∈ sr := List.mem_of_getElem? (i := i) h1
    show valV ((Sum.inr z, V.ref b) :: kvS sr as) (Sum.inr y) = _
    rw [valV_neg fun e => n1 (by rw [Sum.inr.inj e]; exact m)]
    exact valS n2 (i := i) h1 h2
theorem SqT.dct {H : Hp} {r d : Addr} {xs : List V} {kvs : List (Key × V)} {o : HO} (h : SqT K H r xs) (hd : H d = some (.dK kvs)) : SqT K (upd H d o) r xs := by
  rcases h with (h | ⟨ob, h⟩) | h
  · exact .inl (.inl ((upd_ne fun e => by rw [e, hd] at h; cases h).trans h))
  · exact .inl (.inr ⟨ob, (upd_ne fun e => by rw [e, hd] at h; cases h).trans h⟩)
  · exact .inr h
/-- one more pair, told in its dict -/
theorem ShAt.put {ps : List (Str × Str)} {H : Hp} {lo hi : Str} : ∀ {as : List Addr} {sr : List Str} {i : Nat} {a : Addr} {ls : List Str}, ShAt ps H as sr → as.Nodup → sr.Nodup → as[i]? = some a → sr[i]? = some hi → H a = some (.dK (kvT ls)) →
    (∀ l, l ∈ ls ↔ (l, hi) ∈ ps) → ls.Nodup → ShAt (ps ++ [(lo, hi)]) (upd H a (.dK (kvT (addT ls lo)))) as sr := fun {as sr i a ls} each na ns ha hs hl mem nd => by
  have one : ∀ {as : List Addr} {sr : List Str} {i : Nat}, ShAt ps H as sr → as.Nodup → sr.Nodup → as[i]? = some a → sr[i]? = some hi → ShAt (ps ++ [(lo, hi)]) (upd H a (.dK (kvT (addT ls lo)))) as sr := by
    intro as
    induction as with
    | nil => exact fun {sr i} _ _ _ h _ => nomatch h
    | cons b as ih =>
      intro sr i each na ns ha hs
      cases sr with
      | nil => exact each.elim
      | cons z sr =>
        obtain ⟨na1, na2⟩ := List.nodup_cons.mp na
        obtain ⟨ns1, ns2⟩ := List.nodup_cons.mp ns
        have other : ∀ {b : Addr} {z : Str}, b ≠ a → z ≠ hi → LowAt ps H b z → LowAt (ps ++ [(lo, hi)]) (upd H a (.dK (kvT (addT ls lo)))) b z := fun {b z} nb nz h => by
          obtain ⟨ks, h1, h2, h3⟩ := h
          refine ⟨ks, (upd_ne nb).trans h1, h2, fun l => ?_⟩
          rw [h3 l, List.mem_append, List.mem_singleton]
          exact ⟨.inl, fun h => h.elim id fun e => absurd (Prod.mk.inj e).2 nz⟩
        cases i with
        | zero =>
          cases ha
          cases hs
          refine ⟨⟨addT ls lo, upd_same, ?_, fun l => ?_⟩, ?_⟩
          · unfold addT
            split
            · exact nd
            · rename_i n
              rw [List.nodup_append]
              exact ⟨nd, by simp, fun x hx y hy e => n (by rw [← List.mem_singleton.mp hy, ← e]; exact hx)⟩
          · rw [List.mem_append, List.mem_singleton, ← mem l]
            unfold addT
            split
            · rename_i h
              exact ⟨.inl, fun z => z.elim id fun e => by rw [(Prod.mk.inj e).1]; exact h⟩
            · rw [List.mem_append, List.mem_singleton]
              exact ⟨fun z => z.imp id fun e => by rw [e], fun z => z.imp id fun e => (Prod.mk.inj e).1⟩
          · have rest : ∀ {as : List Addr} {sr : List Str}, ShAt ps H as sr → a ∉ as → hi ∉ sr → ShAt (ps ++ [(lo, hi)]) (upd H a (.dK (kvT (addT ls lo)))) as sr := by
              intro as
              induction as with
              | nil => exact fun {sr} e _ _ => by cases sr with | nil => trivial | cons _ _ => exact e.elim
              | cons c as ih2 =>
                intro sr e h1 h2
                cases sr with
                | nil => exact e.elim
                | cons x sr => exact ⟨other (fun z => h1 (z ▸ List.mem_cons_self)) (fun y => h2 (y ▸ List.mem_cons_self)) e.1, ih2 e.2 (fun m => h1 (List.mem_cons_of_mem _ m)) fun m => h2 (List.mem_cons_of_mem _ m)⟩
            exact rest each.2 na1 ns1
        | succ i =>
          have ma : a ∈ as := List.mem_of_getElem? (i := i) ha
          have ms : hi ∈ sr := List.mem_of_getElem? (i := i) hs
          exact ⟨other (fun e => na1 (e ▸ ma)) (fun e => ns1 (e ▸ ms)) each.1, ih each.2 na2 ns2 ha hs⟩
  exact one each na ns ha hs
/-- a dict comprehension over a list that stays -/
theorem dc_over {K : PySem.W.Frag} {a D : Addr} {xs : List V} {g : TG} {tt : TT} {tk tv : TE} {own : List Nat} {σ : L2.St} {H1 : Hp} {fin : Hp → Prop} (Pv : Nat → Hp → Prop) (start : Pv 0 (upd H1 D (.dK []))) (stays : ∀ i H, i ≤ xs.length → Pv i H → SqL K H a xs)
    (turn : ∀ i x H, xs[i]? = some x → Pv i H → g x (wipe σ own) H fun σ2 H2 => wipe σ2 own = wipe σ own ∧ tt σ2 H2 fun b H3 => if b = true then tk σ2 H3 fun y H4 => tv σ2 H4 fun z H5 => ∃ kvs k, y = L2.kV k ∧ H5 D = some (.dK kvs) ∧ kvs.length < sizeLine ∧ Pv (i + 1) (upd H5 D (.dK (putK kvs k z))) else Pv (i + 1) H3)
    (last : ∀ H, Pv xs.length H → fin H) : ∃ W : Nat → Nat → Hp → Prop, (∃ m, W 0 m (upd H1 D (.dK []))) ∧ ∀ i m H, W i m H → ((Itl K a).stop i H ∧ fin H) ∨ ((Itl K a).go i H ∧ ∃ Nx : Hp → Prop, (∀ H', Nx H' → ∃ m', m' < m ∧ W (i + 1) m' H') ∧
      ∀ x H', (Itl K a).yld i H x H' → g x (wipe σ own) H' fun σ2 H2 => wipe σ2 own = wipe σ own ∧ tt σ2 H2 fun b H3 => if b = true then tk σ2 H3 fun y H4 => tv σ2 H4 fun z H5 => ∃ kvs k, y = L2.kV k ∧ H5 D = some (.dK kvs) ∧ kvs.length < sizeLine ∧ Nx (upd H5 D (.dK (putK kvs k z))) else Nx H3) := by
  refine ⟨fun i m H => m + i = xs.length ∧ Pv i H, ⟨xs.length, rfl, start⟩, fun i m H hW => ?_⟩
  obtain ⟨e, p⟩ := hW
  have there := stays i H (by omega) p
  rcases Nat.lt_or_ge i xs.length with lt | ge
  · have goes : (Itl K a).go i H := ⟨xs, xs[i], there, List.getElem?_eq_getElem lt⟩
    refine .inr ⟨goes, Pv (i + 1), fun H' p' => ⟨m - 1, by omega, by omega, p'⟩, fun x H' y => ?_⟩
    obtain ⟨rfl, y⟩ := y
    exact turn i x _ (y xs there) p
  · have e2 : i = xs.length := by omega
    subst e2
    exact .inl ⟨⟨xs, there, Nat.le_refl _⟩, last H p⟩
theorem zip_snoc (sr : List Str) (as : List Addr) {z : Str} {a : Addr} (h : sr.length = as.length) : kvS (sr ++ [z]) (as ++ [a]) = kvS sr as ++ [(Sum.inr z, .ref a)] := by
  unfold kvS
  rw [List.zip_append h, List.map_append]
  rfl
theorem allP_snoc : ∀ (rs : List Rc) (q : Rc), allP (rs ++ [q]) = (allP rs).bind fun a => (shownL q.k q.z q.zs q.ys).map (a ++ ·)
  | [], q => by
    show (shownL q.k q.z q.zs q.ys).bind (fun a => (some []).map (a ++ ·)) = (some []).bind fun a => (shownL q.k q.z q.zs q.ys).map (a ++ ·)
    cases shownL q.k q.z q.zs q.ys <;> simp
  | r :: rs, q => by
    rw [List.cons_append, allP, allP, allP_snoc rs q]
    cases shownL r.k r.z r.zs r.ys <;> cases allP rs <;> cases shownL q.k q.z q.zs q.ys <;> simp
theorem allP_none : ∀ {rs : List Rc} {q : Rc}, q ∈ rs → shownL q.k q.z q.zs q.ys = none → allP rs = none
  | r :: rs, q, h, e => by
    rw [allP]
    rcases List.mem_cons.mp h with z | z
    · rw [← z, e]
      rfl
    · rw [allP_none z e]
      cases shownL r.k r.z r.zs r.ys <;> rfl
abbrev s_known_shorter : Stmt := top 17
abbrev N_known_shorter : List Str := ["records", "shorter", "record", "pairs", "low", "high", "name"]
theorem sc_known_shorter : FnScope N_known_shorter ["records"] (defScope s_known_shorter) := ⟨rfl, rfl, rfl, by decide +kernel, rfl, by decide +kernel, by decide +kernel⟩
def spKnown (K : PySem.W.Frag) : Sp := fun vs H Q _ => ∃ (r : Addr) (rs : List Addr) (qs : List Rc) (sr : List Str), vs = [.ref r] ∧ SqT K H r (rs.map V.ref) ∧ RcsAt K H rs qs ∧ 1 ≤ qs.length ∧ (∀ q ∈ qs, RcOn sr q) ∧
  (allP qs = none → ∀ H', Same H H' → Q .non H') ∧ ∀ ps, allP qs = some ps → ∀ (p : Addr) (as : List Addr) (H' : Hp), Same H H' → H' p = some (.dK (kvS sr as)) → ShAt ps H' as sr → Q (.ref p) H'
theorem ok_known (D : Df K mg "known_shorter" s_known_shorter) (c_compared_names : Cl P w K mg base 1 "compared_names" s_compared_names ["record"] (spCmpN K)) (m_sorted : mg "sorted" = none) :
    Cl P w K mg base 2 "known_shorter" s_known_shorter ["records"] (spKnown K) := by
  refine D.ok sc_known_shorter (fun _ _ _ _ _ _ us hl => match us, hl with | [_], _ => rfl) (fun vs H Q E h => ?_) (fun f cdv A outer s H vs Q E hr h => ?_)
  · obtain ⟨r, rs, qs, sr, rfl, _⟩ := h
    rfl
  · obtain ⟨r, rs, qs, sr, rfl, hS, each, h1, on, qn, qp⟩ := h
    refine ⟨_, 
      (pss_cons (ps_setDc (i := 1) (own := [("name", 6)]) (g := gName 6) rfl sc_known_shorter.nd rfl rfl (sw_dict rfl rfl rfl (by decide +kernel)) (pi_list (pe_callB (cr_sortTx hr.units) (by rfl) m_sorted (by decide +kernel) (pa_cons (pe_ix ix_tup (pe_ix ix_tup (pv 0) pe_int (fun _ _ => rfl)) pe_int (fun _ _ => rfl)) pa_nil))) (blkOk_by (own := [("name", 6)]) (N := N_known_shorter) (sc := (defScope s_known_shorter)) (by decide +kernel)) (fun _ _ _ _ _ => (pg_name (i := 6) sc_known_shorter.nd rfl (Or.inl rfl))) (fun _ _ _ _ _ => pts_nil) (fun _ _ _ _ _ => (pv 6)) (fun _ _ _ _ _ => pe_dnewK)) 
      (pss_cons (ps_for PassesOwn.never rfl (pi_tup (pv 0)) (pg_name (i := 2) sc_known_shorter.nd rfl (Or.inl rfl)) (pss_cons (ps_set (i := 3) sc_known_shorter.nd rfl (Or.inl rfl) (pe_u c_compared_names hr (by omega) (by rfl) (pa_cons (pv 2) pa_nil))) (pss_cons (ps_if (pt_cmpR op_isN (pv 3) pe_non (nomark _)) (pss_one (ps_ret pe_non)) pss_nil) (pss_one (ps_for PassesOwn.never rfl (pi_list (pv 3)) (pg_tup (by rfl) (pgs_cons (pg_name (i := 4) sc_known_shorter.nd rfl (Or.inl rfl)) (pgs_cons (pg_name (i := 5) sc_known_shorter.nd rfl (Or.inl rfl)) pgs_nil))) (pss_one (ps_dput (uni hr) (pe_dget (uni hr) (pv 1) (pv 5) (fun _ _ => rfl)) (pv 4) pe_bl (by rfl)))))))) 
      (pss_one (ps_ret (pv 1))))), ?_⟩
    have el := each.len
    have l0 : 0 < qs.length := by omega
    have r0 : 0 < rs.length := by omega
    obtain ⟨q0, hq0, a0, b0, rec0⟩ := each.get (List.getElem?_eq_getElem r0)
    have on0 := on q0 (List.mem_of_getElem? hq0)
    have sl : sr.length ≤ 12 := by rw [← on0.srt, (sortS_perm _).length_eq]; exact on0.row.most
    have nd : sr.Nodup := by rw [← on0.srt]; exact (sortS_perm _).nodup_iff.mpr on0.row.nd
    refine ⟨_, rfl, r, _, 0, .ref rs[0], rfl, rfl, hS, atI_nat (j := 0) (by rw [List.getElem?_map, List.getElem?_eq_getElem r0]; rfl), rs[0], _, 0, .ref a0, rfl, rfl, rec0.top, atI_nat (j := 0) rfl, a0, q0.z :: q0.zs, rfl, .inl (.inl rec0.fore), by have := on0.row.most; omega, fun l nl => ?_⟩
    rw [on0.srt]
    have s1 := same_upd (o := .lst (sr.map V.str)) nl
    have hl : upd H l (.lst (sr.map V.str)) l = some (.lst (sr.map V.str)) := upd_same
    generalize upd H l (.lst (sr.map V.str)) = H1 at s1 hl ⊢
    refine ⟨l, rfl, ⟨_, .inl (.inl hl)⟩, fun d nd0 => ?_⟩
    have sd := same_upd (o := .dK []) nd0
    have fd : H d = none := s1.free nd0
    have dl : d ≠ l := fun e => by
      rw [e, hl] at nd0
      cases nd0
    refine dc_over (xs := sr.map V.str) (fun i G => ∃ as : List Addr, G d = some (.dK (kvS (sr.take i) as)) ∧ G l = some (.lst (sr.map V.str)) ∧ Same H G ∧ as.length = i ∧ as.Nodup ∧ d ∉ as ∧ (∀ a ∈ as, H a = none ∧ G a = some (.dK []))) ⟨[], upd_same, sd _ _ hl, s1.trans sd, rfl, List.nodup_nil, by simp, fun a h => nomatch h⟩ (fun i G _ hK => .inl (.inl hK.choose_spec.2.1)) (fun i v G hv hK => ?_) (fun G hK => ?_)
    · obtain ⟨as, hd, hl2, sG, al, na, da, cl⟩ := hK
      have il : i < sr.length := lt_of_get hv
      rw [List.getElem?_map, List.getElem?_eq_getElem il] at hv
      have ev : v = .str sr[i] := (Option.some.inj hv).symm
      subst ev
      refine ⟨rfl, _, rfl, fun a fa => ?_⟩
      have sa := same_upd (o := .dK []) fa
      have ad : a ≠ d := fun e => by
        rw [e, hd] at fa
        cases fa
      have aas : a ∉ as := fun m => by
        rw [(cl a m).2] at fa
        cases fa
      refine ⟨kvS (sr.take i) as, Sum.inr sr[i], rfl, sa _ _ hd, ?_, as ++ [a], ?_, ?_, fun b o e => ?_, ?_, ?_, ?_, fun b hb => ?_⟩
      · unfold kvS
        rw [List.length_map, List.length_zip, List.length_take]
        exact len_lt (by omega)
      · have fresh : sr[i] ∉ sr.take i := fun m => by
          have := nd.sublist (List.take_sublist (i + 1) sr)
          rw [List.take_add_one, List.getElem?_eq_getElem il] at this
          exact (List.nodup_append.mp this).2.2 _ m sr[i] (by simp) rfl
        rw [upd_same, putK_new _ (valS_none fresh), List.take_add_one, List.getElem?_eq_getElem il]
        show some (HO.dK (kvS (sr.take i) as ++ [(Sum.inr sr[i], V.ref a)])) = some (HO.dK (kvS (sr.take i ++ [sr[i]]) (as ++ [a])))
        rw [zip_snoc _ _ (by rw [List.length_take]; omega)]
      · rw [upd_ne dl.symm]
        exact sa _ _ hl2
      · rw [upd_ne (ne_of_none e fd)]
        exact sa _ _ (sG _ _ e)
      · rw [List.length_append, al]
        rfl
      · rw [List.nodup_append]
        exact ⟨na, by simp, fun x hx y hy e => aas (by rw [← List.mem_singleton.mp hy, ← e]; exact hx)⟩
      · rw [List.mem_append, List.mem_singleton]
        exact fun z => z.elim da fun e => ad e.symm
      · rcases List.mem_append.mp hb with m | m
        · obtain ⟨c1, c2⟩ := cl b m
          refine ⟨c1, (upd_ne fun e => da (by rw [← e]; exact m)).trans (sa _ _ c2)⟩
        · rw [List.mem_singleton.mp m]
          exact ⟨sG.free fa, (upd_ne ad).trans upd_same⟩
    · obtain ⟨as, hd, _, sG, al, na, da, cl⟩ := hK
      rw [List.length_map, List.take_length] at hd
      rw [List.length_map] at al
      have sh0 : ShAt [] G as sr := by
        have go : ∀ {as : List Addr} {sr : List Str}, as.length = sr.length → (∀ a ∈ as, G a = some (.dK [])) → ShAt [] G as sr := by
          intro as
          induction as with
          | nil => exact fun {sr} e _ => by cases sr with | nil => trivial | cons _ _ => cases e
          | cons a as ih =>
            intro sr e h
            cases sr with
            | nil => cases e
            | cons z sr => exact ⟨⟨[], h a List.mem_cons_self, List.nodup_nil, fun l => by simp⟩, ih (Nat.succ.inj e) fun b hb => h b (List.mem_cons_of_mem _ hb)⟩
        exact go al fun a ha => (cl a ha).2
      have fas : ∀ a ∈ as, H a = none := fun a ha => (cl a ha).1
      clear cl
      refine ⟨_, rfl, r, rfl, ⟨_, SqT.same sG hS⟩, ?_⟩
      refine for_tup (xs := rs.map V.ref) (fun i σ F => ∃ (ps : List (Str × Str)) (y2 y3 y4 y5 y6 : Option V), σ = [some (.ref r), some (.ref d), y2, y3, y4, y5, y6] ∧ Same H F ∧ F d = some (.dK (kvS sr as)) ∧ ShAt ps F as sr ∧ allP (qs.take i) = some ps)
        ⟨[], none, none, none, none, none, rfl, sG, hd, sh0, rfl⟩ (fun i σ F _ hI => ?_) (fun i x σ F hx hI => ?_) (fun σ F hI => ?_)
      · obtain ⟨_, _, _, _, _, _, _, sF, _⟩ := hI
        exact SqT.same sF hS
      · obtain ⟨ps, y2, y3, y4, y5, y6, rfl, sF, hdF, sh, ep⟩ := hI
        have ir : i < rs.length := lt_of_get hx
        have iq : i < qs.length := by omega
        have ex := Option.some.inj (hx.symm.trans (getR ir))
        subst ex
        obtain ⟨q, hq, a, b, rec⟩ := each.get (List.getElem?_eq_getElem ir)
        have mq := List.mem_of_getElem? hq
        have onq := on q mq
        have tk : qs.take (i + 1) = qs.take i ++ [q] := by rw [List.take_add_one, hq]; rfl
        have e1 := allP_snoc (qs.take i) q
        rw [← tk, ep] at e1
        have zl := onq.aft.length_eq
        rw [List.length_cons] at zl
        have m12 := onq.row.most
        rw [List.length_cons] at m12
        have nm1 := allP_names (sr := sr) (fun q hq => (on q (List.mem_of_mem_take hq)).ok) ep
        refine ⟨_, rfl, rs[i], a, b, q.z, q.zs, q.ys, q.k, rfl, rec.same sF, by omega, by omega, fun en F1 sF1 => ?_, fun prs es p rp F1 sF1 np hp pr => ?_⟩
        · refine ⟨_, rfl, rfl, _, rfl, ?_⟩
          rw [decide_eq_true rfl]
          exact iteT (qn (allP_none mq en) _ (sF.trans sF1))
        · refine ⟨_, rfl, rfl, _, rfl, ?_⟩
          rw [decide_eq_false (fun h => nomatch h)]
          rw [es] at e1
          have e1 : allP (qs.take (i + 1)) = some (ps ++ prs) := e1
          have nm2 : ∀ w ∈ prs, w.1 ∈ sr ∧ w.2 ∈ sr := fun w hw => by
            obtain ⟨n1, n2⟩ := shown_names es w hw
            have up : ∀ x ∈ q.z :: q.zs, x ∈ sr := fun x hx => by rw [← onq.srt]; exact (sortS_perm _).mem_iff.mpr hx
            exact ⟨up _ n1, up _ n2⟩
          have sh1 : ShAt ps F1 as sr := sh.imp fun a _ z h => by
            obtain ⟨ls, h1, h2, h3⟩ := h
            exact ⟨ls, sF1 _ _ h1, h2, h3⟩
          have pl := pr.len
          refine iteF ⟨_, rfl, p, rfl, ⟨_, .inl (.inl hp)⟩, ?_⟩
          refine for_list (xs := rp.map V.ref) (fun j σ F2 => ∃ (y4 y5 y6 : Option V), σ = [some (.ref r), some (.ref d), some (.ref rs[i]), some (.ref p), y4, y5, y6] ∧ Same H F2 ∧ F2 d = some (.dK (kvS sr as)) ∧ ShAt (ps ++ prs.take j) F2 as sr ∧ F2 p = some (.lst (rp.map V.ref)) ∧ PrAt K F2 rp prs)
            ⟨_, _, _, rfl, sF.trans sF1, sF1 _ _ hdF, by rw [List.take_zero, List.append_nil]; exact sh1, hp, pr⟩ (fun j σ F2 _ hJ => ?_) (fun j x σ F2 hx2 hJ => ?_) (fun σ F2 hJ => ?_)
          · obtain ⟨_, _, _, _, _, _, _, hp2, _⟩ := hJ
            exact .inl (.inl hp2)
          · obtain ⟨y4, y5, y6, rfl, sF2, hd2, sh2, hp2, pr2⟩ := hJ
            have jr : j < rp.length := lt_of_get hx2
            have ex := Option.some.inj (hx2.symm.trans (getR jr))
            subst ex
            obtain ⟨w, hw, hat⟩ := pr2.get (List.getElem?_eq_getElem jr)
            have mw := List.mem_of_getElem? hw
            obtain ⟨nlo, nhi⟩ := nm2 w mw
            obtain ⟨u, hu⟩ := List.mem_iff_getElem?.mp nhi
            have ul := (List.getElem?_eq_some_iff.mp hu).1
            have ha : as[u]? = some (as[u]'(by omega)) := List.getElem?_eq_getElem (by omega)
            obtain ⟨hi, hhi, ls, g1, g2, g3⟩ := sh2.get ha
            cases hu.symm.trans hhi
            have ma : as[u]'(by omega) ∈ as := List.getElem_mem _
            generalize as[u]'(by omega) = ah at ha g1 ma
            refine ⟨_, _, rfl, hat, rfl, _, _, rfl, _, _, rfl, rfl, ?_⟩
            refine ⟨_, rfl, _, rfl, d, .ref ah, rfl, .inl ⟨_, Sum.inr w.2, .inl hd2, rfl, (valS nd hu ha).symm⟩, _, rfl, ah, _, rfl, DPut.k (k := Sum.inr w.1) g1 ?_, ?_⟩
            · have b := pigeonS g2 (fun l hl => by
                have m := (g3 l).mp hl
                rcases List.mem_append.mp m with m | m
                · exact (nm1 _ m).1
                · exact (nm2 _ (List.mem_of_mem_take m)).1)
              rw [List.length_map]
              exact len_lt (by omega)
            · rw [put_kvT]
              have ad : d ≠ ah := fun e => da (e ▸ ma)
              have ap : p ≠ ah := fun e => by
                rw [e, g1] at hp2
                cases hp2
              refine ⟨_, _, _, rfl, fun b o e => ?_, (upd_ne ad).trans hd2, ?_, (upd_ne ap).trans hp2, pr2.imp fun _ _ _ e => SqT.dct e g1⟩
              · rw [upd_ne (ne_of_none e (fas _ ma))]
                exact sF2 b o e
              · have tk2 : prs.take (j + 1) = prs.take j ++ [w] := by rw [List.take_add_one, hw]; rfl
                rw [tk2, ← List.append_assoc]
                exact ShAt.put sh2 na nd ha hu g1 g3 g2
          · obtain ⟨y4, y5, y6, rfl, sF2, hd2, sh2, hp2, pr2⟩ := hJ
            rw [List.length_map, pl, List.take_length] at sh2
            exact ⟨_, _, _, _, _, _, rfl, sF2, hd2, sh2, e1⟩
      · obtain ⟨ps, y2, y3, y4, y5, y6, rfl, sF, hdF, sh, ep⟩ := hI
        rw [List.length_map, el, List.take_length] at ep
        exact ⟨_, rfl, qp ps ep d as _ sF hdF sh⟩
end
section
variable {P : Program} {w : World} {K : PySem.W.Frag} {mg : Str → Option Value} {base : Heap}
/-! ### the order, and who cannot follow -/
def forBd : Stmt → List Stmt
  | .For _ _ b _ _ => b
  | _ => []
theorem same_unlock {F G : Hp} {a : Addr} {o u : HO} (s : Same (upd F a o) G) (h : F a = some u) : Same F (upd G a u) := fun b x e => by
  by_cases z : b = a
  · rw [z] at e ⊢
    rw [upd_same, ← e, h]
  · rw [upd_ne z]
    exact s b x ((upd_ne z).trans e)
theorem head_filter {r : List Str} {p : Str → Bool} {x : Str} (h : r.find? p = some x) : ∃ t, r.filter p = x :: t := by
  have e : (r.filter p).head? = some x := by rw [List.head?_filter, h]
  cases f : r.filter p with
  | nil => rw [f] at e; cases e
  | cons y t =>
    rw [f] at e
    cases e
    exact ⟨t, rfl⟩
theorem none_filter {r : List Str} {p : Str → Bool} (h : r.find? p = none) : r.filter p = [] := List.filter_eq_nil_iff.mpr fun x hx => by simpa using List.find?_eq_none.mp h x hx
abbrev s_order_and_rest : Stmt := top 18
abbrev N_order_and_rest : List Str := ["shorter", "order", "rest", "place", "free", "name", "low"]
theorem sc_order_and_rest : FnScope N_order_and_rest ["shorter"] (defScope s_order_and_rest) := ⟨rfl, rfl, rfl, by decide +kernel, rfl, by decide +kernel, by decide +kernel⟩
def spOR (K : PySem.W.Frag) : Sp := fun vs H Q _ => ∃ (d : Addr) (sr : List Str) (as : List Addr) (ps : List (Str × Str)), vs = [.ref d] ∧ H d = some (.dK (kvS sr as)) ∧ ShAt ps H as sr ∧ sr.Nodup ∧ sr.length ≤ 12 ∧ (∀ p ∈ ps, p.1 ∈ sr) ∧
  ∀ (T a b : Addr) (H' : Hp), Same H H' → H' T = some (.tup [.ref a, .ref b]) → H' a = some (.lst ((goG ps sr.length [] sr).1.map V.str)) → H' b = some (.lst ((goG ps sr.length [] sr).2.map V.str)) → Q (.ref T) H'
theorem ok_or (D : Df K mg "order_and_rest" s_order_and_rest) (m_list : mg "list" = none) (m_len : mg "len" = none) (m_range : mg "range" = none) (m_all : mg "all" = none) :
    Cl P w K mg base 1 "order_and_rest" s_order_and_rest ["shorter"] (spOR K) := by
  refine D.ok sc_order_and_rest (fun _ _ _ _ _ _ us hl => match us, hl with | [_], _ => rfl) (fun vs H Q E h => ?_) (fun f cdv A outer s H vs Q E hr h => ?_)
  · obtain ⟨d, sr, as, ps, rfl, _⟩ := h
    rfl
  · obtain ⟨d, sr, as, ps, rfl, hd, sh, nd, l12, nmz, q⟩ := h
    refine ⟨_, 
      (pss_cons (ps_set (i := 1) sc_order_and_rest.nd rfl (Or.inr rfl) (pe_lst pa_nil)) 
      (pss_cons (ps_set (i := 2) sc_order_and_rest.nd rfl (Or.inl rfl) (pe_callTy (call_listD rfl) (by rfl) m_list (by decide +kernel) (pa_cons (pv 0) pa_nil))) 
      (C8.pss_cut (ps_for PassesOwn.never rfl (pi_range1 (by rfl) m_range (pa_cons (pe_callB call_lenD (by rfl) m_len (by decide +kernel) (pa_cons (pv 0) pa_nil)) pa_nil)) (pg_name (i := 3) sc_order_and_rest.nd rfl (Or.inl rfl)) (pss_cons (ps_setLc (i := 4) (own := [("name", 5)]) (g := gName 5) (tt := (tB (tCB (rAll K) (tCons (tLockE (tLc (iKeys (tDGet (tVar 0) (tVar 5))) (gName 6) tYes (tOp (rIn K false) (tVar 6) (tVar 1)) [6])) tNil)))) rfl sc_order_and_rest.nd rfl rfl (sw_true rfl rfl rfl (by decide +kernel)) (pi_list (pv 2)) (blkOk_by (own := [("name", 5)]) (N := N_order_and_rest) (sc := (defScope s_order_and_rest)) (by decide +kernel)) (fun _ _ _ _ _ => (pg_name (i := 5) sc_order_and_rest.nd rfl (Or.inl rfl))) (fun _ _ _ _ _ => pts_one (pt_val (pe_callB (cr_all rfl) (by rfl) m_all (by decide +kernel) (pa_cons (pe_lock (pe_lc (own := [("low", 6)]) (g := gName 6) (te := (tOp (rIn K false) (tVar 6) (tVar 1))) rfl sc_order_and_rest.nd (pi_keys (pe_dget (uni hr) (pv 0) (pv 5) (fun _ _ => rfl))) (blkOk_by (own := [("low", 6)]) (N := N_order_and_rest) (sc := (relS (lcScope (asgVal ((forBd ((defBody s_order_and_rest).getD 2 (.Pass ⟨0, 0, 0, 0⟩))).getD 0 (.Pass ⟨0, 0, 0, 0⟩)))) (defScope s_order_and_rest))) (by decide +kernel)) (fun _ _ _ _ _ => (pg_name (i := 6) sc_order_and_rest.nd rfl (Or.inl rfl))) (fun _ _ _ _ _ => pts_nil) (fun _ _ _ _ _ => (pe_cmpR op_in_seq (pv 6) (pv 1) (by rfl))))) pa_nil)))) (fun _ _ _ _ _ => (pv 5))) (pss_cons (ps_if (pt_not (pt_truth (pv 4) (fun _ => rfl))) (pss_one ps_break) pss_nil) (pss_cons (ps_expr (pe_bm PySem.F.plainAttrs_list PySem.F.slot_list_append PySem.F.type_list_append mt_append (pv 1) (pa_cons (pe_ix ix_list (pv 4) pe_int (fun _ _ => rfl)) pa_nil))) (pss_one (ps_expr (pe_bm PySem.F.plainAttrs_list PySem.F.slot_list_remove PySem.F.type_list_remove mt_removeS (pv 2) (pa_cons (pe_ix ix_list (pv 4) pe_int (fun _ _ => rfl)) pa_nil)))))))) 
      (pss_one (ps_ret (pe_tup (pa_cons (pv 1) (pa_cons (pv 2) pa_nil)))))))), ?_⟩
    have al := sh.len
    have kvl : (kvS sr as).length = sr.length := by
      unfold kvS
      rw [List.length_map, List.length_zip]
      omega
    have kvk : (kvS sr as).map (fun kv => L2.kV kv.1) = sr.map V.str := by
      unfold kvS
      rw [List.map_map]
      show (sr.zip as).map (fun p => V.str p.1) = _
      rw [show (fun p : Str × Addr => V.str p.1) = V.str ∘ Prod.fst from rfl, ← List.map_map, List.map_fst_zip (by omega)]
    refine ⟨Nat.zero_le _, fun a na => ?_⟩
    have sa := same_upd (o := .lst []) na
    have ha : upd H a (.lst []) a = some (.lst []) := upd_same
    generalize upd H a (.lst []) = H1 at sa ha ⊢
    refine ⟨_, rfl, d, _, rfl, .inl (sa _ _ hd), fun b nb => ?_⟩
    rw [kvk]
    have sb := same_upd (o := .lst (sr.map V.str)) nb
    have hb : upd H1 b (.lst (sr.map V.str)) b = some (.lst (sr.map V.str)) := upd_same
    have ha2 := sb _ _ ha
    have ab : a ≠ b := ne_of_none ha nb
    have fb : H b = none := sa.free nb
    have s2 := sa.trans sb
    generalize upd H1 b (.lst (sr.map V.str)) = H2 at hb ha2 s2 ⊢
    refine ⟨fun σ F => ∃ y3 y4 y5 y6 : Option V, σ = [some (.ref d), some (.ref a), some (.ref b), y3, y4, y5, y6] ∧ Same H F ∧ F a = some (.lst ((goG ps sr.length [] sr).1.map V.str)) ∧ F b = some (.lst ((goG ps sr.length [] sr).2.map V.str)), ?_, fun σ F hM => ?_⟩
    · refine ⟨_, rfl, d, _, rfl, s2 _ _ hd, _, rfl, by omega, by omega, ?_⟩
      rw [kvl, Int.toNat_natCast]
      refine for_range (lo := 0) (n := sr.length) (fun i σ F => ∃ (o r : List Str) (y3 y4 y5 y6 : Option V), σ = [some (.ref d), some (.ref a), some (.ref b), y3, y4, y5, y6] ∧ Same H F ∧ F a = some (.lst (o.map V.str)) ∧ F b = some (.lst (r.map V.str)) ∧ (o ++ r).Perm sr ∧ r.length + i = sr.length ∧ goG ps r.length o r = goG ps sr.length [] sr)
        ⟨[], sr, none, none, none, none, rfl, s2, ha2, hb, .refl _, rfl, rfl⟩ (fun i σ F hi hI => ?_) (fun σ F hI => ?_)
      · obtain ⟨o, r, y3, y4, y5, y6, rfl, sF, haF, hbF, pm, rl, eg⟩ := hI
        have rl12 : r.length ≤ 12 := by omega
        have ol := pm.length_eq
        rw [List.length_append] at ol
        refine ⟨_, rfl, b, rfl, ⟨_, .inl (.inl hbF)⟩, fun D nD => ?_⟩
        have sD := same_upd (o := .lst []) nD
        refine lc_list (xs := r.map V.str) (fun k F2 => F2 D = some (.lst (((r.take k).filter (okN ps o)).map V.str)) ∧ Same F F2) ⟨upd_same, sD⟩ (fun k F2 _ hK => .inl (.inl (hK.2 _ _ hbF))) (fun k v F2 hv hK => ?_) (fun F2 hK => ?_)
        · obtain ⟨hD, sF2⟩ := hK
          have kl : k < r.length := lt_of_get hv
          have ev : v = .str r[k] := by
            rw [List.getElem?_map, List.getElem?_eq_getElem kl] at hv
            exact (Option.some.inj hv).symm
          subst ev
          have ms : r[k] ∈ sr := pm.mem_iff.mp (List.mem_append_right _ (List.getElem_mem kl))
          have tk : r.take (k + 1) = r.take k ++ [r[k]] := by rw [List.take_add_one, List.getElem?_eq_getElem kl]; rfl
          have fl : ((r.take k).filter (okN ps o)).length < sizeLine := len_lt (by
            have := List.length_filter_le (okN ps o) (r.take k)
            rw [List.length_take] at this
            omega)
          rw [tk, List.filter_append, List.map_append]
          generalize r[k] = z at ms ⊢
          obtain ⟨u, hu⟩ := List.mem_iff_getElem?.mp ms
          have ul := (List.getElem?_eq_some_iff.mp hu).1
          have ha' : as[u]? = some (as[u]'(by omega)) := List.getElem?_eq_getElem (by omega)
          obtain ⟨z', hz', ls, g1, g2, g3⟩ := sh.get ha'
          cases hu.symm.trans hz'
          generalize as[u]'(by omega) = ah at ha' g1
          have gF := sF2 _ _ (sF _ _ g1)
          have dF := sF2 _ _ (sF _ _ hd)
          have dah : d ≠ ah := fun e => by
            rw [e, g1] at hd
            have hd := Option.some.inj hd
            have e2 : kvT ls = kvS sr as := by injection hd
            have e3 : (Sum.inr z, V.ref ah) ∈ kvS sr as := by
              refine List.mem_map.mpr ⟨(z, ah), List.mem_iff_getElem?.mpr ⟨u, ?_⟩, rfl⟩
              rw [List.getElem?_zip_eq_some]
              exact ⟨hu, ha'⟩
            rw [← e2] at e3
            obtain ⟨l, _, e4⟩ := List.mem_map.mp e3
            cases e4
          refine ⟨rfl, ah, _, gF, trivial, fun od => ?_⟩
          have dF2 : upd F2 ah (.frz od (.dK (kvT ls))) d = some (.dK (kvS sr as)) := (upd_ne dah).trans dF
          refine ⟨_, rfl, _, rfl, d, _, rfl, .inl ⟨_, Sum.inr z, .inl dF2, rfl, (valS nd hu ha').symm⟩, ah, od, rfl, .inl ⟨_, upd_same, fun D2 nD2 => ?_⟩⟩
          have aah : a ≠ ah := fun e => by
            rw [e] at na
            rw [g1] at na
            cases na
          have aF : upd F2 ah (.frz od (.dK (kvT ls))) a = some (.lst (o.map V.str)) := (upd_ne aah).trans (sF2 _ _ haF)
          have ls12 : ls.length < sizeLine := by
            have b := pigeonS g2 (r := sr) fun l hl => nmz _ ((g3 l).mp hl)
            exact len_lt (by omega)
          have ec : (ls.map fun l => decide (l ∈ o)).all id = okN ps o z := by
            rw [List.all_map]
            unfold okN
            rw [Bool.eq_iff_iff, List.all_eq_true, decide_eq_true_iff]
            constructor
            · intro h p hp e
              exact of_decide_eq_true (h p.1 ((g3 p.1).mpr (by rw [← e]; exact hp)))
            · intro h l hl
              exact decide_eq_true (h (l, z) ((g3 l).mp hl) rfl)
          have fz : upd F2 ah (.frz od (.dK (kvT ls))) ah = some (.frz od (.dK (kvT ls))) := upd_same
          generalize hFz : upd F2 ah (.frz od (.dK (kvT ls))) = Fz at nD2 aF fz ⊢
          refine lc_it walk_keys (fun j F3 => F3 D2 = some (.lst ((ls.take j).map fun l => V.bl (decide (l ∈ o)))) ∧ Same Fz F3) ⟨upd_same, same_upd nD2⟩ (fun j F3 _ hJ => hJ.2 _ _ fz) (fun j x F3 F3' hj hJ hY => ?_) (fun F3 hJ => ?_)
          · obtain ⟨hD2, sF3⟩ := hJ
            obtain ⟨rfl, k', v', hkv, rfl⟩ := hY
            rw [List.length_map] at hj
            rw [List.getElem?_map, List.getElem?_eq_getElem hj] at hkv
            cases hkv
            have tk2 : ls.take (j + 1) = ls.take j ++ [ls[j]] := by rw [List.take_add_one, List.getElem?_eq_getElem hj]; rfl
            rw [tk2]
            refine ⟨rfl, _, rfl, _, rfl, a, _, rfl, .inl (.inl (.inl (sF3 _ _ aF))), rfl, flat_strs2 o, _, hD2, ?_, ?_, fun b x e => ?_⟩
            · rw [List.length_map, List.length_take]
              exact Nat.lt_of_le_of_lt (Nat.min_le_right _ _) ls12
            · rw [upd_same]
              show some (HO.lst ((ls.take j).map (fun l => V.bl (decide (l ∈ o))) ++ [V.bl (inV (.str ls[j]) (o.map V.str))])) = _
              rw [inV_strs, List.map_append]
              rfl
            · rw [upd_ne (ne_of_none e nD2)]
              exact sF3 _ _ e
          · obtain ⟨hD2, sF3⟩ := hJ
            rw [List.length_map, List.take_length] at hD2
            have sU : Same F2 (upd F3 ah (.dK (kvT ls))) := same_unlock (by rw [hFz]; exact sF3) gF
            have d2a : D2 ≠ ah := fun e => by
              rw [e, fz] at nD2
              cases nD2
            refine ⟨sF3 _ _ fz, D2, ls.map fun l => decide (l ∈ o), rfl, .inl (.inl ((upd_ne d2a).trans (hD2.trans (by rw [List.map_map]; rfl)))), _, rfl, ?_⟩
            rw [ec]
            cases hok : okN ps o z with
            | true =>
              rw [show [z].filter (okN ps o) = [z] by rw [List.filter_cons, hok]; rfl]
              exact iteT ⟨_, rfl, _, sU _ _ hD, by rw [List.length_map]; exact fl, upd_same, fun b x e => by rw [upd_ne (ne_of_none e nD)]; exact sU _ _ (sF2 _ _ e)⟩
            | false =>
              rw [show [z].filter (okN ps o) = [] by rw [List.filter_cons, hok]; rfl, List.map_nil, List.append_nil]
              exact iteF ⟨sU _ _ hD, fun b x e => sU _ _ (sF2 _ _ e)⟩
        · obtain ⟨hD, sF2⟩ := hK
          rw [List.length_map, List.take_length] at hD
          obtain ⟨m, hm⟩ : ∃ m, r.length = m + 1 := ⟨r.length - 1, by omega⟩
          rw [hm, goG] at eg
          have haF2 := sF2 _ _ haF
          have hbF2 := sF2 _ _ hbF
          refine ⟨_, rfl, _, .inl ⟨_, .inl (.inl hD), rfl⟩, ?_⟩
          cases e : r.find? (okN ps o) with
          | none =>
            rw [none_filter e]
            rw [e] at eg
            have eg : (o, r) = goG ps sr.length [] sr := eg
            rw [← eg]
            exact iteT ⟨_, _, _, _, rfl, sF.trans sF2, haF2, hbF2⟩
          | some x =>
            obtain ⟨t, et⟩ := head_filter e
            have mx := List.mem_of_find?_eq_some e
            rw [e] at eg
            have eg : goG ps m (o ++ [x]) (r.erase x) = goG ps sr.length [] sr := eg
            have le := List.length_erase_of_mem mx
            rw [et] at hD ⊢
            have aD : a ≠ D := ne_of_none haF nD
            refine iteF ⟨_, rfl, .inl ⟨rfl, _, .inl (.inl haF2)⟩, _, rfl, D, _, 0, .str x, rfl, rfl, .inl (.inl hD), atI_nat (j := 0) rfl, a, _, _, rfl, rfl, haF2, ?_, ?_⟩
            · rw [List.length_map]
              exact len_lt (by omega)
            have hb3 : upd F2 a (.lst (o.map V.str ++ [.str x])) b = some (.lst (r.map V.str)) := (upd_ne ab.symm).trans hbF2
            have hD3 : upd F2 a (.lst (o.map V.str ++ [.str x])) D = some (.lst ((x :: t).map V.str)) := (upd_ne aD.symm).trans hD
            refine ⟨_, rfl, .inl ⟨rfl, _, .inl (.inl hb3)⟩, _, rfl, D, _, 0, .str x, rfl, rfl, .inl (.inl hD3), atI_nat (j := 0) rfl, b, r, x, rfl, rfl, hb3, mx, ?_⟩
            refine ⟨o ++ [x], r.erase x, _, _, _, _, rfl, fun c y e => ?_, ?_, upd_same, split_perm pm mx, by omega, ?_⟩
            · rw [upd_ne (ne_of_none e fb), upd_ne (ne_of_none e na)]
              exact sF2 _ _ (sF _ _ e)
            · rw [upd_ne ab, upd_same, List.map_append]
              rfl
            · rw [show (r.erase x).length = m by omega]
              exact eg
      · obtain ⟨o, r, y3, y4, y5, y6, rfl, sF, haF, hbF, pm, rl, eg⟩ := hI
        have r0 : r.length = 0 := by omega
        rw [r0] at eg
        have eg : (o, r) = goG ps sr.length [] sr := eg
        rw [← eg]
        exact ⟨_, _, _, _, rfl, sF, haF, hbF⟩
    · obtain ⟨y3, y4, y5, y6, rfl, sF, hF1, hF2⟩ := hM
      refine ⟨_, rfl, _, rfl, (by show 2 ≤ sizeLine; decide), fun T nT => ?_⟩
      have sT := same_upd (o := .tup [.ref a, .ref b]) nT
      exact q T a b _ (sF.trans sT) upd_same (sT _ _ hF1) (sT _ _ hF2)
end
section
variable {P : Program} {w : World} {K : PySem.W.Frag} {mg : Str → Option Value} {base : Heap}
/-! ### the first order -/
/-- what is due: nothing, or a row of names -/
def OrdAt (K : PySem.W.Frag) (H : Hp) (o : Option (List Str)) (v : V) : Prop := match o with
  | none => v = .non
  | some os => ∃ p : Addr, v = .ref p ∧ SqT K H p (os.map V.str)
def ordD : Option (List Str) → PyData
  | none => .none
  | some os => .tuple (os.map PyData.str)
theorem OrdAt.same {H G : Hp} {o : Option (List Str)} {v : V} (s : Same H G) (h : OrdAt K H o v) : OrdAt K G o v := by
  cases o with
  | none => exact h
  | some os =>
    obtain ⟨p, e, h1⟩ := h
    exact ⟨p, e, SqT.same s h1⟩
theorem OrdAt.dp {H : Hp} {o : Option (List Str)} {v : V} (h : OrdAt K H o v) : Dp K H v (ordD o) := by
  cases o with
  | none =>
    rw [show v = .non from h]
    exact .non
  | some os =>
    obtain ⟨p, e, h1⟩ := h
    rw [e]
    exact .tup h1 (Dp_strs _)
abbrev s_first_order : Stmt := top 19
abbrev N_first_order : List Str := ["records", "shorter", "order", "rest"]
theorem sc_first_order : FnScope N_first_order ["records"] (defScope s_first_order) := ⟨rfl, rfl, rfl, by decide +kernel, rfl, by decide +kernel, by decide +kernel⟩
def spFO (K : PySem.W.Frag) : Sp := fun vs H Q _ => ∃ (r : Addr) (rs : List Addr) (qs : List Rc) (sr : List Str), vs = [.ref r] ∧ SqT K H r (rs.map V.ref) ∧ RcsAt K H rs qs ∧ 1 ≤ qs.length ∧ (∀ q ∈ qs, RcOn sr q) ∧
  ∀ (v : V) (H' : Hp), Same H H' → OrdAt K H' (firstO qs sr) v → Q v H'
theorem ok_fo (D : Df K mg "first_order" s_first_order) (c_known_shorter : Cl P w K mg base 2 "known_shorter" s_known_shorter ["records"] (spKnown K)) (c_order_and_rest : Cl P w K mg base 1 "order_and_rest" s_order_and_rest ["shorter"] (spOR K)) (m_tuple : mg "tuple" = none) :
    Cl P w K mg base 3 "first_order" s_first_order ["records"] (spFO K) := by
  refine D.ok sc_first_order (fun _ _ _ _ _ _ us hl => match us, hl with | [_], _ => rfl) (fun vs H Q E h => ?_) (fun f cdv A outer s H vs Q E hr h => ?_)
  · obtain ⟨r, rs, qs, sr, rfl, _⟩ := h
    rfl
  · obtain ⟨r, rs, qs, sr, rfl, hS, each, h1, on, qo⟩ := h
    refine ⟨_, 
      (pss_cons (ps_set (i := 1) sc_first_order.nd rfl (Or.inl rfl) (pe_u c_known_shorter hr (by omega) (by rfl) (pa_cons (pv 0) pa_nil))) 
      (pss_cons (ps_if (pt_cmpR op_isN (pv 1) pe_non (nomark _)) (pss_one (ps_ret pe_non)) pss_nil) 
      (pss_cons (ps_asg (pe_u c_order_and_rest hr (by omega) (by rfl) (pa_cons (pv 1) pa_nil)) (pg_tup (by rfl) (pgs_cons (pg_name (i := 2) sc_first_order.nd rfl (Or.inl rfl)) (pgs_cons (pg_name (i := 3) sc_first_order.nd rfl (Or.inl rfl)) pgs_nil)))) 
      (pss_one (ps_ret (pe_ifExp (pt_truth (pv 3) (fun _ => rfl)) pe_non (pe_callTy call_tuple_of (by rfl) m_tuple (by decide +kernel) (pa_cons (pv 2) pa_nil)))))))), ?_⟩
    refine ⟨_, rfl, r, rs, qs, sr, rfl, hS, each, h1, on, fun en H1 s1 => ?_, fun ps es d as H1 s1 hd sh => ?_⟩
    · refine ⟨_, rfl, rfl, _, rfl, ?_⟩
      rw [decide_eq_true rfl]
      exact iteT (qo _ _ s1 (by unfold firstO; rw [en]; rfl))
    · have q0 : ∃ q0, q0 ∈ qs := by
        cases qs with
        | nil => exact absurd h1 (by decide)
        | cons q _ => exact ⟨q, List.mem_cons_self⟩
      obtain ⟨q0, m0⟩ := q0
      have on0 := on q0 m0
      have sl : sr.length ≤ 12 := by rw [← on0.srt, (sortS_perm _).length_eq]; exact on0.row.most
      have nd : sr.Nodup := by rw [← on0.srt]; exact (sortS_perm _).nodup_iff.mpr on0.row.nd
      have nm := allP_names (sr := sr) (fun q hq => (on q hq).ok) es
      have eo : firstO qs sr = ordOf ps sr := by unfold firstO; rw [es]
      unfold ordOf at eo
      refine ⟨_, rfl, rfl, _, rfl, ?_⟩
      rw [decide_eq_false (fun h => nomatch h)]
      refine iteF ⟨_, rfl, d, sr, as, ps, rfl, hd, sh, nd, sl, fun p hp => (nm p hp).1, fun T a b H2 s2 hT ha hb => ?_⟩
      generalize goG ps sr.length [] sr = g at eo ha hb
      obtain ⟨o, rest⟩ := g
      refine ⟨T, _, rfl, .inl (.inl hT), rfl, _, _, rfl, _, _, rfl, rfl, ?_⟩
      refine ⟨_, rfl, _, .inl ⟨_, .inl (.inl hb), rfl⟩, ?_⟩
      cases rest with
      | nil =>
        rw [if_pos rfl] at eo
        refine iteF ⟨_, rfl, a, _, rfl, .inl ⟨.inl (.inl ha), fun l nl => ?_⟩⟩
        exact qo _ _ ((s1.trans s2).trans (same_upd nl)) (by rw [eo]; exact ⟨l, rfl, .inl (.inl upd_same)⟩)
      | cons x t =>
        rw [if_neg (fun h => nomatch h)] at eo
        exact iteT (qo _ _ (s1.trans s2) (by rw [eo]; rfl))
end
section
/-! ### who passes last -/
theorem rk_trans {os : List Str} {x y z : Str} (h1 : rkLt os x y = true) (h2 : rkLt os y z = true) : rkLt os x z = true := decide_eq_true (by have := of_decide_eq_true h1; have := of_decide_eq_true h2; omega)
/-- the one who stays to the end -/
def endL (t : Bool) (lt : Str → Str → Bool) : Str → List Str → Str
  | s, [] => s
  | s, p :: ps => endL t lt (stN t lt s p) ps
theorem gone_end (t : Bool) (lt : Str → Str → Bool) : ∀ (ps : List Str) (s : Str), ∃ l, goneL t lt s ps = l ++ [endL t lt s ps]
  | [], s => ⟨[], rfl⟩
  | p :: ps, s => by
    obtain ⟨l, e⟩ := gone_end t lt ps (stN t lt s p)
    exact ⟨goN t lt s p :: l, by rw [goneL, e, endL]; rfl⟩
/-- a stands behind b on t's side -/
abbrev Beyond (t : Bool) (os : List Str) (a b : Str) : Prop := if t = true then rkLt os b a = true else rkLt os a b = true
theorem end_best {t : Bool} {os : List Str} : ∀ {ps : List Str} {s : Str}, (s :: ps).Nodup → (∀ x ∈ s :: ps, x ∈ os) → endL t (rkLt os) s ps ∈ s :: ps ∧ ∀ x ∈ s :: ps, x ≠ endL t (rkLt os) s ps → Beyond t os (endL t (rkLt os) s ps) x
  | [], s, _, _ => ⟨List.mem_cons_self, fun x hx ne => absurd (List.mem_singleton.mp hx) ne⟩
  | p :: ps, s, nd, sub => by
    obtain ⟨n1, n2⟩ := List.nodup_cons.mp nd
    obtain ⟨n3, n4⟩ := List.nodup_cons.mp n2
    have ne : s ≠ p := fun e => n1 (e ▸ List.mem_cons_self)
    have ns : s ∉ ps := fun m => n1 (List.mem_cons_of_mem _ m)
    have two : (stN t (rkLt os) s p = s ∧ Beyond t os s p) ∨ (stN t (rkLt os) s p = p ∧ Beyond t os p s) := by
      unfold stN highS lowS Beyond
      cases h : rkLt os s p with
      | true => cases t <;> simp [h]
      | false =>
        have h2 := rk_tot (sub s List.mem_cons_self) ne h
        cases t <;> simp [h2]
    rw [endL]
    have nd2 : (stN t (rkLt os) s p :: ps).Nodup := by
      rcases two with ⟨e, _⟩ | ⟨e, _⟩ <;> rw [e]
      · exact List.nodup_cons.mpr ⟨ns, n4⟩
      · exact n2
    have sub2 : ∀ x ∈ stN t (rkLt os) s p :: ps, x ∈ os := fun x hx => by
      rcases List.mem_cons.mp hx with e | hx
      · rw [e]
        rcases two with ⟨e, _⟩ | ⟨e, _⟩ <;> rw [e]
        · exact sub s List.mem_cons_self
        · exact sub p (List.mem_cons_of_mem _ List.mem_cons_self)
      · exact sub x (List.mem_cons_of_mem _ (List.mem_cons_of_mem _ hx))
    obtain ⟨m1, m2⟩ := end_best (t := t) nd2 sub2
    generalize endL t (rkLt os) (stN t (rkLt os) s p) ps = m at m1 m2
    have tr : ∀ {a b c : Str}, Beyond t os a b → Beyond t os b c → Beyond t os a c := fun {a b c} h1 h2 => by
      unfold Beyond at *
      cases t
      · exact rk_trans h1 h2
      · exact rk_trans h2 h1
    have up : ∀ {x o : Str}, Beyond t os (stN t (rkLt os) s p) o → x = o → x ≠ m → Beyond t os m x := fun {x o} b e nx => by
      subst e
      by_cases z : stN t (rkLt os) s p = m
      · rw [← z]
        exact b
      · exact tr (m2 _ List.mem_cons_self z) b
    refine ⟨?_, fun x hx nx => ?_⟩
    · rcases List.mem_cons.mp m1 with e | h
      · rw [e]
        rcases two with ⟨e, _⟩ | ⟨e, _⟩ <;> rw [e]
        · exact List.mem_cons_self
        · exact List.mem_cons_of_mem _ List.mem_cons_self
      · exact List.mem_cons_of_mem _ (List.mem_cons_of_mem _ h)
    · rcases List.mem_cons.mp hx with e | hx
      · rcases two with ⟨e2, b⟩ | ⟨e2, b⟩
        · exact m2 x (by rw [e2, e]; exact List.mem_cons_self) nx
        · exact up (by rw [e2]; exact b) e nx
      · rcases List.mem_cons.mp hx with e | hx
        · rcases two with ⟨e2, b⟩ | ⟨e2, b⟩
          · exact up (by rw [e2]; exact b) e nx
          · exact m2 x (by rw [e2, e]; exact List.mem_cons_self) nx
        · exact m2 x (List.mem_cons_of_mem _ hx) nx
def lastS (ys : List Str) : Str := ys.getLastD (Str.ofString "")
theorem last_snoc (l : List Str) (x : Str) : lastS (l ++ [x]) = x := by
  unfold lastS
  rw [List.getLastD_concat]
/-- two passes by one order leave the same one last if they are of one kind, otherwise another one -/
theorem kinds_by_ends {sr os : List Str} {q1 q2 : Rc} (two : 2 ≤ sr.length) (nd : sr.Nodup) (pm : os.Perm sr) (o1 : RcOk sr q1) (o2 : RcOk sr q2) (f1 : goneL q1.k (rkLt os) q1.z q1.zs = q1.ys) (f2 : goneL q2.k (rkLt os) q2.z q2.zs = q2.ys) : (q1.k = q2.k) ↔ lastS q1.ys = lastS q2.ys := by
  obtain ⟨l1, e1⟩ := gone_end q1.k (rkLt os) q1.zs q1.z
  obtain ⟨l2, e2⟩ := gone_end q2.k (rkLt os) q2.zs q2.z
  rw [← f1, ← f2, e1, e2, last_snoc, last_snoc]
  have in1 : ∀ x ∈ q1.z :: q1.zs, x ∈ os := fun x hx => pm.mem_iff.mpr (o1.fore.mem_iff.mp hx)
  have in2 : ∀ x ∈ q2.z :: q2.zs, x ∈ os := fun x hx => pm.mem_iff.mpr (o2.fore.mem_iff.mp hx)
  obtain ⟨a1, b1⟩ := end_best (t := q1.k) (o1.fore.nodup_iff.mpr nd) in1
  obtain ⟨a2, b2⟩ := end_best (t := q2.k) (o2.fore.nodup_iff.mpr nd) in2
  generalize endL q1.k (rkLt os) q1.z q1.zs = m1 at a1 b1 ⊢
  generalize endL q2.k (rkLt os) q2.z q2.zs = m2 at a2 b2 ⊢
  have all1 : ∀ x, x ∈ sr → x ≠ m1 → Beyond q1.k os m1 x := fun x hx => b1 x (o1.fore.mem_iff.mpr hx)
  have all2 : ∀ x, x ∈ sr → x ≠ m2 → Beyond q2.k os m2 x := fun x hx => b2 x (o2.fore.mem_iff.mpr hx)
  have s1 : m1 ∈ sr := o1.fore.mem_iff.mp a1
  have s2 : m2 ∈ sr := o2.fore.mem_iff.mp a2
  constructor
  · intro e
    refine Decidable.byContradiction fun ne => ?_
    have h1 := all1 m2 s2 (Ne.symm ne)
    have h2 := all2 m1 s1 ne
    rw [← e] at h2
    unfold Beyond at h1 h2
    cases hk : q1.k with
    | false =>
      rw [hk, if_neg Bool.false_ne_true] at h1 h2
      exact absurd h2 (by rw [rk_asym h1]; exact Bool.false_ne_true)
    | true =>
      rw [hk, if_pos rfl] at h1 h2
      exact absurd h2 (by rw [rk_asym h1]; exact Bool.false_ne_true)
  · intro e
    obtain ⟨x, hx, nx⟩ : ∃ x ∈ sr, x ≠ m1 := by
      match sr, two, nd with
      | a :: b :: r, _, nd =>
        by_cases z : a = m1
        · exact ⟨b, List.mem_cons_of_mem _ List.mem_cons_self, fun y => (List.nodup_cons.mp nd).1 (by rw [z, ← y]; exact List.mem_cons_self)⟩
        · exact ⟨a, List.mem_cons_self, z⟩
    have h1 := all1 x hx nx
    have h2 := all2 x hx (by rw [← e]; exact nx)
    rw [← e] at h2
    unfold Beyond at h1 h2
    refine Decidable.byContradiction fun nk => ?_
    have hk : q2.k = !q1.k := by
      cases k1 : q1.k <;> cases k2 : q2.k <;> first | rfl | exact absurd (k1.trans k2.symm) nk
    rw [hk] at h2
    cases k1 : q1.k with
    | false =>
      rw [k1, if_neg Bool.false_ne_true] at h1
      rw [k1, Bool.not_false, if_pos rfl] at h2
      exact absurd h2 (by rw [rk_asym h1]; exact Bool.false_ne_true)
    | true =>
      rw [k1, if_pos rfl] at h1
      rw [k1, Bool.not_true, if_neg Bool.false_ne_true] at h2
      exact absurd h2 (by rw [rk_asym h1]; exact Bool.false_ne_true)
/-! #### the other way round -/
theorem rk_rev {os : List Str} {x y : Str} (nd : os.Nodup) (hx : x ∈ os) (hy : y ∈ os) (ne : x ≠ y) : rkLt os.reverse x y = rkLt os y x := by
  have ix : ∀ {x : Str}, x ∈ os → os.reverse.idxOf x = os.length - 1 - os.idxOf x := fun {x} hx => by
    have lt := List.idxOf_lt_length_of_mem hx
    have lt2 : os.length - 1 - os.idxOf x < os.reverse.length := by rw [List.length_reverse]; omega
    have g : os.reverse[os.length - 1 - os.idxOf x] = x := by
      rw [List.getElem_reverse]
      have e : os.length - 1 - (os.length - 1 - os.idxOf x) = os.idxOf x := by omega
      simp only [e]
      exact List.getElem_idxOf lt
    have z := (os.reverse_perm.nodup_iff.mpr nd).idxOf_getElem _ lt2
    rw [g] at z
    exact z
  unfold rkLt
  rw [ix hx, ix hy]
  have lx := List.idxOf_lt_length_of_mem hx
  have ly := List.idxOf_lt_length_of_mem hy
  have dif : os.idxOf x ≠ os.idxOf y := fun e => ne (by
    have a := List.getElem_idxOf lx
    have b := List.getElem_idxOf ly
    rw [← a, ← b]
    congr 1)
  exact decide_eq_decide.mpr (by omega)
theorem gone_mirror {t : Bool} {os : List Str} (ndo : os.Nodup) : ∀ {ps : List Str} {s : Str}, (s :: ps).Nodup → (∀ x ∈ s :: ps, x ∈ os) → goneL (!t) (rkLt os.reverse) s ps = goneL t (rkLt os) s ps
  | [], s, _, _ => rfl
  | p :: ps, s, nd, sub => by
    obtain ⟨n1, n2⟩ := List.nodup_cons.mp nd
    obtain ⟨n3, n4⟩ := List.nodup_cons.mp n2
    have ne : s ≠ p := fun e => n1 (e ▸ List.mem_cons_self)
    have ns : s ∉ ps := fun m => n1 (List.mem_cons_of_mem _ m)
    have ms := sub s List.mem_cons_self
    have mp := sub p (List.mem_cons_of_mem _ List.mem_cons_self)
    have rv := rk_rev ndo ms mp ne
    have swap : rkLt os p s = !rkLt os s p := by
      cases h : rkLt os s p with
      | true => exact rk_asym h
      | false => exact rk_tot ms ne h
    have e1 : goN (!t) (rkLt os.reverse) s p = goN t (rkLt os) s p ∧ stN (!t) (rkLt os.reverse) s p = stN t (rkLt os) s p := by
      unfold goN stN lowS highS
      rw [rv, swap]
      cases t <;> cases rkLt os s p <;> simp
    have st : stN t (rkLt os) s p = s ∨ stN t (rkLt os) s p = p := by
      unfold stN lowS highS
      cases t <;> cases rkLt os s p <;> simp
    rw [goneL, goneL, e1.1, e1.2]
    refine congrArg _ (gone_mirror ndo ?_ fun x hx => ?_)
    · rcases st with e | e <;> rw [e]
      · exact List.nodup_cons.mpr ⟨ns, n4⟩
      · exact n2
    · rcases List.mem_cons.mp hx with e | hx
      · rw [e]
        rcases st with e | e <;> rw [e]
        · exact ms
        · exact mp
      · exact sub x (List.mem_cons_of_mem _ (List.mem_cons_of_mem _ hx))
/-! #### words for pairs of rows -/
def Rc.as (q : Rc) (b : Bool) : Rc := ⟨b, q.z, q.zs, q.ys⟩
def asW : List Rc → List Bool → List Rc
  | [], _ => []
  | _ :: _, [] => []
  | q :: qs, b :: bs => q.as b :: asW qs bs
theorem asW_len : ∀ (qs : List Rc) (bs : List Bool), qs.length = bs.length → (asW qs bs).length = qs.length
  | [], _, _ => rfl
  | _ :: _, [], h => nomatch h
  | q :: qs, b :: bs, h => congrArg (· + 1) (asW_len qs bs (Nat.succ.inj h))
theorem asW_get : ∀ {qs : List Rc} {bs : List Bool} {i : Nat} {q : Rc} {b : Bool}, qs[i]? = some q → bs[i]? = some b → (asW qs bs)[i]? = some (q.as b)
  | _ :: _, _ :: _, 0, _, _, h1, h2 => by
    cases h1
    cases h2
    rfl
  | _ :: qs, _ :: bs, i + 1, q, b, h1, h2 => asW_get (qs := qs) (bs := bs) (i := i) h1 h2
theorem asW_mem : ∀ {qs : List Rc} {bs : List Bool} {x : Rc}, x ∈ asW qs bs → ∃ q ∈ qs, ∃ b, x = q.as b
  | q :: qs, b :: bs, x, h => by
    rcases List.mem_cons.mp h with e | h
    · exact ⟨q, List.mem_cons_self, b, e⟩
    · obtain ⟨q', h1, b', e⟩ := asW_mem h
      exact ⟨q', List.mem_cons_of_mem _ h1, b', e⟩
theorem asW_ok {sr : List Str} {qs : List Rc} {bs : List Bool} (h : ∀ q ∈ qs, RcOk sr q) : ∀ x ∈ asW qs bs, RcOk sr x := fun x hx => by
  obtain ⟨q, hq, b, rfl⟩ := asW_mem hx
  exact ⟨(h q hq).fore, (h q hq).aft⟩
theorem asW_on {sr : List Str} {qs : List Rc} {bs : List Bool} (h : ∀ q ∈ qs, RcOn sr q) : ∀ x ∈ asW qs bs, RcOn sr x := fun x hx => by
  obtain ⟨q, hq, b, rfl⟩ := asW_mem hx
  exact ⟨(h q hq).row, (h q hq).srt, (h q hq).aft⟩
theorem fit_mirror {sr os : List Str} (nd : sr.Nodup) (pm : os.Perm sr) : ∀ {qs : List Rc} {bs : List Bool}, (∀ q ∈ qs, RcOk sr q) → fitR (asW qs (bs.map (!·))) os.reverse = fitR (asW qs bs) os
  | [], _, _ => rfl
  | _ :: _, [], _ => rfl
  | q :: qs, b :: bs, h => by
    have ih := fit_mirror nd pm (qs := qs) (bs := bs) fun q hq => h q (List.mem_cons_of_mem _ hq)
    have hq := h q List.mem_cons_self
    have m := gone_mirror (t := b) (pm.nodup_iff.mpr nd) (hq.fore.nodup_iff.mpr nd) fun x hx => pm.mem_iff.mpr (hq.fore.mem_iff.mp hx)
    show (decide (goneL (!b) (rkLt os.reverse) q.z q.zs = q.ys) && fitR (asW qs (bs.map (!·))) os.reverse) = (decide (goneL b (rkLt os) q.z q.zs = q.ys) && fitR (asW qs bs) os)
    rw [m, ih]
/-- some order fits -/
theorem firstO_some {sr os : List Str} {rs : List Rc} (nd : sr.Nodup) (h : ∀ q ∈ rs, RcOk sr q) (pm : os.Perm sr) (fit : fitR rs os = true) : ∃ o, firstO rs sr = some o := by
  have key := first_of_all nd h
  have mem : os ∈ lvlL sr sr.length := lvl_mem.mpr ⟨pm.length_eq, pm.nodup_iff.mpr nd, fun x hx => pm.mem_iff.mp hx⟩
  cases e : firstO rs sr with
  | some o => exact ⟨o, rfl⟩
  | none =>
    rw [e] at key
    exact absurd fit (List.find?_eq_none.mp key os mem)
/-- the word by the ends -/
def wordK (qs : List Rc) : List Bool := qs.map fun q => !decide (lastS q.ys = lastS ((qs.headD ⟨false, Str.ofString "", [], []⟩).ys))
theorem fit_at {rs : List Rc} {os : List Str} (fit : fitR rs os = true) {i : Nat} {q : Rc} (h : rs[i]? = some q) : goneL q.k (rkLt os) q.z q.zs = q.ys := of_decide_eq_true (List.all_eq_true.mp fit q (List.mem_of_getElem? h))
/-- which words an order can explain -/
theorem fit_word {sr os : List Str} {q0 : Rc} {qs : List Rc} {b0 : Bool} {bs : List Bool} (two : 2 ≤ sr.length) (nd : sr.Nodup) (pm : os.Perm sr) (ok : ∀ q ∈ q0 :: qs, RcOk sr q) (len : qs.length = bs.length) (fit : fitR (asW (q0 :: qs) (b0 :: bs)) os = true) :
    b0 :: bs = (wordK (q0 :: qs)).map fun x => xor b0 x := by
  have f0 := fit_at fit (i := 0) (q := q0.as b0) rfl
  have o0 := asW_ok (bs := b0 :: bs) ok (q0.as b0) List.mem_cons_self
  refine List.ext_getElem? fun i => ?_
  unfold wordK
  rw [List.getElem?_map, List.getElem?_map]
  show _ = Option.map _ (Option.map (fun q : Rc => !decide (lastS q.ys = lastS q0.ys)) _)
  by_cases hi : i < (q0 :: qs).length
  · have hb : i < (b0 :: bs).length := by rw [List.length_cons] at hi ⊢; omega
    have h1 := List.getElem?_eq_getElem hi
    have h2 := List.getElem?_eq_getElem hb
    have hx := asW_get h1 h2
    have fi := fit_at fit hx
    have oi := asW_ok (bs := b0 :: bs) ok _ (List.mem_of_getElem? hx)
    have k := kinds_by_ends two nd pm oi o0 fi f0
    rw [h1, h2]
    generalize (q0 :: qs)[i] = q at k ⊢
    generalize (b0 :: bs)[i] = b at k ⊢
    show some b = some (xor b0 (!decide (lastS q.ys = lastS q0.ys)))
    have k : (b = b0) ↔ lastS q.ys = lastS q0.ys := k
    by_cases e : lastS q.ys = lastS q0.ys
    · rw [decide_eq_true e, k.mpr e]
      cases b0 <;> rfl
    · have ne : b ≠ b0 := fun z => e (k.mp z)
      rw [decide_eq_false e]
      cases b <;> cases b0 <;> first | rfl | exact absurd rfl ne
  · have hb : ¬ i < (b0 :: bs).length := by rw [List.length_cons] at hi ⊢; omega
    rw [List.getElem?_eq_none (Nat.le_of_not_lt hi), List.getElem?_eq_none (Nat.le_of_not_lt hb)]
    rfl
end
section
variable {P : Program} {w : World} {K : PySem.W.Frag} {mg : Str → Option Value} {base : Heap}
/-! ### the same for a list of records -/
def spKnownL (K : PySem.W.Frag) : Sp := fun vs H Q _ => ∃ (r : Addr) (rs : List Addr) (qs : List Rc) (sr : List Str), vs = [.ref r] ∧ SqL K H r (rs.map V.ref) ∧ RcsAt K H rs qs ∧ 1 ≤ qs.length ∧ (∀ q ∈ qs, RcOn sr q) ∧
  (allP qs = none → ∀ H', Same H H' → Q .non H') ∧ ∀ ps, allP qs = some ps → ∀ (p : Addr) (as : List Addr) (H' : Hp), Same H H' → H' p = some (.dK (kvS sr as)) → ShAt ps H' as sr → Q (.ref p) H'
theorem ok_knownL (D : Df K mg "known_shorter" s_known_shorter) (c_compared_names : Cl P w K mg base 1 "compared_names" s_compared_names ["record"] (spCmpN K)) (m_sorted : mg "sorted" = none) :
    Cl P w K mg base 2 "known_shorter" s_known_shorter ["records"] (spKnownL K) := by
  refine D.ok sc_known_shorter (fun _ _ _ _ _ _ us hl => match us, hl with | [_], _ => rfl) (fun vs H Q E h => ?_) (fun f cdv A outer s H vs Q E hr h => ?_)
  · obtain ⟨r, rs, qs, sr, rfl, _⟩ := h
    rfl
  · obtain ⟨r, rs, qs, sr, rfl, hS, each, h1, on, qn, qp⟩ := h
    refine ⟨_, 
      (pss_cons (ps_setDc (i := 1) (own := [("name", 6)]) (g := gName 6) rfl sc_known_shorter.nd rfl rfl (sw_dict rfl rfl rfl (by decide +kernel)) (pi_list (pe_callB (cr_sortTx hr.units) (by rfl) m_sorted (by decide +kernel) (pa_cons (pe_ix ix_tup (pe_ix ix_list (pv 0) pe_int (fun _ _ => rfl)) pe_int (fun _ _ => rfl)) pa_nil))) (blkOk_by (own := [("name", 6)]) (N := N_known_shorter) (sc := (defScope s_known_shorter)) (by decide +kernel)) (fun _ _ _ _ _ => (pg_name (i := 6) sc_known_shorter.nd rfl (Or.inl rfl))) (fun _ _ _ _ _ => pts_nil) (fun _ _ _ _ _ => (pv 6)) (fun _ _ _ _ _ => pe_dnewK)) 
      (pss_cons (ps_for PassesOwn.never rfl (pi_list (pv 0)) (pg_name (i := 2) sc_known_shorter.nd rfl (Or.inl rfl)) (pss_cons (ps_set (i := 3) sc_known_shorter.nd rfl (Or.inl rfl) (pe_u c_compared_names hr (by omega) (by rfl) (pa_cons (pv 2) pa_nil))) (pss_cons (ps_if (pt_cmpR op_isN (pv 3) pe_non (nomark _)) (pss_one (ps_ret pe_non)) pss_nil) (pss_one (ps_for PassesOwn.never rfl (pi_list (pv 3)) (pg_tup (by rfl) (pgs_cons (pg_name (i := 4) sc_known_shorter.nd rfl (Or.inl rfl)) (pgs_cons (pg_name (i := 5) sc_known_shorter.nd rfl (Or.inl rfl)) pgs_nil))) (pss_one (ps_dput (uni hr) (pe_dget (uni hr) (pv 1) (pv 5) (fun _ _ => rfl)) (pv 4) pe_bl (by rfl)))))))) 
      (pss_one (ps_ret (pv 1))))), ?_⟩
    have el := each.len
    have l0 : 0 < qs.length := by omega
    have r0 : 0 < rs.length := by omega
    obtain ⟨q0, hq0, a0, b0, rec0⟩ := each.get (List.getElem?_eq_getElem r0)
    have on0 := on q0 (List.mem_of_getElem? hq0)
    have sl : sr.length ≤ 12 := by rw [← on0.srt, (sortS_perm _).length_eq]; exact on0.row.most
    have nd : sr.Nodup := by rw [← on0.srt]; exact (sortS_perm _).nodup_iff.mpr on0.row.nd
    refine ⟨_, rfl, r, _, 0, .ref rs[0], rfl, rfl, hS, atI_nat (j := 0) (by rw [List.getElem?_map, List.getElem?_eq_getElem r0]; rfl), rs[0], _, 0, .ref a0, rfl, rfl, rec0.top, atI_nat (j := 0) rfl, a0, q0.z :: q0.zs, rfl, .inl (.inl rec0.fore), by have := on0.row.most; omega, fun l nl => ?_⟩
    rw [on0.srt]
    have s1 := same_upd (o := .lst (sr.map V.str)) nl
    have hl : upd H l (.lst (sr.map V.str)) l = some (.lst (sr.map V.str)) := upd_same
    generalize upd H l (.lst (sr.map V.str)) = H1 at s1 hl ⊢
    refine ⟨l, rfl, ⟨_, .inl (.inl hl)⟩, fun d nd0 => ?_⟩
    have sd := same_upd (o := .dK []) nd0
    have fd : H d = none := s1.free nd0
    have dl : d ≠ l := fun e => by
      rw [e, hl] at nd0
      cases nd0
    refine dc_over (xs := sr.map V.str) (fun i G => ∃ as : List Addr, G d = some (.dK (kvS (sr.take i) as)) ∧ G l = some (.lst (sr.map V.str)) ∧ Same H G ∧ as.length = i ∧ as.Nodup ∧ d ∉ as ∧ (∀ a ∈ as, H a = none ∧ G a = some (.dK []))) ⟨[], upd_same, sd _ _ hl, s1.trans sd, rfl, List.nodup_nil, by simp, fun a h => nomatch h⟩ (fun i G _ hK => .inl (.inl hK.choose_spec.2.1)) (fun i v G hv hK => ?_) (fun G hK => ?_)
    · obtain ⟨as, hd, hl2, sG, al, na, da, cl⟩ := hK
      have il : i < sr.length := lt_of_get hv
      rw [List.getElem?_map, List.getElem?_eq_getElem il] at hv
      have ev : v = .str sr[i] := (Option.some.inj hv).symm
      subst ev
      refine ⟨rfl, _, rfl, fun a fa => ?_⟩
      have sa := same_upd (o := .dK []) fa
      have ad : a ≠ d := fun e => by
        rw [e, hd] at fa
        cases fa
      have aas : a ∉ as := fun m => by
        rw [(cl a m).2] at fa
        cases fa
      refine ⟨kvS (sr.take i) as, Sum.inr sr[i], rfl, sa _ _ hd, ?_, as ++ [a], ?_, ?_, fun b o e => ?_, ?_, ?_, ?_, fun b hb => ?_⟩
      · unfold kvS
        rw [List.length_map, List.length_zip, List.length_take]
        exact len_lt (by omega)
      · have fresh : sr[i] ∉ sr.take i := fun m => by
          have := nd.sublist (List.take_sublist (i + 1) sr)
          rw [List.take_add_one, List.getElem?_eq_getElem il] at this
          exact (List.nodup_append.mp this).2.2 _ m sr[i] (by simp) rfl
        rw [upd_same, putK_new _ (valS_none fresh), List.take_add_one, List.getElem?_eq_getElem il]
        show some (HO.dK (kvS (sr.take i) as ++ [(Sum.inr sr[i], V.ref a)])) = some (HO.dK (kvS (sr.take i ++ [sr[i]]) (as ++ [a])))
        rw [zip_snoc _ _ (by rw [List.length_take]; omega)]
      · rw [upd_ne dl.symm]
        exact sa _ _ hl2
      · rw [upd_ne (ne_of_none e fd)]
        exact sa _ _ (sG _ _ e)
      · rw [List.length_append, al]
        rfl
      · rw [List.nodup_append]
        exact ⟨na, by simp, fun x hx y hy e => aas (by rw [← List.mem_singleton.mp hy, ← e]; exact hx)⟩
      · rw [List.mem_append, List.mem_singleton]
        exact fun z => z.elim da fun e => ad e.symm
      · rcases List.mem_append.mp hb with m | m
        · obtain ⟨c1, c2⟩ := cl b m
          refine ⟨c1, (upd_ne fun e => da (by rw [← e]; exact m)).trans (sa _ _ c2)⟩
        · rw [List.mem_singleton.mp m]
          exact ⟨sG.free fa, (upd_ne ad).trans upd_same⟩
    · obtain ⟨as, hd, _, sG, al, na, da, cl⟩ := hK
      rw [List.length_map, List.take_length] at hd
      rw [List.length_map] at al
      have sh0 : ShAt [] G as sr := by
        have go : ∀ {as : List Addr} {sr : List Str}, as.length = sr.length → (∀ a ∈ as, G a = some (.dK [])) → ShAt [] G as sr := by
          intro as
          induction as with
          | nil => exact fun {sr} e _ => by cases sr with | nil => trivial | cons _ _ => cases e
          | cons a as ih =>
            intro sr e h
            cases sr with
            | nil => cases e
            | cons z sr => exact ⟨⟨[], h a List.mem_cons_self, List.nodup_nil, fun l => by simp⟩, ih (Nat.succ.inj e) fun b hb => h b (List.mem_cons_of_mem _ hb)⟩
        exact go al fun a ha => (cl a ha).2
      have fas : ∀ a ∈ as, H a = none := fun a ha => (cl a ha).1
      clear cl
      refine ⟨_, rfl, r, rfl, ⟨_, sG.seq hS⟩, ?_⟩
      refine for_list (xs := rs.map V.ref) (fun i σ F => ∃ (ps : List (Str × Str)) (y2 y3 y4 y5 y6 : Option V), σ = [some (.ref r), some (.ref d), y2, y3, y4, y5, y6] ∧ Same H F ∧ F d = some (.dK (kvS sr as)) ∧ ShAt ps F as sr ∧ allP (qs.take i) = some ps)
        ⟨[], none, none, none, none, none, rfl, sG, hd, sh0, rfl⟩ (fun i σ F _ hI => ?_) (fun i x σ F hx hI => ?_) (fun σ F hI => ?_)
      · obtain ⟨_, _, _, _, _, _, _, sF, _⟩ := hI
        exact sF.seq hS
      · obtain ⟨ps, y2, y3, y4, y5, y6, rfl, sF, hdF, sh, ep⟩ := hI
        have ir : i < rs.length := lt_of_get hx
        have iq : i < qs.length := by omega
        have ex := Option.some.inj (hx.symm.trans (getR ir))
        subst ex
        obtain ⟨q, hq, a, b, rec⟩ := each.get (List.getElem?_eq_getElem ir)
        have mq := List.mem_of_getElem? hq
        have onq := on q mq
        have tk : qs.take (i + 1) = qs.take i ++ [q] := by rw [List.take_add_one, hq]; rfl
        have e1 := allP_snoc (qs.take i) q
        rw [← tk, ep] at e1
        have zl := onq.aft.length_eq
        rw [List.length_cons] at zl
        have m12 := onq.row.most
        rw [List.length_cons] at m12
        have nm1 := allP_names (sr := sr) (fun q hq => (on q (List.mem_of_mem_take hq)).ok) ep
        refine ⟨_, rfl, rs[i], a, b, q.z, q.zs, q.ys, q.k, rfl, rec.same sF, by omega, by omega, fun en F1 sF1 => ?_, fun prs es p rp F1 sF1 np hp pr => ?_⟩
        · refine ⟨_, rfl, rfl, _, rfl, ?_⟩
          rw [decide_eq_true rfl]
          exact iteT (qn (allP_none mq en) _ (sF.trans sF1))
        · refine ⟨_, rfl, rfl, _, rfl, ?_⟩
          rw [decide_eq_false (fun h => nomatch h)]
          rw [es] at e1
          have e1 : allP (qs.take (i + 1)) = some (ps ++ prs) := e1
          have nm2 : ∀ w ∈ prs, w.1 ∈ sr ∧ w.2 ∈ sr := fun w hw => by
            obtain ⟨n1, n2⟩ := shown_names es w hw
            have up : ∀ x ∈ q.z :: q.zs, x ∈ sr := fun x hx => by rw [← onq.srt]; exact (sortS_perm _).mem_iff.mpr hx
            exact ⟨up _ n1, up _ n2⟩
          have sh1 : ShAt ps F1 as sr := sh.imp fun a _ z h => by
            obtain ⟨ls, h1, h2, h3⟩ := h
            exact ⟨ls, sF1 _ _ h1, h2, h3⟩
          have pl := pr.len
          refine iteF ⟨_, rfl, p, rfl, ⟨_, .inl (.inl hp)⟩, ?_⟩
          refine for_list (xs := rp.map V.ref) (fun j σ F2 => ∃ (y4 y5 y6 : Option V), σ = [some (.ref r), some (.ref d), some (.ref rs[i]), some (.ref p), y4, y5, y6] ∧ Same H F2 ∧ F2 d = some (.dK (kvS sr as)) ∧ ShAt (ps ++ prs.take j) F2 as sr ∧ F2 p = some (.lst (rp.map V.ref)) ∧ PrAt K F2 rp prs)
            ⟨_, _, _, rfl, sF.trans sF1, sF1 _ _ hdF, by rw [List.take_zero, List.append_nil]; exact sh1, hp, pr⟩ (fun j σ F2 _ hJ => ?_) (fun j x σ F2 hx2 hJ => ?_) (fun σ F2 hJ => ?_)
          · obtain ⟨_, _, _, _, _, _, _, hp2, _⟩ := hJ
            exact .inl (.inl hp2)
          · obtain ⟨y4, y5, y6, rfl, sF2, hd2, sh2, hp2, pr2⟩ := hJ
            have jr : j < rp.length := lt_of_get hx2
            have ex := Option.some.inj (hx2.symm.trans (getR jr))
            subst ex
            obtain ⟨w, hw, hat⟩ := pr2.get (List.getElem?_eq_getElem jr)
            have mw := List.mem_of_getElem? hw
            obtain ⟨nlo, nhi⟩ := nm2 w mw
            obtain ⟨u, hu⟩ := List.mem_iff_getElem?.mp nhi
            have ul := (List.getElem?_eq_some_iff.mp hu).1
            have ha : as[u]? = some (as[u]'(by omega)) := List.getElem?_eq_getElem (by omega)
            obtain ⟨hi, hhi, ls, g1, g2, g3⟩ := sh2.get ha
            cases hu.symm.trans hhi
            have ma : as[u]'(by omega) ∈ as := List.getElem_mem _
            generalize as[u]'(by omega) = ah at ha g1 ma
            refine ⟨_, _, rfl, hat, rfl, _, _, rfl, _, _, rfl, rfl, ?_⟩
            refine ⟨_, rfl, _, rfl, d, .ref ah, rfl, .inl ⟨_, Sum.inr w.2, .inl hd2, rfl, (valS nd hu ha).symm⟩, _, rfl, ah, _, rfl, DPut.k (k := Sum.inr w.1) g1 ?_, ?_⟩
            · have b := pigeonS g2 (fun l hl => by
                have m := (g3 l).mp hl
                rcases List.mem_append.mp m with m | m
                · exact (nm1 _ m).1
                · exact (nm2 _ (List.mem_of_mem_take m)).1)
              rw [List.length_map]
              exact len_lt (by omega)
            · rw [put_kvT]
              have ad : d ≠ ah := fun e => da (e ▸ ma)
              have ap : p ≠ ah := fun e => by
                rw [e, g1] at hp2
                cases hp2
              refine ⟨_, _, _, rfl, fun b o e => ?_, (upd_ne ad).trans hd2, ?_, (upd_ne ap).trans hp2, pr2.imp fun _ _ _ e => SqT.dct e g1⟩
              · rw [upd_ne (ne_of_none e (fas _ ma))]
                exact sF2 b o e
              · have tk2 : prs.take (j + 1) = prs.take j ++ [w] := by rw [List.take_add_one, hw]; rfl
                rw [tk2, ← List.append_assoc]
                exact ShAt.put sh2 na nd ha hu g1 g3 g2
          · obtain ⟨y4, y5, y6, rfl, sF2, hd2, sh2, hp2, pr2⟩ := hJ
            rw [List.length_map, pl, List.take_length] at sh2
            exact ⟨_, _, _, _, _, _, rfl, sF2, hd2, sh2, e1⟩
      · obtain ⟨ps, y2, y3, y4, y5, y6, rfl, sF, hdF, sh, ep⟩ := hI
        rw [List.length_map, el, List.take_length] at ep
        exact ⟨_, rfl, qp ps ep d as _ sF hdF sh⟩
def spFOL (K : PySem.W.Frag) : Sp := fun vs H Q _ => ∃ (r : Addr) (rs : List Addr) (qs : List Rc) (sr : List Str), vs = [.ref r] ∧ SqL K H r (rs.map V.ref) ∧ RcsAt K H rs qs ∧ 1 ≤ qs.length ∧ (∀ q ∈ qs, RcOn sr q) ∧
  ∀ (v : V) (H' : Hp), Same H H' → OrdAt K H' (firstO qs sr) v → Q v H'
theorem ok_foL (D : Df K mg "first_order" s_first_order) (c_known_shorter : Cl P w K mg base 2 "known_shorter" s_known_shorter ["records"] (spKnownL K)) (c_order_and_rest : Cl P w K mg base 1 "order_and_rest" s_order_and_rest ["shorter"] (spOR K)) (m_tuple : mg "tuple" = none) :
    Cl P w K mg base 3 "first_order" s_first_order ["records"] (spFOL K) := by
  refine D.ok sc_first_order (fun _ _ _ _ _ _ us hl => match us, hl with | [_], _ => rfl) (fun vs H Q E h => ?_) (fun f cdv A outer s H vs Q E hr h => ?_)
  · obtain ⟨r, rs, qs, sr, rfl, _⟩ := h
    rfl
  · obtain ⟨r, rs, qs, sr, rfl, hS, each, h1, on, qo⟩ := h
    refine ⟨_, 
      (pss_cons (ps_set (i := 1) sc_first_order.nd rfl (Or.inl rfl) (pe_u c_known_shorter hr (by omega) (by rfl) (pa_cons (pv 0) pa_nil))) 
      (pss_cons (ps_if (pt_cmpR op_isN (pv 1) pe_non (nomark _)) (pss_one (ps_ret pe_non)) pss_nil) 
      (pss_cons (ps_asg (pe_u c_order_and_rest hr (by omega) (by rfl) (pa_cons (pv 1) pa_nil)) (pg_tup (by rfl) (pgs_cons (pg_name (i := 2) sc_first_order.nd rfl (Or.inl rfl)) (pgs_cons (pg_name (i := 3) sc_first_order.nd rfl (Or.inl rfl)) pgs_nil)))) 
      (pss_one (ps_ret (pe_ifExp (pt_truth (pv 3) (fun _ => rfl)) pe_non (pe_callTy call_tuple_of (by rfl) m_tuple (by decide +kernel) (pa_cons (pv 2) pa_nil)))))))), ?_⟩
    refine ⟨_, rfl, r, rs, qs, sr, rfl, hS, each, h1, on, fun en H1 s1 => ?_, fun ps es d as H1 s1 hd sh => ?_⟩
    · refine ⟨_, rfl, rfl, _, rfl, ?_⟩
      rw [decide_eq_true rfl]
      exact iteT (qo _ _ s1 (by unfold firstO; rw [en]; rfl))
    · have q0 : ∃ q0, q0 ∈ qs := by
        cases qs with
        | nil => exact absurd h1 (by decide)
        | cons q _ => exact ⟨q, List.mem_cons_self⟩
      obtain ⟨q0, m0⟩ := q0
      have on0 := on q0 m0
      have sl : sr.length ≤ 12 := by rw [← on0.srt, (sortS_perm _).length_eq]; exact on0.row.most
      have nd : sr.Nodup := by rw [← on0.srt]; exact (sortS_perm _).nodup_iff.mpr on0.row.nd
      have nm := allP_names (sr := sr) (fun q hq => (on q hq).ok) es
      have eo : firstO qs sr = ordOf ps sr := by unfold firstO; rw [es]
      unfold ordOf at eo
      refine ⟨_, rfl, rfl, _, rfl, ?_⟩
      rw [decide_eq_false (fun h => nomatch h)]
      refine iteF ⟨_, rfl, d, sr, as, ps, rfl, hd, sh, nd, sl, fun p hp => (nm p hp).1, fun T a b H2 s2 hT ha hb => ?_⟩
      generalize goG ps sr.length [] sr = g at eo ha hb
      obtain ⟨o, rest⟩ := g
      refine ⟨T, _, rfl, .inl (.inl hT), rfl, _, _, rfl, _, _, rfl, rfl, ?_⟩
      refine ⟨_, rfl, _, .inl ⟨_, .inl (.inl hb), rfl⟩, ?_⟩
      cases rest with
      | nil =>
        rw [if_pos rfl] at eo
        refine iteF ⟨_, rfl, a, _, rfl, .inl ⟨.inl (.inl ha), fun l nl => ?_⟩⟩
        exact qo _ _ ((s1.trans s2).trans (same_upd nl)) (by rw [eo]; exact ⟨l, rfl, .inl (.inl upd_same)⟩)
      | cons x t =>
        rw [if_neg (fun h => nomatch h)] at eo
        exact iteT (qo _ _ (s1.trans s2) (by rw [eo]; rfl))
end
section
variable {P : Program} {w : World} {K : PySem.W.Frag} {mg : Str → Option Value} {base : Heap}
/-! ### pairs of rows, and the kinds that are possible -/
abbrev s_is_pair : Stmt := top 20
abbrev N_is_pair : List Str := ["value"]
theorem sc_is_pair : FnScope N_is_pair ["value"] (defScope s_is_pair) := ⟨rfl, rfl, rfl, by decide +kernel, rfl, by decide +kernel, by decide +kernel⟩
/-- a row before, a row behind -/
structure PaAt (K : PySem.W.Frag) (H : Hp) (r : Addr) (q : Rc) (a b : Addr) : Prop where
  top : SqT K H r [.ref a, .ref b]
  fore : H a = some (.tup ((q.z :: q.zs).map V.str))
  aft : H b = some (.tup (q.ys.map V.str))
def PaR (K : PySem.W.Frag) (H : Hp) (r : Addr) (q : Rc) : Prop := ∃ a b : Addr, PaAt K H r q a b
abbrev PasAt (K : PySem.W.Frag) (H : Hp) (rs : List Addr) (qs : List Rc) : Prop := Each (PaR K H) rs qs
theorem PaAt.same {H G : Hp} {r a b : Addr} {q : Rc} (s : Same H G) (h : PaAt K H r q a b) : PaAt K G r q a b := ⟨SqT.same s h.top, s _ _ h.fore, s _ _ h.aft⟩
theorem PaR.same {H G : Hp} {r : Addr} {q : Rc} (s : Same H G) (h : PaR K H r q) : PaR K G r q := by
  obtain ⟨a, b, h⟩ := h
  exact ⟨a, b, h.same s⟩
theorem PasAt.same {H G : Hp} {rs : List Addr} {qs : List Rc} (s : Same H G) (h : PasAt K H rs qs) : PasAt K G rs qs := h.imp fun _ _ _ e => PaR.same s e
def spIsPair (K : PySem.W.Frag) : Sp := fun vs H Q _ => ∃ (r a b : Addr) (q : Rc), vs = [.ref r] ∧ PaAt K H r q a b ∧ NmR (q.z :: q.zs) ∧ (q.z :: q.zs).Perm q.ys ∧ ∀ H', Same H H' → Q (.bl true) H'
theorem ok_ispair (D : Df K mg "is_pair" s_is_pair) (c_have_same_names : Cl P w K mg base 3 "have_same_names" s_have_same_names ["names", "others"] (spSameNames K)) (m_isinstance : mg "isinstance" = none) (m_tuple : mg "tuple" = none) (m_len : mg "len" = none) :
    Cl P w K mg base 4 "is_pair" s_is_pair ["value"] (spIsPair K) := by
  refine D.ok sc_is_pair (fun _ _ _ _ _ _ us hl => match us, hl with | [_], _ => rfl) (fun vs H Q E h => ?_) (fun f cdv A outer s H vs Q E hr h => ?_)
  · obtain ⟨r, a, b, q, rfl, _⟩ := h
    rfl
  · obtain ⟨r, a, b, q, rfl, pa, row, pm, fin⟩ := h
    refine ⟨_, 
      (pss_one (ps_ret (pe_and (pe_callB call_isi (by rfl) m_isinstance (by decide +kernel) (pa_cons (pv 0) (pa_cons (pe_bltn (v := .ty "tuple") (by rfl) m_tuple (by decide +kernel) rfl) pa_nil))) (pe_and (pe_cmpR op_eq (pe_callB call_lenS (by rfl) m_len (by decide +kernel) (pa_cons (pv 0) pa_nil)) pe_int (nomark _)) (pe_one (pe_u c_have_same_names hr (by omega) (by rfl) (pa_cons (pe_ix ix_tup (pv 0) pe_int (fun _ _ => rfl)) (pa_cons (pe_ix ix_tup (pv 0) pe_int (fun _ _ => rfl)) pa_nil)))))))), ?_⟩
    refine ⟨_, rfl, .ref r, .ty "tuple", .type "tuple", .type "tuple", _, rfl, .ty _, (Tv.tup pa.top).ty, kit_tuple (Tv.tup pa.top).mem, _, rfl, iteT ?_⟩
    refine ⟨_, rfl, r, _, rfl, .inr pa.top, rfl, _, rfl, iteT ⟨_, rfl, r, _, 0, .ref a, rfl, rfl, pa.top, atI_nat (j := 0) rfl, _, rfl, r, _, 1, .ref b, rfl, rfl, pa.top, atI_nat (j := 1) rfl, a, b, _, _, rfl, .inl (.inl pa.fore), .inl (.inl pa.aft), row, pm, fin⟩⟩
theorem rightly_pair {H : Hp} {rs : List Addr} {qs : List Rc} {sr : List Str} (each : PasAt K H rs qs) (on : ∀ q ∈ qs, RcOn sr q) : ∀ x ∈ rs.map V.ref, Rightly K (spIsPair K) H sr x := fun x hx => by
  obtain ⟨r, hr, rfl⟩ := List.mem_map.mp hx
  obtain ⟨i, hi⟩ := List.mem_iff_getElem?.mp hr
  obtain ⟨q, hq, a, b, pa⟩ := each.get hi
  have o := on q (List.mem_of_getElem? hq)
  exact ⟨⟨r, a, _, _, rfl, pa.top, .inl (.inl pa.fore), o.row, o.srt⟩, fun H' Q s' fin => ⟨r, a, b, q, rfl, pa.same s', o.row, o.aft, fin⟩⟩
theorem join_ltr (bs : List Bool) : Txt.join (Str.ofString "") (bs.map ltr) = wd bs := by
  have e := join_one (bs.map code)
  rw [List.map_map] at e
  exact e
theorem len_ltrs (bs : List Bool) (h : bs.length ≤ 400) : ((bs.map ltr).map (·.length)).sum + (bs.map ltr).length * (Str.ofString "").length ≤ 16777216 := by
  have e : ((bs.map ltr).map (·.length)).sum = (bs.map code).length := by
    rw [← len_ones (bs.map code), List.map_map (g := oneC)]
    rfl
  rw [e, List.length_map, List.length_map, show (Str.ofString "").length = 0 by decide +kernel]
  omega
theorem at_last {ys : List Str} (ne : ys ≠ []) : atI (ys.map V.str) (-1) = some (.str (lastS ys)) := by
  obtain ⟨l, x, rfl⟩ : ∃ l x, ys = l ++ [x] := ⟨ys.dropLast, ys.getLast ne, (List.dropLast_concat_getLast ne).symm⟩
  rw [last_snoc]
  unfold atI
  have ix : ixN ((l ++ [x]).map V.str).length (-1) = some l.length := by
    unfold ixN
    rw [List.length_map, List.length_append, if_neg (by decide), if_pos (by rw [List.length_cons, List.length_nil]; omega)]
    congr 1
    show ((-1 : Int) + ((l.length + 1 : Nat) : Int)).toNat = l.length
    omega
  rw [ix]
  show ((l ++ [x]).map V.str)[l.length]? = _
  rw [List.map_append, List.getElem?_append_right (by rw [List.length_map]; omega), List.length_map, Nat.sub_self]
  rfl
abbrev s_possible_kinds : Stmt := top 21
abbrev N_possible_kinds : List Str := ["pairs", "held", "word", "changed", "records", "kind", "before", "behind"]
theorem sc_possible_kinds : FnScope N_possible_kinds ["pairs"] (defScope s_possible_kinds) := ⟨rfl, rfl, rfl, by decide +kernel, rfl, by decide +kernel, by decide +kernel⟩
/-- the words whose letters allow an order: none, or one and the other way round -/
def kindsO (qs : List Rc) (sr : List Str) : Option (List Bool) := if (firstO (asW qs (wordK qs)) sr).isNone = true then none else some (wordK qs)
abbrev flipW (w : List Bool) : List Bool := w.map (!·)
def KndAt (H : Hp) (o : Option (List Bool)) (v : V) : Prop := ∃ p : Addr, v = .ref p ∧ H p = some (.tup (match o with
  | none => []
  | some w => [.str (wd w), .str (wd (flipW w))]))
theorem KndAt.same {H G : Hp} {o : Option (List Bool)} {v : V} (s : Same H G) (h : KndAt H o v) : KndAt G o v := by
  obtain ⟨p, e, h⟩ := h
  exact ⟨p, e, s _ _ h⟩
theorem wordK_len (qs : List Rc) : (wordK qs).length = qs.length := List.length_map ..
def spKinds (K : PySem.W.Frag) : Sp := fun vs H Q _ => ∃ (r : Addr) (rs : List Addr) (qs : List Rc) (sr : List Str), vs = [.ref r] ∧ SqT K H r (rs.map V.ref) ∧ PasAt K H rs qs ∧ 1 ≤ qs.length ∧ qs.length ≤ 20 ∧ (∀ q ∈ qs, RcOn sr q) ∧ ∀ (v : V) (H' : Hp), Same H H' → KndAt H' (kindsO qs sr) v → Q v H'
theorem ok_kinds (D : Df K mg "possible_kinds" s_possible_kinds) (g_is_pair : mg "is_pair" = some (.ref (He.ga K "is_pair"))) (c_check_all_right : Cl P w K mg base 6 "check_all_right" s_check_all_right ["records", "is_right"] (spAllR K (He.ga K "is_pair") (spIsPair K))) (c_first_order : Cl P w K mg base 3 "first_order" s_first_order ["records"] (spFOL K)) (m_zip : mg "zip" = none) :
    Cl P w K mg base 7 "possible_kinds" s_possible_kinds ["pairs"] (spKinds K) := by
  refine D.ok sc_possible_kinds (fun _ _ _ _ _ _ us hl => match us, hl with | [_], _ => rfl) (fun vs H Q E h => ?_) (fun f cdv A outer s H vs Q E hr h => ?_)
  · obtain ⟨r, rs, qs, sr, rfl, _⟩ := h
    rfl
  · obtain ⟨r, rs, qs, sr, rfl, hS, each, n1, n20, on, fin⟩ := h
    refine ⟨_, 
      (pss_cons (ps_expr (pe_u c_check_all_right hr (by omega) (by rfl) (pa_cons (pv 0) (pa_cons (pe_glob (v := .ref (He.ga K "is_pair")) (by rfl) g_is_pair rfl) pa_nil)))) 
      (pss_cons (ps_set (i := 1) sc_possible_kinds.nd rfl (Or.inr rfl) (pe_ix ix_tup (pe_ix ix_tup (pe_ix ix_tup (pv 0) pe_int (fun _ _ => rfl)) pe_int (fun _ _ => rfl)) (pe_un un_neg pe_int) (fun _ _ => rfl))) 
      (pss_cons (ps_set (i := 2) sc_possible_kinds.nd rfl (Or.inl rfl) (pe_join pe_str (pe_lc (own := [("before", 6), ("behind", 7)]) (g := gTup K 2 (gCons (gName 6) (gCons (gName 7) gNil))) (te := (tIf (tTest (tOp _ (tOp (rIxT K) (tVar 7) (tUn _ (tC _))) (tVar 1))) (tC _) (tC _))) rfl sc_possible_kinds.nd (pi_tup (pv 0)) (blkOk_by (own := [("before", 6), ("behind", 7)]) (N := N_possible_kinds) (sc := (defScope s_possible_kinds)) (by decide +kernel)) (fun _ _ _ _ _ => (pg_tup (by rfl) (pgs_cons (pg_name (i := 6) sc_possible_kinds.nd rfl (Or.inl rfl)) (pgs_cons (pg_name (i := 7) sc_possible_kinds.nd rfl (Or.inl rfl)) pgs_nil)))) (fun _ _ _ _ _ => pts_nil) (fun _ _ _ _ _ => (pe_ifExp (pt_cmpR op_eq (pe_ix ix_tup (pv 7) (pe_un un_neg pe_int) (fun _ _ => rfl)) (pv 1) (nomark _)) pe_str pe_str))))) 
      (pss_cons (ps_set (i := 3) sc_possible_kinds.nd rfl (Or.inl rfl) (pe_join pe_str (pe_lc (own := [("kind", 5)]) (g := gName 5) rfl sc_possible_kinds.nd (pi_str (pv 2)) (blkOk_by (own := [("kind", 5)]) (N := N_possible_kinds) (sc := (defScope s_possible_kinds)) (by decide +kernel)) (fun _ _ _ _ _ => (pg_name (i := 5) sc_possible_kinds.nd rfl (Or.inl rfl))) (fun _ _ _ _ _ => pts_nil) (fun _ _ _ _ _ => (pe_ifExp (pt_cmpR op_eq (pv 5) pe_str (nomark _)) pe_str pe_str))))) 
      (pss_cons (ps_setLc (i := 4) (own := [("before", 6), ("behind", 7), ("kind", 5)]) (g := gTup K 2 (gCons (gTup K 2 (gCons (gName 6) (gCons (gName 7) gNil))) (gCons (gName 5) gNil))) rfl sc_possible_kinds.nd rfl rfl (sw_true rfl rfl rfl (by decide +kernel)) (pi_zt (by rfl) m_zip (pa_cons (pv 0) (pa_cons (pv 2) pa_nil))) (blkOk_by (own := [("before", 6), ("behind", 7), ("kind", 5)]) (N := N_possible_kinds) (sc := (defScope s_possible_kinds)) (by decide +kernel)) (fun _ _ _ _ _ => (pg_tup (by rfl) (pgs_cons (pg_tup (by rfl) (pgs_cons (pg_name (i := 6) sc_possible_kinds.nd rfl (Or.inl rfl)) (pgs_cons (pg_name (i := 7) sc_possible_kinds.nd rfl (Or.inl rfl)) pgs_nil))) (pgs_cons (pg_name (i := 5) sc_possible_kinds.nd rfl (Or.inl rfl)) pgs_nil)))) (fun _ _ _ _ _ => pts_nil) (fun _ _ _ _ _ => (pe_tup (pa_cons (pv 6) (pa_cons (pv 5) (pa_cons (pv 7) pa_nil)))))) 
      (pss_one (ps_ret (pe_ifExp (pt_cmpR op_isN (pe_u c_first_order hr (by omega) (by rfl) (pa_cons (pv 4) pa_nil)) pe_non (nomark _)) (pe_tup pa_nil) (pe_tup (pa_cons (pv 2) (pa_cons (pv 3) pa_nil))))))))))), ?_⟩
    have el := each.len
    refine ⟨_, rfl, r, _, sr, rfl, hS, by rw [List.length_map]; omega, by rw [List.length_map]; omega, rightly_pair each on, fun H1 s1 => ?_⟩
    have l0 : 0 < qs.length := by omega
    have r0 : 0 < rs.length := by omega
    obtain ⟨q0, hq0, a0, b0, pa0⟩ := (each.same s1).get (List.getElem?_eq_getElem r0)
    have nonempty : ∀ q ∈ qs, q.ys ≠ [] := fun q hq e => by
      have := (on q hq).aft.length_eq
      rw [e, List.length_cons] at this
      cases this
    have m0 := List.mem_of_getElem? hq0
    refine ⟨_, rfl, r, _, 0, .ref rs[0], rfl, rfl, SqT.same s1 hS, atI_nat (j := 0) (by rw [List.getElem?_map, List.getElem?_eq_getElem r0]; rfl), rs[0], _, 1, .ref b0, rfl, rfl, pa0.top, atI_nat (j := 1) rfl, _, rfl, b0, _, -1, .str (lastS q0.ys), rfl, rfl, .inl (.inl pa0.aft), at_last (nonempty q0 m0), ?_⟩
    have bit : ∀ {i : Nat} {q : Rc}, qs[i]? = some q → (wordK qs).take (i + 1) = (wordK qs).take i ++ [!decide (lastS q.ys = lastS q0.ys)] := fun {i q} h => by
      have hd : qs.headD ⟨false, Str.ofString "", [], []⟩ = q0 := by
        cases qs with
        | nil => cases hq0
        | cons x _ => cases hq0; rfl
      have e : (wordK qs)[i]? = some (!decide (lastS q.ys = lastS q0.ys)) := by
        unfold wordK
        rw [List.getElem?_map, h, hd]
        rfl
      rw [List.take_add_one, e]
      rfl
    have wl := wordK_len qs
    generalize hw : wordK qs = bs at bit wl
    -- the word
    refine ⟨⟨_, rfl⟩, _, rfl, r, rfl, ⟨_, SqT.same s1 hS⟩, fun D nD => ?_⟩
    refine lc_tup (xs := rs.map V.ref) (fun i F => F D = some (.lst (((bs.take i).map ltr).map V.str)) ∧ Same H1 F) ⟨upd_same, same_upd nD⟩ (fun i F _ hK => SqT.same (s1.trans hK.2) hS) (fun i v F hv hK => ?_) (fun F hK => ?_)
    · obtain ⟨hD, sF⟩ := hK
      have ir : i < rs.length := lt_of_get hv
      have ex := Option.some.inj (hv.symm.trans (getR ir))
      subst ex
      obtain ⟨q, hq, a, b, pa⟩ := (each.same (s1.trans sF)).get (List.getElem?_eq_getElem ir)
      have tk := bit hq
      have len : (((bs.take i).map ltr).map V.str).length < sizeLine := by
        rw [List.length_map, List.length_map, List.length_take]
        exact len_lt (by omega)
      refine ⟨rs[i], _, rfl, pa.top, rfl, _, _, rfl, _, _, rfl, rfl, rfl, ?_⟩
      refine ⟨_, rfl, _, rfl, b, _, -1, .str (lastS q.ys), rfl, rfl, .inl (.inl pa.aft), at_last (nonempty q (List.mem_of_getElem? hq)), _, rfl, rfl, _, rfl, ?_⟩
      rw [decS]
      rw [tk, List.map_append, List.map_append]
      have far : ∀ {o : HO}, Same H1 (upd F D o) := fun {o} b x e => by
        rw [upd_ne (ne_of_none e nD)]
        exact sF _ _ e
      by_cases e : lastS q.ys = lastS q0.ys
      · rw [decide_eq_true e]
        exact iteT ⟨_, hD, len, by rw [upd_same, ltrS]; rfl, far⟩
      · rw [decide_eq_false e]
        exact iteF ⟨_, hD, len, by rw [upd_same, ltrT]; rfl, far⟩
    obtain ⟨hD, sF⟩ := hK
    rw [List.length_map, el, List.take_of_length_le (by omega)] at hD
    refine ⟨_, D, bs.map ltr, rfl, rfl, .inl (.inl (.inl hD)), len_ltrs bs (by omega), ?_⟩
    rw [join_ltr]
    -- the other way round
    have s2 := s1.trans sF
    clear hD
    refine ⟨⟨_, rfl⟩, _, rfl, wd bs, rfl, fun D2 nD2 => ?_⟩
    have wsz : (wd bs).cps.size = bs.length := wd_len bs
    refine lc_it walk_str (fun i G => G D2 = some (.lst ((((flipW bs).take i).map ltr).map V.str)) ∧ Same F G) ⟨upd_same, same_upd nD2⟩ (fun _ _ _ _ => trivial) (fun i v G G' hi hK hv => ?_) (fun G hK => ?_)
    · obtain ⟨hD, sG⟩ := hK
      obtain ⟨rfl, c, hc, rfl⟩ := hv
      obtain ⟨b, hb, rfl⟩ := wd_get hc
      have tk : (flipW bs).take (i + 1) = (flipW bs).take i ++ [!b] := by
        rw [List.take_add_one, List.getElem?_map, hb]
        rfl
      have len : ((((flipW bs).take i).map ltr).map V.str).length < sizeLine := by
        rw [List.length_map, List.length_map, List.length_take, List.length_map]
        exact len_lt (by omega)
      have far : ∀ {o : HO}, Same F (upd G' D2 o) := fun {o} b x e => by
        rw [upd_ne (ne_of_none e nD2)]
        exact sG _ _ e
      refine ⟨rfl, _, rfl, rfl, _, rfl, ?_⟩
      rw [show decide (V.str ⟨#[code b]⟩ = V.str (Str.ofString "S")) = !b from by cases b <;> decide +kernel]
      rw [tk, List.map_append, List.map_append]
      cases b with
      | false => exact iteT ⟨_, hD, len, by rw [upd_same, ltrT]; rfl, far⟩
      | true => exact iteF ⟨_, hD, len, by rw [upd_same, ltrS]; rfl, far⟩
    obtain ⟨hD, sG⟩ := hK
    rw [wsz, List.take_of_length_le (by rw [List.length_map]; exact Nat.le_refl _)] at hD
    refine ⟨_, D2, (flipW bs).map ltr, rfl, rfl, .inl (.inl (.inl hD)), len_ltrs _ (by rw [List.length_map]; omega), ?_⟩
    rw [join_ltr]
    have s3 := s2.trans sG
    clear hD
    -- the records
    refine ⟨_, rfl, _, rfl, r, _, wd bs, rfl, SqT.same s3 hS, fun L nL => ?_⟩
    have al : (asW qs bs).length = qs.length := asW_len qs bs wl.symm
    refine lc_it (walk_zt (K := K) (a := r) (xs := rs.map V.ref) (y := wd bs) (n := rs.length) (by rw [List.length_map]) (by omega)) (fun i B => ∃ us : List Addr, B L = some (.lst (us.map V.ref)) ∧ RcsAt K B us ((asW qs bs).take i) ∧ us.length = i ∧ Same G B) ⟨[], upd_same, trivial, rfl, same_upd nL⟩ (fun i B _ hK => SqT.same (s3.trans hK.choose_spec.2.2.2) hS) (fun i v B B' hi hK hv => ?_) (fun B hK => ?_)
    · obtain ⟨us, hL, ep, ul, sB⟩ := hK
      obtain ⟨T, x, d, rfl, nT, rfl, hx, hd⟩ := hv
      have ex := Option.some.inj (hx.symm.trans (getR hi))
      subst ex
      obtain ⟨b, hb, rfl⟩ := wd_get hd
      obtain ⟨q, hq, a, bb, pa⟩ := (each.same (s3.trans sB)).get (List.getElem?_eq_getElem hi)
      have hw2 := asW_get hq hb
      have tk : (asW qs bs).take (i + 1) = (asW qs bs).take i ++ [q.as b] := by rw [List.take_add_one, hw2]; rfl
      have sT := same_upd (o := .tup [.ref rs[i], .str ⟨#[code b]⟩]) nT
      have paT := pa.same sT
      refine ⟨T, _, rfl, .inl (.inl upd_same), rfl, _, _, rfl, rs[i], _, rfl, paT.top, rfl, _, _, rfl, _, _, rfl, rfl, _, _, rfl, rfl, rfl, ?_⟩
      refine ⟨_, rfl, _, rfl, _, rfl, (by show 3 ≤ sizeLine; decide), fun u nu => ?_⟩
      have su := same_upd (o := .tup [.ref a, .str ⟨#[code b]⟩, .ref bb]) nu
      have hu : upd (upd B T (.tup [.ref rs[i], .str ⟨#[code b]⟩])) u (.tup [.ref a, .str ⟨#[code b]⟩, .ref bb]) u = some (.tup [.ref a, .str ⟨#[code b]⟩, .ref bb]) := upd_same
      have paU := paT.same su
      have sTU := sT.trans su
      generalize upd (upd B T (.tup [.ref rs[i], .str ⟨#[code b]⟩])) u (.tup [.ref a, .str ⟨#[code b]⟩, .ref bb]) = B1 at hu paU sTU
      have hL1 := sTU _ _ hL
      have rc : RcAt K B1 u (q.as b) := ⟨a, bb, .inl (.inl hu), paU.fore, .inl (.inl paU.aft)⟩
      have away : ∀ {c : Addr} {o : HO} {q : Rc}, RcAt K B1 c q → RcAt K (upd B1 L o) c q := fun {c o q} h => by
        obtain ⟨a, b, h⟩ := h
        exact ⟨a, b, SqT.lst h.top hL1, tupU h.fore hL1, SqT.lst h.aft hL1⟩
      refine ⟨_, hL1, by rw [List.length_map]; exact len_lt (by omega), us ++ [u], by rw [upd_same, List.map_append]; rfl, ?_, by rw [List.length_append, ul]; rfl, fun c x e => ?_⟩
      · rw [tk]
        exact (ep.imp fun _ _ _ h => away (RcAt.same sTU h)).snoc (away rc)
      · rw [upd_ne (ne_of_none e nL)]
        exact sTU _ _ (sB _ _ e)
    obtain ⟨us, hL, ep, ul, sB⟩ := hK
    rw [List.take_of_length_le (by omega)] at ep
    have s4 := s3.trans sB
    have eo : kindsO qs sr = if (firstO (asW qs bs) sr).isNone = true then none else some bs := by
      unfold kindsO
      rw [hw]
    refine ⟨_, rfl, L, us, asW qs bs, sr, rfl, .inl (.inl hL), ep, by omega, asW_on on, fun v B1 sB1 due => ⟨rfl, _, rfl, ?_⟩⟩
    cases e : firstO (asW qs bs) sr with
    | none =>
      rw [e] at due eo
      have ev : v = .non := due
      subst ev
      rw [decide_eq_true rfl]
      refine iteT ⟨Nat.zero_le _, fun p np => fin _ _ ((s4.trans sB1).trans (same_upd np)) ?_⟩
      rw [eo]
      exact ⟨p, rfl, upd_same⟩
    | some os =>
      rw [e] at due eo
      obtain ⟨l, ev, _⟩ := due
      subst ev
      rw [decide_eq_false (fun h => nomatch h)]
      refine iteF ⟨_, rfl, _, rfl, (by show 2 ≤ sizeLine; decide), fun p np => fin _ _ ((s4.trans sB1).trans (same_upd np)) ?_⟩
      rw [eo]
      exact ⟨p, rfl, upd_same⟩
end
section
variable {P : Program} {w : World} {K : PySem.W.Frag} {mg : Str → Option Value} {base : Heap}
/-! ### pairs of rows made -/
theorem Each.set {β : Type} {R : Addr → β → Prop} {x : Addr} {y : β} : ∀ {l : List Addr} {m : List β} (k : Nat), Each R l m → R x y → Each R (l.set k x) (m.set k y)
  | [], [], _, _, _ => trivial
  | [], _ :: _, _, h, _ => h.elim
  | _ :: _, [], _, h, _ => h.elim
  | _ :: _, _ :: _, 0, h, z => ⟨z, h.2⟩
  | _ :: _, _ :: _, k + 1, h, z => ⟨h.1, Each.set k h.2 z⟩
/-- a pair of rows that was made at run time -/
def PaH (H : Hp) (r : Addr) (q : Rc) : Prop := ∃ a b : Addr, H r = some (.tup [.ref a, .ref b]) ∧ H a = some (.tup ((q.z :: q.zs).map V.str)) ∧ H b = some (.tup (q.ys.map V.str))
theorem PaH.at {H : Hp} {r : Addr} {q : Rc} (h : PaH H r q) : PaR K H r q := by
  obtain ⟨a, b, h1, h2, h3⟩ := h
  exact ⟨a, b, .inl (.inl h1), h2, h3⟩
theorem PaH.kp {H G : Hp} {p r : Addr} {q : Rc} (k : Kp p H G) (hp : Pool H p) (h : PaH H r q) : PaH G r q := by
  obtain ⟨a, b, h1, h2, h3⟩ := h
  exact ⟨a, b, k _ _ h1 (hp.row h1), k _ _ h2 (hp.row h2), k _ _ h3 (hp.row h3)⟩
theorem PaH.upd {H : Hp} {l r : Addr} {q : Rc} {xs : List V} {o : HO} (hl : H l = some (.lst xs)) (h : PaH H r q) : PaH (L2.upd H l o) r q := by
  obtain ⟨a, b, h1, h2, h3⟩ := h
  exact ⟨a, b, tupU h1 hl, tupU h2 hl, tupU h3 hl⟩
structure DbAt (H F : Hp) (a l : Addr) (ws : List Str) (rs : List Addr) (qs : List Rc) : Prop where
  kp : Kp a H F
  pool : Pool F a
  lst : F l = some (.lst (rs.map V.ref))
  each : Each (PaH F) rs qs
  on : ∀ q ∈ qs, RcOn (sortS ws) q
theorem DbAt.next {H F G : Hp} {a l : Addr} {ws : List Str} {rs : List Addr} {qs : List Rc} (h : DbAt H F a l ws rs qs) (la : l ≠ a) (k : Kp a F G) (p : Pool G a) : DbAt H G a l ws rs qs := ⟨h.kp.trans k, p, k _ _ h.lst la, h.each.imp fun _ _ _ e => e.kp k h.pool, h.on⟩
theorem DbAt.same {H F G : Hp} {a l : Addr} {ws : List Str} {rs : List Addr} {qs : List Rc} (h : DbAt H F a l ws rs qs) (la : l ≠ a) (s : Same F G) : DbAt H G a l ws rs qs := h.next la (.of_same s) (h.pool.of fun u e => s a u e)
theorem on_of {ws ys zs : List Str} {z : Str} {t : Bool} (row : NmR ws) (pz : (z :: zs).Perm ws) (py : ys.Perm (z :: zs)) : RcOn (sortS ws) ⟨t, z, zs, ys⟩ := ⟨row.perm pz.symm, sortS_eq pz, py.symm⟩
theorem consed {xs ws : List Str} (row : NmR ws) (pm : xs.Perm ws) : ∃ z zs, xs = z :: zs := by
  cases xs with
  | nil =>
    have := pm.length_eq
    have := row.two
    simp_all
  | cons z zs => exact ⟨z, zs, rfl⟩
theorem pickK {i : Int} (h0 : 0 ≤ i) (h1 : i < 2) : ∃ t : Bool, atI [V.str (Str.ofString "S"), V.str (Str.ofString "T")] i = some (.str (ltr t)) := by
  obtain rfl | rfl : i = 0 ∨ i = 1 := by omega
  · exact ⟨false, by rw [← ltrS]; rfl⟩
  · exact ⟨true, by rw [← ltrT]; rfl⟩
theorem asW_snoc {q : Rc} {b : Bool} : ∀ {qs : List Rc} {bs : List Bool}, qs.length = bs.length → asW (qs ++ [q]) (bs ++ [b]) = asW qs bs ++ [q.as b]
  | [], [], _ => rfl
  | [], _ :: _, h => nomatch h
  | _ :: _, [], h => nomatch h
  | x :: qs, y :: bs, h => congrArg (x.as y :: ·) (asW_snoc (Nat.succ.inj h))
theorem fit_snoc {qs : List Rc} {q : Rc} {os : List Str} (h : fitR qs os = true) (one : goneL q.k (rkLt os) q.z q.zs = q.ys) : fitR (qs ++ [q]) os = true := by
  unfold fitR at h ⊢
  rw [List.all_append, h]
  show (decide (goneL q.k (rkLt os) q.z q.zs = q.ys) && true) = true
  rw [decide_eq_true one]
  rfl
theorem wd_ltr (bs : List Bool) (b : Bool) : wd bs ++ ltr b = wd (bs ++ [b]) := wd_app bs [b]
theorem wd_end (bs : List Bool) (b : Bool) : atI (wd (bs ++ [b])).cps.toList (-1) = some (code b) := by
  have e : (wd (bs ++ [b])).cps.toList = bs.map code ++ [code b] := by
    show ((bs ++ [b]).map code).toArray.toList = _
    rw [List.map_append]
    rfl
  rw [e]
  unfold atI
  have ix : ixN (bs.map code ++ [code b]).length (-1) = some bs.length := by
    unfold ixN
    rw [List.length_append, List.length_map, List.length_cons, List.length_nil, if_neg (by decide), if_pos (by omega)]
    congr 1
    omega
  rw [ix]
  show (bs.map code ++ [code b])[bs.length]? = _
  rw [List.getElem?_append_right (by rw [List.length_map]; omega), List.length_map, Nat.sub_self]
  rfl
end
section
/-! ### by the ends -/
theorem flip_flip (bs : List Bool) : flipW (flipW bs) = bs := by
  show (bs.map (!·)).map (!·) = bs
  rw [List.map_map]
  conv => rhs; rw [← List.map_id bs]
  exact List.map_congr_left fun b _ => Bool.not_not b
theorem flip_some {sr : List Str} {qs : List Rc} (nd : sr.Nodup) (ok : ∀ q ∈ qs, RcOk sr q) (bs : List Bool) : (firstO (asW qs (flipW bs)) sr).isSome = (firstO (asW qs bs) sr).isSome := by
  have one : ∀ bs : List Bool, (firstO (asW qs bs) sr).isSome = true → (firstO (asW qs (flipW bs)) sr).isSome = true := fun bs h => by
    obtain ⟨os, e⟩ := Option.isSome_iff_exists.mp h
    obtain ⟨pm, ft⟩ := firstO_fits nd (asW_ok ok) e
    have m := fit_mirror nd pm (qs := qs) (bs := bs) ok
    rw [ft] at m
    obtain ⟨o, e2⟩ := firstO_some nd (asW_ok ok) (os.reverse_perm.trans pm) m
    rw [e2]
    rfl
  refine Bool.eq_iff_iff.mpr ⟨fun h => ?_, one bs⟩
  have := one _ h
  rw [flip_flip] at this
  exact this
/-- the word that begins with b, by the ends -/
abbrev wordB (qs : List Rc) (b : Bool) : List Bool := (wordK qs).map fun x => xor b x
theorem wordB_f (qs : List Rc) : wordB qs false = wordK qs := by
  conv => rhs; rw [← List.map_id (wordK qs)]
  exact List.map_congr_left fun b _ => Bool.false_xor b
theorem wordB_t (qs : List Rc) : wordB qs true = flipW (wordK qs) := List.map_congr_left fun b _ => Bool.true_xor b
theorem wordK_at {qs : List Rc} {q0 q : Rc} {i : Nat} (h0 : qs[0]? = some q0) (h : qs[i]? = some q) : (wordK qs)[i]? = some (!decide (lastS q.ys = lastS q0.ys)) := by
  have hd : qs.headD ⟨false, Str.ofString "", [], []⟩ = q0 := by
    cases qs with
    | nil => cases h0
    | cons x _ => cases h0; rfl
  unfold wordK
  rw [List.getElem?_map, h, hd]
  rfl
end
section
theorem fit_word' {sr os : List Str} {qs : List Rc} {bs : List Bool} (two : 2 ≤ sr.length) (nd : sr.Nodup) (pm : os.Perm sr) (ok : ∀ q ∈ qs, RcOk sr q) (len : qs.length = bs.length) (pos : 1 ≤ qs.length) (fit : fitR (asW qs bs) os = true) : ∃ b0, bs = wordB qs b0 := by
  cases qs with
  | nil => exact absurd pos (by decide)
  | cons q qs =>
    cases bs with
    | nil => cases len
    | cons b bs => exact ⟨b, fit_word two nd pm ok (Nat.succ.inj len) fit⟩
end
section
variable {P : Program} {w : World} {K : PySem.W.Frag} {mg : Str → Option Value} {base : Heap}
/-! ### a pool is right -/
def spRight : Sp := fun vs H Q _ => ∃ a : Addr, vs = [.ref a] ∧ Pool H a ∧ ∀ H', Kp a H H' → Pool H' a → Q (.bl true) H'
def kndL : Option (List Bool) → List (List Bool)
  | none => []
  | some w => [w, flipW w]
theorem knd_list (o : Option (List Bool)) : (match o with | none => [] | some w => [V.str (wd w), V.str (wd (flipW w))]) = (kndL o).map fun w => V.str (wd w) := by cases o <;> rfl
abbrev kndD (o : Option (List Bool)) : PyData := .tuple (((kndL o).map wd).map PyData.str)
theorem KndAt.at {H : Hp} {o : Option (List Bool)} {v : V} (h : KndAt H o v) : ∃ p : Addr, v = .ref p ∧ H p = some (.tup (((kndL o).map wd).map V.str)) := by
  obtain ⟨p, e, h⟩ := h
  refine ⟨p, e, ?_⟩
  rw [h]
  cases o <;> rfl
theorem knd_okd {o : Option (List Bool)} (h : ∀ w, o = some w → w.length ≤ 20) : Okd (kndD o) 1 1000 := by
  have one : ∀ w : List Bool, w.length ≤ 20 → Okd (.str (wd w)) 0 202 := fun w hw => Okd.str (m := 20) (by show (w.map code).toArray.size ≤ 20; simpa using hw) fun c hc => by
    have : c ∈ w.map code := by simpa [wd] using hc
    obtain ⟨b, _, rfl⟩ := List.mem_map.mp this
    cases b <;> decide
  refine (Okd.tup (m := 2) (dep := 0) (len := 202) (fun d hd => ?_) ?_).le (by decide) (by decide)
  · obtain ⟨z, hz, rfl⟩ := List.mem_map.mp hd
    obtain ⟨w, hw, rfl⟩ := List.mem_map.mp hz
    cases o with
    | none => cases hw
    | some u =>
      have l := h u rfl
      have e : w.length = u.length := by
        have : w = u ∨ w = flipW u := by simpa [kndL] using hw
        rcases this with z | z <;> rw [z]
        exact List.length_map ..
      exact one w (by omega)
  · rw [List.length_map, List.length_map]
    cases o with
    | none => exact Nat.zero_le _
    | some w => exact Nat.le_refl _
theorem kindsO_len {qs : List Rc} {sr : List Str} {w : List Bool} (h : kindsO qs sr = some w) : w = wordK qs ∧ (firstO (asW qs (wordK qs)) sr).isSome = true := by
  unfold kindsO at h
  cases e : firstO (asW qs (wordK qs)) sr with
  | none => rw [e] at h; cases h
  | some o =>
    rw [e] at h
    cases h
    exact ⟨rfl, rfl⟩
theorem kindsO_of {qs : List Rc} {sr : List Str} (h : (firstO (asW qs (wordK qs)) sr).isSome = true) : kindsO qs sr = some (wordK qs) := by
  unfold kindsO
  cases e : firstO (asW qs (wordK qs)) sr with
  | none => rw [e] at h; cases h
  | some o => rfl
theorem mem_kndL {qs : List Rc} {sr : List Str} {u : List Bool} (h : u ∈ kndL (kindsO qs sr)) : ∃ b, u = wordB qs b := by
  cases e : kindsO qs sr with
  | none => rw [e] at h; cases h
  | some w =>
    rw [e] at h
    have ew := (kindsO_len e).1
    have : u = w ∨ u = flipW w := by simpa [kndL] using h
    rcases this with z | z
    · exact ⟨false, by rw [wordB_f, z, ew]⟩
    · exact ⟨true, by rw [wordB_t, z, ew]⟩
theorem kndL_some {qs : List Rc} {sr : List Str} {u : List Bool} (nd : sr.Nodup) (ok : ∀ q ∈ qs, RcOk sr q) (h : u ∈ kndL (kindsO qs sr)) : (firstO (asW qs u) sr).isSome = true := by
  cases e : kindsO qs sr with
  | none => rw [e] at h; cases h
  | some w =>
    rw [e] at h
    obtain ⟨ew, is⟩ := kindsO_len e
    have : u = w ∨ u = flipW w := by simpa [kndL] using h
    rcases this with z | z
    · rw [z, ew]
      exact is
    · rw [z, flip_some nd ok, ew]
      exact is
/-- whatever an order explains is told -/
theorem fit_told {qs : List Rc} {sr os : List Str} {u : List Bool} (two : 2 ≤ sr.length) (nd : sr.Nodup) (ok : ∀ q ∈ qs, RcOk sr q) (len : u.length = qs.length) (pos : 1 ≤ qs.length) (pm : os.Perm sr) (fit : fitR (asW qs u) os = true) : u ∈ kndL (kindsO qs sr) := by
  obtain ⟨b, e⟩ := fit_word' two nd pm ok len.symm pos fit
  obtain ⟨o, eo⟩ := firstO_some nd (asW_ok ok) pm fit
  have is : (firstO (asW qs (wordK qs)) sr).isSome = true := by
    have z : (firstO (asW qs u) sr).isSome = true := by rw [eo]; rfl
    rw [e] at z
    cases b with
    | false => rw [wordB_f] at z; exact z
    | true => rw [wordB_t, flip_some nd ok] at z; exact z
  rw [kindsO_of is, e]
  cases b with
  | false => rw [wordB_f]; exact List.mem_cons_self
  | true => rw [wordB_t]; exact List.mem_cons_of_mem _ List.mem_cons_self
end
section
/-! ### the words that an order explains -/
abbrev sortsW (q : Rc) (os : List Str) : List Bool := [false, true].filter fun t => decide (goneL t (rkLt os) q.z q.zs = q.ys)
abbrev stepF (os : List Str) (fit : List (List Bool)) (q : Rc) : List (List Bool) := fit.flatMap fun u => (sortsW q os).map fun t => u ++ [t]
def fitW (os : List Str) (qs : List Rc) : List (List Bool) := qs.foldl (stepF os) [[]]
theorem fitW_snoc (os : List Str) (qs : List Rc) (q : Rc) : fitW os (qs ++ [q]) = stepF os (fitW os qs) q := by
  unfold fitW
  rw [List.foldl_append]
  rfl
theorem sorts_one {sr os : List Str} {q : Rc} (two : 2 ≤ sr.length) (nd : sr.Nodup) (pm : os.Perm sr) (ok : RcOk sr q) : (sortsW q os).length ≤ 1 := by
  unfold sortsW
  rw [List.filter_cons, List.filter_cons, List.filter_nil]
  by_cases h1 : goneL false (rkLt os) q.z q.zs = q.ys
  · by_cases h2 : goneL true (rkLt os) q.z q.zs = q.ys
    · have k := kinds_by_ends (q1 := q.as false) (q2 := q.as true) two nd pm ⟨ok.fore, ok.aft⟩ ⟨ok.fore, ok.aft⟩ h1 h2
      exact absurd (k.mpr rfl) (by show ¬ false = true; exact Bool.false_ne_true)
    · rw [decide_eq_false h2]
      split <;> simp
  · rw [decide_eq_false h1]
    by_cases h2 : goneL true (rkLt os) q.z q.zs = q.ys
    · rw [decide_eq_true h2]
      exact Nat.le_refl _
    · rw [decide_eq_false h2]
      exact Nat.zero_le _
theorem step_len {os : List Str} {q : Rc} (h : (sortsW q os).length ≤ 1) : ∀ fit : List (List Bool), (stepF os fit q).length ≤ fit.length
  | [] => Nat.zero_le _
  | u :: fit => by
    have ih := step_len h fit
    show (((sortsW q os).map fun t => u ++ [t]) ++ stepF os fit q).length ≤ _
    rw [List.length_append, List.length_map, List.length_cons]
    omega
theorem fitW_one {sr os : List Str} (two : 2 ≤ sr.length) (nd : sr.Nodup) (pm : os.Perm sr) (qs : List Rc) (ok : ∀ q ∈ qs, RcOk sr q) : ∀ j, (fitW os (qs.take j)).length ≤ 1
  | 0 => Nat.le_refl _
  | j + 1 => by
    have ih := fitW_one two nd pm qs ok j
    rw [List.take_add_one]
    cases h : qs[j]? with
    | none => simpa using ih
    | some q =>
      have e : (qs.take j ++ (some q).toList) = qs.take j ++ [q] := rfl
      rw [e, fitW_snoc]
      exact Nat.le_trans (step_len (sorts_one two nd pm (ok q (List.mem_of_getElem? h))) _) ih
theorem fitW_mem {os : List Str} : ∀ {rs : List Rc} {u : List Bool}, u ∈ fitW os rs.reverse ↔ u.length = rs.reverse.length ∧ fitR (asW rs.reverse u) os = true
  | [], u => by
    show u ∈ [[]] ↔ u.length = 0 ∧ _
    rw [List.mem_singleton]
    constructor
    · rintro rfl
      exact ⟨rfl, rfl⟩
    · rintro ⟨h, _⟩
      exact List.length_eq_zero_iff.mp h
  | q :: rs, u => by
    rw [List.reverse_cons, fitW_snoc, List.mem_flatMap]
    constructor
    · rintro ⟨v, hv, hu⟩
      obtain ⟨h1, h2⟩ := fitW_mem.mp hv
      obtain ⟨t, ht, rfl⟩ := List.mem_map.mp hu
      have go := of_decide_eq_true (List.mem_filter.mp ht).2
      refine ⟨by rw [List.length_append, List.length_append, h1]; rfl, ?_⟩
      rw [asW_snoc h1.symm]
      exact fit_snoc h2 go
    · rintro ⟨h1, h2⟩
      rw [List.length_append] at h1
      have ne : u ≠ [] := fun e => by
        rw [e] at h1
        cases h1
      have eu := List.dropLast_concat_getLast ne
      have l1 : rs.reverse.length = u.dropLast.length := by
        rw [List.length_dropLast, h1]
        rfl
      rw [← eu, asW_snoc l1] at h2
      unfold fitR at h2
      rw [List.all_append, Bool.and_eq_true] at h2
      have h3 : (decide (goneL (u.getLast ne) (rkLt os) q.z q.zs = q.ys) && true) = true := h2.2
      rw [Bool.and_true] at h3
      refine ⟨u.dropLast, fitW_mem.mpr ⟨l1.symm, h2.1⟩, List.mem_map.mpr ⟨u.getLast ne, List.mem_filter.mpr ⟨?_, h3⟩, eu⟩⟩
      cases u.getLast ne <;> simp
theorem fitW_has {os : List Str} {qs : List Rc} {u : List Bool} : u ∈ fitW os qs ↔ u.length = qs.length ∧ fitR (asW qs u) os = true := by
  have h := fitW_mem (os := os) (rs := qs.reverse) (u := u)
  rw [List.reverse_reverse] at h
  exact h
/-- all words that some order explains, sorted -/
theorem words_told {sr : List Str} {qs : List Rc} {ys : List Str} (two : 2 ≤ sr.length) (nd : sr.Nodup) (ok : ∀ q ∈ qs, RcOk sr q) (pos : 1 ≤ qs.length) (ndy : ys.Nodup) (mem : ∀ z, z ∈ ys ↔ ∃ os ∈ lvlL sr sr.length, ∃ u ∈ fitW os qs, z = wd u) : sortS ys = (kndL (kindsO qs sr)).map wd := by
  have same : ∀ z, z ∈ ys ↔ z ∈ (kndL (kindsO qs sr)).map wd := fun z => by
    rw [mem z, List.mem_map]
    constructor
    · rintro ⟨os, hos, u, hu, rfl⟩
      obtain ⟨h1, h2, h3⟩ := lvl_mem.mp hos
      have pm : os.Perm sr := (List.perm_ext_iff_of_nodup h2 nd).mpr fun x => ⟨h3 x, all_in h2 (by omega) h3 x⟩
      obtain ⟨l, ft⟩ := fitW_has.mp hu
      exact ⟨u, fit_told two nd ok l pos pm ft, rfl⟩
    · rintro ⟨u, hu, rfl⟩
      obtain ⟨o, e⟩ := Option.isSome_iff_exists.mp (kndL_some nd ok hu)
      obtain ⟨pm, ft⟩ := firstO_fits nd (asW_ok ok) e
      obtain ⟨b, eb⟩ := mem_kndL hu
      exact ⟨o, lvl_mem.mpr ⟨pm.length_eq, pm.nodup_iff.mpr nd, fun x hx => pm.mem_iff.mp hx⟩, u, fitW_has.mpr ⟨by rw [eb, List.length_map, wordK_len], ft⟩, rfl⟩
  have srt : ((kndL (kindsO qs sr)).map wd).Nodup ∧ ((kndL (kindsO qs sr)).map wd).Pairwise fun a b => leS a b = true := by
    cases e : kindsO qs sr with
    | none => exact ⟨List.nodup_nil, List.Pairwise.nil⟩
    | some w =>
      have ew := (kindsO_len e).1
      cases qs with
      | nil => exact absurd pos (by decide)
      | cons q qs =>
        have eh : ∃ t, w = false :: t := by
          rw [ew]
          refine ⟨(wordK (q :: qs)).tail, ?_⟩
          show (!decide (lastS q.ys = lastS q.ys)) :: _ = _
          rw [decide_eq_true rfl]
          rfl
        obtain ⟨t, rfl⟩ := eh
        show [wd (false :: t), wd (true :: flipW t)].Nodup ∧ [wd (false :: t), wd (true :: flipW t)].Pairwise fun a b => leS a b = true
        have lt : cds (wd (false :: t)) < cds (wd (true :: flipW t)) := by
          show ((false :: t).map code).toArray.toList < ((true :: flipW t).map code).toArray.toList
          show code false :: t.map code < code true :: (flipW t).map code
          exact List.cons_lt_cons_iff.mpr (.inl (by decide))
        have ne : wd (false :: t) ≠ wd (true :: flipW t) := fun h => by
          rw [h] at lt
          exact absurd lt (List.lt_irrefl _)
        refine ⟨by simp [ne], ?_⟩
        simp only [List.pairwise_cons, List.mem_singleton, forall_eq, List.not_mem_nil, false_implies, implies_true, List.Pairwise.nil, and_true]
        exact decide_eq_true (List.le_of_lt lt)
  have pm : ys.Perm ((kndL (kindsO qs sr)).map wd) := (List.perm_ext_iff_of_nodup ndy srt.1).mpr same
  rw [sortS_eq pm]
  unfold sortS
  exact List.mergeSort_of_pairwise srt.2
end
section
variable {P : Program} {w : World} {K : PySem.W.Frag} {mg : Str → Option Value} {base : Heap}
/-! ### pairs of rows, drawn -/
theorem ixN_end {n : Nat} (h : 1 ≤ n) : ixN n (-1) = some (n - 1) := by
  unfold ixN
  rw [if_neg (by decide), if_pos (by omega)]
  congr 1
  omega
abbrev s__law_doubles : Stmt := top 32
abbrev N__law_doubles : List Str := ["_law_pool_here", "_law_folk", "_law_most", "_law_hidden", "_law_line", "_law_found", "_law_turn", "_law_later", "_law_way", "_law_k"]
theorem sc__law_doubles : FnScope N__law_doubles ["_law_pool_here", "_law_folk", "_law_most"] (defScope s__law_doubles) := ⟨rfl, rfl, rfl, by decide +kernel, rfl, by decide +kernel, by decide +kernel⟩
def spDbl : Sp := fun vs H Q _ => ∃ (a fo : Addr) (m : Int) (ws : List Str), vs = [.ref a, .ref fo, .int m] ∧ Pool H a ∧ fo ≠ a ∧ H fo = some (.lst (ws.map V.str)) ∧ NmR ws ∧ 1 ≤ m ∧ m ≤ 20 ∧
  ∀ (p : Addr) (rs : List Addr) (qs : List Rc) (H' : Hp), Kp a H H' → Pool H' a → H' p = some (.tup (rs.map V.ref)) → Each (PaH H') rs qs → 1 ≤ qs.length → (qs.length : Int) ≤ m → (∀ q ∈ qs, RcOn (sortS ws) q) → Q (.ref p) H'
theorem ok_dbl (D : Df K mg "_law_doubles" s__law_doubles) (c__law_draw : Cl P w K mg base 1 "_law_draw" s__law_draw ["_law_pool_here", "_law_count"] spDraw) (c__law_mixed : Cl P w K mg base 2 "_law_mixed" s__law_mixed ["_law_pool_here", "_law_things"] (spShufV K))
    (c__law_pass : Cl P w K mg base 1 "_law_pass" s__law_pass ["_law_line", "_law_sort", "_law_ranks_by"] (spPass K)) (c__law_ranked : Cl P w K mg base 1 "_law_ranked" s__law_ranked ["_law_folk"] (spRanked K)) (c__law_changed : Cl P w K mg base 3 "_law_changed" s__law_changed ["_law_pool_here", "_law_line", "_law_later"] (spChg K))
    (m_len : mg "len" = none) (m_tuple : mg "tuple" = none) (m_range : mg "range" = none) : Cl P w K mg base 4 "_law_doubles" s__law_doubles ["_law_pool_here", "_law_folk", "_law_most"] spDbl := by
  refine D.ok sc__law_doubles (fun _ _ _ _ _ _ us hl => match us, hl with | [_, _, _], _ => rfl) (fun vs H Q E h => ?_) (fun f cdv A outer s H vs Q E hr h => ?_)
  · obtain ⟨a, fo, m, ws, rfl, _⟩ := h
    rfl
  · obtain ⟨a, fo, m, ws, rfl, hp, foa, hfo, row, m1, m20, q⟩ := h
    refine ⟨_, 
      (pss_cons (ps_par3 (i := 3) (j := 4) (l := 5) (by rfl) sc__law_doubles.nd rfl rfl rfl (by decide) (by decide) (by decide) rfl rfl rfl (pa_cons (pe_u c__law_mixed hr (by omega) (by rfl) (pa_cons (pv 0) (pa_cons (pv 1) pa_nil))) (pa_cons (pe_u c__law_mixed hr (by omega) (by rfl) (pa_cons (pv 0) (pa_cons (pv 1) pa_nil))) (pa_cons (pe_lst pa_nil) pa_nil))) (by rfl)) 
      (pss_cons (ps_for PassesOwn.never rfl (pi_range1 (by rfl) m_range (pa_cons (pe_op op_add pe_int (pe_u c__law_draw hr (by omega) (by rfl) (pa_cons (pv 0) (pa_cons (pv 2) pa_nil)))) pa_nil)) (pg_name (i := 6) sc__law_doubles.nd rfl (Or.inl rfl)) (pss_cons (ps_set (i := 7) sc__law_doubles.nd rfl (Or.inl rfl) (pe_ix ix_tup (pe_u c__law_pass hr (by omega) (by rfl) (pa_cons (pv 4) (pa_cons (pe_ix ix_list (pe_lst (pa_cons pe_str (pa_cons pe_str pa_nil))) (pe_u c__law_draw hr (by omega) (by rfl) (pa_cons (pv 0) (pa_cons pe_int pa_nil))) (fun _ _ => rfl)) (pa_cons (pe_u c__law_ranked hr (by omega) (by rfl) (pa_cons (pv 3) pa_nil)) pa_nil)))) pe_int (fun _ _ => rfl))) (pss_cons (ps_expr (pe_bm PySem.F.plainAttrs_list PySem.F.slot_list_append PySem.F.type_list_append mt_append (pv 5) (pa_cons (pe_tup (pa_cons (pv 4) (pa_cons (pv 7) pa_nil))) pa_nil))) (pss_one (ps_set (i := 4) sc__law_doubles.nd rfl (Or.inl rfl) (pe_ifExp (pt_cmpR op_eq (pe_u c__law_draw hr (by omega) (by rfl) (pa_cons (pv 0) (pa_cons pe_int pa_nil))) pe_int (nomark _)) (pv 7) (pe_u c__law_mixed hr (by omega) (by rfl) (pa_cons (pv 0) (pa_cons (pv 1) pa_nil))))))))) 
      (pss_cons (ps_par (i := 8) (j := 9) (by rfl) sc__law_doubles.nd rfl rfl (by decide) rfl rfl (pa_cons (pe_u c__law_draw hr (by omega) (by rfl) (pa_cons (pv 0) (pa_cons pe_int pa_nil))) (pa_cons (pe_u c__law_draw hr (by omega) (by rfl) (pa_cons (pv 0) (pa_cons (pe_callB call_lenS (by rfl) m_len (by decide +kernel) (pa_cons (pv 5) pa_nil)) pa_nil))) pa_nil)) (by rfl)) 
      (C8.pss_cut (ps_if (pt_cmpR op_eq (pv 8) pe_int (nomark _)) (pss_one (ps_asg (pe_tup (pa_cons (pe_ix ix_tup (pe_ix ix_list (pv 5) (pv 9) (fun _ _ => rfl)) pe_int (fun _ _ => rfl)) (pa_cons (pe_u c__law_changed hr (by omega) (by rfl) (pa_cons (pv 0) (pa_cons (pe_ix ix_tup (pe_ix ix_list (pv 5) (pv 9) (fun _ _ => rfl)) pe_int (fun _ _ => rfl)) (pa_cons (pe_ix ix_tup (pe_ix ix_list (pv 5) (pv 9) (fun _ _ => rfl)) pe_int (fun _ _ => rfl)) pa_nil)))) pa_nil))) (pg_sub (pv 5) (pv 9) set_list))) pss_nil) 
      (C8.pss_cut (ps_if (pt_cmpR op_eq (pv 8) pe_int (nomark _)) (pss_one (ps_asg (pe_ix ix_list (pv 5) (pv 9) (fun _ _ => rfl)) (pg_sub (pv 5) (pe_un un_neg pe_int) set_list))) pss_nil) 
      (pss_one (ps_ret (pe_callTy call_tuple_of (by rfl) m_tuple (by decide +kernel) (pa_cons (pv 5) pa_nil))))))))), ?_⟩
    have w12 := row.most
    refine ⟨_, rfl, _, rfl, a, fo, _, rfl, foa, .inl (.inl (.inl hfo)), by rw [List.length_map]; omega, hp, fun oo mo H1 k1 p1 noo hoo pm0 => ?_⟩
    obtain ⟨os, rfl, pmo⟩ := perm_strs pm0
    refine ⟨_, rfl, _, rfl, a, fo, _, rfl, foa, .inl (.inl (.inl (k1 _ _ hfo foa))), by rw [List.length_map]; omega, p1, fun li ml H2 k2 p2 nli hli pm1 => ?_⟩
    obtain ⟨xs, rfl, pml⟩ := perm_strs pm1
    obtain ⟨z, zs, rfl⟩ := consed row pml
    have ooa := p1.row hoo
    have k02 := k1.trans k2
    refine ⟨Nat.zero_le _, fun l nl => ⟨_, _, _, rfl, ?_⟩⟩
    have la := p2.ne nl
    have lH : H l = none := k02.free nl la
    have sl := same_upd (o := .lst []) nl
    have lst0 : upd H2 l (.lst []) l = some (.lst []) := upd_same
    have hoo2 := sl _ _ (k2 _ _ hoo ooa)
    have hli2 := sl _ _ hli
    have M0 : DbAt H (upd H2 l (.lst [])) a l ws [] [] := ⟨k02.trans (.of_same sl), p2.of fun u e => sl a u e, lst0, trivial, fun q h => nomatch h⟩
    generalize upd H2 l (.lst []) = H3 at hoo2 hli2 M0
    refine ⟨_, rfl, _, rfl, a, m, rfl, by omega, by omega, M0.pool, fun d H4 d0 d1 k4 p4 => ?_⟩
    have M1 := M0.next la k4 p4
    have hoo4 := k4 _ _ hoo2 ooa
    have hli4 := k4 _ _ hli2 (M0.pool.row hli2)
    refine ⟨_, _, rfl, rfl, _, rfl, by omega, by omega, ?_⟩
    have od : os.Nodup := pmo.nodup_iff.mpr row.nd
    have ol := pmo.length_eq
    generalize hn : (1 + d).toNat = n
    refine for_range (lo := 0) (n := n) (fun i σ F => ∃ (z : Str) (zs : List Str) (li : Addr) (rs : List Addr) (qs : List Rc) (y6 y7 y8 y9 : Option V), σ = [some (.ref a), some (.ref fo), some (.int m), some (.ref oo), some (.ref li), some (.ref l), y6, y7, y8, y9] ∧ DbAt H F a l ws rs qs ∧ F oo = some (.tup (os.map V.str)) ∧ F li = some (.tup ((z :: zs).map V.str)) ∧ (z :: zs).Perm ws ∧ qs.length = i)
      ⟨z, zs, li, [], [], none, none, none, none, rfl, M1, hoo4, hli4, pml, rfl⟩ (fun i σ F hi hI => ?_) (fun σ F hI => ?_)
    · obtain ⟨z, zs, li, rs, qs, y6, y7, y8, y9, rfl, M, ho, hl, pz, ql⟩ := hI
      have zl := pz.length_eq
      rw [List.length_cons] at zl
      have rl := M.each.len
      refine ⟨_, rfl, (by show 2 ≤ sizeLine; decide), fun o2 no2 => ?_⟩
      have so2 := same_upd (o := .lst [V.str (Str.ofString "S"), V.str (Str.ofString "T")]) no2
      have ho2 : upd F o2 (.lst [V.str (Str.ofString "S"), V.str (Str.ofString "T")]) o2 = some (.lst [V.str (Str.ofString "S"), V.str (Str.ofString "T")]) := upd_same
      have o2a := M.pool.ne no2
      have M1 := M.same la so2
      have ho1 := so2 _ _ ho
      have hl1 := so2 _ _ hl
      generalize upd F o2 (.lst [V.str (Str.ofString "S"), V.str (Str.ofString "T")]) = F1 at ho2 M1 ho1 hl1
      refine ⟨_, rfl, a, 2, rfl, by decide, by decide, M1.pool, fun j F2 j0 j1 k2 p2 => ?_⟩
      obtain ⟨t, ht⟩ := pickK j0 j1
      have M2 := M1.next la k2 p2
      have ho22 := k2 _ _ ho1 (M1.pool.row ho1)
      have hl2 := k2 _ _ hl1 (M1.pool.row hl1)
      refine ⟨o2, _, j, _, rfl, rfl, .inl (.inl (k2 _ _ ho2 o2a)), ht, ?_⟩
      refine ⟨_, rfl, oo, os, rfl, .inl (.inl ho22), od, by omega, fun dd F3 s3 ndd hdd => ?_⟩
      obtain ⟨kvs, hdd, rk⟩ := hdd
      refine ⟨li, dd, z, zs, os, t, kvs, rfl, s3 _ _ hl2, hdd, rk, od, fun x hx => pmo.mem_iff.mpr (pz.mem_iff.mp hx), by omega, fun p g u q1 F4 s4 np hp4 hg hu pr => ⟨p, _, 0, .ref g, rfl, rfl, .inl (.inl hp4), atI_nat (j := 0) rfl, ?_⟩⟩
      have M4 := M2.same la (s3.trans s4)
      have ho4 := (s3.trans s4) _ _ ho22
      have hl4 := (s3.trans s4) _ _ hl2
      have gp := gone_perm t (rkLt os) zs z
      generalize goneL t (rkLt os) z zs = ys at hg gp
      have yc : ∃ y ys', ys = y :: ys' := consed row (gp.trans pz)
      refine ⟨_, rfl, .inl ⟨rfl, _, .inl (.inl M4.lst)⟩, _, rfl, _, rfl, (by show 2 ≤ sizeLine; decide), fun r nr => ?_⟩
      have sr := same_upd (o := .tup [.ref li, .ref g]) nr
      have hr4 : upd F4 r (.tup [.ref li, .ref g]) r = some (.tup [.ref li, .ref g]) := upd_same
      have M5 := M4.same la sr
      have hl5 := sr _ _ hl4
      have hg5 := sr _ _ hg
      have ho5 := sr _ _ ho4
      generalize upd F4 r (.tup [.ref li, .ref g]) = F5 at hr4 M5 hl5 hg5 ho5
      refine ⟨l, _, _, rfl, rfl, M5.lst, ?_, ?_⟩
      · rw [List.length_map]
        exact len_lt (by omega)
      have rc : PaH F5 r ⟨t, z, zs, ys⟩ := ⟨li, g, hr4, hl5, hg5⟩
      have M6 : DbAt H (upd F5 l (.lst (rs.map V.ref ++ [.ref r]))) a l ws (rs ++ [r]) (qs ++ [⟨t, z, zs, ys⟩]) := ⟨M5.kp.upd lH, M5.pool.upd la.symm, by rw [upd_same, List.map_append]; rfl, (M5.each.imp fun _ _ _ e => e.upd M5.lst).snoc (rc.upd M5.lst), fun x hx => (List.mem_append.mp hx).elim (M5.on x) fun e => by rw [List.mem_singleton.mp e]; exact on_of row pz gp⟩
      have ho6 := tupU (o := .lst (rs.map V.ref ++ [.ref r])) ho5 M5.lst
      have hg6 := tupU (o := .lst (rs.map V.ref ++ [.ref r])) hg5 M5.lst
      generalize upd F5 l (.lst (rs.map V.ref ++ [.ref r])) = F6 at M6 ho6 hg6
      have ln6 : (qs ++ [(⟨t, z, zs, ys⟩ : Rc)]).length = i + 1 := by rw [List.length_append, ql]; rfl
      refine ⟨_, rfl, a, 2, rfl, by decide, by decide, M6.pool, fun c F7 c0 c1 k7 p7 => ⟨rfl, _, rfl, ?_⟩⟩
      have M7 := M6.next la k7 p7
      have ho7 := k7 _ _ ho6 (M6.pool.row ho6)
      have hg7 := k7 _ _ hg6 (M6.pool.row hg6)
      refine ite2 (fun e => ?_) (fun e => ?_)
      · obtain ⟨y, ys', rfl⟩ := yc
        exact ⟨_, rfl, y, ys', g, _, _, _, _, _, _, rfl, M7, ho7, hg7, gp.trans pz, ln6⟩
      · refine ⟨_, rfl, _, rfl, a, fo, _, rfl, foa, .inl (.inl (.inl (M7.kp _ _ hfo foa))), by rw [List.length_map]; omega, p7, fun lj mj F8 k8 p8 nlj hlj pmj => ?_⟩
        obtain ⟨xs, rfl, pmx⟩ := perm_strs pmj
        obtain ⟨x, xs', rfl⟩ := consed row pmx
        exact ⟨x, xs', lj, _, _, _, _, _, _, rfl, M7.next la k8 p8, k8 _ _ ho7 (p7.row ho7), hlj, pmx, ln6⟩
    · obtain ⟨z, zs, li, rs, qs, y6, y7, y8, y9, rfl, M, _, _, _, ql⟩ := hI
      have n1 : 1 ≤ qs.length := by omega
      have n20 : (qs.length : Int) ≤ m := by omega
      clear ql
      have rl := M.each.len
      refine ⟨_, rfl, a, 4, rfl, by decide, by decide, M.pool, fun way F1 w0 w1 k1 p1 => ⟨_, rfl, _, rfl, l, _, rfl, .inl (.inl (.inl (M.next la k1 p1).lst)), a, _, rfl, by rw [List.length_map]; omega, by rw [List.length_map]; omega, p1, fun k F2 k0 kn k2 p2 => ⟨_, _, rfl, ?_⟩⟩⟩
      have M3 := (M.next la k1 p1).next la k2 p2
      rw [List.length_map] at kn
      obtain ⟨k, rfl⟩ : ∃ n : Nat, k = (n : Nat) := ⟨k.toNat, by omega⟩
      have kr : k < rs.length := by omega
      refine ⟨fun σ G => ∃ (rs : List Addr) (qs : List Rc), σ = [some (.ref a), some (.ref fo), some (.int m), some (.ref oo), some (.ref li), some (.ref l), y6, y7, some (.int way), some (.int ((k : Nat) : Int))] ∧ DbAt H G a l ws rs qs ∧ 1 ≤ qs.length ∧ (qs.length : Int) ≤ m ∧ k < rs.length, ?_, fun σ G hM => ?_⟩
      · refine ⟨_, rfl, rfl, _, rfl, ite2 (fun e => ?_) (fun e => ⟨rs, qs, rfl, M3, n1, n20, kr⟩)⟩
        obtain ⟨q0, hq0, la0, lb0, hr0, ha0, hb0⟩ := M3.each.get (List.getElem?_eq_getElem kr)
        have on0 := M3.on q0 (List.mem_of_getElem? hq0)
        have row0 := on0.row
        have pz0 : (q0.z :: q0.zs).Perm ws := (sortS_perm _).symm.trans (by rw [on0.srt]; exact sortS_perm ws)
        have z12 := row0.most
        rw [List.length_cons] at z12
        have idx : ixN (rs.map V.ref).length ((k : Nat) : Int) = some k := ixN_nat (by rw [List.length_map]; exact kr)
        have at_k : atI (rs.map V.ref) ((k : Nat) : Int) = some (.ref rs[k]) := atI_nat (by rw [List.getElem?_map, List.getElem?_eq_getElem kr]; rfl)
        have get : SqL K F2 l (rs.map V.ref) := .inl (.inl M3.lst)
        refine ⟨_, rfl, _, rfl, l, _, _, .ref rs[k], rfl, rfl, get, at_k, rs[k], _, 0, .ref la0, rfl, rfl, .inl (.inl hr0), atI_nat (j := 0) rfl, ?_⟩
        refine ⟨_, rfl, _, rfl, _, rfl, l, _, _, .ref rs[k], rfl, rfl, get, at_k, rs[k], _, 0, .ref la0, rfl, rfl, .inl (.inl hr0), atI_nat (j := 0) rfl, _, rfl, _, rfl, l, _, _, .ref rs[k], rfl, rfl, get, at_k, rs[k], _, 1, .ref lb0, rfl, rfl, .inl (.inl hr0), atI_nat (j := 1) rfl, ?_⟩
        refine ⟨a, la0, lb0, q0.z :: q0.zs, q0.ys, rfl, M3.pool, M3.pool.row ha0, M3.pool.row hb0, ha0, hb0, on0.aft.symm, by rw [List.length_cons]; omega, by rw [List.length_cons]; omega, fun p xs F5 k5 p5 pa hp5 pmx => ?_⟩
        have M5 := M3.next la k5 p5
        have ha5 := k5 _ _ ha0 (M3.pool.row ha0)
        refine ⟨(by show 2 ≤ sizeLine; decide), fun T2 nT2 => ?_⟩
        have sT2 := same_upd (o := .tup [.ref la0, .ref p]) nT2
        have hT2 : upd F5 T2 (.tup [.ref la0, .ref p]) T2 = some (.tup [.ref la0, .ref p]) := upd_same
        have M7 := M5.same la sT2
        have rc : PaH (upd F5 T2 (.tup [.ref la0, .ref p])) T2 ⟨q0.k, q0.z, q0.zs, xs⟩ := ⟨la0, p, hT2, sT2 _ _ ha5, sT2 _ _ hp5⟩
        generalize upd F5 T2 (.tup [.ref la0, .ref p]) = G7 at M7 rc
        refine ⟨_, rfl, _, rfl, l, _, _, k, rfl, rfl, M7.lst, idx, ?_⟩
        refine ⟨rs.set k T2, qs.set k ⟨q0.k, q0.z, q0.zs, xs⟩, rfl, ⟨M7.kp.upd lH, M7.pool.upd la.symm, by rw [upd_same, List.map_set], Each.set k (M7.each.imp fun _ _ _ e => e.upd M7.lst) (rc.upd M7.lst), fun x hx => ?_⟩, by rw [List.length_set]; exact n1, by rw [List.length_set]; exact n20, by rw [List.length_set]; exact kr⟩
        rcases List.mem_or_eq_of_mem_set hx with e | e
        · exact M7.on x e
        · rw [e]
          exact on_of row pz0 pmx
      clear n1 n20 rl kr kn M3
      obtain ⟨rs, qs, rfl, M5, n1, n20, kr⟩ := hM
      refine ⟨fun σ G => ∃ (rs : List Addr) (qs : List Rc), σ = [some (.ref a), some (.ref fo), some (.int m), some (.ref oo), some (.ref li), some (.ref l), y6, y7, some (.int way), some (.int ((k : Nat) : Int))] ∧ DbAt H G a l ws rs qs ∧ 1 ≤ qs.length ∧ (qs.length : Int) ≤ m, ?_, fun σ G6 hM => ?_⟩
      · refine ⟨_, rfl, rfl, _, rfl, ite2 (fun e => ?_) (fun e => ⟨rs, qs, rfl, M5, n1, n20⟩)⟩
        obtain ⟨q0, hq0, at0⟩ := M5.each.get (List.getElem?_eq_getElem kr)
        have on0 := M5.on q0 (List.mem_of_getElem? hq0)
        have at_k : atI (rs.map V.ref) ((k : Nat) : Int) = some (.ref rs[k]) := atI_nat (by rw [List.getElem?_map, List.getElem?_eq_getElem kr]; rfl)
        have idx : ixN (rs.map V.ref).length (-1) = some ((rs.map V.ref).length - 1) := ixN_end (by rw [List.length_map]; omega)
        refine ⟨_, rfl, _, rfl, l, _, _, .ref rs[k], rfl, rfl, .inl (.inl M5.lst), at_k, _, rfl, _, rfl, l, _, _, _, rfl, rfl, M5.lst, idx, ?_⟩
        refine ⟨rs.set ((rs.map V.ref).length - 1) rs[k], qs.set ((rs.map V.ref).length - 1) q0, rfl, ⟨M5.kp.upd lH, M5.pool.upd la.symm, by rw [upd_same, List.map_set], Each.set _ (M5.each.imp fun _ _ _ e => e.upd M5.lst) (at0.upd M5.lst), fun x hx => ?_⟩, by rw [List.length_set]; exact n1, by rw [List.length_set]; exact n20⟩
        rcases List.mem_or_eq_of_mem_set hx with e | e
        · exact M5.on x e
        · rw [e]
          exact on0
      obtain ⟨rs, qs, rfl, M, n1, n20⟩ := hM
      refine ⟨_, rfl, l, _, rfl, .inl ⟨.inl (.inl M.lst), fun p np => ?_⟩⟩
      have sp := same_upd (o := .tup (rs.map V.ref)) np
      have M1 := M.same la sp
      exact q p rs qs _ M1.kp M1.pool upd_same M1.each n1 n20 M1.on
end
section
variable {P : Program} {w : World} {K : PySem.W.Frag} {mg : Str → Option Value} {base : Heap}
/-! ### the words, from all orders -/
theorem lvl_step {sr : List Str} (nd : sr.Nodup) (k : Nat) : (lvlL sr (k + 1)).length ≤ (lvlL sr k).length * (sr.length - k) := by
  have one : ∀ l : List Str, l.length = k ∧ l.Nodup ∧ (∀ x ∈ l, x ∈ sr) → (nextL sr l).length ≤ sr.length - k := fun l h => by
    obtain ⟨h1, h2, h3⟩ := h
    unfold nextL
    rw [List.length_map]
    have fn : (l ++ sr.filter fun x => decide (x ∉ l)).Nodup := List.nodup_append.mpr ⟨h2, nd.filter _, fun a ha b hb e => by
      subst e
      exact absurd ha (of_decide_eq_true (List.mem_filter.mp hb).2)⟩
    have := pigeonS fn fun y hy => (List.mem_append.mp hy).elim (h3 y) fun h => (List.mem_filter.mp h).1
    rw [List.length_append] at this
    omega
  have all : ∀ F : List (List Str), (∀ l ∈ F, l.length = k ∧ l.Nodup ∧ ∀ x ∈ l, x ∈ sr) → (F.flatMap (nextL sr)).length ≤ F.length * (sr.length - k) := fun F => by
    induction F with
    | nil => exact fun _ => Nat.zero_le _
    | cons l F ih =>
      intro h
      have a := one l (h l List.mem_cons_self)
      have b := ih fun x hx => h x (List.mem_cons_of_mem _ hx)
      rw [List.flatMap_cons, List.length_append, List.length_cons, Nat.succ_mul]
      omega
  rw [lvlL]
  exact all _ fun l hl => lvl_mem.mp hl
theorem lvl_few {sr : List Str} (nd : sr.Nodup) (h : sr.length ≤ 5) : (lvlL sr sr.length).length ≤ 120 := by
  have s := lvl_step nd
  have l0 : (lvlL sr 0).length = 1 := rfl
  have step : ∀ {k a m : Nat}, (lvlL sr k).length ≤ a → sr.length - k ≤ m → (lvlL sr (k + 1)).length ≤ a * m := fun {k a m} h1 h2 => Nat.le_trans (s k) (Nat.mul_le_mul h1 h2)
  have l1 := step (k := 0) (a := 1) (m := 5) (Nat.le_of_eq l0) (by omega)
  have l2 := step (k := 1) (a := 1 * 5) (m := 4) l1 (by omega)
  have l3 := step (k := 2) (a := 1 * 5 * 4) (m := 3) l2 (by omega)
  have l4 := step (k := 3) (a := 1 * 5 * 4 * 3) (m := 2) l3 (by omega)
  have l5 := step (k := 4) (a := 1 * 5 * 4 * 3 * 2) (m := 1) l4 (by omega)
  have cases : sr.length = 0 ∨ sr.length = 1 ∨ sr.length = 2 ∨ sr.length = 3 ∨ sr.length = 4 ∨ sr.length = 5 := by omega
  rcases cases with e | e | e | e | e | e <;> rw [e]
  · exact Nat.le_trans (Nat.le_of_eq l0) (by decide)
  · exact Nat.le_trans l1 (by decide)
  · exact Nat.le_trans l2 (by decide)
  · exact Nat.le_trans l3 (by decide)
  · exact Nat.le_trans l4 (by decide)
  · exact Nat.le_trans l5 (by decide)
theorem flat_few {α β : Type} {f : α → List β} : ∀ {l : List α}, (∀ x ∈ l, (f x).length ≤ 1) → (l.flatMap f).length ≤ l.length
  | [], _ => Nat.zero_le _
  | a :: l, h => by
    have h1 := h a List.mem_cons_self
    have h2 := flat_few fun x hx => h x (List.mem_cons_of_mem _ hx)
    rw [List.flatMap_cons, List.length_append, List.length_cons]
    omega
abbrev s__law_words : Stmt := top 33
abbrev N__law_words : List Str := ["_law_folk", "_law_doubles_here", "_law_found", "_law_order", "_law_ranks_by", "_law_fitting", "_law_line", "_law_later", "_law_sorts", "_law_longer", "_law_spelt", "_law_sort"]
theorem sc__law_words : FnScope N__law_words ["_law_folk", "_law_doubles_here"] (defScope s__law_words) := ⟨rfl, rfl, rfl, by decide +kernel, rfl, by decide +kernel, by decide +kernel⟩
def spWords (K : PySem.W.Frag) : Sp := fun vs H Q _ => ∃ (fo r : Addr) (ws : List Str) (rs : List Addr) (qs : List Rc), vs = [.ref fo, .ref r] ∧ SqL K H fo (ws.map V.str) ∧ NmR ws ∧ ws.length ≤ 5 ∧ SqT K H r (rs.map V.ref) ∧ PasAt K H rs qs ∧ 1 ≤ qs.length ∧ qs.length ≤ 20 ∧ (∀ q ∈ qs, RcOn (sortS ws) q) ∧
  ∀ (p : Addr) (H' : Hp), Same H H' → H' p = some (.tup (((kndL (kindsO qs (sortS ws))).map wd).map V.str)) → Q (.ref p) H'
theorem ok_words (D : Df K mg "_law_words" s__law_words) (c__law_orders : Cl P w K mg base 1 "_law_orders" s__law_orders ["_law_folk"] (spOrd K)) (c__law_ranked : Cl P w K mg base 1 "_law_ranked" s__law_ranked ["_law_folk"] (spRanked K)) (c__law_pass : Cl P w K mg base 1 "_law_pass" s__law_pass ["_law_line", "_law_sort", "_law_ranks_by"] (spPass K))
    (m_tuple : mg "tuple" = none) (m_sorted : mg "sorted" = none) (m_set : mg "set" = none) : Cl P w K mg base 2 "_law_words" s__law_words ["_law_folk", "_law_doubles_here"] (spWords K) := by
  refine D.ok sc__law_words (fun _ _ _ _ _ _ us hl => match us, hl with | [_, _], _ => rfl) (fun vs H Q E h => ?_) (fun f cdv A outer s H vs Q E hr h => ?_)
  · obtain ⟨fo, r, ws, rs, qs, rfl, _⟩ := h
    rfl
  · obtain ⟨fo, r, ws, rs, qs, rfl, hF, row, w5, hR, each, n1, n20, on, fin⟩ := h
    refine ⟨_, 
      (pss_cons (ps_set (i := 2) sc__law_words.nd rfl (Or.inl rfl) (pe_lst pa_nil)) 
      (pss_cons (ps_for PassesOwn.never rfl (pi_list (pe_u c__law_orders hr (by omega) (by rfl) (pa_cons (pv 0) pa_nil))) (pg_name (i := 3) sc__law_words.nd rfl (Or.inl rfl)) (pss_cons (ps_asg (pe_tup (pa_cons (pe_u c__law_ranked hr (by omega) (by rfl) (pa_cons (pv 3) pa_nil)) (pa_cons (pe_lst (pa_cons pe_str pa_nil)) pa_nil))) (pg_tup (by rfl) (pgs_cons (pg_name (i := 4) sc__law_words.nd rfl (Or.inr rfl)) (pgs_cons (pg_name (i := 5) sc__law_words.nd rfl (Or.inl rfl)) pgs_nil)))) (pss_cons (ps_for PassesOwn.never rfl (pi_tup (pv 1)) (pg_tup (by rfl) (pgs_cons (pg_name (i := 6) sc__law_words.nd rfl (Or.inr rfl)) (pgs_cons (pg_name (i := 7) sc__law_words.nd rfl (Or.inr rfl)) pgs_nil))) (pss_cons (ps_setLc (i := 8) (own := [("_law_sort", 11)]) (g := gName 11) (tt := (tTest (tOp (rEqD K) (tOp (rIxT K) (tCall (spPass K) [] E0 (tCons (tVar 6) (tCons (tVar 11) (tCons (tVar 4) tNil)))) (tC _)) (tVar 7)))) rfl sc__law_words.nd rfl rfl (sw_true rfl rfl rfl (by decide +kernel)) (pi_list (pe_lst (pa_cons pe_str (pa_cons pe_str pa_nil)))) (blkOk_by (own := [("_law_sort", 11)]) (N := N__law_words) (sc := (defScope s__law_words)) (by decide +kernel)) (fun _ _ _ _ _ => (pg_name (i := 11) sc__law_words.nd rfl (Or.inl rfl))) (fun _ _ _ _ _ => pts_one (pt_cmpR (op_eqD hr.units) (pe_ix ix_tup (pe_u c__law_pass hr (by omega) (by rfl) (pa_cons (pv 6) (pa_cons (pv 11) (pa_cons (pv 4) pa_nil)))) pe_int (fun _ _ => rfl)) (pv 7) (nomark _))) (fun _ _ _ _ _ => (pv 11))) (pss_cons (ps_set (i := 9) sc__law_words.nd rfl (Or.inl rfl) (pe_lst pa_nil)) (pss_cons (ps_for PassesOwn.never rfl (pi_list (pv 5)) (pg_name (i := 10) sc__law_words.nd rfl (Or.inr rfl)) (pss_one (ps_expr (pe_bm PySem.F.plainAttrs_list PySem.F.slot_list_extend PySem.F.type_list_extend mt_extend (pv 9) (pa_cons (pe_lc (own := [("_law_sort", 11)]) (g := gName 11) rfl sc__law_words.nd (pi_list (pv 8)) (blkOk_by (own := [("_law_sort", 11)]) (N := N__law_words) (sc := (defScope s__law_words)) (by decide +kernel)) (fun _ _ _ _ _ => (pg_name (i := 11) sc__law_words.nd rfl (Or.inl rfl))) (fun _ _ _ _ _ => pts_nil) (fun _ _ _ _ _ => (pe_op op_add_str (pv 10) (pv 11)))) pa_nil))))) (pss_one (ps_set (i := 5) sc__law_words.nd rfl (Or.inl rfl) (pv 9))))))) (pss_one (ps_expr (pe_bm PySem.F.plainAttrs_list PySem.F.slot_list_extend PySem.F.type_list_extend mt_extend (pv 2) (pa_cons (pv 5) pa_nil))))))) 
      (pss_one (ps_ret (pe_callTy call_tuple_of (by rfl) m_tuple (by decide +kernel) (pa_cons (pe_sortSet hr.units (by rfl) m_sorted (by rfl) m_set (pv 2)) pa_nil)))))), ?_⟩
    have el := each.len
    have nd : (sortS ws).Nodup := (sortS_perm ws).nodup_iff.mpr row.nd
    have srl : (sortS ws).length = ws.length := (sortS_perm ws).length_eq
    have two : 2 ≤ (sortS ws).length := by rw [srl]; exact row.two
    have ok : ∀ q ∈ qs, RcOk (sortS ws) q := fun q hq => (on q hq).ok
    refine ⟨Nat.zero_le _, fun fd nfd => ?_⟩
    have s0 := same_upd (o := .lst []) nfd
    have hfd : upd H fd (.lst []) fd = some (.lst []) := upd_same
    refine ⟨_, rfl, fo, ws, rfl, s0.seq hF, w5, fun p0 rs0 H1 s1 np0 hp0 each0 => ⟨p0, rfl, ⟨_, .inl (.inl hp0)⟩, ?_⟩⟩
    have hfd1 := s1 _ _ hfd
    have p0fd : p0 ≠ fd := fun e => by rw [e, hfd] at np0; cases np0
    have sH1 := s0.trans s1
    have few := lvl_few nd (by rw [srl]; exact w5)
    rw [srl] at few
    have fm : ∀ os, os ∈ lvlL (sortS ws) ws.length ↔ os.length = ws.length ∧ os.Nodup ∧ ∀ x ∈ os, x ∈ sortS ws := fun os => lvl_mem
    have told : ∀ ys : List Str, ys.Nodup → (∀ z, z ∈ ys ↔ ∃ os ∈ lvlL (sortS ws) ws.length, ∃ u ∈ fitW os qs, z = wd u) → sortS ys = (kndL (kindsO qs (sortS ws))).map wd := fun ys h1 h2 => words_told two nd ok n1 h1 (by rw [srl]; exact h2)
    generalize lvlL (sortS ws) ws.length = F at each0 few fm told
    have e0l := each0.len
    have perm : ∀ os ∈ F, os.Perm (sortS ws) := fun os hos => by
      obtain ⟨h1, h2, h3⟩ := (fm os).mp hos
      exact (List.perm_ext_iff_of_nodup h2 nd).mpr fun x => ⟨h3 x, all_in h2 (by omega) h3 x⟩
    have one : ∀ os ∈ F, (fitW os qs).length ≤ 1 := fun os hos => by
      have := fitW_one two nd (perm os hos) qs ok qs.length
      rwa [List.take_length] at this
    refine for_list (xs := rs0.map V.ref) (fun i σ G => ∃ y3 y4 y5 y6 y7 y8 y9 y10 y11 : Option V, σ = [some (.ref fo), some (.ref r), some (.ref fd), y3, y4, y5, y6, y7, y8, y9, y10, y11] ∧ Kp fd H1 G ∧ G fd = some (.lst ((((F.take i).flatMap fun os => fitW os qs).map wd).map V.str)))
      ⟨none, none, none, none, none, none, none, none, none, rfl, .of_same (Same.refl _), hfd1⟩ (fun i σ G _ hI => ?_) (fun i x σ G hx hI => ?_) (fun σ G hI => ?_)
    · obtain ⟨_, _, _, _, _, _, _, _, _, _, kG, _⟩ := hI
      exact .inl (.inl (kG _ _ hp0 p0fd))
    · obtain ⟨y3, y4, y5, y6, y7, y8, y9, y10, y11, rfl, kG, hG⟩ := hI
      have ir : i < rs0.length := lt_of_get hx
      have ex := Option.some.inj (hx.symm.trans (getR ir))
      subst ex
      obtain ⟨os, hos, hat⟩ := each0.get (List.getElem?_eq_getElem ir)
      have om := List.mem_of_getElem? hos
      have pm := perm os om
      have ond := pm.nodup_iff.mpr nd
      have ol := pm.length_eq
      have hatG := kG _ _ hat (fun e => by
        have hat : H1 rs0[i] = some (.tup (os.map V.str)) := hat
        rw [e, hfd1] at hat
        cases hat)
      have tk : (F.take (i + 1)).flatMap (fun os => fitW os qs) = (F.take i).flatMap (fun os => fitW os qs) ++ fitW os qs := by
        rw [List.take_add_one, hos, List.flatMap_append]
        simp
      have fl := flat_few (f := fun os => fitW os qs) (l := F.take i) fun x hx => one x (List.mem_of_mem_take hx)
      rw [List.length_take] at fl
      rw [tk]
      refine ⟨_, rfl, rs0[i], os, rfl, .inl (.inl hatG), ond, by omega, fun dd G1 sg1 ndd hdd => ?_⟩
      obtain ⟨kvs, hdd, rk⟩ := hdd
      refine ⟨(by show 1 ≤ sizeLine; decide), fun fi nfi => ⟨(by show 2 ≤ sizeLine; decide), fun tp ntp => ⟨tp, _, rfl, .inl (.inl upd_same), rfl, _, _, rfl, _, _, rfl, rfl, ?_⟩⟩⟩
      have sa := same_upd (o := .lst [.str (Str.ofString "")]) nfi
      have st := same_upd (o := .tup [.ref dd, .ref fi]) ntp
      have hfi := st _ _ (show upd G1 fi (.lst [.str (Str.ofString "")]) fi = some (.lst ((([[]] : List (List Bool)).map wd).map V.str)) from upd_same)
      have sG2 := sg1.trans (sa.trans st)
      have hdd2 := (sa.trans st) _ _ hdd
      generalize upd (upd G1 fi (.lst [.str (Str.ofString "")])) tp (.tup [.ref dd, .ref fi]) = G2 at hfi sG2 hdd2 ⊢
      have kH2 := kG.trans (.of_same sG2)
      have hG2 := sG2 _ _ hG
      have ch : ∀ {b o}, H b = some o → G2 b = some o := fun {b o} e => kH2 _ _ (sH1 _ _ e) (ne_of_none e nfd)
      have sHG2 : Same H G2 := fun b o e => ch e
      have hR2 := SqT.same sHG2 hR
      have each2 : PasAt K G2 rs qs := each.same sHG2
      refine ⟨_, rfl, r, rfl, ⟨_, hR2⟩, ?_⟩
      refine for_tup (xs := rs.map V.ref) (fun j σ G => ∃ (y6 y7 y8 y9 y10 y11 : Option V) (fi : Addr), σ = [some (.ref fo), some (.ref r), some (.ref fd), some (.ref rs0[i]), some (.ref dd), some (.ref fi), y6, y7, y8, y9, y10, y11] ∧ Same G2 G ∧ G fi = some (.lst (((fitW os (qs.take j)).map wd).map V.str)))
        ⟨y6, y7, y8, y9, y10, y11, fi, rfl, Same.refl G2, hfi⟩ (fun j σ G _ hJ => ?_) (fun j x σ G hx2 hJ => ?_) (fun σ G hJ => ?_)
      · obtain ⟨_, _, _, _, _, _, _, _, sg, _⟩ := hJ
        exact SqT.same sg hR2
      · obtain ⟨y6, y7, y8, y9, y10, y11, fi, rfl, sg, hfi⟩ := hJ
        have jr : j < rs.length := lt_of_get hx2
        have ex := Option.some.inj (hx2.symm.trans (getR jr))
        subst ex
        obtain ⟨q, hq, aa, bb, pa⟩ := (each2.same sg).get (List.getElem?_eq_getElem jr)
        have qm := List.mem_of_getElem? hq
        have onq := on q qm
        have okq := ok q qm
        have q12 := onq.row.most
        rw [List.length_cons] at q12
        have tkq : qs.take (j + 1) = qs.take j ++ [q] := by rw [List.take_add_one, hq]; rfl
        have so1 := sorts_one two nd pm okq
        have fit1 := fitW_one two nd pm qs ok j
        rw [tkq, fitW_snoc]
        refine ⟨rs[j], _, rfl, pa.top, rfl, _, _, rfl, _, _, rfl, rfl, ?_⟩
        refine ⟨(by show 2 ≤ sizeLine; decide), fun so nso => ⟨so, rfl, ⟨_, .inl (.inl upd_same)⟩, fun D nD => ?_⟩⟩
        have sso := same_upd (o := .lst [.str (Str.ofString "S"), .str (Str.ofString "T")]) nso
        have hso : upd G so (.lst [.str (Str.ofString "S"), .str (Str.ofString "T")]) so = some (.lst [.str (Str.ofString "S"), .str (Str.ofString "T")]) := upd_same
        generalize upd G so (.lst [.str (Str.ofString "S"), .str (Str.ofString "T")]) = G3 at sso hso nD ⊢
        refine lc_list (xs := [.str (Str.ofString "S"), .str (Str.ofString "T")]) (fun k F => F D = some (.lst (((([false, true].take k).filter fun t => decide (goneL t (rkLt os) q.z q.zs = q.ys)).map ltr).map V.str)) ∧ Same G3 F) ⟨upd_same, same_upd nD⟩ (fun k F _ hK => .inl (.inl (hK.2 _ _ hso))) (fun k v F hv hK => ?_) (fun F hK => ?_)
        · obtain ⟨hD, sF⟩ := hK
          have k2 : k < 2 := (List.getElem?_eq_some_iff.mp hv).1
          obtain ⟨t, rfl, tk⟩ : ∃ t : Bool, v = .str (ltr t) ∧ [false, true].take (k + 1) = [false, true].take k ++ [t] := by
            match k, k2 with
            | 0, _ => exact ⟨false, (Option.some.inj hv).symm.trans (congrArg V.str ltrS), rfl⟩
            | 1, _ => exact ⟨true, (Option.some.inj hv).symm.trans (congrArg V.str ltrT), rfl⟩
          have lenD : ((((([false, true].take k).filter fun t => decide (goneL t (rkLt os) q.z q.zs = q.ys)).map ltr).map V.str)).length < sizeLine := by
            rw [List.length_map, List.length_map]
            refine len_lt ?_
            have := List.length_filter_le (fun t => decide (goneL t (rkLt os) q.z q.zs = q.ys)) ([false, true].take k)
            rw [List.length_take] at this
            omega
          have sGF := sso.trans sF
          have paF := pa.same sGF
          have hddF := (sg.trans sGF) _ _ hdd2
          refine ⟨rfl, _, rfl, _, rfl, _, rfl, aa, dd, q.z, q.zs, os, t, kvs, rfl, paF.fore, hddF, rk, ond, fun x hx => pm.mem_iff.mpr (okq.fore.mem_iff.mp hx), by omega, fun p g u q1 F4 s4 np hp4 hg hu pr => ⟨p, _, 0, .ref g, rfl, rfl, .inl (.inl hp4), atI_nat (j := 0) rfl, ?_⟩⟩
          have gp := gone_perm t (rkLt os) q.zs q.z
          have ok1 : Okd (.tuple ((goneL t (rkLt os) q.z q.zs).map PyData.str)) 1 1000 := (Okd.tup (m := 12) (names_okd fun x hx => onq.row.own x (gp.mem_iff.mp hx)) (by rw [List.length_map, gp.length_eq]; exact onq.row.most)).le (by decide) (by decide)
          have ok2 : Okd (.tuple (q.ys.map PyData.str)) 1 1000 := (Okd.tup (m := 12) (names_okd fun x hx => onq.row.own x (onq.aft.mem_iff.mpr hx)) (by rw [List.length_map, ← onq.aft.length_eq]; exact onq.row.most)).le (by decide) (by decide)
          refine ⟨_, rfl, _, _, .tup (.inl (.inl hg)) (Dp_strs _), .tup (.inl (.inl (paF.same s4).aft)) (Dp_strs _), ok1.shaped (by decide), ok2.shaped (by decide), _, rfl, ?_⟩
          rw [eqv_strs, tk, List.filter_append]
          by_cases e : goneL t (rkLt os) q.z q.zs = q.ys
          · rw [decide_eq_true e, show List.filter (fun t => decide (goneL t (rkLt os) q.z q.zs = q.ys)) [t] = [t] from List.filter_cons_of_pos (decide_eq_true e)]
            refine iteT ⟨_, rfl, _, s4 _ _ hD, lenD, ?_, fun x o ex => ?_⟩
            · rw [upd_same, List.map_append, List.map_append]
              rfl
            · rw [upd_ne (ne_of_none ex nD)]
              exact (sF.trans s4) x o ex
          · rw [decide_eq_false e, show List.filter (fun t => decide (goneL t (rkLt os) q.z q.zs = q.ys)) [t] = [] from List.filter_cons_of_neg (by rw [decide_eq_false e]; exact Bool.false_ne_true), List.append_nil]
            exact iteF ⟨s4 _ _ hD, sF.trans s4⟩
        · obtain ⟨hD, sF⟩ := hK
          have hD : F D = some (.lst (((sortsW q os).map ltr).map V.str)) := hD
          have sGF := sso.trans sF
          have hfiF := sGF _ _ hfi
          refine ⟨Nat.zero_le _, fun lo nlo => ?_⟩
          have slo := same_upd (o := .lst []) nlo
          have hlo : upd F lo (.lst []) lo = some (.lst []) := upd_same
          refine ⟨_, rfl, fi, rfl, ⟨_, .inl (.inl (slo _ _ hfiF))⟩, ?_⟩
          have word : ∀ u ∈ fitW os (qs.take j), u.length ≤ 20 := fun u hu => by
            rw [(fitW_has.mp hu).1, List.length_take]
            omega
          generalize fitW os (qs.take j) = fit at hfi hfiF fit1 word ⊢
          refine for_list (xs := (fit.map wd).map V.str) (fun k σ G4 => ∃ (y10 y11 : Option V), σ = [some (.ref fo), some (.ref r), some (.ref fd), some (.ref rs0[i]), some (.ref dd), some (.ref fi), some (.ref aa), some (.ref bb), some (.ref D), some (.ref lo), y10, y11] ∧ Same F G4 ∧ G4 lo = some (.lst ((((fit.take k).flatMap fun u => (sortsW q os).map fun t => u ++ [t]).map wd).map V.str)))
            ⟨_, _, rfl, slo, hlo⟩ (fun k σ G4 _ hL => ?_) (fun k x σ G4 hx3 hL => ?_) (fun σ G4 hL => ?_)
          · obtain ⟨_, _, _, s5, _⟩ := hL
            exact .inl (.inl (s5 _ _ hfiF))
          · obtain ⟨y10, y11, rfl, s5, hlo4⟩ := hL
            have kl : k < fit.length := by
              have := lt_of_get hx3
              rwa [List.length_map] at this
            have hu := List.getElem?_eq_getElem kl
            generalize fit[k] = u at hu
            have ex : x = .str (wd u) := by
              rw [List.getElem?_map, List.getElem?_map, hu] at hx3
              exact (Option.some.inj hx3).symm
            subst ex
            have ul := word u (List.mem_of_getElem? hu)
            have tku : ((fit.take (k + 1)).flatMap fun u => (sortsW q os).map fun t => u ++ [t]) = ((fit.take k).flatMap fun u => (sortsW q os).map fun t => u ++ [t]) ++ (sortsW q os).map fun t => u ++ [t] := by
              rw [List.take_add_one, hu, List.flatMap_append]
              simp
            have few3 := step_len (os := os) (q := q) so1 (fit.take k)
            rw [List.length_take] at few3
            have few3 : ((fit.take k).flatMap fun u => (sortsW q os).map fun t => u ++ [t]).length ≤ min k fit.length := few3
            rw [tku]
            refine ⟨_, rfl, .inl ⟨rfl, _, .inl (.inl hlo4)⟩, _, rfl, D, rfl, ⟨_, .inl (.inl (s5 _ _ hD))⟩, fun E nE => ?_⟩
            have hDE := s5 _ _ hD
            generalize sortsW q os = so2 at hDE so1 hlo4 few3 ⊢
            refine lc_list (xs := (so2.map ltr).map V.str) (fun m F5 => F5 E = some (.lst ((((so2.take m).map fun t => u ++ [t]).map wd).map V.str)) ∧ Same G4 F5) ⟨upd_same, same_upd nE⟩ (fun m F5 _ hM => .inl (.inl (hM.2 _ _ hDE))) (fun m v F5 hv5 hM => ?_) (fun F5 hM => ?_)
            · obtain ⟨hE, s6⟩ := hM
              have ml : m < so2.length := by
                have := lt_of_get hv5
                rwa [List.length_map] at this
              have ht := List.getElem?_eq_getElem ml
              have tkt : so2.take (m + 1) = so2.take m ++ [so2[m]] := by rw [List.take_add_one, ht]; rfl
              generalize so2[m] = t at ht tkt
              have ev : v = .str (ltr t) := by
                rw [List.getElem?_map, List.getElem?_map, ht] at hv5
                exact (Option.some.inj hv5).symm
              subst ev
              have e1 : wd u ++ ltr t = wd (u ++ [t]) := wd_app u [t]
              refine ⟨rfl, _, rfl, _, rfl, _, _, rfl, rfl, ?_, ?_⟩
              · rw [wd_len]
                exact Nat.le_of_lt (len_lt (by show u.length + 1 ≤ _; omega))
              rw [e1]
              refine ⟨_, hE, ?_, ?_, fun x o ex => ?_⟩
              · rw [List.length_map, List.length_map, List.length_map, List.length_take]
                exact len_lt (by omega)
              · rw [upd_same, tkt, List.map_append, List.map_append, List.map_append]
                rfl
              · rw [upd_ne (ne_of_none ex nE)]
                exact s6 x o ex
            · obtain ⟨hE, s6⟩ := hM
              rw [List.length_map, List.length_map, List.take_length] at hE
              refine ⟨lo, E, _, _, rfl, rfl, s6 _ _ hlo4, hE, ?_, _, _, rfl, fun x o ex => ?_, ?_⟩
              · rw [List.length_map, List.length_map, List.length_map, List.length_map, List.length_map]
                exact Nat.le_of_lt (len_lt (by omega))
              · rw [upd_ne (ne_of_none ex nlo)]
                exact s6 x o (s5 x o ex)
              · rw [upd_same, List.map_append, List.map_append]
          · obtain ⟨y10, y11, rfl, s5, hlo4⟩ := hL
            rw [List.length_map, List.length_map, List.take_length] at hlo4
            exact ⟨_, rfl, _, _, _, _, _, _, lo, rfl, ((sg.trans sGF).trans s5), hlo4⟩
      · obtain ⟨y6, y7, y8, y9, y10, y11, fi, rfl, sg, hfi⟩ := hJ
        rw [List.length_map, el, List.take_length] at hfi
        have onq := one os om
        have hG5 := sg _ _ hG2
        have fdfi : True := trivial
        refine ⟨_, rfl, .inl ⟨rfl, _, .inl (.inl hG5)⟩, _, rfl, fd, fi, _, _, rfl, rfl, hG5, hfi, ?_, _, _, _, _, _, _, _, _, _, rfl, fun x o ex ne => ?_, ?_⟩
        · rw [List.length_map, List.length_map, List.length_map, List.length_map]
          exact Nat.le_of_lt (len_lt (by omega))
        · rw [upd_ne ne]
          exact sg x o (kH2 x o ex ne)
        · rw [upd_same, List.map_append, List.map_append]
    · obtain ⟨y3, y4, y5, y6, y7, y8, y9, y10, y11, rfl, kG, hG⟩ := hI
      rw [List.length_map, e0l, List.take_length] at hG
      have fl := flat_few one
      have mem : ∀ z, z ∈ (F.flatMap fun os => fitW os qs).map wd ↔ ∃ os ∈ F, ∃ u ∈ fitW os qs, z = wd u := fun z => by
        rw [List.mem_map]
        constructor
        · rintro ⟨u, hu, rfl⟩
          obtain ⟨os, h1, h2⟩ := List.mem_flatMap.mp hu
          exact ⟨os, h1, u, h2, rfl⟩
        · rintro ⟨os, h1, u, h2, rfl⟩
          exact ⟨u, List.mem_flatMap.mpr ⟨os, h1, h2⟩, rfl⟩
      refine ⟨_, rfl, fd, _, rfl, .inl (.inl hG), by rw [List.length_map]; omega, fun p ys ny my np => ?_⟩
      have e := told ys ny fun z => (my z).trans (mem z)
      rw [e]
      have sp := same_upd (o := .lst (((kndL (kindsO qs (sortS ws))).map wd).map V.str)) np
      have hp : upd G p (.lst (((kndL (kindsO qs (sortS ws))).map wd).map V.str)) p = some (.lst (((kndL (kindsO qs (sortS ws))).map wd).map V.str)) := upd_same
      generalize upd G p (.lst (((kndL (kindsO qs (sortS ws))).map wd).map V.str)) = G6 at sp hp ⊢
      refine ⟨p, _, rfl, .inl ⟨.inl (.inl hp), fun t nt => ?_⟩⟩
      have st := same_upd (o := .tup (((kndL (kindsO qs (sortS ws))).map wd).map V.str)) nt
      exact fin t _ (fun b o eb => st _ _ (sp _ _ (kG _ _ (sH1 _ _ eb) (ne_of_none eb nfd)))) upd_same
end
section
variable {P : Program} {w : World} {K : PySem.W.Frag} {mg : Str → Option Value} {base : Heap}
/-! ### a pool is right -/
abbrev paD (q : Rc) : PyData := .tuple [.tuple ((q.z :: q.zs).map PyData.str), .tuple (q.ys.map PyData.str)]
theorem PasAt.dp {H : Hp} : ∀ {rs : List Addr} {qs : List Rc}, PasAt K H rs qs → DpAll K H (rs.map V.ref) (qs.map paD)
  | [], [], _ => .nil
  | [], _ :: _, h => h.elim
  | _ :: _, [], h => h.elim
  | _ :: _, _ :: _, h => by
    obtain ⟨⟨a, b, pa⟩, h2⟩ := h
    exact .cons (.tup pa.top (.cons (.tup (.inl (.inl pa.fore)) (Dp_strs _)) (.cons (.tup (.inl (.inl pa.aft)) (Dp_strs _)) .nil))) (PasAt.dp h2)
theorem pairs_okd {qs : List Rc} {sr : List Str} (on : ∀ q ∈ qs, RcOn sr q) (l20 : qs.length ≤ 20) : Okd (.tuple (qs.map paD)) 3 100000 := by
  refine (Okd.tup (m := 20) (dep := 2) (len := 4000) (fun d hd => ?_) (by rw [List.length_map]; exact l20)).le (by decide) (by decide)
  obtain ⟨q, hq, rfl⟩ := List.mem_map.mp hd
  have o := on q hq
  refine (Okd.tup (m := 2) (dep := 1) (len := 1000) (fun d hd => ?_) (Nat.le_refl _)).le (by decide) (by decide)
  have two : d = .tuple ((q.z :: q.zs).map PyData.str) ∨ d = .tuple (q.ys.map PyData.str) := by simpa using hd
  rcases two with e | e <;> rw [e]
  · exact (Okd.tup (m := 12) (names_okd fun x hx => o.row.own x hx) (by rw [List.length_map]; exact o.row.most)).le (by decide) (by decide)
  · exact (Okd.tup (m := 12) (names_okd fun x hx => o.row.own x (o.aft.mem_iff.mpr hx)) (by rw [List.length_map, ← o.aft.length_eq]; exact o.row.most)).le (by decide) (by decide)
abbrev s__law_right : Stmt := top 34
abbrev N__law_right : List Str := ["_law_pool_here", "_law_folk", "_law_doubles_here", "_law_due", "_law_shown", "_law_told"]
theorem sc__law_right : FnScope N__law_right ["_law_pool_here"] (defScope s__law_right) := ⟨rfl, rfl, rfl, by decide +kernel, rfl, by decide +kernel, by decide +kernel⟩
theorem ok_right (D : Df K mg "_law_right" s__law_right) (c__law_draw : Cl P w K mg base 1 "_law_draw" s__law_draw ["_law_pool_here", "_law_count"] spDraw) (c__law_names : Cl P w K mg base 2 "_law_names" s__law_names ["_law_pool_here", "_law_many"] spNames) (c__law_doubles : Cl P w K mg base 4 "_law_doubles" s__law_doubles ["_law_pool_here", "_law_folk", "_law_most"] spDbl)
    (c__law_words : Cl P w K mg base 2 "_law_words" s__law_words ["_law_folk", "_law_doubles_here"] (spWords K)) (c_possible_kinds : Cl P w K mg base 7 "possible_kinds" s_possible_kinds ["pairs"] (spKinds K)) (m_repr : mg "repr" = none) :
    ClG P w K mg base 8 "_law_right" s__law_right ["_law_pool_here"] spRight := by
  refine D.okG sc__law_right (fun _ _ _ _ _ _ us hl => match us, hl with | [_], _ => rfl) (fun vs H Q E h => ?_) (fun f cdv A outer s H vs Q E hr hgd h => ?_)
  · obtain ⟨a, rfl, _⟩ := h
    rfl
  · obtain ⟨a, rfl, hp, fin⟩ := h
    refine ⟨_, 
      (pss_cons (ps_set (i := 1) sc__law_right.nd rfl (Or.inl rfl) (pe_u c__law_names hr (by omega) (by rfl) (pa_cons (pv 0) (pa_cons (pe_op op_add pe_int (pe_u c__law_draw hr (by omega) (by rfl) (pa_cons (pv 0) (pa_cons pe_int pa_nil)))) pa_nil)))) 
      (pss_cons (ps_set (i := 2) sc__law_right.nd rfl (Or.inl rfl) (pe_u c__law_doubles hr (by omega) (by rfl) (pa_cons (pv 0) (pa_cons (pv 1) (pa_cons pe_int pa_nil))))) 
      (pss_cons (ps_par (i := 3) (j := 4) (by rfl) sc__law_right.nd rfl rfl (by decide) rfl rfl (pa_cons (pe_u c__law_words hr (by omega) (by rfl) (pa_cons (pv 1) (pa_cons (pv 2) pa_nil))) (pa_cons (pe_callB (call_reprD hr hgd) (by rfl) m_repr (by decide +kernel) (pa_cons (pv 2) pa_nil)) pa_nil)) (by rfl)) 
      (pss_cons (ps_set (i := 5) sc__law_right.nd rfl (Or.inl rfl) (pe_lst (pa_cons (pe_u c_possible_kinds hr (by omega) (by rfl) (pa_cons (pv 2) pa_nil)) (pa_cons (pe_uk (ks := ["pairs"]) id c_possible_kinds hr (by omega) (by rfl) (fun _ _ _ _ _ _ ws hl => match ws, hl with | [_], _ => rfl) (fun r => r) (pk_cons (pv 2) pk_nil)) (pa_cons (pe_u c_possible_kinds hr (by omega) (by rfl) (pa_cons (pv 2) pa_nil)) pa_nil))))) 
      (pss_one (ps_ret (pe_and (pe_cmpR op_eq (pe_callB (call_reprD hr hgd) (by rfl) m_repr (by decide +kernel) (pa_cons (pv 5) pa_nil)) (pe_callB (call_reprD hr hgd) (by rfl) m_repr (by decide +kernel) (pa_cons (pe_op op_rep (pe_lst (pa_cons (pv 3) pa_nil)) pe_int) pa_nil)) (nomark _)) (pe_one (pe_cmpR op_eq (pe_callB (call_reprD hr hgd) (by rfl) m_repr (by decide +kernel) (pa_cons (pv 2) pa_nil)) (pv 4) (nomark _)))))))))), ?_⟩
    refine ⟨_, rfl, _, rfl, a, 4, rfl, by decide, by decide, hp, fun d H1 d0 d1 k1 p1 => ⟨_, _, rfl, rfl, a, _, rfl, by omega, by omega, p1, fun fo ws H2 k2 p2 nfo hfo wl wnm wnd => ?_⟩⟩
    have foa : fo ≠ a := p1.ne nfo
    have row : NmR ws := ⟨by omega, by omega, wnm, wnd⟩
    have w5 : ws.length ≤ 5 := by omega
    refine ⟨_, rfl, _, rfl, a, fo, 6, ws, rfl, p2, foa, hfo, row, by decide, by decide, fun r rs qs H3 k3 p3 hr3 each n1 n6 on => ?_⟩
    have n20 : qs.length ≤ 20 := by omega
    have k03 := (k1.trans k2).trans k3
    have hfo3 := k3 _ _ hfo foa
    have pas3 : PasAt K H3 rs qs := each.imp fun _ _ _ e => e.at
    have hR3 : SqT K H3 r (rs.map V.ref) := .inl (.inl hr3)
    generalize hsr : sortS ws = sr at on
    have ro := pairs_okd on n20
    have wlen : ∀ w, kindsO qs sr = some w → w.length ≤ 20 := fun w e => by
      rw [(kindsO_len e).1, wordK_len]
      exact n20
    have ko := knd_okd wlen
    have rdp : ∀ {G : Hp}, Same H3 G → Dp K G (.ref r) (.tuple (qs.map paD)) := fun {G} s => .tup (SqT.same s hR3) (PasAt.dp (pas3.same s))
    have kdp : ∀ {G : Hp} {p : Addr}, G p = some (.tup (((kndL (kindsO qs sr)).map wd).map V.str)) → Dp K G (.ref p) (kndD (kindsO qs sr)) := fun h => .tup (.inl (.inl h)) (Dp_strs _)
    refine ⟨_, rfl, _, rfl, fo, r, ws, rs, qs, rfl, .inl (.inl hfo3), row, w5, hR3, pas3, n1, n20, by rw [hsr]; exact on, fun pd H4 s4 hpd => ?_⟩
    rw [hsr] at hpd
    refine ⟨_, rfl, .ref r, _, rfl, rdp s4, ro.lay, Nat.le_trans ro.deep (by decide), ro.shw, Nat.le_trans ro.fits (by decide), ?_⟩
    refine ⟨_, _, rfl, _, rfl, r, rs, qs, sr, rfl, SqT.same s4 hR3, pas3.same s4, n1, n20, on, fun v1 G1 g1 d1 => ⟨_, rfl, rfl, r, rs, qs, sr, rfl, SqT.same (s4.trans g1) hR3, pas3.same (s4.trans g1), n1, n20, on, fun v2 G2 g2 d2 => ⟨_, rfl, r, rs, qs, sr, rfl, SqT.same ((s4.trans g1).trans g2) hR3, pas3.same ((s4.trans g1).trans g2), n1, n20, on, fun v3 G3 g3 d3 => ⟨(by show 3 ≤ sizeLine; decide), fun l nl => ?_⟩⟩⟩⟩
    have sl := same_upd (o := .lst [v1, v2, v3]) nl
    have hl : upd G3 l (.lst [v1, v2, v3]) l = some (.lst [v1, v2, v3]) := upd_same
    have d1 := d1.same ((g2.trans g3).trans sl)
    have d2 := d2.same (g3.trans sl)
    have d3 := d3.same sl
    have s5 := ((g1.trans g2).trans g3).trans sl
    generalize upd G3 l (.lst [v1, v2, v3]) = F1 at hl d1 d2 d3 s5 ⊢
    obtain ⟨q1, rfl, h1⟩ := d1.at
    obtain ⟨q2, rfl, h2⟩ := d2.at
    obtain ⟨q3, rfl, h3⟩ := d3.at
    have hpd5 := s5 _ _ hpd
    have lo : Okd (.list [kndD (kindsO qs sr), kndD (kindsO qs sr), kndD (kindsO qs sr)]) 3 10000 := (Okd.lst (m := 3) (dep := 1) (len := 1000) (fun d hd => by
      have e : d = kndD (kindsO qs sr) := by simpa using hd
      rw [e]
      exact ko) (Nat.le_refl _)).le (by decide) (by decide)
    refine ⟨_, rfl, .ref l, _, rfl, .lst (.inl (.inl hl)) (.cons (kdp h1) (.cons (kdp h2) (.cons (kdp h3) .nil))), lo.lay, Nat.le_trans lo.deep (by decide), lo.shw, Nat.le_trans lo.fits (by decide), ?_⟩
    refine ⟨_, rfl, (by show 1 ≤ sizeLine; decide), fun o no => ⟨o, 3, [.ref pd], rfl, rfl, upd_same, by decide, by decide, (by show 3 ≤ sizeLine; decide), fun p np => ?_⟩⟩
    have so := (same_upd (o := .lst [.ref pd]) no).trans (same_upd (o := .lst [.ref pd, .ref pd, .ref pd]) np)
    have hp3 : upd (upd F1 o (.lst [.ref pd])) p (.lst [.ref pd, .ref pd, .ref pd]) p = some (.lst [.ref pd, .ref pd, .ref pd]) := upd_same
    have dv := kdp (so _ _ hpd5)
    have sF := (s4.trans s5).trans so
    refine ⟨.ref p, _, rfl, .lst (.inl (.inl hp3)) (.cons dv (.cons dv (.cons dv .nil))), lo.lay, Nat.le_trans lo.deep (by decide), lo.shw, Nat.le_trans lo.fits (by decide), rfl, ?_⟩
    rw [decide_eq_true rfl]
    refine ⟨_, rfl, iteT ⟨_, rfl, .ref r, _, rfl, rdp sF, ro.lay, Nat.le_trans ro.deep (by decide), ro.shw, Nat.le_trans ro.fits (by decide), _, rfl, rfl, ?_⟩⟩
    rw [decide_eq_true rfl]
    exact fin _ (k03.trans (.of_same sF)) (p3.of fun u e => sF a u e)
end
section
variable {P : Program} {w : World} {K : PySem.W.Frag} {mg : Str → Option Value} {base : Heap}
/-! ### the law -/
abbrev s_law : Stmt := top 35
abbrev N_law : List Str := ["_law_script", "_law_k", "_law_pool_here", "_law_turn"]
theorem sc_law : FnScope N_law ["_law_script"] (defScope s_law) := ⟨rfl, rfl, rfl, by decide +kernel, rfl, by decide +kernel, by decide +kernel⟩
def spLaw (K : PySem.W.Frag) : Sp := fun vs H Q _ => ∃ (a : Addr) (ns : List Int), vs = [.ref a] ∧ SqL K H a (ns.map V.int) ∧ ns.length ≤ 63 ∧ ∀ H', Q (.bl true) H'
theorem ok_law (D : Df K mg "law" s_law) (c__law_right : ClG P w K mg base 8 "_law_right" s__law_right ["_law_pool_here"] spRight) (c__law_pool : Cl P w K mg base 1 "_law_pool" s__law_pool ["_law_number"] spPool)
    (c__law_cell : Cl P w K mg base 1 "_law_cell" s__law_cell ["_law_script", "_law_k"] (spCell K))
    (m_len : mg "len" = none) (m_all : mg "all" = none) (m_range : mg "range" = none) (m_max : mg "max" = none) (m_min : mg "min" = none) :
    ClG P w K mg base 9 "law" s_law ["_law_script"] (spLaw K) := by
  refine D.okG sc_law (fun _ _ _ _ _ _ us hl => match us, hl with | [_], _ => rfl) (fun vs H Q E h => ?_) (fun f cdv A outer s H vs Q E hr hgd h => ?_)
  · obtain ⟨a, ns, rfl, _⟩ := h
    rfl
  · obtain ⟨a, ns, rfl, hS, hlen, q⟩ := h
    refine ⟨_, 
      (pss_cons (ps_for PassesOwn.never rfl (pi_range1 (by rfl) m_range (pa_cons (pe_callB (call_max2 rfl) (by rfl) m_max (by decide +kernel) (pa_cons pe_int (pa_cons (pe_callB (call_min2 rfl) (by rfl) m_min (by decide +kernel) (pa_cons (pe_callB call_lenS (by rfl) m_len (by decide +kernel) (pa_cons (pv 0) pa_nil)) (pa_cons pe_int pa_nil))) pa_nil))) pa_nil)) (pg_name (i := 1) sc_law.nd rfl (Or.inl rfl)) (pss_cons (ps_set (i := 2) sc_law.nd rfl (Or.inr rfl) (pe_u c__law_pool hr (by omega) (by rfl) (pa_cons (pe_u c__law_cell hr (by omega) (by rfl) (pa_cons (pv 0) (pa_cons (pv 1) pa_nil))) pa_nil))) (pss_one (ps_if (pt_not (pt_val (pe_callB (cr_all rfl) (by rfl) m_all (by decide +kernel) (pa_cons (pe_lc (own := [("_law_turn", 3)]) (g := gName 3) (te := (tCall spRight [] E0 (tCons (tVar 2) tNil))) rfl sc_law.nd (pi_range1 (by rfl) m_range (pa_cons pe_int pa_nil)) (blkOk_by (own := [("_law_turn", 3)]) (N := N_law) (sc := (defScope s_law)) (by decide +kernel)) (fun _ _ _ _ _ => (pg_name (i := 3) sc_law.nd rfl (Or.inl rfl))) (fun _ _ _ _ _ => pts_nil) (fun _ _ _ _ _ => (pe_ug c__law_right hr hgd (by omega) (by rfl) (pa_cons (pv 2) pa_nil)))) pa_nil)))) (pss_one (ps_ret pe_bl)) pss_nil)))) 
      (pss_one (ps_ret pe_bl))), ?_⟩
    refine ⟨_, rfl, a, _, rfl, .inl hS, _, _, rfl, _, _, rfl, _, rfl, ?_, ?_, ?_⟩
    · rw [List.length_map]
      split <;> split <;> omega
    · rw [List.length_map]
      split <;> split <;> omega
    generalize hn : (if (if (6 : Int) < (((ns.map V.int).length : Nat) : Int) then (6 : Int) else (((ns.map V.int).length : Nat) : Int)) > 2 then (if (6 : Int) < (((ns.map V.int).length : Nat) : Int) then (6 : Int) else (((ns.map V.int).length : Nat) : Int)) else 2) = n
    have n1 : n ≤ 100 := by
      rw [← hn, List.length_map]
      split <;> split <;> omega
    refine for_range (lo := 0) (n := n.toNat) (fun i σ G => ∃ y1 y2 y3 : Option V, σ = [some (.ref a), y1, y2, y3] ∧ Same H G) ⟨none, none, none, rfl, Same.refl H⟩ (fun i σ G hi hI => ?_) (fun σ G hI => ?_)
    · obtain ⟨y1, y2, y3, rfl, sm⟩ := hI
      refine ⟨_, rfl, _, rfl, a, ns, i, ?_, sm.seq hS, by omega, fun c H3 s3 => ?_⟩
      · exact congrArg (fun t : Int => [V.ref a, V.int t]) (Int.zero_add _)
      refine ⟨c, rfl, fun p H4 s4 np hp => ?_⟩
      refine ⟨3, rfl, by decide, by decide, fun D nD => ?_⟩
      have sD := same_upd (o := .lst []) nD
      have pD : p ≠ D := (hp.ne nD).symm
      refine lc_range (lo := 0) (n := 3) (fun j F => F D = some (.lst ((List.replicate j true).map V.bl)) ∧ Pool F p ∧ Kp p H3 F ∧ True) ⟨upd_same, hp.of fun u e => sD p u e, (Kp.of_same s4).trans (.of_same sD), trivial⟩ (fun j F hj hK => ?_) (fun F hK => ?_)
      · obtain ⟨hD, pF, kF, _⟩ := hK
        refine ⟨rfl, _, rfl, p, rfl, pF, fun H5 k5 p5 => ?_⟩
        have fD : H3 D = none := (Kp.of_same s4).free nD pD.symm
        refine ⟨_, k5 D _ hD pD.symm, ?_, ?_, p5.upd pD, (kF.trans k5).upd fD, trivial⟩
        · rw [List.length_map, List.length_replicate]
          exact len_lt (by omega)
        · rw [upd_same, List.replicate_succ', List.map_append]
          rfl
      · obtain ⟨hD, pF, kF, _⟩ := hK
        refine ⟨D, List.replicate 3 true, rfl, .inl (.inl hD), ?_⟩
        rw [all_true]
        refine ⟨_, rfl, iteF ⟨_, _, _, rfl, fun b o e => ?_⟩⟩
        have e3 := s3 b _ (sm b o e)
        exact kF b o e3 (ne_of_none e3 np)
    · exact q _
end
/-! ### what the top has left; the head -/
def fnL : List He.DefD := [mkD "is_name" s_is_name, mkD "is_name_row" s_is_name_row, mkD "have_same_names" s_have_same_names, mkD "may_be_records" s_may_be_records, mkD "wrong_record" s_wrong_record, mkD "compared_names" s_compared_names, mkD "check_all_right" s_check_all_right, mkD "known_shorter" s_known_shorter, mkD "order_and_rest" s_order_and_rest, mkD "first_order" s_first_order, mkD "is_pair" s_is_pair, mkD "possible_kinds" s_possible_kinds, mkD "_law_cell" s__law_cell, mkD "_law_pool" s__law_pool, mkD "_law_draw" s__law_draw, mkD "_law_names" s__law_names, mkD "_law_mixed" s__law_mixed, mkD "_law_pass" s__law_pass, mkD "_law_ranked" s__law_ranked, mkD "_law_orders" s__law_orders, mkD "_law_changed" s__law_changed, mkD "_law_doubles" s__law_doubles, mkD "_law_words" s__law_words, mkD "_law_right" s__law_right, mkD "law" s_law]
def faL : List He.Fa := [.glo "is_name", .glo "is_name_row", .glo "have_same_names", .glo "may_be_records", .glo "wrong_record", .glo "compared_names", .glo "check_all_right", .glo "known_shorter", .glo "order_and_rest", .glo "first_order", .glo "is_pair", .glo "possible_kinds", .glo "_law_cell", .glo "_law_pool", .glo "_law_draw", .glo "_law_names", .glo "_law_mixed", .glo "_law_pass", .glo "_law_ranked", .glo "_law_orders", .glo "_law_changed", .glo "_law_doubles", .glo "_law_words", .glo "_law_right", .glo "law", .free "isinstance", .free "str", .free "len", .free "all", .free "tuple", .free "set", .free "sorted", .free "enumerate", .free "zip", .free "list", .free "range", .free "abs", .free "divmod", .free "dict", .free "max", .free "repr", .free "min", .int "LONGEST_NAME" 6, .int "MOST_PEOPLE" 12, .int "MOST_RECORDS" 20, .str "LETTERS" "abcdefghijklmnopqrstuvwxyz"]
def exL : PySem.W.Frag → Bool := fun K => true
def loose0 : List PySem.Str := ["PassError", "InvalidRecord", "MOST_PEOPLE", "LETTERS", "LONGEST_NAME", "is_name", "is_name_row", "MOST_RECORDS", "have_same_names", "may_be_records", "wrong_record", "compared_names", "check_all_right", "known_shorter", "order_and_rest", "first_order", "is_pair", "possible_kinds", "_law_cell", "_law_pool"]
def loose1 : List PySem.Str := ["_law_draw", "_law_names", "_law_mixed", "_law_pass", "_law_ranked", "_law_orders", "_law_changed", "_law_doubles", "_law_words", "_law_right"]
def loose : List PySem.Str := loose0 ++ loose1

def lawLevel : Nat := 9
theorem law_facts {P : Program} {w : World} {K : PySem.W.Frag} {h : Heap} {mg : Str → Option Value} {f : Addr} (X : K.In h) (G : h.Ns mainGlobals mg) (hfa : mg ("law" : Str) = some (.ref f)) (c : He.SaysD faL fnL K) (ex : exL K = true) :
    ∃ fd : FuncData, (∀ (s : Shared) (v : Value), BindsTo s fd ⟨[v], []⟩ [("_law_script", v)]) ∧ ∀ base : Heap, FnG P w K mg base lawLevel f fd ["_law_script"] (spLaw K) := by
  have D_is_name : Df K mg "is_name" s_is_name := Df.of X G c 0 rfl rfl
  have D_is_name_row : Df K mg "is_name_row" s_is_name_row := Df.of X G c 1 rfl rfl
  have D_have_same_names : Df K mg "have_same_names" s_have_same_names := Df.of X G c 2 rfl rfl
  have D_may_be_records : Df K mg "may_be_records" s_may_be_records := Df.of X G c 3 rfl rfl
  have D_wrong_record : Df K mg "wrong_record" s_wrong_record := Df.of X G c 4 rfl rfl
  have D_compared_names : Df K mg "compared_names" s_compared_names := Df.of X G c 5 rfl rfl
  have D_check_all_right : Df K mg "check_all_right" s_check_all_right := Df.of X G c 6 rfl rfl
  have D_known_shorter : Df K mg "known_shorter" s_known_shorter := Df.of X G c 7 rfl rfl
  have D_order_and_rest : Df K mg "order_and_rest" s_order_and_rest := Df.of X G c 8 rfl rfl
  have D_first_order : Df K mg "first_order" s_first_order := Df.of X G c 9 rfl rfl
  have D_is_pair : Df K mg "is_pair" s_is_pair := Df.of X G c 10 rfl rfl
  have D_possible_kinds : Df K mg "possible_kinds" s_possible_kinds := Df.of X G c 11 rfl rfl
  have D__law_cell : Df K mg "_law_cell" s__law_cell := Df.of X G c 12 rfl rfl
  have D__law_pool : Df K mg "_law_pool" s__law_pool := Df.of X G c 13 rfl rfl
  have D__law_draw : Df K mg "_law_draw" s__law_draw := Df.of X G c 14 rfl rfl
  have D__law_names : Df K mg "_law_names" s__law_names := Df.of X G c 15 rfl rfl
  have D__law_mixed : Df K mg "_law_mixed" s__law_mixed := Df.of X G c 16 rfl rfl
  have D__law_pass : Df K mg "_law_pass" s__law_pass := Df.of X G c 17 rfl rfl
  have D__law_ranked : Df K mg "_law_ranked" s__law_ranked := Df.of X G c 18 rfl rfl
  have D__law_orders : Df K mg "_law_orders" s__law_orders := Df.of X G c 19 rfl rfl
  have D__law_changed : Df K mg "_law_changed" s__law_changed := Df.of X G c 20 rfl rfl
  have D__law_doubles : Df K mg "_law_doubles" s__law_doubles := Df.of X G c 21 rfl rfl
  have D__law_words : Df K mg "_law_words" s__law_words := Df.of X G c 22 rfl rfl
  have D__law_right : Df K mg "_law_right" s__law_right := Df.of X G c 23 rfl rfl
  have D_law : Df K mg "law" s_law := Df.of X G c 24 rfl rfl
  have m_isinstance : mg "isinstance" = none := He.free_ok X G (c.fact 25 (f := .free "isinstance") rfl)
  have m_str : mg "str" = none := He.free_ok X G (c.fact 26 (f := .free "str") rfl)
  have m_len : mg "len" = none := He.free_ok X G (c.fact 27 (f := .free "len") rfl)
  have m_all : mg "all" = none := He.free_ok X G (c.fact 28 (f := .free "all") rfl)
  have m_tuple : mg "tuple" = none := He.free_ok X G (c.fact 29 (f := .free "tuple") rfl)
  have m_set : mg "set" = none := He.free_ok X G (c.fact 30 (f := .free "set") rfl)
  have m_sorted : mg "sorted" = none := He.free_ok X G (c.fact 31 (f := .free "sorted") rfl)
  have m_enumerate : mg "enumerate" = none := He.free_ok X G (c.fact 32 (f := .free "enumerate") rfl)
  have m_zip : mg "zip" = none := He.free_ok X G (c.fact 33 (f := .free "zip") rfl)
  have m_list : mg "list" = none := He.free_ok X G (c.fact 34 (f := .free "list") rfl)
  have m_range : mg "range" = none := He.free_ok X G (c.fact 35 (f := .free "range") rfl)
  have m_abs : mg "abs" = none := He.free_ok X G (c.fact 36 (f := .free "abs") rfl)
  have m_divmod : mg "divmod" = none := He.free_ok X G (c.fact 37 (f := .free "divmod") rfl)
  have m_dict : mg "dict" = none := He.free_ok X G (c.fact 38 (f := .free "dict") rfl)
  have m_max : mg "max" = none := He.free_ok X G (c.fact 39 (f := .free "max") rfl)
  have m_repr : mg "repr" = none := He.free_ok X G (c.fact 40 (f := .free "repr") rfl)
  have m_min : mg "min" = none := He.free_ok X G (c.fact 41 (f := .free "min") rfl)
  obtain ⟨t_LONGEST_NAME, g_LONGEST_NAME⟩ := He.int_ok X G (c.fact 42 (f := .int "LONGEST_NAME" 6) rfl)
  obtain ⟨t_MOST_PEOPLE, g_MOST_PEOPLE⟩ := He.int_ok X G (c.fact 43 (f := .int "MOST_PEOPLE" 12) rfl)
  obtain ⟨t_MOST_RECORDS, g_MOST_RECORDS⟩ := He.int_ok X G (c.fact 44 (f := .int "MOST_RECORDS" 20) rfl)
  obtain ⟨t_LETTERS, g_LETTERS⟩ := He.str_ok X G (c.fact 45 (f := .str "LETTERS" "abcdefghijklmnopqrstuvwxyz") rfl)
  have g_is_pair : mg "is_pair" = some (.ref (He.ga K "is_pair")) := He.glo_ok X G (c.fact 10 (f := .glo "is_pair") rfl)
  obtain ⟨fd, F, hF⟩ := ClG.last (P := P) (w := w) (k := 9) (ps := ["_law_script"]) (sp := spLaw K) D_law hfa fun base => by
    have c_draw := ok_draw (P := P) (w := w) (base := base) D__law_draw m_divmod
    have c_name := ok_name (P := P) (w := w) (base := base) D_is_name m_isinstance m_str m_len m_all g_LONGEST_NAME g_LETTERS
    have c_nrow := ok_namerow D_is_name_row c_name m_isinstance m_tuple m_len m_all m_set g_MOST_PEOPLE
    have c_cmpn := ok_cmpn (K := K) (P := P) (w := w) (base := base) D_compared_names m_zip
    have c_same := ok_samenames D_have_same_names c_nrow m_sorted
    have c_ispair := ok_ispair D_is_pair c_same m_isinstance m_tuple m_len
    have c_mix := ok_shufv (K := K) D__law_mixed c_draw m_len m_tuple m_list m_range
    have c_pass := ok_pass (K := K) (P := P) (w := w) (base := base) D__law_pass m_tuple m_sorted
    have c_rank := ok_ranked (K := K) (P := P) (w := w) (base := base) D__law_ranked m_dict m_enumerate
    have c_may := ok_mayr (P := P) (w := w) (base := base) D_may_be_records m_isinstance m_tuple m_len g_MOST_RECORDS
    have c_chkp := ok_allr D_check_all_right c_may (ok_wrongr c_ispair g_is_pair (by decide) D_wrong_record m_enumerate m_sorted)
    have c_or := ok_or (K := K) (P := P) (w := w) (base := base) D_order_and_rest m_list m_len m_range m_all
    have c_foL := ok_foL D_first_order (ok_knownL D_known_shorter c_cmpn m_sorted) c_or m_tuple
    have c_kinds := ok_kinds D_possible_kinds g_is_pair c_chkp c_foL m_zip
    have c_names := ok_names D__law_names c_draw m_range
    have c_doubles := ok_dbl D__law_doubles c_draw c_mix c_pass c_rank (ok_chg D__law_changed c_draw c_mix m_len m_tuple m_list m_max) m_len m_tuple m_range
    exact ok_law D_law (ok_right D__law_right c_draw c_names c_doubles (ok_words D__law_words (ok_ord (K := K) D__law_orders m_sorted) c_rank c_pass m_tuple m_sorted m_set) c_kinds m_repr) (ok_pool D__law_pool m_abs) (ok_cell D__law_cell m_len) m_len m_all m_range m_max m_min
  exact ⟨fd, fun s v => FunD.bindsA (ps := ["_law_script"]) F (fun _ _ _ _ _ _ us hl => match us, hl with | [_], _ => rfl) s [v] rfl, hF⟩
abbrev R : PySem.W.OpenRow := PySem.W.OpenLaw.row PySem.Challenge.rw_lastpasses_k63_possible_kinds
abbrev hk : PySem.W.Hook := hookL 3 faL fnL exL
def ob (s : PySem.W.SharedT) : He.AlD × Bool := obL 3 faL fnL exL (HandSHeadRun.getT s)
theorem ob_eq (s : PySem.W.SharedT) : ob s = hk.obs s.abs := obL_eq (HandSHeadRun.getT_eq s)
theorem run (w : World) : HandSHeadRun.RunEq R (PySem.W.view R.prog [35]) hk ob 20000 loose w := by
  intro os
  kernel_rfl
end Lp
open PySem PySem.W PySem.Calls PyProof.Rows
theorem PySem.Challenge.cw_lastpasses_k63_possible_kinds_holds : PySem.Challenge.rw_lastpasses_k63_possible_kinds.Holds := by
  w_on; o_law
  refine HandSHeadRun.head_any (r := OpenLaw.row PySem.Challenge.rw_lastpasses_k63_possible_kinds) (q := view (OpenLaw.row PySem.Challenge.rw_lastpasses_k63_possible_kinds).prog [35]) (H := Lp.hk) (ob := Lp.ob) (M := 20000) (loose := Lp.loose) (d := HandSHeadRun.topDef (OpenLaw.row PySem.Challenge.rw_lastpasses_k63_possible_kinds).prog 35) (kwd := []) Lp.ob_eq
    (by kernel_rfl) (fun s => by kernel_rfl) Lp.run (by kernel_rfl) (by kernel_rfl) (by kernel_rfl) (by rfl) (by first | assumption | decide +kernel) (by decide +kernel) ⟨rfl, rfl, rfl, rfl, rfl, by decide +kernel⟩ ?hw ?hc
  case hw => w_witness2
  case hc =>
    refine Lp.walkG (l := PySem.Challenge.rw_lastpasses_k63_possible_kinds) (n := 63) (k := Lp.lawLevel) (x := "_law_script") rfl (by decide) (by kernel_rfl) ⟨rfl, by decide, by decide⟩ ?F
    intro w mg fa h Y G hmg0
    obtain ⟨K, KX, c, ex⟩ := Y
    have hmg : mg ("law" : PySem.Str) = some (.ref fa) := by
      have e : (HandSHeadRun.topDef (OpenLaw.row PySem.Challenge.rw_lastpasses_k63_possible_kinds).prog 35).name = ("law" : PySem.Str) := by kernel_rfl
      rw [← e]
      exact hmg0
    obtain ⟨fd, hb, hF⟩ := Lp.law_facts (P := (PySem.Challenge.rw_lastpasses_k63_possible_kinds).prog) (w := w) KX G hmg c ex
    exact ⟨K, fd, Lp.spLaw K, KX, hb, fun H a ns hl hS => ⟨a, ns, rfl, hS, hl, fun _ => rfl⟩, hF⟩
