import PyProof.Rows.All
import Wide.All
import OpenK.AllK
import Wide.FinOn
import HandS.ForMost
import HandS.ForExc
import HandS.More
import HandS.Wide
import HandS.Style
import HandS.Flow
import HandS.SetFor
import HandS.Defaults
import HandS.IsInst
import HandS.ExcIs
import HandS.ExcValue
import HandS.Conv
import HandS.TupAny
import HandS.Deep
import HandS.Codes
import HandS.Head0
import HandS.Head1
import HandS.Head2
import HandS.HeadEnd
import HandS.HeadHook1
import HandS.HeadHook2
import HandS.HeadHook3
import HandS.HeadHook4
import PySem.Challenge.RW_rootrooms_k01_primes_and_contraries
set_option Elab.async false
set_option linter.all false
set_option maxRecDepth 100000
set_option maxHeartbeats 4000000
/-! XA: rules of our own over the hand layer. -/
namespace XA
open PySem PySem.Spec PyProof.Rows L2

/-! ### weaker readings -/
theorem OpR.imp {X : Cx} {f : Value → Value → Sem Value} {r r' : R2} (h : OpR X f r)
    (i : ∀ x y H Q, r' x y H Q → r x y H Q) : OpR X f r' :=
  fun pins s σ H x y v u Q I rx ry q => h pins s σ H x y v u Q I rx ry (i x y H Q q)

/-- a rest by a positive number -/
def rModP : R2 := fun x y H Q => ∃ i j, x = .int i ∧ y = .int j ∧ 0 < j ∧ Q (.int (i % j)) H
theorem op_modP {X : Cx} : OpR X (binaryOp .Mod) rModP := OpR.imp op_modN (by
  rintro x y H Q ⟨i, j, rfl, rfl, hj, q⟩
  refine ⟨i, j, rfl, rfl, by omega, ?_⟩
  show Q (V.int (i.fmod j)) H
  rw [Int.fmod_eq_emod_of_nonneg _ (by omega)]
  exact q)
/-- a whole part by a positive number below 2 ^ 30 -/
def rDivP : R2 := fun x y H Q => ∃ i j, x = .int i ∧ y = .int j ∧ (0 < j ∧ j < 1073741824) ∧ Q (.int (i / j)) H
theorem op_divP {X : Cx} : OpR X (binaryOp .FloorDiv) rDivP := OpR.imp op_fdivN (by
  rintro x y H Q ⟨i, j, rfl, rfl, ⟨hj, hk⟩, q⟩
  refine ⟨i, j, rfl, rfl, ⟨by omega, by omega⟩, ?_⟩
  show Q (V.int (i.fdiv j)) H
  rw [Int.fdiv_eq_ediv_of_nonneg _ (by omega)]
  exact q)

/-! ### all of a list of ints -/
theorem truth_ints {prog : Program} {w : World} {A : Around} {ns : List Int} {its : List Value} (e : Vals (ns.map V.int) its) :
    TruthOf prog w A (fun i v => its.toArray[i]? = some v) (fun i => (ns.map fun n => n != 0).getD i false) := by
  intro i v s Q E hv hq
  have hv' : its[i]? = some v := by simpa using hv
  have hlt : i < ns.length := by
    have h1 : i < its.length := (List.getElem?_eq_some_iff.mp hv').1
    have h2 := e.length
    rw [List.length_map] at h2
    omega
  have hx : (ns.map V.int)[i]? = some (V.int ns[i]) := by
    rw [List.getElem?_map, List.getElem?_eq_getElem hlt] <;> rfl
  obtain ⟨u, hu, r⟩ := e.get hx
  rw [hv'] at hu
  cases hu
  obtain ⟨t, rfl⟩ := r
  have hg : (ns.map fun n => n != 0).getD i false = (ns[i] != 0) := by
    rw [List.getD_eq_getElem?_getD, List.getElem?_map, List.getElem?_eq_getElem hlt] <;> rfl
  have hq' : Q ((ns.map fun n => n != 0).getD i false) s := hq
  rw [hg] at hq'
  exact PyProof.Rows.truthy_int hq'
def rAllI (K : PySem.W.Frag) : List V → Hp → VK → Prop := fun vs H Q =>
  ∃ (a : Addr) (ns : List Int), vs = [V.ref a] ∧ SqL K H a (ns.map V.int) ∧ Q (.bl (ns.all fun n => n != 0)) H
theorem cr_allI {X : Cx} (hc : X.calm = true) : CallR X (.builtin "all") (rAllI X.K) := by
  intro pins s σ H vs us Q I r h
  obtain ⟨a, ns, rfl, hs, q⟩ := h
  obtain ⟨its, rv, hl, _⟩ := I.list hs
  rw [Vals.ref1 r]
  have hlen : its.toArray.size = (ns.map fun n => n != 0).length := by
    have := rv.length
    simp only [List.length_map] at this
    simp only [List.size_toArray, List.length_map, this]
  apply call_all_walk
  apply iter_any hl.isList
  intro s2 e2 st hne
  subst e2
  refine ⟨_, _, _, _, _, _, _, rfl,
    Walks.list (A := X.A.in1) (I.ok.hd hc) _ a hne its.toArray, st, truth_ints rv, ?_⟩
  intro h' tk hk
  have keep : ∀ b u, s.heap.get? b = some u → h'.get? b = some u := by
    intro b o eo
    apply hk b o
    · intro hm
      rcases List.mem_cons.mp hm with e1 | hm
      · have := Heap.lt_size eo
        rw [e1] at this
        exact Nat.lt_irrefl _ this
      · cases hm
    · exact Heap.get?_push_of_some _ eo
  refine ⟨.bl _, H, I.kept keep, ?_, q⟩
  show Value.bool _ = Value.bool _
  rw [hlen, L2.all_range, List.all_map]
  rfl

/-! ### the count of a truth in a list of truths -/
def isB (k : Bool) : Value → Bool
  | .bool b => b == k
  | _ => false
theorem countB (k : Bool) : ∀ bs : List Bool, (bs.map Value.bool).countP (isB k) = bs.count k
  | [] => rfl
  | b :: r => by
    rw [List.map_cons, List.countP_cons, List.count_cons, countB k r]
    rfl
def rCntB (K : PySem.W.Frag) : V → List V → Hp → VK → Prop := fun x xs H Q =>
  ∃ (p : Addr) (bs : List Bool) (k : Bool), x = .ref p ∧ xs = [.bl k] ∧ SqL K H p (bs.map V.bl) ∧ Q (.int (bs.count k : Nat)) H
theorem mt_countB {X : Cx} : MtR X "list.count" (rCntB X.K) := by
  intro pins s σ H x xs v us Q I rx rxs h
  obtain ⟨p, bs, k, rfl, rfl, hs, q⟩ := h
  cases rx
  obtain ⟨u, rfl, ru⟩ := rxs.one
  obtain rfl : u = Value.bool k := ru
  obtain ⟨its, rv, ⟨⟨cls, dd, data, sl⟩, n, ho, hc, hdn, hd⟩, hlen⟩ := I.list hs
  have hi := rv.bls
  simp only at hc hd
  subst hc hd hi
  refine call_meets PySem.F.slot_list_count ⟨_, ho, rfl⟩ PySem.F.entry_list_count (PySem.F.args_list_count_2 _ _)
    (SeqAt.list_countAt p _ n dd sl (.bool k) (isB k)) ⟨ho, ?_, ?_⟩
  · intro y hy
    have hy' : y ∈ bs.map Value.bool := by simpa using hy
    obtain ⟨b, _, rfl⟩ := List.mem_map.mp hy'
    exact SeqAt.EqAt.bool_bool b k
  · refine ⟨.int (bs.count k : Nat), H, I.tok _, ⟨s.toks, ?_⟩, q⟩
    rw [← countB]

/-! ### an exception of an own class, held by a name behind its suite -/
def ExH (cls : Value) (d : Option Addr) (a : Addr) : HO :=
  .ext fun h => ∃ (oe : Obj) (vs : Array Value), h.get? a = some oe ∧ Zc cls d oe ∧ oe.data = .fields vs
theorem exH_ok {P : Program} {w : World} {H : Hp} {h : Heap} {a : Addr} {cls : Value} {d : Option Addr} {oe : Obj} {vs : Array Value}
    (e : h.get? a = some oe) (z : Zc cls d oe) (f : oe.data = .fields vs) : ObjOk P w H h a (ExH cls d a) := by
  refine ⟨⟨oe, vs, e, z, f⟩, ⟨oe, e⟩, ?_⟩
  rintro h1 h2 ⟨o, v, q, r⟩ k
  exact ⟨o, v, k o q, r⟩
/-- an object that stands untracked and new since the entry is tracked from here on -/
theorem track {X : Cx} {pins : List (Addr × Obj)} {σ : L2.St} {H : Hp} {s : Shared} {a : Addr} {o : HO} (I : Inv X pins σ H s)
    (n0 : X.s_0.heap.get? a = none) (hn : H a = none) (hL : a ≠ X.env.locals) (hC : ∀ x c, X.env.cells.lookup x = some c → c ≠ a)
    (hP : ∀ p ∈ X.pn ++ pins, p.1 ≠ a) (new : ObjOk X.prog X.w (upd H a o) s.heap a o) : Inv X pins σ (upd H a o) s := by
  have ne0 : ∀ b u, X.s_0.heap.get? b = some u → b ≠ a := by
    intro b u e z
    rw [z, n0] at e
    cases e
  have neH : ∀ b u, H b = some u → b ≠ a := fun b u e => ne_of_none e hn
  refine ⟨I.ok, I.os, I.bare, ?_, I.loc, I.cell, ?_, ?_, ?_, ?_, I.len⟩
  · constructor
    · exact I.base.keep
    · exact I.base.slot
    · intro b u e n hx
      rw [upd_ne (ne0 b u e)]
      exact I.base.free b u e n hx
    · exact I.base.there
    · intro b xs e
      have q := I.base.tups b xs e
      rw [upd_ne (neH _ _ q)]
      exact q
    · intro b u v e
      have q := I.base.frzs b u v e
      rw [upd_ne (neH _ _ q)]
      exact q
    · intro b ps e
      obtain ⟨m, q⟩ := I.base.tbls b ps e
      exact ⟨m, by rw [upd_ne (neH _ _ q)]; exact q⟩
  · rw [upd_ne (Ne.symm hL)]
    exact I.free
  · intro x c e
    rw [upd_ne (hC x c e)]
    exact I.freeC x c e
  · intro p hp
    obtain ⟨e, n, r⟩ := I.pin p hp
    exact ⟨e, by rw [upd_ne (hP p hp)]; exact n, r⟩
  · intro b u e
    by_cases hb : b = a
    · subst hb
      rw [upd_same] at e
      cases e
      exact new
    · rw [upd_ne hb] at e
      refine (I.hok b u e).stay (fun c v _ q => q) (fun c q => ?_) (fun c xs q => ?_)
      · rw [upd_ne (neH _ _ q)]
        exact q
      · rw [upd_ne (neH _ _ q)]
        exact q

/-! ### try .. except C as e: suite, and what was caught stays known -/
/-- the ends behind the suite: e's slot is empty, the exception at a is tracked -/
def endsK (D : Ends) (i : Nat) (cls : Value) (d : Option Addr) (a : Addr) : Ends where
  nx := fun τ G => D.nx (τ.set i none) (upd G a (ExH cls d a))
  rt := fun v G => D.rt v (upd G a (ExH cls d a))
  bk := fun τ G => D.bk (τ.set i none) (upd G a (ExH cls d a))
  ct := fun τ G => D.ct (τ.set i none) (upd G a (ExH cls d a))
/-- what the clause wishes of an exception of the body -/
def wAsK (K : PySem.W.Frag) (c : Value) (i : Nat) (ts : Addr → Value → Option Addr → TS) (Wo : WX) (D : Ends) : WX := fun cls d σ H =>
  ∃ b, PySem.W.exmOne K cls c = some b ∧ (b = false → Wo cls d σ H) ∧
    (b = true → ∀ a, H a = none → ts a cls d (endsK D i cls d a) (σ.set i (some (.ref a))) H)
section
variable {X : Cx} {x n : Str} {c : Value} {i : Nat} {body suite : List Stmt} {b0 : Stmt} {np p1 p2 : Pos}
  {tb : WX → TS} {ts : Addr → Value → Option Addr → TS} {Wo : WX}
theorem ps_try_asK (hst : X.stack = X.env :: X.outer) (hfm : X.env.frame = some X.env.locals) (hex : X.ex = [])
    (hnd : X.N.Nodup) (hi : X.N[i]? = some n) (hlo : X.env.kindOf n = some .local) (hc : Names X x c) (tk : Takes X Wo)
    (hb : ∀ (W : WX) (pn : List (Addr × Obj)) (xe : Value → Shared → Prop), Takes (X.tr pn xe) W →
      PassesOwn (model X.prog X.w) X.A X.env xe → PSs (X.tr pn xe) body (tb W))
    (hsu : ∀ (a : Addr) (oe : Obj) (cls : Value) (d : Option Addr) (pn : List (Addr × Obj)), Zc cls d oe →
      (∃ vs, oe.data = .fields vs) → PSs (X.suite a ((a, oe) :: pn)) (b0 :: suite) (ts a cls d)) :
    PS X (.Try body [.ExceptHandler (some (.Name x np)) (some n) (b0 :: suite) p1] [] [] p2)
      (fun D σ H => tb (wAsK X.K c i ts Wo D) D σ H) := by
  refine ⟨?_⟩
  intro pins s σ H D I h
  have ok := I.ok
  have hfr : X.A.frames = some (X.env :: X.outer) := by
    rw [ok.frames, hst]
  have hlc : Loc X.env.scope n := Or.inl hlo
  apply wpAny_Try_except
  let xeT : Value → Shared → Prop := fun e t1 =>
    wpAny (model X.prog X.w) X.A (noteFrame e X.env) (fun _ t2 =>
      wpAny (model X.prog X.w) X.A (setFlight e none) (fun _ t3 =>
        wpAny (model X.prog X.w) X.A
          (handleBy e X.env [.ExceptHandler (some (.Name x np)) (some n) (b0 :: suite) p1])
          (SP X pins D) X.xe t3) X.xe t2) X.xe t1
  have takesT : Takes (X.tr (X.pn ++ pins) xeT) (wAsK X.K c i ts Wo D) := by
    intro u z hz
    obtain ⟨a, B, zI, pins', τ, G, cls, d, rfl, J', nb, up, sky, na, os, ag, b, hb1, hno, hyes⟩ := hz
    have J : Inv X pins τ G zI := J'.ofTry ok
    have sky' : Sky B (X.env :: X.outer) a (Zc cls d) X.env.locals z.heap := hst ▸ sky
    show wpAny _ _ (noteFrame (.ref a) X.env) _ _ _
    apply Sky.land Zc.steady hfr hfm sky'
    intro h3 fl3 up3
    have B0 : B.get? a = none := fl3.2.1
    -- a is none of the objects of the state without it, but perhaps a frame
    have zn : ∀ o, zI.heap.get? a = some o → a ∉ frs X.stack → False := by
      intro o e m
      have q := nb a o e m
      rw [B0] at q
      cases q
    have J3 : Inv X pins τ G { z with heap := h3 } := J.landed nb fl3.1 (up.trans up3) os ag
    obtain ⟨oe3, vs3, he3, hz3, hd3⟩ := fl3.there
    have nfr : a ∉ frs (X.env :: X.outer) := by
      intro hm
      obtain ⟨_, o', e', hnf⟩ := fl3.2.2.1.mem hm
      rw [he3] at e'
      cases e'
      exact hnf _ hd3
    have nfs : a ∉ frs X.stack := by
      rw [hst]
      exact nfr
    have nL : a ≠ X.env.locals := by
      intro q
      exact nfr (List.mem_filterMap.mpr ⟨X.env, List.mem_cons_self, by rw [hfm, q]⟩)
    have nF : a ∉ X.fs := by
      intro hm
      obtain ⟨e, he, q⟩ := List.mem_filterMap.mp hm
      exact nfr (List.mem_filterMap.mpr ⟨e, List.mem_cons_of_mem _ he, q⟩)
    have n0 : X.s_0.heap.get? a = none := by
      cases q : X.s_0.heap.get? a with
      | none => rfl
      | some o =>
        exfalso
        obtain ⟨o', q'⟩ := J.base.there a o q (by rw [hex]; exact fun m => nomatch m)
        exact zn o' q' nfs
    have nC : ∀ y k, X.env.cells.lookup y = some k → k ≠ a := by
      intro y k e q
      obtain ⟨v, o, ho, _⟩ := J.cell y k e
      rw [q] at ho
      exact zn o ho nfs
    have nP : ∀ p ∈ X.pn ++ pins, p.1 ≠ a := by
      intro p hp q
      obtain ⟨e, _⟩ := J.pin p hp
      rw [q] at e
      exact zn _ e nfs
    have S3 := J3.suite he3 hd3 na nL nF
    refine wpAny_handleBy_cons (codeAny_handlers_test ?_) (by intro q; cases q)
    have LT : PySem.W.Looks (model X.prog X.w) h3 (typeOf (.ref a)) cls := by
      intro A Q E t k q
      exact wpAny_typeOf_ref (k _ _ he3) (by rw [hz3.1]; exact q)
    have LM := PySem.W.exm_one (M := model X.prog X.w) J3.kIn LT hb1
    have asks : ∀ {Q E : Value → Shared → Prop}, Q c { z with heap := h3 } →
        wpAny (model X.prog X.w) (X.A.mark (some (.ref a))) (eval (.Name x np) X.env) Q E { z with heap := h3 } := by
      intro Q E q
      obtain ⟨hg, hdb, hm | ⟨hm, hv, hnn⟩⟩ := hc
      · exact ld_glob (X := X.suite a ((a, oe3) :: (X.pn ++ pins))) S3 hg hm q hdb
      · exact ld_blt (X := X.suite a ((a, oe3) :: (X.pn ++ pins))) S3 hg hm hv q hnn hdb
    refine asks (LM.here ?_)
    cases b with
    | true =>
      apply codeAny_handlers_suite_as
      apply HandSPX.lands_againZ fl3
      intro h4 fl4 up4
      have J4 : Inv X pins τ G { z with heap := h4 } :=
        J.landed nb fl4.1 ((up.trans up3).trans up4) os ag
      obtain ⟨oe4, vs4, he4, hz4, hd4⟩ := fl4.there
      have S4 := J4.suite he4 hd4 na nL nF
      refine store_ok (X := X.suite a ((a, oe4) :: (X.pn ++ pins))) (v := .ref a) S4 hnd hi hlc rfl ?_ (.inr hlo)
      intro s5 S5
      have run := (hsu a oe4 cls d (X.pn ++ pins) hz4 ⟨_, hd4⟩).run [] s5 _ G _ S5 (hyes rfl a na)
      refine wpAny_mono run ?_ (fun _ _ q => False.elim q)
      intro f s6 hsp
      have goes : ∀ {τ6 : L2.St} {G6 : Hp} {Q : Shared → Prop}, Inv (X.suite a ((a, oe4) :: (X.pn ++ pins))) [] τ6 G6 s6 →
          (∀ s7, Inv X pins (τ6.set i none) (upd G6 a (ExH cls d a)) s7 → Q s7) →
          wpAny (model X.prog X.w) X.A (do bindName X.env n .none; unbindBehindTheSuite X.env n p1)
            (fun _ s7 => Q s7) X.xe s6 := by
        intro τ6 G6 Q S6 hq
        obtain ⟨ea, ga, _⟩ := S6.pin (a, oe4) (List.mem_append_left _ List.mem_cons_self)
        have J6 : Inv X pins τ6 G6 s6 := S6.unsuite ok
        exact gone_ok (track J6 n0 ga nL nC nP (exH_ok ea hz4 hd4)) hnd hi hlo hq
      cases f with
      | next =>
        obtain ⟨τ6, G6, S6, q6⟩ := hsp
        exact goes S6 fun s7 J7 => ⟨_, _, J7, q6⟩
      | brk =>
        obtain ⟨τ6, G6, S6, q6⟩ := hsp
        exact goes S6 fun s7 J7 => ⟨_, _, J7, q6⟩
      | cont =>
        obtain ⟨τ6, G6, S6, q6⟩ := hsp
        exact goes S6 fun s7 J7 => ⟨_, _, J7, q6⟩
      | ret u =>
        obtain ⟨v6, τ6, G6, S6, r6, q6⟩ := hsp
        exact goes S6 fun s7 J7 => ⟨_, _, _, J7, r6, q6⟩
    | false =>
      show wpAny _ X.A (handleBy (.ref a) X.env []) _ _ _
      apply wpAny_handleBy_nil
      obtain ⟨k1, k2, k3, oe, vs, T, oT, ts', he, hz, hd, h1, hr⟩ := id fl3
      unfold PySem.passOn
      refine wpAny_bind (wpAny_field he hd h1 ?_)
      rw [if_neg (show ¬ ((Value.ref T == Value.none) = true) from by simp)]
      have fin : wpAny (model X.prog X.w) X.A (setFlight (.ref a) X.env.frame)
          (fun _ s4 => wpAny (model X.prog X.w) X.A (throw (.ref a) : Sem Flow) (SP X pins D) X.xe s4)
          X.xe { z with heap := h3 } := by
        rw [hfm]
        refine HandSPX.setFlight_upZ fl3 fun h4 hh4 up4 => wpAny_throw (tk _ _ ?_)
        have top : Sky B X.stack a (Zc cls d) X.env.locals h4 := Or.inr (Or.inr (by rw [hst]; exact hh4))
        exact ⟨a, B, zI, pins, τ, G, cls, d, rfl, J, nb, (up.trans up3).trans up4, top, na, os, ag, hno rfl⟩
      first
        | exact wpAny_bind (wpAny_pure (wpAny_bind fin))
        | exact wpAny_bind fin
  have run := (hb (wAsK X.K c i ts Wo D) (X.pn ++ pins) xeT takesT PassesOwn.looking).run [] s σ H D (I.toTry _) h
  refine wpAny_mono run ?_ (fun e s1 he => he)
  intro f s1 hsp
  cases f with
  | next =>
    obtain ⟨σ', H', J', q⟩ := hsp
    exact wpAny_execs_nil ⟨σ', H', J'.ofTry ok, q⟩
  | brk =>
    obtain ⟨σ', H', J', q⟩ := hsp
    exact ⟨σ', H', J'.ofTry ok, q⟩
  | cont =>
    obtain ⟨σ', H', J', q⟩ := hsp
    exact ⟨σ', H', J'.ofTry ok, q⟩
  | ret u =>
    obtain ⟨v, σ', H', J', r, q⟩ := hsp
    exact ⟨v, σ', H', J'.ofTry ok, r, q⟩
end

/-! ### isinstance of anything with a class -/
inductive TyZ (K : PySem.W.Frag) (H : Hp) : V → Value → Prop where
  | x {v : V} {t : Value} (h : TyX K H v t) : TyZ K H v t
  | exc {a D : Addr} (C : ExcC K D) (h : H a = some (ExH (.ref D) none a)) : TyZ K H (.ref a) (.ref D)
def rIsZ (K : PySem.W.Frag) : List V → Hp → VK → Prop := fun xs H Q =>
  ∃ (x c : V) (t u : Value) (b : Bool), xs = [x, c] ∧ ClsV c u ∧ TyZ K H x t ∧ PySem.W.kitOne K t u = some b ∧ Q (.bl b) H
theorem call_isZ {X : Cx} : CallR X (.builtin "isinstance") (rIsZ X.K) := by
  intro pins s σ H xs us Q I r h
  obtain ⟨x, c, t, u, b, rfl, k, ty, e, q⟩ := h
  cases ty with
  | x ty => exact call_isi pins s σ H _ us Q I r ⟨x, c, t, u, b, rfl, k, ty, e, q⟩
  | @exc a D C hx =>
    obtain ⟨u1, u2, rfl, r1, r2⟩ := vals2 r
    have e2 := k.eq r2
    subst e2
    cases (show u1 = Value.ref a from r1)
    obtain ⟨⟨oe, vs, hget, hz, hv⟩, _⟩ := I.hok a _ hx
    have J : PySem.W.InstAt s.heap a oe D none := by
      obtain ⟨oc, od, oda, osl⟩ := oe
      obtain ⟨h1, h2⟩ := hz
      dsimp only at h1 h2 hv
      subst h1 h2 hv
      exact ⟨hget, rfl, rfl, trivial⟩
    exact PySem.W.kia_one (PySem.W.handS_kitx_exc C.hg C.hk C.hs C.hd C.ha C.hn C.ht C.hm) I.kIn J e
      (fun z => nomatch z) fun tk => ⟨.bl b, H, I.tok tk, rfl, q⟩

/-! ### a call with keywords that may raise, in a try -/
def tCallNS (n m : Nat) (sp : Sp) (gV : List V → List V → List V) (E : L2.St → XK) (t tk : TA) : TE := fun σ H Q =>
  t σ H fun vs H1 => tk σ H1 fun zs H2 => vs.length = n ∧ zs.length = m ∧ sp (gV vs zs) H2 Q (E σ)
section
variable {X : Cx} {CX : CXT} {k n : Nat} {f : Addr} {fd : FuncData} {ps ks : List Str} {sp : Sp} {E : L2.St → XK} {x : Str} {p pos : Pos} {e : Expr}
  {es : List Expr} {kws : List Keyword} {t tk : TA} {g : List Value → List Value → List Value} {gV : List V → List V → List V}
theorem pe_callNS (F : FnOk X.prog X.w X.K X.mg X.base CX k f fd ps sp) (hr : Room k X.A) (hg : Gl X x) (hm : X.mg x = some (.ref f))
    (hk : PySem.W.keepIn X.K (.ref f) = true) (hb : KBn X.K fd ps n ks g gV) (hx : ∀ σ, PassesAt CX X σ (E σ))
    (ha : PA X (e :: es) t) (hkw : PK X kws tk) (hall : (backToKw pos (keywordEach kws X.env)).all (·.1.isSome) = true := by rfl)
    (hks : (backToKw pos (keywordEach kws X.env)).filterMap (·.1) = ks := by rfl)
    (hdb : (x == ("__debug__" : Str)) = false := by decide)
    (he : starEach (e :: es) X.env = (false, eval e X.env) :: starEach es X.env := by rfl)
    (hpl : ((backTo pos (starEach (e :: es) X.env)).any (·.1) || (backToKw pos (keywordEach kws X.env)).any (·.1.isNone)) = false := by rfl) :
    PE X (.Call (.Name x p) (e :: es) kws pos) (tCallNS n ks.length sp gV E t tk) := by
  refine ⟨fun pins s σ H Q I h => ?_⟩
  apply wpAny_Call_Name_kw
  refine ld_glob I hg hm ?_ hdb
  refine PySem.W.callWith_KW (h₀ := X.base) I.ok.mod.kin hk hall (thn (ha.run pos pins s σ H _ I h) ?_) hpl he
  rintro us s1 ⟨vs, H1, I1, r, q⟩
  refine thn (hkw.run pos pins s1 σ H1 _ I1 q) ?_
  rintro ws s2 ⟨zs, H2, I2, rz, l1, l2, q2⟩
  refine ⟨I2.kIn, ?_⟩
  rw [hks]
  have r2 := hb.rel r rz
  have bt := hb.to s2 us ws I2.kIn (r.length.symm.trans l1) (rz.length.symm.trans l2)
  refine wpAny_call (codeAny_mono (F.run X.A X.stack s2 H2 ⟨us, ks.zip ws⟩ (g us ws) (gV vs zs) Q (E σ) hr I2.env0 bt r2 q2) ?_)
  intro r s' hq
  cases r with
  | error e => exact hx σ pins H2 s2 e s' I2 hq
  | ok fl =>
    cases fl with
    | ret u => exact I2.after hq
    | next => exact False.elim hq
    | brk => exact False.elim hq
    | cont => exact False.elim hq
end
end XA

set_option Elab.async false
set_option linter.all false
set_option maxRecDepth 100000
set_option maxHeartbeats 4000000
/-! XB: a def of the text by its name; the steps of a reading. -/
namespace XA
open PySem PySem.Spec PyProof.Rows L2

abbrev FnP (K : PySem.W.Frag) (x : Str) (st : Stmt) (fd : FuncData) : Prop :=
  FunD K x x (defArgs st) (defBody st) (defScope st) [] [] (He.ga K x) fd
/-- the def called x keeps its promise -/
structure Has (P : Program) (w : World) (K : PySem.W.Frag) (mg : Str → Option Value) (base : Heap) (CX : CXT) (k : Nat) (x : Str) (ps : List Str) (sp : Sp) : Prop where
  fn : ∃ fd, FnOk P w K mg base CX k (He.ga K x) fd ps sp ∧ Binds K fd ps []
  kp : PySem.W.keepIn K (.ref (He.ga K x)) = true
  gl : mg x = some (.ref (He.ga K x))
/-- the same, with keyword-only parameters ks behind n others -/
structure HasK (P : Program) (w : World) (K : PySem.W.Frag) (mg : Str → Option Value) (base : Heap) (CX : CXT) (k : Nat) (x : Str) (ps : List Str) (n : Nat) (ks : List Str) (sp : Sp) : Prop where
  fn : ∃ fd, FnOk P w K mg base CX k (He.ga K x) fd ps sp ∧ KBn K fd ps n ks (fun us ws => us ++ ws) (fun vs zs => vs ++ zs)
  kp : PySem.W.keepIn K (.ref (He.ga K x)) = true
  gl : mg x = some (.ref (He.ga K x))
theorem kbn_of {K : PySem.W.Frag} {fd : FuncData} {ps : List Str} {n : Nat} {ks : List Str}
    (h : ∀ us ws : List Value, us.length = n → ws.length = ks.length → bindArgs fd ⟨us, ks.zip ws⟩ = pure (ps.zip (us ++ ws))) :
    KBn K fd ps n ks (fun us ws => us ++ ws) (fun vs zs => vs ++ zs) :=
  ⟨fun _ us ws _ h1 h2 => BindsTo.of_eq (h us ws h1 h2), fun r1 r2 => r1.append r2⟩
section
variable {X : Cx} {CX : CXT} {k n : Nat} {ps ks : List Str} {sp : Sp} {E : XK} {x : Str} {p pos : Pos} {e : Expr} {es : List Expr} {kws : List Keyword} {t tk : TA}
theorem pe_has (h : Has X.prog X.w X.K X.mg X.base CX k x ps sp) (hr : Room k X.A) (hx : Passes CX X E) (ha : PA X (e :: es) t) (hg : Gl X x := by rfl)
    (hdb : (x == ("__debug__" : Str)) = false := by decide) (he : starEach (e :: es) X.env = (false, eval e X.env) :: starEach es X.env := by rfl)
    (hpl : (backTo pos (starEach es X.env)).any (·.1) = false := by rfl) :
    PE X (.Call (.Name x p) (e :: es) [] pos) (tCall sp [] E t) := by
  obtain ⟨fd, F, b⟩ := h.fn
  exact pe_call F hr hg h.gl h.kp b .nil hx ha hdb he hpl
theorem pe_hasS {E : L2.St → XK} (h : Has X.prog X.w X.K X.mg X.base CX k x ps sp) (hr : Room k X.A) (hx : ∀ σ, PassesAt CX X σ (E σ)) (ha : PA X (e :: es) t) (hg : Gl X x := by rfl)
    (hdb : (x == ("__debug__" : Str)) = false := by decide) (he : starEach (e :: es) X.env = (false, eval e X.env) :: starEach es X.env := by rfl)
    (hpl : (backTo pos (starEach es X.env)).any (·.1) = false := by rfl) :
    PE X (.Call (.Name x p) (e :: es) [] pos) (tCallS sp E t) := by
  obtain ⟨fd, F, b⟩ := h.fn
  exact pe_callS F hr hg h.gl h.kp b hx ha hdb he hpl
theorem pe_hasK (h : HasK X.prog X.w X.K X.mg X.base CX k x ps n ks sp) (hr : Room k X.A) (hx : Passes CX X E) (ha : PA X (e :: es) t) (hkw : PK X kws tk) (hg : Gl X x := by rfl)
    (hall : (backToKw pos (keywordEach kws X.env)).all (·.1.isSome) = true := by rfl)
    (hks : (backToKw pos (keywordEach kws X.env)).filterMap (·.1) = ks := by rfl)
    (hdb : (x == ("__debug__" : Str)) = false := by decide) (he : starEach (e :: es) X.env = (false, eval e X.env) :: starEach es X.env := by rfl)
    (hpl : ((backTo pos (starEach (e :: es) X.env)).any (·.1) || (backToKw pos (keywordEach kws X.env)).any (·.1.isNone)) = false := by rfl) :
    PE X (.Call (.Name x p) (e :: es) kws pos) (tCallN n ks.length sp (fun vs zs => vs ++ zs) E t tk) := by
  obtain ⟨fd, F, b⟩ := h.fn
  exact pe_callN F hr hg h.gl h.kp b hx ha hkw hall hks hdb he hpl
theorem pe_hasKS {E : L2.St → XK} (h : HasK X.prog X.w X.K X.mg X.base CX k x ps n ks sp) (hr : Room k X.A) (hx : ∀ σ, PassesAt CX X σ (E σ)) (ha : PA X (e :: es) t) (hkw : PK X kws tk) (hg : Gl X x := by rfl)
    (hall : (backToKw pos (keywordEach kws X.env)).all (·.1.isSome) = true := by rfl)
    (hks : (backToKw pos (keywordEach kws X.env)).filterMap (·.1) = ks := by rfl)
    (hdb : (x == ("__debug__" : Str)) = false := by decide) (he : starEach (e :: es) X.env = (false, eval e X.env) :: starEach es X.env := by rfl)
    (hpl : ((backTo pos (starEach (e :: es) X.env)).any (·.1) || (backToKw pos (keywordEach kws X.env)).any (·.1.isNone)) = false := by rfl) :
    PE X (.Call (.Name x p) (e :: es) kws pos) (tCallNS n ks.length sp (fun vs zs => vs ++ zs) E t tk) := by
  obtain ⟨fd, F, b⟩ := h.fn
  exact pe_callNS F hr hg h.gl h.kp b hx ha hkw hall hks hdb he hpl
/-- repr of None, a truth -/
def rReprB : List V → Hp → VK → Prop := fun xs H Q => ∃ b : Bool, xs = [.bl b] ∧ Q (.str (if b then "True" else "False")) H
theorem call_reprB : CallR X (.builtin "repr") rReprB := by
  intro pins s σ H xs us Q I r h
  obtain ⟨b, rfl, q⟩ := h
  obtain ⟨u, rfl, ru⟩ := Vals.one r
  obtain rfl : u = Value.bool b := ru
  exact P.repr_of_bool ⟨.str (if b then "True" else "False"), H, I.tok _, ⟨_, rfl⟩, q⟩
end

/-- from a def's datum and its body -/
theorem has_of {P : Program} {w : World} {K : PySem.W.Frag} {mg : Str → Option Value} {base : Heap} {CX : CXT} {k : Nat} {x : Str} {ps : List Str} {sp : Sp} {st : Stmt} {fd : FuncData}
    (F : FnP K x st fd) (G : FnOk P w K mg base CX k (He.ga K x) fd ps sp) (gl : mg x = some (.ref (He.ga K x)))
    (h : ∀ (kV doc pm : Value) (an : Option Addr) (cdv ct : Value) (us : List Value), us.length = ps.length →
      bindArgs (PySem.W.fnOf x x (defArgs st) (defBody st) (defScope st) .none kV doc pm an cdv ct) ⟨us, []⟩ = pure (ps.zip us)) :
    Has P w K mg base CX k x ps sp := ⟨⟨fd, G, F.bindsN h⟩, F.kp, gl⟩
theorem hasK_of {P : Program} {w : World} {K : PySem.W.Frag} {mg : Str → Option Value} {base : Heap} {CX : CXT} {k n : Nat} {x : Str} {ps ks : List Str} {sp : Sp} {st : Stmt} {fd : FuncData}
    (F : FnP K x st fd) (G : FnOk P w K mg base CX k (He.ga K x) fd ps sp) (gl : mg x = some (.ref (He.ga K x)))
    (h : ∀ (kV doc pm : Value) (an : Option Addr) (cdv ct : Value) (us ws : List Value), us.length = n → ws.length = ks.length →
      bindArgs (PySem.W.fnOf x x (defArgs st) (defBody st) (defScope st) .none kV doc pm an cdv ct) ⟨us, ks.zip ws⟩ = pure (ps.zip (us ++ ws))) :
    HasK P w K mg base CX k x ps n ks sp := by
  obtain ⟨oc, od, dV, kV, doc, pm, an, cdv, ct, osl, rfl, lk, hcd, hD, hK⟩ := id F.ex
  rcases hD with ⟨_, rfl⟩ | ⟨e, _⟩
  · exact ⟨⟨_, G, kbn_of (h kV doc pm an cdv ct)⟩, F.kp, gl⟩
  · exact absurd rfl e

/-! ### what is handed about -/
/-- None, a truth, a number, a text, a list, a tuple -/
inductive Pl (H : Hp) : V → Prop where
  | non : Pl H .non
  | bl (b : Bool) : Pl H (.bl b)
  | int (i : Int) : Pl H (.int i)
  | str (x : Str) : Pl H (.str x)
  | lst {a : Addr} {xs : List V} (e : H a = some (.lst xs)) : Pl H (.ref a)
  | tup {a : Addr} {xs : List V} (e : H a = some (.tup xs)) : Pl H (.ref a)
def tyN (H : Hp) : V → String
  | .non => "NoneType"
  | .bl _ => "bool"
  | .int _ => "int"
  | .str _ => "str"
  | .ref a => match H a with
    | some (.tup _) => "tuple"
    | _ => "list"
  | _ => "?"
theorem Pl.ty {K : PySem.W.Frag} {H : Hp} {x : V} (h : Pl H x) : TyZ K H x (.type (tyN H x)) := by
  cases h with
  | non => exact .x (.base .non)
  | bl b => exact .x (.base (.bl b))
  | int i => exact .x (.base (.int i))
  | str s => exact .x (.base (.str s))
  | @lst a xs e =>
    have h1 : tyN H (.ref a) = "list" := by simp only [tyN, e]
    rw [h1]
    exact .x (.base (.lst e))
  | @tup a xs e =>
    have h1 : tyN H (.ref a) = "tuple" := by simp only [tyN, e]
    rw [h1]
    exact .x (.base (.tup e))
theorem tyN_mem {H : Hp} {x : V} (h : Pl H x) : tyN H x = "NoneType" ∨ tyN H x = "bool" ∨ tyN H x = "int" ∨ tyN H x = "str" ∨ tyN H x = "tuple" ∨ tyN H x = "list" := by
  cases h with
  | non => exact Or.inl rfl
  | bl b => exact Or.inr (Or.inl rfl)
  | int i => exact Or.inr (Or.inr (Or.inl rfl))
  | str s => exact Or.inr (Or.inr (Or.inr (Or.inl rfl)))
  | lst e => exact Or.inr (Or.inr (Or.inr (Or.inr (Or.inr (by simp only [tyN, e])))))
  | tup e => exact Or.inr (Or.inr (Or.inr (Or.inr (Or.inl (by simp only [tyN, e])))))
theorem kit_nm {K : PySem.W.Frag} {a b : String} (ha : a = "NoneType" ∨ a = "bool" ∨ a = "int" ∨ a = "str" ∨ a = "tuple" ∨ a = "list")
    (hb : b = "int" ∨ b = "bool" ∨ b = "tuple" ∨ b = "list" ∨ b = "str") :
    PySem.W.kitOne K (.type a) (.type b) = some (decide (a = b) || (decide (a = "bool") && decide (b = "int"))) := by
  apply kit_ty
  rcases ha with rfl | rfl | rfl | rfl | rfl | rfl <;> rcases hb with rfl | rfl | rfl | rfl | rfl <;> decide +kernel
def xInt : V → Bool
  | .int _ => true
  | _ => false
def xBl : V → Bool
  | .bl _ => true
  | _ => false
theorem tyN_int {H : Hp} {x : V} (h : Pl H x) : decide (tyN H x = "int") = xInt x := by
  cases h with
  | lst e => simp [tyN, e, xInt]
  | tup e => simp [tyN, e, xInt]
  | _ => rfl
theorem tyN_bl {H : Hp} {x : V} (h : Pl H x) : decide (tyN H x = "bool") = xBl x := by
  cases h with
  | lst e => simp [tyN, e, xBl]
  | tup e => simp [tyN, e, xBl]
  | _ => rfl
/-- isinstance(x, int), isinstance(x, bool) of such -/
theorem isz_int {K : PySem.W.Frag} {H : Hp} {x : V} {Q : VK} (h : Pl H x) (q : Q (.bl (xInt x || xBl x)) H) : rIsZ K [x, .ty "int"] H Q := by
  refine ⟨x, .ty "int", .type (tyN H x), .type "int", _, rfl, .ty _, h.ty, kit_nm (tyN_mem h) (Or.inl rfl), ?_⟩
  rw [tyN_int h, tyN_bl h]
  simpa using q
theorem isz_bl {K : PySem.W.Frag} {H : Hp} {x : V} {Q : VK} (h : Pl H x) (q : Q (.bl (xBl x)) H) : rIsZ K [x, .ty "bool"] H Q := by
  refine ⟨x, .ty "bool", .type (tyN H x), .type "bool", _, rfl, .ty _, h.ty, kit_nm (tyN_mem h) (Or.inr (Or.inl rfl)), ?_⟩
  rw [tyN_bl h]
  simpa using q
theorem Pl.mono {H H' : Hp} {x : V} (h : Pl H x) (s : Same H H') : Pl H' x := by
  cases h with
  | non => exact .non
  | bl b => exact .bl b
  | int i => exact .int i
  | str x => exact .str x
  | lst e => exact .lst (s _ _ e)
  | tup e => exact .tup (s _ _ e)
theorem same_upd {H : Hp} {p : Addr} {o : HO} (h : H p = none) : Same H (upd H p o) := fun b x e => by
  rw [upd_ne (ne_of_none e h)]
  exact e

end XA

set_option Elab.async false
set_option linter.all false
set_option maxRecDepth 100000
set_option maxHeartbeats 4000000
/-! XC: the pen that draws; loops over enumerate. -/
namespace XA
open PySem PySem.Spec PyProof.Rows L2

theorem for_enumL {K : PySem.W.Frag} {a : Addr} {xs : List V} {g : TG} {tb : TS} {D : Ends} {σ : L2.St} {H : Hp}
    (Pv : Nat → L2.St → Hp → Prop) (h0 : Pv 0 σ H) (hq : ∀ i σ H, Pv i σ H → SqL K H a xs)
    (hs : ∀ (i : Nat) (x : V) (T : Addr) (σ : L2.St) (H : Hp), xs[i]? = some x → Pv i σ H → H T = none →
      g (.ref T) σ (upd H T (.tup [.int (i : Nat), x])) fun σ2 H2 => tb { D with nx := Pv (i + 1), ct := Pv (i + 1), bk := D.nx } σ2 H2)
    (hd : ∀ σ H, Pv xs.length σ H → D.nx σ H) :
    ∃ W : Nat → Nat → L2.St → Hp → Prop, (∃ m, W 0 m σ H) ∧ ∀ i m σ H, W i m σ H →
      ((Ite K a).stop i H ∧ D.nx σ H) ∨ ((Ite K a).go i H ∧ ∃ N : L2.St → Hp → Prop, (∀ σ' H', N σ' H' → ∃ m', m' < m ∧ W (i + 1) m' σ' H') ∧
        ∀ v H', (Ite K a).yld i H v H' → g v σ H' fun σ2 H2 => tb { D with nx := N, ct := N, bk := D.nx } σ2 H2) := by
  refine ⟨fun i m σ H => m = xs.length - i ∧ i ≤ xs.length ∧ Pv i σ H, ⟨xs.length, rfl, Nat.zero_le _, h0⟩, ?_⟩
  rintro i m σ H ⟨rfl, hi, p⟩
  have q := hq i σ H p
  by_cases hlt : i < xs.length
  · have hx : xs[i]? = some xs[i] := List.getElem?_eq_getElem hlt
    refine .inr ⟨⟨xs, _, q, hx⟩, Pv (i + 1), ?_, ?_⟩
    · intro σ' H' p'
      exact ⟨xs.length - (i + 1), by omega, rfl, hlt, p'⟩
    · rintro v H' ⟨T, x, rfl, hT, rfl, f⟩
      exact hs i x T σ H (f xs q) p hT
  · have e : i = xs.length := by omega
    subst e
    exact .inl ⟨⟨xs, q, Nat.le_refl _⟩, hd σ H p⟩

/-- all that was tracked, but at the pen, is as it was -/
def Oth (H H' : Hp) (pen : Addr) : Prop := ∀ b o, b ≠ pen → H b = some o → H' b = some o
theorem Oth.refl (H : Hp) (pen : Addr) : Oth H H pen := fun _ _ _ h => h
theorem Oth.trans {H H1 H2 : Hp} {pen : Addr} (a : Oth H H1 pen) (b : Oth H1 H2 pen) : Oth H H2 pen := fun c o n h => b c o n (a c o n h)
theorem Oth.of_same {H H' : Hp} {pen : Addr} (s : Same H H') : Oth H H' pen := fun b o _ h => s b o h
theorem Oth.new {H : Hp} {pen p : Addr} {o : HO} (h : H p = none) : Oth H (upd H p o) pen := Oth.of_same (same_upd h)
theorem Oth.seq {K : PySem.W.Frag} {H H' : Hp} {pen b : Addr} {xs : List V} (s : Oth H H' pen) (n : b ≠ pen) (h : SqL K H b xs) : SqL K H' b xs := by
  rcases h with (h | ⟨o, h⟩) | h
  · exact .inl (.inl (s _ _ n h))
  · exact .inl (.inr ⟨o, s _ _ n h⟩)
  · exact .inr h
theorem Oth.upd {H H' : Hp} {pen : Addr} {o : HO} (s : Oth H H' pen) : Oth H (L2.upd H' pen o) pen := fun b u n h => by
  rw [upd_ne n]
  exact s b u n h
/-- a pen: its cells, how often it was refilled (at most n), what is left -/
def Pen (H : Hp) (pen : Addr) (n : Int) : Prop := ∃ (c : Addr) (cells : List Int) (a l : Int),
  H pen = some (.lst [.ref c, .int a, .int l]) ∧ H c = some (.lst (cells.map V.int)) ∧ cells.length ≤ 12 ∧ 0 ≤ a ∧ a ≤ n
theorem Pen.mono {H : Hp} {pen : Addr} {n m : Int} (h : Pen H pen n) (e : n ≤ m) : Pen H pen m := by
  obtain ⟨c, cells, a, l, h1, h2, h3, h4, h5⟩ := h
  exact ⟨c, cells, a, l, h1, h2, h3, h4, by omega⟩
theorem pen_ne {H : Hp} {pen c : Addr} {cells : List Int} {a l : Int} (h1 : H pen = some (.lst [.ref c, .int a, .int l]))
    (h2 : H c = some (.lst (cells.map V.int))) : c ≠ pen := by
  rintro rfl
  rw [h1] at h2
  cases cells with
  | nil => simp at h2
  | cons x r => simp at h2
theorem Pen.same {H H' : Hp} {pen : Addr} {n : Int} (h : Pen H pen n) (s : Same H H') : Pen H' pen n := by
  obtain ⟨c, cells, a, l, h1, h2, h3⟩ := h
  exact ⟨c, cells, a, l, s _ _ h1, s _ _ h2, h3⟩
/-- the pen's own numbers are changed -/
theorem pen_put {H H' : Hp} {pen c : Addr} {cells : List Int} {a l a' l' n : Int} (h1 : H pen = some (.lst [.ref c, .int a, .int l]))
    (h2 : H c = some (.lst (cells.map V.int))) (h3 : cells.length ≤ 12) (s : Oth H H' pen) (g1 : 0 ≤ a') (g2 : a' ≤ n) :
    Pen (L2.upd H' pen (.lst [.ref c, .int a', .int l'])) pen n := by
  have ne := pen_ne h1 h2
  exact ⟨c, cells, a', l', upd_same, by rw [upd_ne ne]; exact s _ _ ne h2, h3, g1, g2⟩
theorem cut_take (xs : List V) (n : Nat) : cutV xs none (some (n : Int)) = xs.take n := by
  unfold cutV
  rw [HT.sIx_none, HT.sIx_nat, List.drop_zero, Nat.sub_zero]
  by_cases h : n ≤ xs.length
  · rw [Nat.min_eq_left h]
  · rw [Nat.min_eq_right (by omega), List.take_of_length_le (Nat.le_refl _), List.take_of_length_le (by omega)]
theorem cut_mid (xs : List V) (n m : Nat) : cutV xs (some (n : Int)) (some (m : Int)) = (xs.drop n).take (m - n) := by
  unfold cutV
  rw [HT.sIx_nat, HT.sIx_nat]
  by_cases h : n ≤ xs.length
  · rw [Nat.min_eq_left h]
    by_cases h2 : m ≤ xs.length
    · rw [Nat.min_eq_left h2]
    · rw [Nat.min_eq_right (by omega), List.take_of_length_le (by rw [List.length_drop]; omega), List.take_of_length_le (by rw [List.length_drop]; omega)]
  · have e : xs.drop n = [] := List.drop_eq_nil_of_le (by omega)
    have e2 : xs.drop (min n xs.length) = [] := List.drop_eq_nil_of_le (by omega)
    rw [e, e2, List.take_nil, List.take_nil]
theorem atI_in {α : Type} {xs : List α} {i : Int} (h0 : 0 ≤ i) (h1 : i < xs.length) : ∃ x, x ∈ xs ∧ atI xs i = some x ∧ xs[i.toNat]? = some x := by
  have hj : i.toNat < xs.length := by omega
  refine ⟨xs[i.toNat], List.getElem_mem hj, ?_, List.getElem?_eq_getElem hj⟩
  have e : atI xs ((i.toNat : Nat) : Int) = some xs[i.toNat] := atI_nat (List.getElem?_eq_getElem hj)
  rw [Int.toNat_of_nonneg h0] at e
  exact e
theorem atI_int {ns : List Int} {i : Int} (h0 : 0 ≤ i) (h1 : i < ns.length) : ∃ z, atI (ns.map V.int) i = some (.int z) ∧ ns[i.toNat]? = some z := by
  obtain ⟨x, _, h2, h3⟩ := atI_in (xs := ns.map V.int) h0 (by rw [List.length_map]; exact h1)
  rw [List.getElem?_map] at h3
  cases e : ns[i.toNat]? with
  | none => rw [e] at h3; cases h3
  | some z =>
    rw [e] at h3
    obtain rfl : V.int z = x := Option.some.inj h3
    exact ⟨z, h2, rfl⟩
theorem ixN_in {n : Nat} {i : Int} (h0 : 0 ≤ i) (h1 : i < n) : ixN n i = some i.toNat := by
  unfold ixN
  rw [if_pos h0, if_pos h1]
/-- the primes that spread a cell -/
def spreads : List Int := [2147483629, 2147483587, 2147483579, 2147483563, 2147483549, 2147483543, 2147483497, 2147483489, 2147483477, 2147483423, 2147483399, 2147483353, 2147483323]
theorem spread_at (i : Int) : ∃ v : Int, atI (spreads.map V.int) (i % 13) = some (.int v) ∧ 0 < v ∧ v < 2147483647 := by
  have h : ∀ j : Nat, j < 13 → ∃ v : Int, (spreads.map V.int)[j]? = some (.int v) ∧ 0 < v ∧ v < 2147483647 := by
    intro j hj
    have hl : j < spreads.length := hj
    refine ⟨spreads[j], by rw [List.getElem?_map, List.getElem?_eq_getElem hl] <;> rfl, ?_⟩
    have all : ∀ x ∈ spreads, 0 < x ∧ x < 2147483647 := by decide
    exact all _ (List.getElem_mem hl)
  obtain ⟨v, h1, h2, h3⟩ := h (i % 13).toNat (by omega)
  refine ⟨v, ?_, h2, h3⟩
  have e : i % 13 = (((i % 13).toNat : Nat) : Int) := by omega
  rw [e]
  exact atI_nat h1
theorem mul_in {a b A B : Int} (h1 : 0 ≤ a) (h2 : a ≤ A) (h3 : 0 ≤ b) (h4 : b ≤ B) : 0 ≤ a * b ∧ a * b ≤ A * B :=
  ⟨Int.mul_nonneg h1 h3, Int.mul_le_mul h2 h4 h3 (by omega)⟩
end XA

set_option Elab.async false
set_option linter.all false
set_option maxRecDepth 100000
set_option maxHeartbeats 4000000
/-! XD: data. -/
namespace XA
open PySem PySem.Spec PyProof.Rows L2
theorem dpAll_ints {K : PySem.W.Frag} {H : Hp} : ∀ ns : List Int, DpAll K H (ns.map V.int) (ns.map PyData.int)
  | [] => .nil
  | n :: r => .cons (.int n) (dpAll_ints r)
theorem lay_ints : ∀ ns : List Int, PyData.canLayAll0 (ns.map PyData.int) = true
  | [] => rfl
  | n :: r => by
    rw [List.map_cons]
    simp only [PyData.canLayAll0, PyData.canLay0, lay_ints r, Bool.and_self]
theorem depth_ints : ∀ ns : List Int, PyData.depthAll (ns.map PyData.int) = 0
  | [] => rfl
  | n :: r => by
    rw [List.map_cons]
    simp only [PyData.depthAll, PyData.depth, depth_ints r, Nat.max_self]
theorem shaped_ints (ns : List Int) : SeqAt.shaped (.list (ns.map PyData.int)) = true := by
  unfold SeqAt.shaped
  simp only [PyData.canLay0, PyData.depth, lay_ints, depth_ints]
  decide
theorem eqv_nil (ns : List Int) : PyData.eqv (.list (ns.map PyData.int)) (.list []) = ns.isEmpty := by
  cases ns with
  | nil => rfl
  | cons n r => rfl
/-- what a refused call leaves in a name: an exception of the class called D -/
def isExc (K : PySem.W.Frag) (F : Hp) (v : V) (D : Str) : Prop := ∃ a, v = .ref a ∧ F a = some (ExH (.ref (He.ga K D)) none a)
theorem isz_exc {K : PySem.W.Frag} {F G : Hp} {v : V} {D C : Str} {Q : VK} {b : Bool} (e : ExcC K (He.ga K D)) (h : isExc K F v D) (s : Same F G)
    (k : PySem.W.kitOne K (.ref (He.ga K D)) (.ref (He.ga K C)) = some b) (q : Q (.bl b) G) : rIsZ K [v, .ref (He.ga K C)] G Q := by
  obtain ⟨a, rfl, ha⟩ := h
  exact ⟨.ref a, .ref (He.ga K C), _, _, b, rfl, .own _, .exc e (s _ _ ha), k, q⟩
theorem isz_excT {K : PySem.W.Frag} {F G : Hp} {v : V} {D : Str} {n : String} {Q : VK} {b : Bool} (e : ExcC K (He.ga K D)) (h : isExc K F v D) (s : Same F G)
    (k : PySem.W.kitOne K (.ref (He.ga K D)) (.type n) = some b) (q : Q (.bl b) G) : rIsZ K [v, .ty n] G Q := by
  obtain ⟨a, rfl, ha⟩ := h
  exact ⟨.ref a, .ty n, _, _, b, rfl, .ty _, .exc e (s _ _ ha), k, q⟩
theorem isz_non {K : PySem.W.Frag} {G : Hp} {C : Str} {Q : VK} (k : PySem.W.kitOne K (.type "NoneType") (.ref (He.ga K C)) = some false) (q : Q (.bl false) G) :
    rIsZ K [.non, .ref (He.ga K C)] G Q := ⟨.non, .ref (He.ga K C), _, _, false, rfl, .own _, .x (.base .non), k, q⟩
end XA
namespace XA
open PySem PySem.Spec PyProof.Rows L2
theorem Pl.oth {H H' : Hp} {x : V} {pen : Addr} {n : Int} (h : Pl H x) (o : Oth H H' pen) (P : Pen H' pen n) : Pl H' x := by
  obtain ⟨c, cells, a, l, h1, _⟩ := P
  cases h with
  | non => exact .non
  | bl b => exact .bl b
  | int i => exact .int i
  | str x => exact .str x
  | @lst b xs e =>
    by_cases hb : b = pen
    · subst hb
      exact .lst h1
    · exact .lst (o _ _ hb e)
  | @tup b xs e =>
    by_cases hb : b = pen
    · subst hb
      exact .lst h1
    · exact .tup (o _ _ hb e)
end XA

set_option Elab.async false
set_option linter.all false
set_option maxRecDepth 100000
set_option maxHeartbeats 8000000
local macro_rules | `(tactic| walk_at "rd") => `(tactic| dsimp only [L2.tRet, L2.tAndV, L2.tOrV, L2.tNotV, L2.tCB, L2.tCons, L2.tC, L2.tNil, L2.tOp, L2.tIf, L2.tIfS, L2.tSeq, L2.tAsg, L2.tTest, L2.tNot, L2.tAnd, L2.tOr, L2.tB, L2.tChain, L2.tDrop, L2.gName, L2.tCall, L2.tNext, L2.tRetN, L2.tTup, L2.tLst])
namespace K01
open PySem PySem.Spec PyProof.Rows L2 XA
def topS (i : Nat) : Stmt := PySem.Challenge.pw_rootrooms_k01_primes_and_contraries.main.body.getD i (.Pass ⟨0, 0, 0, 0⟩)
abbrev s_is_whole : Stmt := topS 7
abbrev N_is_whole : List Str := ["thing"]
abbrev P_is_whole : List Str := ["thing"]
theorem sc_is_whole : FnScope N_is_whole P_is_whole (defScope s_is_whole) := ⟨rfl, rfl, rfl, by decide +kernel, rfl, by decide +kernel, by decide +kernel⟩
abbrev s_is_prime : Stmt := topS 10
abbrev N_is_prime : List Str := ["thing", "number"]
abbrev P_is_prime : List Str := ["thing"]
theorem sc_is_prime : FnScope N_is_prime P_is_prime (defScope s_is_prime) := ⟨rfl, rfl, rfl, by decide +kernel, rfl, by decide +kernel, by decide +kernel⟩
abbrev s_need_prime : Stmt := topS 11
abbrev N_need_prime : List Str := ["prime"]
abbrev P_need_prime : List Str := ["prime"]
theorem sc_need_prime : FnScope N_need_prime P_need_prime (defScope s_need_prime) := ⟨rfl, rfl, rfl, by decide +kernel, rfl, by decide +kernel, by decide +kernel⟩
abbrev s_contrary : Stmt := topS 12
abbrev N_contrary : List Str := ["number", "prime", "other"]
abbrev P_contrary : List Str := ["number", "prime"]
theorem sc_contrary : FnScope N_contrary P_contrary (defScope s_contrary) := ⟨rfl, rfl, rfl, by decide +kernel, rfl, by decide +kernel, by decide +kernel⟩
abbrev s__law_spread : Stmt := topS 14
abbrev N__law_spread : List Str := ["cell", "at", "primes", "mixed", "one", "two", "three"]
abbrev P__law_spread : List Str := ["cell", "at"]
theorem sc__law_spread : FnScope N__law_spread P__law_spread (defScope s__law_spread) := ⟨rfl, rfl, rfl, by decide +kernel, rfl, by decide +kernel, by decide +kernel⟩
abbrev s__law_open : Stmt := topS 15
abbrev N__law_open : List Str := ["script", "cells", "k", "cell"]
abbrev P__law_open : List Str := ["script"]
theorem sc__law_open : FnScope N__law_open P__law_open (defScope s__law_open) := ⟨rfl, rfl, rfl, by decide +kernel, rfl, by decide +kernel, by decide +kernel⟩
abbrev s__law_anew : Stmt := topS 16
abbrev N__law_anew : List Str := ["pen"]
abbrev P__law_anew : List Str := ["pen"]
theorem sc__law_anew : FnScope N__law_anew P__law_anew (defScope s__law_anew) := ⟨rfl, rfl, rfl, by decide +kernel, rfl, by decide +kernel, by decide +kernel⟩
abbrev s__law_take : Stmt := topS 17
abbrev N__law_take : List Str := ["pen", "many", "at", "cell", "found"]
abbrev P__law_take : List Str := ["pen", "many"]
theorem sc__law_take : FnScope N__law_take P__law_take (defScope s__law_take) := ⟨rfl, rfl, rfl, by decide +kernel, rfl, by decide +kernel, by decide +kernel⟩
abbrev s__law_one : Stmt := topS 18
abbrev N__law_one : List Str := ["pen", "some"]
abbrev P__law_one : List Str := ["pen", "some"]
theorem sc__law_one : FnScope N__law_one P__law_one (defScope s__law_one) := ⟨rfl, rfl, rfl, by decide +kernel, rfl, by decide +kernel, by decide +kernel⟩
abbrev s__law_is_prime : Stmt := topS 19
abbrev N__law_is_prime : List Str := ["number", "k"]
abbrev P__law_is_prime : List Str := ["number"]
theorem sc__law_is_prime : FnScope N__law_is_prime P__law_is_prime (defScope s__law_is_prime) := ⟨rfl, rfl, rfl, by decide +kernel, rfl, by decide +kernel, by decide +kernel⟩
abbrev s__law_word : Stmt := topS 20
abbrev N__law_word : List Str := ["number", "p", "caught", "found", "e", "some"]
abbrev P__law_word : List Str := ["number", "p"]
theorem sc__law_word : FnScope N__law_word P__law_word (defScope s__law_word) := ⟨rfl, rfl, rfl, by decide +kernel, rfl, by decide +kernel, by decide +kernel⟩
abbrev s_law : Stmt := topS 21
abbrev N_law : List Str := ["script", "pen", "number", "odd", "thing", "primes", "turn", "p", "found", "bad", "k"]
abbrev P_law : List Str := ["script"]
theorem sc_law : FnScope N_law P_law (defScope s_law) := ⟨rfl, rfl, rfl, by decide +kernel, rfl, by decide +kernel, by decide +kernel⟩
def excNames : List Str := ["RoomError", "NoPrime", "NoNumber", "NoMatrix", "NoFit"]
structure Txt (K : PySem.W.Frag) (mg : Str → Option Value) : Prop where
  g_RoomError : mg "RoomError" = some (.ref (He.ga K "RoomError"))
  g_NoPrime : mg "NoPrime" = some (.ref (He.ga K "NoPrime"))
  g_NoNumber : mg "NoNumber" = some (.ref (He.ga K "NoNumber"))
  g_NoMatrix : mg "NoMatrix" = some (.ref (He.ga K "NoMatrix"))
  g_NoFit : mg "NoFit" = some (.ref (He.ga K "NoFit"))
  g_is_whole : mg "is_whole" = some (.ref (He.ga K "is_whole"))
  g_is_prime : mg "is_prime" = some (.ref (He.ga K "is_prime"))
  g_need_prime : mg "need_prime" = some (.ref (He.ga K "need_prime"))
  g_contrary : mg "contrary" = some (.ref (He.ga K "contrary"))
  g__law_spread : mg "_law_spread" = some (.ref (He.ga K "_law_spread"))
  g__law_open : mg "_law_open" = some (.ref (He.ga K "_law_open"))
  g__law_anew : mg "_law_anew" = some (.ref (He.ga K "_law_anew"))
  g__law_take : mg "_law_take" = some (.ref (He.ga K "_law_take"))
  g__law_one : mg "_law_one" = some (.ref (He.ga K "_law_one"))
  g__law_is_prime : mg "_law_is_prime" = some (.ref (He.ga K "_law_is_prime"))
  g__law_word : mg "_law_word" = some (.ref (He.ga K "_law_word"))
  g_law : mg "law" = some (.ref (He.ga K "law"))
  f_all : mg "all" = none
  f_bool : mg "bool" = none
  f_enumerate : mg "enumerate" = none
  f_int : mg "int" = none
  f_isinstance : mg "isinstance" = none
  f_len : mg "len" = none
  f_list : mg "list" = none
  f_range : mg "range" = none
  f_repr : mg "repr" = none
  c_GREATEST_PRIME : ∃ t, mg "GREATEST_PRIME" = some (.int 97 t)
  x_RoomError : PySem.W.excIn K (He.ga K "RoomError") He.veBase "ValueError.__new__" = true
  k_RoomError : PySem.W.keepIn K (.ref (He.ga K "RoomError")) = true
  b_RoomError : PySem.W.subIn K (.ref (He.ga K "RoomError")) (.type "BaseException") = some true
  t_RoomError : PySem.W.typeIn K (.ref (He.ga K "RoomError")) = some (.type "type")
  e_RoomError : ExcC K (He.ga K "RoomError")
  x_NoPrime : PySem.W.excIn K (He.ga K "NoPrime") He.veBase "ValueError.__new__" = true
  k_NoPrime : PySem.W.keepIn K (.ref (He.ga K "NoPrime")) = true
  b_NoPrime : PySem.W.subIn K (.ref (He.ga K "NoPrime")) (.type "BaseException") = some true
  t_NoPrime : PySem.W.typeIn K (.ref (He.ga K "NoPrime")) = some (.type "type")
  e_NoPrime : ExcC K (He.ga K "NoPrime")
  x_NoNumber : PySem.W.excIn K (He.ga K "NoNumber") He.veBase "ValueError.__new__" = true
  k_NoNumber : PySem.W.keepIn K (.ref (He.ga K "NoNumber")) = true
  b_NoNumber : PySem.W.subIn K (.ref (He.ga K "NoNumber")) (.type "BaseException") = some true
  t_NoNumber : PySem.W.typeIn K (.ref (He.ga K "NoNumber")) = some (.type "type")
  e_NoNumber : ExcC K (He.ga K "NoNumber")
  x_NoMatrix : PySem.W.excIn K (He.ga K "NoMatrix") He.veBase "ValueError.__new__" = true
  k_NoMatrix : PySem.W.keepIn K (.ref (He.ga K "NoMatrix")) = true
  b_NoMatrix : PySem.W.subIn K (.ref (He.ga K "NoMatrix")) (.type "BaseException") = some true
  t_NoMatrix : PySem.W.typeIn K (.ref (He.ga K "NoMatrix")) = some (.type "type")
  e_NoMatrix : ExcC K (He.ga K "NoMatrix")
  x_NoFit : PySem.W.excIn K (He.ga K "NoFit") He.veBase "ValueError.__new__" = true
  k_NoFit : PySem.W.keepIn K (.ref (He.ga K "NoFit")) = true
  b_NoFit : PySem.W.subIn K (.ref (He.ga K "NoFit")) (.type "BaseException") = some true
  t_NoFit : PySem.W.typeIn K (.ref (He.ga K "NoFit")) = some (.type "type")
  e_NoFit : ExcC K (He.ga K "NoFit")
  exm : ∀ x ∈ excNames, PySem.W.exmOne K (.ref (He.ga K x)) (.ref (He.ga K "RoomError")) = some true
  kit : ∀ x ∈ excNames, ∀ y ∈ excNames, PySem.W.kitOne K (.ref (He.ga K x)) (.ref (He.ga K y)) = some (decide (x = y) || decide (y = "RoomError"))
  kitN : ∀ y ∈ excNames, PySem.W.kitOne K (.type "NoneType") (.ref (He.ga K y)) = some false
end K01

set_option Elab.async false
set_option linter.all false
set_option maxRecDepth 100000
set_option maxHeartbeats 8000000
namespace K01
open PySem PySem.Spec PyProof.Rows L2 XA

/-! ### the mathematics of the program -/
def primeN (n : Int) : Bool := decide (2 ≤ n ∧ n ≤ 97) && ((List.range (n - 2).toNat).map fun (i : Nat) => n % (2 + (i : Int))).all (fun r => r != 0)
def primeV : V → Bool
  | .int n => primeN n
  | _ => false
def inR : V → Int → Bool
  | .int n, p => decide (1 ≤ n ∧ n < p)
  | _, _ => false
theorem inv_all : ((List.range 98).all fun p => !primeN (p : Int) || (List.range p).all fun n => n == 0 || (List.range p).any fun r => decide (0 < r) && decide (((n : Int) * (r : Int)) % (p : Int) = 1)) = true := by
  decide +kernel
theorem inv_ex (p : Int) (hp : primeN p = true) (n : Int) (h1 : 1 ≤ n) (h2 : n < p) : ∃ r : Int, 0 < r ∧ r < p ∧ n * r % p = 1 := by
  have hr : 2 ≤ p ∧ p ≤ 97 := of_decide_eq_true (Bool.and_eq_true_iff.mp hp).1
  have hp' : primeN ((p.toNat : Nat) : Int) = true := by
    rw [Int.toNat_of_nonneg (by omega)]
    exact hp
  have a := List.all_eq_true.mp inv_all p.toNat (List.mem_range.mpr (by omega))
  rw [hp'] at a
  have b := List.all_eq_true.mp (by simpa using a : ((List.range p.toNat).all fun n => n == 0 || (List.range p.toNat).any fun r => decide (0 < r) && decide (((n : Int) * (r : Int)) % ((p.toNat : Nat) : Int) = 1)) = true) n.toNat (List.mem_range.mpr (by omega))
  have nz : (n.toNat == 0) = false := by
    rw [beq_eq_false_iff_ne]
    omega
  rw [nz, Bool.false_or] at b
  obtain ⟨r, hr1, hr2⟩ := List.any_eq_true.mp b
  obtain ⟨hr3, hr4⟩ := Bool.and_eq_true_iff.mp hr2
  have e1 := of_decide_eq_true hr3
  have e2 := of_decide_eq_true hr4
  rw [Int.toNat_of_nonneg (by omega : 0 ≤ n), Int.toNat_of_nonneg (by omega : 0 ≤ p)] at e2
  have e3 := List.mem_range.mp hr1
  exact ⟨r, by omega, by omega, e2⟩
/-! ### the promises -/
def sp_is_whole : Sp := fun vs H Q _ => ∃ x, vs = [x] ∧ Pl H x ∧ Q (.bl (xInt x)) H
def sp_is_prime : Sp := fun vs H Q _ => ∃ x, vs = [x] ∧ Pl H x ∧ ∀ H', Same H H' → Q (.bl (primeV x)) H'
def sp_need_prime (K : PySem.W.Frag) : Sp := fun vs H Q E => ∃ x, vs = [x] ∧ Pl H x ∧ ∀ H', Same H H' →
  if primeV x = true then Q .non H' else E (.ref (He.ga K "NoPrime")) none H'
def sp_contrary (K : PySem.W.Frag) : Sp := fun vs H Q E => ∃ x y, vs = [x, y] ∧ Pl H x ∧ Pl H y ∧ ∀ H', Same H H' →
  (primeV y = false → E (.ref (He.ga K "NoPrime")) none H') ∧
  (∀ p, y = .int p → primeN p = true → (inR x p = false → E (.ref (He.ga K "NoNumber")) none H') ∧
    ∀ n r, x = .int n → 1 ≤ n → n < p → 0 < r → r < p → n * r % p = 1 → Q (.int r) H')
section
variable {P : Program} {w : World} {K : PySem.W.Frag} {mg : Str → Option Value} {base : Heap}
theorem ok_is_whole (T : Txt K mg) {fd : FuncData} (F : FnP K "is_whole" s_is_whole fd) :
    Has P w K mg base CX0 1 "is_whole" P_is_whole sp_is_whole := by
  have G : FnOk P w K mg base CX0 1 (He.ga K "is_whole") fd P_is_whole sp_is_whole := by
    refine F.ok (k := 0) sc_is_whole (fun vs H Q E h => ?_) (fun cdv A outer s H vs Q E hr h => ?_)
    · obtain ⟨x, rfl, hx, q⟩ := h
      rfl
    · obtain ⟨x, rfl, hx, q⟩ := h
      refine ⟨_, (PSs.nox (pss_one (ps_ret (pe_and (pe_callB call_isZ (by rfl) T.f_isinstance (by decide +kernel) (pa_cons (pv 0) (pa_cons (pe_bltn (v := .ty "int") (by rfl) T.f_int (by decide +kernel) rfl) pa_nil))) (pe_one (pe_not (pe_callB call_isZ (by rfl) T.f_isinstance (by decide +kernel) (pa_cons (pv 0) (pa_cons (pe_bltn (v := .ty "bool") (by rfl) T.f_bool (by decide +kernel) rfl) pa_nil))))))))), ?_⟩
      refine ⟨x, rfl, ?_⟩
      walk_at "rd"
      refine isz_int hx ⟨_, rfl, ?_⟩
      refine ite2 (fun c => ?_) (fun c => ?_)
      · refine ⟨x, rfl, ?_⟩
        walk_at "rd"
        refine isz_bl hx ⟨_, rfl, ?_⟩
        have e : (!xBl x) = xInt x := by
          cases x <;> first | rfl | (simp [xInt, xBl] at c)
        show Q (.bl (!xBl x)) H
        rw [e]
        exact q
      · have e : xInt x = false := by
          cases x <;> first | rfl | (simp [xInt, xBl] at c)
        rw [e] at q
        exact q
  exact has_of F G T.g_is_whole (fun _ _ _ _ _ _ us hl => match us, hl with | [_], _ => rfl)
theorem ok_is_prime (T : Txt K mg) {fd : FuncData} (F : FnP K "is_prime" s_is_prime fd)
    (H_is_whole : Has P w K mg base CX0 1 "is_whole" P_is_whole sp_is_whole) :
    Has P w K mg base CX0 2 "is_prime" P_is_prime sp_is_prime := by
  have G : FnOk P w K mg base CX0 2 (He.ga K "is_prime") fd P_is_prime sp_is_prime := by
    refine F.ok (k := 1) sc_is_prime (fun vs H Q E h => ?_) (fun cdv A outer s H vs Q E hr h => ?_)
    · obtain ⟨x, rfl, hx, q⟩ := h
      rfl
    · obtain ⟨x, rfl, hx, q⟩ := h
      refine ⟨_, (PSs.nox (pss_cons (ps_if (PW.pt (pw_or (pt_not (pt_val (pe_has H_is_whole (hr.mono (by decide)) pass0 (pa_cons (pv 0) pa_nil)))) (pw_or1 (pt_not (pt_chain op_le op_le pe_int (pv 0) (pe_glob (v := .int 97) (by rfl) (T.c_GREATEST_PRIME).choose_spec ⟨_, rfl⟩))))))
   (pss_one (ps_ret pe_bl)) pss_nil)
  (pss_one (ps_ret (pe_callB (cr_allI rfl) (by rfl) T.f_all (by decide +kernel) (pa_cons (pe_lc (own := [("number", 1)]) rfl sc_is_prime.nd (pi_range2 (by rfl) T.f_range (pa_cons pe_int (pa_cons (pv 0) pa_nil))) (blkOk_by (N := N_is_prime) (sc := defScope s_is_prime) (by decide +kernel)) (fun _ _ _ _ _ => pg_name (i := 1) (sc_is_prime.nd) rfl (Or.inl rfl)) (fun _ _ _ _ _ => pts_nil) (fun _ _ _ _ _ => (pe_op op_modP (pv 0) (pv 1)))) pa_nil)))))), ?_⟩
      have hP : ∀ b : Bool, primeV x = b → ∀ H', Same H H' → Q (.bl b) H' := by
        intro b e H' s
        rw [← e]
        exact q H' s
      refine ⟨_, rfl, x, rfl, hx, xInt x, rfl, ?_⟩
      cases hi : xInt x with
      | false =>
        refine iteT ?_
        refine iteT ?_
        refine hP false ?_ H (Same.refl H)
        cases x <;> first | rfl | (simp [xInt] at hi)
      | true =>
        obtain ⟨n, rfl⟩ : ∃ n, x = .int n := by
          cases x <;> first | exact ⟨_, rfl⟩ | (simp [xInt] at hi)
        refine iteF ?_
        refine ⟨_, rfl, 2, n, rfl, rfl, _, rfl, ?_⟩
        refine ite2 (fun c1 => ?_) (fun c1 => ?_)
        · refine ⟨n, 97, rfl, rfl, _, rfl, ?_⟩
          have c1' : 2 ≤ n := of_decide_eq_true c1
          by_cases c2 : n ≤ 97
          · rw [decide_eq_true c2]
            refine iteF ?_
            refine ⟨_, rfl, 2, n, rfl, ⟨by decide, by decide, by omega, by omega⟩, ?_⟩
            intro D hD
            have key : ∀ i : Nat, (upd H D (.lst (((List.range i).map fun (i : Nat) => n % (2 + (i : Int))).map V.int))) D
                = some (.lst (((List.range i).map fun (i : Nat) => n % (2 + (i : Int))).map V.int)) := fun i => upd_same
            refine lc_range (lo := 2) (n := (n - 2).toNat) (fun i G => G = upd H D (.lst (((List.range i).map fun (i : Nat) => n % (2 + (i : Int))).map V.int))) rfl ?_ ?_
            · rintro i G hi rfl
              refine ⟨rfl, ?_⟩
              refine ⟨_, rfl, _, rfl, n, 2 + (i : Int), rfl, rfl, by omega, _, key i, ?_, ?_⟩
              · rw [List.length_map, List.length_map, List.length_range]
                exact small1000 (by omega)
              · rw [upd_upd, List.range_succ, List.map_append, List.map_append]
                rfl
            · rintro G rfl
              refine ⟨D, (List.range (n - 2).toNat).map (fun (i : Nat) => n % (2 + (i : Int))), rfl, .inl (.inl upd_same), ?_⟩
              refine hP _ ?_ _ (same_upd hD)
              show (decide (2 ≤ n ∧ n ≤ 97) && _) = _
              rw [decide_eq_true (⟨c1', c2⟩ : 2 ≤ n ∧ n ≤ 97), Bool.true_and]
          · rw [decide_eq_false c2]
            refine iteT ?_
            refine hP false ?_ H (Same.refl H)
            show (decide (2 ≤ n ∧ n ≤ 97) && _) = false
            rw [decide_eq_false (fun z => c2 z.2), Bool.false_and]
        · refine ⟨false, rfl, ?_⟩
          refine iteT ?_
          refine hP false ?_ H (Same.refl H)
          have c1' : ¬ 2 ≤ n := fun z => c1 (decide_eq_true z)
          show (decide (2 ≤ n ∧ n ≤ 97) && _) = false
          rw [decide_eq_false (fun z => c1' z.1), Bool.false_and]
  exact has_of F G T.g_is_prime (fun _ _ _ _ _ _ us hl => match us, hl with | [_], _ => rfl)
theorem ok_need_prime (T : Txt K mg) {fd : FuncData} (F : FnP K "need_prime" s_need_prime fd)
    (H_is_prime : Has P w K mg base CX0 2 "is_prime" P_is_prime sp_is_prime) :
    Has P w K mg base (L2.CX P w) 3 "need_prime" P_need_prime (sp_need_prime K) := by
  have G : FnOk P w K mg base (L2.CX P w) 3 (He.ga K "need_prime") fd P_need_prime (sp_need_prime K) := by
    refine F.ok (k := 2) sc_need_prime (fun vs H Q E h => ?_) (fun cdv A outer s H vs Q E hr h => ?_)
    · obtain ⟨x, rfl, hx, q⟩ := h
      rfl
    · obtain ⟨x, rfl, hx, q⟩ := h
      refine ⟨_, (pss_one (ps_if (pt_not (pt_val (pe_has H_is_prime (hr.mono (by decide)) pass0 (pa_cons (pv 0) pa_nil))))
   (pss_one (ps_raise rfl (takes_of rfl rfl rfl rfl) (pmk_own PySem.F.excBase_ValueError T.x_NoPrime T.g_NoPrime T.k_NoPrime (raises_own T.b_NoPrime T.t_NoPrime) rfl))) pss_nil)), ?_⟩
      refine ⟨x, rfl, x, rfl, hx, fun H' s => ⟨_, rfl, ?_⟩⟩
      have q' := q H' s
      by_cases c : primeV x = true
      · rw [if_pos c] at q'
        rw [c]
        exact iteF q'
      · rw [if_neg c] at q'
        rw [Bool.not_eq_true _ |>.mp c]
        exact iteT q'
  exact has_of F G T.g_need_prime (fun _ _ _ _ _ _ us hl => match us, hl with | [_], _ => rfl)
theorem ok_contrary (T : Txt K mg) {fd : FuncData} (F : FnP K "contrary" s_contrary fd)
    (H_is_whole : Has P w K mg base CX0 1 "is_whole" P_is_whole sp_is_whole)
    (H_need_prime : Has P w K mg base (L2.CX P w) 3 "need_prime" P_need_prime (sp_need_prime K)) :
    HasK P w K mg base (L2.CX P w) 4 "contrary" P_contrary 1 ["prime"] (sp_contrary K) := by
  have G : FnOk P w K mg base (L2.CX P w) 4 (He.ga K "contrary") fd P_contrary (sp_contrary K) := by
    refine F.ok (k := 3) sc_contrary (fun vs H Q E h => ?_) (fun cdv A outer s H vs Q E hr h => ?_)
    · obtain ⟨x, y, rfl, hx, hy, q⟩ := h
      rfl
    · obtain ⟨x, y, rfl, hx, hy, q⟩ := h
      refine ⟨_, (pss_cons (ps_expr (pe_has H_need_prime (hr.mono (by decide)) (passes_call (takes_of rfl rfl rfl rfl) (fun _ _ _ _ h => h)) (pa_cons (pv 1) pa_nil)))
  (pss_cons (ps_if (PW.pt (pw_or (pt_not (pt_val (pe_has H_is_whole (hr.mono (by decide)) pass0 (pa_cons (pv 0) pa_nil)))) (pw_or1 (pt_not (pt_chain op_le op_lt pe_int (pv 0) (pv 1))))))
   (pss_one (ps_raise rfl (takes_of rfl rfl rfl rfl) (pmk_own PySem.F.excBase_ValueError T.x_NoNumber T.g_NoNumber T.k_NoNumber (raises_own T.b_NoNumber T.t_NoNumber) rfl))) pss_nil)
  (pss_cons (ps_set (i := 2) sc_contrary.nd rfl (by first | exact Or.inl rfl | exact Or.inr rfl) pe_int)
  (pss_cons (ps_while (passes_of rfl) (pt_cmpR op_ne (pe_op op_modP (pe_op op_mul (pv 0) (pv 2)) (pv 1)) pe_int (nomark _)) (pss_one (ps_aug (i := 2) sc_contrary.nd rfl (by first | exact Or.inl rfl | exact Or.inr rfl) pe_int ip_add)))
  (pss_one (ps_ret (pv 2))))))), ?_⟩
      refine ⟨y, rfl, y, rfl, hy, fun H1 s1 => ?_⟩
      obtain ⟨q1, q2⟩ := q H1 s1
      refine ite2 (fun c => ?_) (fun c => ?_)
      · obtain ⟨p, rfl⟩ : ∃ p, y = .int p := by
          cases y <;> first | exact ⟨_, rfl⟩ | (simp [primeV] at c)
        have hp : primeN p = true := c
        obtain ⟨q3, q4⟩ := q2 p rfl hp
        have raise : inR x p = false → E (.ref (He.ga K "NoNumber")) none H1 := q3
        refine ⟨x, rfl, x, rfl, hx.mono s1, _, rfl, ?_⟩
        cases hi : xInt x with
        | false =>
          refine iteT ?_
          refine iteT ?_
          refine raise ?_
          cases x <;> first | rfl | (simp [xInt] at hi)
        | true =>
          obtain ⟨n, rfl⟩ : ∃ n, x = .int n := by
            cases x <;> first | exact ⟨_, rfl⟩ | (simp [xInt] at hi)
          refine iteF ?_
          refine ⟨_, rfl, 1, n, rfl, rfl, _, rfl, ?_⟩
          refine ite2 (fun c1 => ?_) (fun c1 => ?_)
          · have c1' : 1 ≤ n := of_decide_eq_true c1
            refine ⟨_, rfl, n, p, rfl, rfl, _, rfl, ?_⟩
            refine ite2 (fun c2 => ?_) (fun c2 => ?_)
            · have c2' : ¬ n < p := by simpa using c2
              exact raise (decide_eq_false fun z => c2' z.2)
            · have c2' : n < p := by simpa using c2
              have hp97 : p ≤ 97 := (of_decide_eq_true (Bool.and_eq_true_iff.mp hp).1 : 2 ≤ p ∧ p ≤ 97).2
              obtain ⟨r0, h1, h2, h3⟩ := inv_ex p hp n c1' c2'
              refine while_by (fun σ G => ∃ o : Int, σ = [some (.int n), some (.int p), some (.int o)] ∧ G = H1 ∧ 1 ≤ o ∧ o ≤ r0)
                (fun σ G => match σ with | [_, _, some (.int o)] => (r0 - o).toNat | _ => 0) ⟨1, rfl, rfl, by omega, by omega⟩ ?_ ?_
              · rintro σ G ⟨o, rfl, rfl, h4, h5⟩
                refine ⟨_, rfl, _, rfl, n, o, rfl, rfl, ?_⟩
                refine ⟨.inl ⟨by omega, by omega⟩, ?_⟩
                refine ⟨_, rfl, _, p, rfl, rfl, by omega, ?_⟩
                refine ⟨rfl, _, rfl, ?_⟩
                by_cases c3 : n * o % p = 1
                · refine iteNS (by rw [c3]) ?_
                  exact ⟨_, rfl, q4 n o rfl c1' c2' (by omega) (by omega) c3⟩
                · have c4 : V.int (n * o % p) ≠ V.int 1 := fun z => c3 (by injection z)
                  rw [decide_eq_false c4]
                  refine iteT ?_
                  have c5 : o ≠ r0 := by
                    rintro rfl
                    exact c3 h3
                  refine ⟨_, rfl, o, 1, rfl, rfl, ?_⟩
                  refine ⟨⟨o + 1, rfl, rfl, by omega, by omega⟩, ?_⟩
                  show (r0 - (o + 1)).toNat < (r0 - o).toNat
                  omega
              · rintro σ G Q1 Q2 hq ⟨v, e1, u, e2, i, j, f1, f2, cc, v3, e3, i2, j2, f3, f4, c2, sc, k, ek, z⟩
                exact ⟨v, e1, u, e2, i, j, f1, f2, cc, v3, e3, i2, j2, f3, f4, c2, sc, k, ek, hq _ _ z⟩
          · refine ⟨false, rfl, ?_⟩
            refine iteT ?_
            have c1' : ¬ 1 ≤ n := fun z => c1 (decide_eq_true z)
            exact raise (decide_eq_false fun z => c1' z.1)
      · exact q1 (Bool.not_eq_true _ |>.mp c)
  exact hasK_of (n := 1) F G T.g_contrary (fun _ _ _ _ _ _ us ws hl hm => match us, ws, hl, hm with | [_], [_], _, _ => rfl)
end
end K01

set_option Elab.async false
set_option linter.all false
set_option maxRecDepth 100000
set_option maxHeartbeats 8000000
namespace K01
open PySem PySem.Spec PyProof.Rows L2 XA

/-! ### the pen's promises -/
def sp__law_spread : Sp := fun vs H Q _ => ∃ cell a : Int, vs = [.int cell, .int a] ∧ 0 ≤ a ∧ a ≤ 2000 ∧ ∀ (H' : Hp) (r : Int), Same H H' → Q (.int r) H'
def sp__law_open (K : PySem.W.Frag) : Sp := fun vs H Q _ => ∃ (a : Addr) (ns : List Int), vs = [.ref a] ∧ SqL K H a (ns.map V.int) ∧ ns.length ≤ 63 ∧
  ∀ (H' : Hp) (pen : Addr), H pen = none → Same H H' → Pen H' pen 0 → Q (.ref pen) H'
def sp__law_anew : Sp := fun vs H Q _ => ∃ (pen : Addr) (n : Int), vs = [.ref pen] ∧ Pen H pen n ∧ ∀ H', Oth H H' pen → Pen H' pen n → Q (.ref pen) H'
def sp__law_take : Sp := fun vs H Q _ => ∃ (pen : Addr) (m n : Int), vs = [.ref pen, .int m] ∧ Pen H pen n ∧ n ≤ 1000 ∧ 0 < m ∧ m < 1073741824 ∧
  ∀ (r : Int) (H' : Hp), 0 ≤ r → r < m → Oth H H' pen → Pen H' pen (n + 1) → Q (.int r) H'
def sp__law_one (K : PySem.W.Frag) : Sp := fun vs H Q _ => ∃ (pen b : Addr) (xs : List V) (n : Int), vs = [.ref pen, .ref b] ∧ Pen H pen n ∧ n ≤ 1000 ∧ b ≠ pen ∧ SqL K H b xs ∧ 0 < xs.length ∧
  xs.length ≤ 1000000 ∧ ∀ x ∈ xs, ∀ H', Oth H H' pen → Pen H' pen (n + 1) → Q x H'
section
variable {P : Program} {w : World} {K : PySem.W.Frag} {mg : Str → Option Value} {base : Heap}
theorem ok__law_spread (T : Txt K mg) {fd : FuncData} (F : FnP K "_law_spread" s__law_spread fd) :
    Has P w K mg base CX0 1 "_law_spread" P__law_spread sp__law_spread := by
  have G : FnOk P w K mg base CX0 1 (He.ga K "_law_spread") fd P__law_spread sp__law_spread := by
    refine F.ok (k := 0) sc__law_spread (fun vs H Q E h => ?_) (fun cdv A outer s H vs Q E hr h => ?_)
    · obtain ⟨cell, a, rfl, ha0, ha1, q⟩ := h
      rfl
    · obtain ⟨cell, a, rfl, ha0, ha1, q⟩ := h
      refine ⟨_, (PSs.nox (pss_cons (ps_if (pt_cmpR op_ge (pv 0) (pe_op op_pow pe_int pe_int) (nomark _))
   (pss_one (ps_ret (pv 0))) pss_nil)
  (pss_cons (ps_set (i := 2) sc__law_spread.nd rfl (by first | exact Or.inl rfl | exact Or.inr rfl) (pe_lst (pa_cons pe_int (pa_cons pe_int (pa_cons pe_int (pa_cons pe_int (pa_cons pe_int (pa_cons pe_int (pa_cons pe_int pa_nil)))))))))
  (pss_cons (ps_set (i := 2) sc__law_spread.nd rfl (by first | exact Or.inl rfl | exact Or.inr rfl) (pe_op op_cat (pv 2) (pe_lst (pa_cons pe_int (pa_cons pe_int (pa_cons pe_int (pa_cons pe_int (pa_cons pe_int (pa_cons pe_int pa_nil)))))))))
  (pss_cons (ps_set (i := 3) sc__law_spread.nd rfl (by first | exact Or.inl rfl | exact Or.inr rfl) (pe_op op_add (pe_op op_add (pe_op op_mul (pe_op op_modP (pv 0) pe_int) (pe_op op_add (pe_op op_mul pe_int (pv 1)) pe_int)) (pe_op op_mul (pv 1) pe_int)) pe_int))
  (pss_cons (ps_set (i := 4) sc__law_spread.nd rfl (by first | exact Or.inl rfl | exact Or.inr rfl) (pe_op op_modP (pe_op op_pow (pv 3) pe_int) (pe_ix ix_list (pv 2) (pe_op op_modP (pv 1) pe_int) (fun _ _ => rfl))))
  (pss_cons (ps_set (i := 5) sc__law_spread.nd rfl (by first | exact Or.inl rfl | exact Or.inr rfl) (pe_op op_modP (pe_op op_pow (pe_op op_add (pe_op op_add (pe_op op_mul (pv 4) (pe_op op_add (pv 1) pe_int)) (pe_op op_modP (pv 0) pe_int)) pe_int) pe_int) (pe_ix ix_list (pv 2) (pe_op op_modP (pe_op op_add (pv 1) pe_int) pe_int) (fun _ _ => rfl))))
  (pss_cons (ps_set (i := 6) sc__law_spread.nd rfl (by first | exact Or.inl rfl | exact Or.inr rfl) (pe_op op_modP (pe_op op_pow (pe_op op_add (pe_op op_add (pv 5) (pe_op op_modP (pv 4) pe_int)) (pv 1)) pe_int) (pe_ix ix_list (pv 2) (pe_op op_modP (pe_op op_add (pv 1) pe_int) pe_int) (fun _ _ => rfl))))
  (pss_one (ps_ret (pe_op op_add (pe_op op_mul (pe_op op_add (pe_op op_mul (pv 4) pe_int) (pv 5)) pe_int) (pv 6)))))))))))), ?_⟩
      refine ⟨_, rfl, _, _, rfl, rfl, ⟨by decide, by decide, by decide⟩, ?_⟩
      refine ⟨_, _, rfl, rfl, _, rfl, ?_⟩
      refine ite2 (fun _ => ?_) (fun _ => ?_)
      · exact ⟨_, rfl, q H cell (Same.refl H)⟩
      refine ⟨by show 7 ≤ sizeLine; decide, fun p1 n1 => ?_⟩
      refine ⟨_, rfl, by show 6 ≤ sizeLine; decide, fun p2 n2 => ?_⟩
      have ne12 : p1 ≠ p2 := ne_of_none upd_same n2
      refine ⟨p1, p2, _, _, rfl, rfl, by rw [upd_ne ne12]; exact upd_same, upd_same, by show 7 + 6 ≤ sizeLine; decide, fun p3 n3 => ?_⟩
      generalize hG : upd (upd (upd H p1 _) p2 _) p3 _ = G
      have sG : Same H G := by
        rw [← hG]
        exact (same_upd n1).trans ((same_upd n2).trans (same_upd n3))
      have hp3 : SqL K G p3 (spreads.map V.int) := by
        rw [← hG]
        exact .inl (.inl upd_same)
      -- mixed
      refine ⟨_, rfl, cell, 1000000007, rfl, rfl, by decide, ?_⟩
      refine ⟨_, rfl, 2, a, rfl, rfl, .inl ⟨by decide, by decide⟩, 2 * a, 69069, rfl, rfl, ?_⟩
      refine ⟨cell % 1000000007, 2 * a + 69069, rfl, rfl, .inl ⟨by omega, by omega⟩, ?_⟩
      refine ⟨_, rfl, a, 40503, rfl, rfl, .inl ⟨by omega, by omega⟩, ?_⟩
      refine ⟨_, _, rfl, rfl, _, _, rfl, rfl, ?_⟩
      have hm : 0 ≤ cell % 1000000007 * (2 * a + 69069) + a * 40503 + 977 ∧ cell % 1000000007 * (2 * a + 69069) + a * 40503 + 977 ≤ 200000000000000 := by
        have z := mul_in (a := cell % 1000000007) (b := 2 * a + 69069) (A := 1000000007) (B := 73069) (by omega) (by omega) (by omega) (by omega)
        omega
      try dsimp only
      generalize cell % 1000000007 * (2 * a + 69069) + a * 40503 + 977 = mixed at hm ⊢
      -- one
      refine ⟨_, rfl, mixed, 3, rfl, rfl, ⟨by decide, by decide, by omega⟩, ?_⟩
      obtain ⟨v1, hv1, hp1, hl1⟩ := spread_at a
      refine ⟨_, rfl, _, rfl, a, 13, rfl, rfl, by decide, p3, _, _, _, rfl, rfl, hp3, hv1, ?_⟩
      refine ⟨_, v1, rfl, rfl, hp1, ?_⟩
      have ho : 0 ≤ mixed ^ (3 : Int).toNat % v1 ∧ mixed ^ (3 : Int).toNat % v1 < 2147483647 := ⟨Int.emod_nonneg _ (by omega), Int.lt_trans (Int.emod_lt_of_pos _ hp1) hl1⟩
      try dsimp only
      generalize mixed ^ (3 : Int).toNat % v1 = one at ho ⊢
      -- two
      refine ⟨_, rfl, _, rfl, a, 3, rfl, rfl, ?_⟩
      refine ⟨one, a + 3, rfl, rfl, .inl ⟨by omega, by omega⟩, ?_⟩
      refine ⟨_, rfl, cell, 65537, rfl, rfl, by decide, ?_⟩
      refine ⟨_, _, rfl, rfl, _, _, rfl, rfl, ?_⟩
      have h2 : 0 ≤ one * (a + 3) + cell % 65537 + 5 ∧ one * (a + 3) + cell % 65537 + 5 < 10000000000000 := by
        have z := mul_in (a := one) (b := a + 3) (A := 2147483647) (B := 2003) (by omega) (by omega) (by omega) (by omega)
        omega
      try dsimp only
      generalize one * (a + 3) + cell % 65537 + 5 = t2 at h2 ⊢
      refine ⟨t2, 5, rfl, rfl, ⟨by decide, by decide, by omega⟩, ?_⟩
      obtain ⟨v2, hv2, hp2, hl2⟩ := spread_at (a + 5)
      refine ⟨_, rfl, _, rfl, a, 5, rfl, rfl, a + 5, 13, rfl, rfl, by decide, p3, _, _, _, rfl, rfl, hp3, hv2, ?_⟩
      refine ⟨_, v2, rfl, rfl, hp2, ?_⟩
      have hw : 0 ≤ t2 ^ (5 : Int).toNat % v2 ∧ t2 ^ (5 : Int).toNat % v2 < 2147483647 := ⟨Int.emod_nonneg _ (by omega), Int.lt_trans (Int.emod_lt_of_pos _ hp2) hl2⟩
      try dsimp only
      generalize t2 ^ (5 : Int).toNat % v2 = two at hw ⊢
      -- three
      refine ⟨_, rfl, _, rfl, one, 1009, rfl, rfl, by decide, two, one % 1009, rfl, rfl, ?_⟩
      refine ⟨_, rfl, _, a, rfl, rfl, _, 3, rfl, rfl, ⟨by decide, by decide, by omega⟩, ?_⟩
      obtain ⟨v3, hv3, hp3', hl3⟩ := spread_at (a + 7)
      refine ⟨_, rfl, _, rfl, a, 7, rfl, rfl, a + 7, 13, rfl, rfl, by decide, p3, _, _, _, rfl, rfl, hp3, hv3, ?_⟩
      refine ⟨_, v3, rfl, rfl, hp3', ?_⟩
      try dsimp only
      generalize (two + one % 1009 + a) ^ (3 : Int).toNat % v3 = three
      -- the end
      refine ⟨_, rfl, one, 2147483647, rfl, rfl, .inl ⟨by omega, by omega⟩, ?_⟩
      refine ⟨_, rfl, _, two, rfl, rfl, _, 2147483647, rfl, rfl, .inr ⟨by decide, by decide⟩, ?_⟩
      refine ⟨_, rfl, _, three, rfl, rfl, ?_⟩
      exact q _ _ sG
  exact has_of F G T.g__law_spread (fun _ _ _ _ _ _ us hl => match us, hl with | [_, _], _ => rfl)
theorem ok__law_open (T : Txt K mg) {fd : FuncData} (F : FnP K "_law_open" s__law_open fd) :
    Has P w K mg base CX0 1 "_law_open" P__law_open (sp__law_open K) := by
  have G : FnOk P w K mg base CX0 1 (He.ga K "_law_open") fd P__law_open (sp__law_open K) := by
    refine F.ok (k := 0) sc__law_open (fun vs H Q E h => ?_) (fun cdv A outer s H vs Q E hr h => ?_)
    · obtain ⟨a, ns, rfl, hS, hlen, q⟩ := h
      rfl
    · obtain ⟨a, ns, rfl, hS, hlen, q⟩ := h
      refine ⟨_, (PSs.nox (pss_cons (ps_set (i := 1) sc__law_open.nd rfl (by first | exact Or.inl rfl | exact Or.inr rfl) (pe_callTy call_list_of (by rfl) T.f_list (by decide +kernel) (pa_cons (pe_slice sl_list (pv 0) po_none (po_some pe_int)) pa_nil)))
  (pss_cons (ps_for PassesOwn.never rfl (pi_enum (by rfl) T.f_enumerate (pa_cons (pe_slice sl_list (pv 0) (po_some pe_int) (po_some pe_int)) pa_nil)) (pg_tup rfl (pgs_cons (pg_name (i := 2) sc__law_open.nd rfl (by first | exact Or.inl rfl | exact Or.inr rfl)) (pgs_cons (pg_name (i := 3) sc__law_open.nd rfl (by first | exact Or.inl rfl | exact Or.inr rfl)) pgs_nil)))
   (pss_one (ps_asg (pe_op op_add (pe_ix ix_list (pv 1) (pe_op op_modP (pv 2) pe_int) (fun _ _ => rfl)) (pv 3)) (pg_sub (pv 1) (pe_op op_modP (pv 2) pe_int) set_list))))
  (pss_one (ps_ret (pe_lst (pa_cons (pv 1) (pa_cons pe_int (pa_cons pe_int pa_nil))))))))), ?_⟩
      refine ⟨_, rfl, 12, rfl, a, ns.map V.int, rfl, hS, fun p1 n1 => ?_⟩
      have s1 := same_upd (o := .lst (cutV (ns.map V.int) none (some 12))) n1
      refine ⟨p1, _, rfl, .inl (.inl (.inl upd_same)), fun p2 n2 => ?_⟩
      have s2 := same_upd (o := .lst (cutV (ns.map V.int) none (some 12))) n2
      generalize hG : upd (upd H p1 _) p2 _ = G
      have sG : Same H G := by
        rw [← hG]
        exact s1.trans s2
      have hc : G p2 = some (.lst ((ns.take 12).map V.int)) := by
        rw [← hG, upd_same, show (12 : Int) = ((12 : Nat) : Int) from rfl, cut_take, List.map_take]
      have n2' : H p2 = none := Same.free s1 n2
      -- the rest of the script
      refine ⟨_, rfl, 12, rfl, 63, rfl, a, ns.map V.int, rfl, sG.seq hS, fun p3 n3 => ?_⟩
      have s3 := same_upd (o := .lst (cutV (ns.map V.int) (some 12) (some 63))) n3
      have h3 : (upd G p3 (.lst (cutV (ns.map V.int) (some 12) (some 63)))) p3 = some (.lst (((ns.drop 12).take 51).map V.int)) := by
        rw [upd_same, show (12 : Int) = ((12 : Nat) : Int) from rfl, show (63 : Int) = ((63 : Nat) : Int) from rfl, cut_mid, List.map_take, List.map_drop]
      have hc3 : (upd G p3 (.lst (cutV (ns.map V.int) (some 12) (some 63)))) p2 = some (.lst ((ns.take 12).map V.int)) := s3 _ _ hc
      have ne32 : p3 ≠ p2 := fun z => by rw [z, hc] at n3; cases n3
      refine ⟨p3, _, rfl, .inl (.inl h3), ?_⟩
      refine for_enumL (xs := ((ns.drop 12).take 51).map V.int)
        (fun i σ F => ∃ (k x : Option V) (cs : List Int), σ = [some (.ref a), some (.ref p2), k, x] ∧ Same H F ∧ F p3 = some (.lst (((ns.drop 12).take 51).map V.int)) ∧
          F p2 = some (.lst (cs.map V.int)) ∧ cs.length = (ns.take 12).length)
        ⟨none, none, ns.take 12, rfl, sG.trans s3, h3, hc3, rfl⟩ (fun i σ F ⟨_, _, _, _, _, h, _⟩ => .inl (.inl h)) ?_ ?_
      · rintro i x T σ F hx ⟨k, x', cs, rfl, sF, hF3, hF2, hl⟩ nT
        obtain ⟨z, hz, rfl⟩ : ∃ z, ((ns.drop 12).take 51)[i]? = some z ∧ V.int z = x := by
          rw [List.getElem?_map] at hx
          cases e : ((ns.drop 12).take 51)[i]? with
          | none => rw [e] at hx; cases hx
          | some z =>
            rw [e] at hx
            exact ⟨z, rfl, Option.some.inj hx⟩
        have hlen : (ns.take 12).length = 12 := by
          have h1 := (List.getElem?_eq_some_iff.mp hz).1
          rw [List.length_take, List.length_drop] at h1
          rw [List.length_take]
          omega
        have nT2 : p2 ≠ T := ne_of_none hF2 nT
        have nT3 : p3 ≠ T := ne_of_none hF3 nT
        have sT := same_upd (o := .tup [.int (i : Nat), .int z]) nT
        -- k, cell = the pair
        refine ⟨T, _, rfl, .inl (.inl upd_same), rfl, _, _, rfl, _, _, rfl, rfl, ?_⟩
        have hF2' : (upd F T (.tup [.int (i : Nat), .int z])) p2 = some (.lst (cs.map V.int)) := sT _ _ hF2
        obtain ⟨y, hk, _⟩ := atI_int (ns := cs) (i := (i : Int) % 12) (by omega) (by omega)
        refine ⟨_, rfl, _, rfl, i, 12, rfl, rfl, by decide, p2, _, _, _, rfl, rfl, .inl (.inl hF2'), hk, ?_⟩
        refine ⟨_, rfl, _, z, rfl, rfl, ?_⟩
        refine ⟨_, rfl, _, rfl, i, 12, rfl, rfl, by decide, ?_⟩
        have hix : ixN (cs.map V.int).length ((i : Int) % 12) = some ((i : Int) % 12).toNat := ixN_in (by omega) (by rw [List.length_map]; omega)
        refine ⟨p2, cs.map V.int, (i : Int) % 12, _, rfl, rfl, hF2', hix, ?_⟩
        refine ⟨_, _, cs.set ((i : Int) % 12).toNat (y + z), rfl, ?_, ?_, ?_, ?_⟩
        · intro b o e
          have nb : b ≠ p2 := ne_of_none e n2'
          rw [upd_ne nb]
          exact sT _ _ (sF _ _ e)
        · rw [upd_ne ne32]
          exact sT _ _ hF3
        · rw [upd_same, List.map_set]
        · rw [List.length_set]
          exact hl
      · rintro σ F ⟨k, x', cs, rfl, sF, hF3, hF2, hl⟩
        refine ⟨_, rfl, by show 3 ≤ sizeLine; decide, fun pen np => ?_⟩
        have sp := same_upd (o := .lst [.ref p2, .int 0, .int 0]) np
        refine q _ _ (Same.free sF np) (sF.trans sp) ⟨p2, cs, 0, 0, upd_same, sp _ _ hF2, ?_, by decide, by decide⟩
        rw [hl, List.length_take]
        omega
  exact has_of F G T.g__law_open (fun _ _ _ _ _ _ us hl => match us, hl with | [_], _ => rfl)
theorem ok__law_anew (T : Txt K mg) {fd : FuncData} (F : FnP K "_law_anew" s__law_anew fd) :
    Has P w K mg base CX0 1 "_law_anew" P__law_anew sp__law_anew := by
  have G : FnOk P w K mg base CX0 1 (He.ga K "_law_anew") fd P__law_anew sp__law_anew := by
    refine F.ok (k := 0) sc__law_anew (fun vs H Q E h => ?_) (fun cdv A outer s H vs Q E hr h => ?_)
    · obtain ⟨pen, n, rfl, hp, q⟩ := h
      rfl
    · obtain ⟨pen, n, rfl, hp, q⟩ := h
      refine ⟨_, (PSs.nox (pss_cons (ps_asg pe_int (pg_sub (pv 0) pe_int set_list))
  (pss_one (ps_ret (pv 0))))), ?_⟩
      obtain ⟨c, cells, at0, l, h1, h2, h3, h4, h5⟩ := hp
      refine ⟨_, rfl, ?_⟩
      refine ⟨pen, _, 2, 2, rfl, rfl, h1, rfl, ?_⟩
      refine ⟨_, rfl, q _ (Oth.refl H pen).upd (pen_put h1 h2 h3 (Oth.refl H pen) h4 h5)⟩
  exact has_of F G T.g__law_anew (fun _ _ _ _ _ _ us hl => match us, hl with | [_], _ => rfl)
theorem ok__law_take (T : Txt K mg) {fd : FuncData} (F : FnP K "_law_take" s__law_take fd)
    (H__law_spread : Has P w K mg base CX0 1 "_law_spread" P__law_spread sp__law_spread) :
    Has P w K mg base CX0 2 "_law_take" P__law_take sp__law_take := by
  have G : FnOk P w K mg base CX0 2 (He.ga K "_law_take") fd P__law_take sp__law_take := by
    refine F.ok (k := 1) sc__law_take (fun vs H Q E h => ?_) (fun cdv A outer s H vs Q E hr h => ?_)
    · obtain ⟨pen, m, n, rfl, hp, hn, hm0, hm1, q⟩ := h
      rfl
    · obtain ⟨pen, m, n, rfl, hp, hn, hm0, hm1, q⟩ := h
      refine ⟨_, (PSs.nox (C8.pss_cut (ps_if (pt_cmpR op_lt (pe_ix ix_list (pv 0) pe_int (fun _ _ => rfl)) (pv 1) (nomark _))
   (pss_cons (ps_set (i := 2) sc__law_take.nd rfl (by first | exact Or.inl rfl | exact Or.inr rfl) (pe_ix ix_list (pv 0) pe_int (fun _ _ => rfl)))
  (pss_cons (ps_set (i := 3) sc__law_take.nd rfl (by first | exact Or.inl rfl | exact Or.inr rfl) pe_int)
  (C8.pss_cut (ps_if (pt_cmpR op_lt (pv 2) (pe_callB call_len (by rfl) T.f_len (by decide +kernel) (pa_cons (pe_ix ix_list (pv 0) pe_int (fun _ _ => rfl)) pa_nil)) (nomark _))
   (pss_one (ps_set (i := 3) sc__law_take.nd rfl (by first | exact Or.inl rfl | exact Or.inr rfl) (pe_ix ix_list (pe_ix ix_list (pv 0) pe_int (fun _ _ => rfl)) (pv 2) (fun _ _ => rfl)))) (pss_one (ps_if (pt_cmpR op_gt (pe_callB call_len (by rfl) T.f_len (by decide +kernel) (pa_cons (pe_ix ix_list (pv 0) pe_int (fun _ _ => rfl)) pa_nil)) pe_int (nomark _))
   (pss_one (ps_set (i := 3) sc__law_take.nd rfl (by first | exact Or.inl rfl | exact Or.inr rfl) (pe_op op_modP (pe_ix ix_list (pe_ix ix_list (pv 0) pe_int (fun _ _ => rfl)) (pe_op op_modP (pe_op op_add (pe_op op_mul (pv 2) pe_int) pe_int) (pe_callB call_len (by rfl) T.f_len (by decide +kernel) (pa_cons (pe_ix ix_list (pv 0) pe_int (fun _ _ => rfl)) pa_nil))) (fun _ _ => rfl)) (pe_op op_add (pe_op op_pow pe_int pe_int) (pv 2))))) pss_nil)))
  (pss_cons (ps_asg (pe_op op_add (pv 2) pe_int) (pg_sub (pv 0) pe_int set_list))
  (pss_one (ps_asg (pe_has H__law_spread (hr.mono (by decide)) pass0 (pa_cons (pv 3) (pa_cons (pv 2) pa_nil))) (pg_sub (pv 0) pe_int set_list))))))) pss_nil)
  (pss_cons (ps_set (i := 4) sc__law_take.nd rfl (by first | exact Or.inl rfl | exact Or.inr rfl) (pe_op op_modP (pe_ix ix_list (pv 0) pe_int (fun _ _ => rfl)) (pv 1)))
  (pss_cons (ps_asg (pe_op op_divP (pe_ix ix_list (pv 0) pe_int (fun _ _ => rfl)) (pv 1)) (pg_sub (pv 0) pe_int set_list))
  (pss_one (ps_ret (pv 4))))))), ?_⟩
      obtain ⟨c, cells, a, l, h1, h2, h3, h4, h5⟩ := hp
      refine ⟨fun σ F => ∃ (x y : Option V) (a' l' : Int), σ = [some (.ref pen), some (.int m), x, y, none] ∧ Oth H F pen ∧ F pen = some (.lst [.ref c, .int a', .int l']) ∧ 0 ≤ a' ∧ a' ≤ n + 1, ?_, ?_⟩
      · refine ⟨_, rfl, pen, _, 2, .int l, rfl, rfl, .inl (.inl h1), rfl, _, rfl, l, m, rfl, rfl, _, rfl, ?_⟩
        refine ite2 (fun _ => ?_) (fun _ => ?_)
        · refine ⟨_, rfl, pen, _, 1, .int a, rfl, rfl, .inl (.inl h1), rfl, ?_⟩
          refine ⟨fun σ F => ∃ x : Int, σ = [some (.ref pen), some (.int m), some (.int a), some (.int x), none] ∧ F = H, ?_, ?_⟩
          · refine ⟨_, rfl, _, rfl, pen, _, 0, .ref c, rfl, rfl, .inl (.inl h1), rfl, .ref c, cells.length, rfl, .inl ⟨_, .inl (.inl h2), by rw [List.length_map]⟩, ?_⟩
            refine ⟨a, _, rfl, rfl, _, rfl, ?_⟩
            refine ite2 (fun c1 => ?_) (fun c1 => ?_)
            · have c1' : a < cells.length := of_decide_eq_true c1
              obtain ⟨y, hk, _⟩ := atI_int h4 c1'
              refine ⟨_, rfl, pen, _, 0, .ref c, rfl, rfl, .inl (.inl h1), rfl, _, rfl, c, _, a, _, rfl, rfl, .inl (.inl h2), hk, ?_⟩
              exact ⟨_, rfl, rfl⟩
            · refine ⟨_, rfl, pen, _, 0, .ref c, rfl, rfl, .inl (.inl h1), rfl, .ref c, cells.length, rfl, .inl ⟨_, .inl (.inl h2), by rw [List.length_map]⟩, ?_⟩
              refine ⟨(cells.length : Nat), 0, rfl, rfl, _, rfl, ?_⟩
              refine ite2 (fun c2 => ?_) (fun c2 => ?_)
              · have c2' : (0 : Int) < cells.length := of_decide_eq_true c2
                refine ⟨_, rfl, pen, _, 0, .ref c, rfl, rfl, .inl (.inl h1), rfl, ?_⟩
                refine ⟨_, rfl, a, 5, rfl, rfl, .inr ⟨by decide, by decide⟩, a * 5, 3, rfl, rfl, ?_⟩
                refine ⟨_, rfl, pen, _, 0, .ref c, rfl, rfl, .inl (.inl h1), rfl, .ref c, cells.length, rfl, .inl ⟨_, .inl (.inl h2), by rw [List.length_map]⟩, ?_⟩
                refine ⟨a * 5 + 3, (cells.length : Nat), rfl, rfl, c2', ?_⟩
                have b1 := Int.emod_nonneg (a * 5 + 3) (show (cells.length : Int) ≠ 0 by omega)
                have b2 := Int.emod_lt_of_pos (a * 5 + 3) c2'
                try dsimp only
                generalize hi : (a * 5 + 3) % (cells.length : Int) = i at b1 b2 ⊢
                obtain ⟨y, hk, _⟩ := atI_int b1 b2
                refine ⟨c, _, i, _, rfl, rfl, .inl (.inl h2), hk, ?_⟩
                refine ⟨10, 17, rfl, rfl, ⟨by decide, by decide, by decide⟩, _, rfl, _, a, rfl, rfl, ?_⟩
                refine ⟨_, _, rfl, rfl, ?_, ⟨_, rfl, rfl⟩⟩
                have e17 : (10 : Int) ^ (17 : Int).toNat = 100000000000000000 := by decide
                rw [e17]
                omega
              · exact ⟨0, rfl, rfl⟩
          · rintro σ F ⟨x, rfl, rfl⟩
            refine ⟨_, rfl, a, 1, rfl, rfl, _, rfl, pen, _, 1, 1, rfl, rfl, h1, rfl, ?_⟩
            refine ⟨_, rfl, _, rfl, x, a, rfl, h4, by omega, fun G r sG => ?_⟩
            have nc := pen_ne h1 h2
            have hpG : G pen = some (.lst [.ref c, .int (a + 1), .int l]) := sG _ _ upd_same
            refine ⟨_, rfl, pen, _, 2, 2, rfl, rfl, hpG, rfl, ?_⟩
            refine ⟨_, _, a + 1, r, rfl, ?_, upd_same, by omega, by omega⟩
            intro b o nb e
            rw [upd_ne nb]
            exact sG _ _ (by rw [upd_ne nb]; exact e)
        · exact ⟨_, _, a, l, rfl, Oth.refl H pen, h1, h4, by omega⟩
      · rintro σ F ⟨x, y, a', l', rfl, oF, hF, g1, g2⟩
        refine ⟨_, rfl, pen, _, 2, .int l', rfl, rfl, .inl (.inl hF), rfl, _, rfl, l', m, rfl, rfl, hm0, ?_⟩
        refine ⟨_, rfl, pen, _, 2, .int l', rfl, rfl, .inl (.inl hF), rfl, _, rfl, l', m, rfl, rfl, ⟨hm0, hm1⟩, ?_⟩
        refine ⟨_, rfl, pen, _, 2, 2, rfl, rfl, hF, rfl, ?_⟩
        refine ⟨_, rfl, q _ _ (Int.emod_nonneg _ (by omega)) (Int.emod_lt_of_pos _ hm0) oF.upd ?_⟩
        exact pen_put h1 h2 h3 oF g1 g2
  exact has_of F G T.g__law_take (fun _ _ _ _ _ _ us hl => match us, hl with | [_, _], _ => rfl)
theorem ok__law_one (T : Txt K mg) {fd : FuncData} (F : FnP K "_law_one" s__law_one fd)
    (H__law_take : Has P w K mg base CX0 2 "_law_take" P__law_take sp__law_take) :
    Has P w K mg base CX0 3 "_law_one" P__law_one (sp__law_one K) := by
  have G : FnOk P w K mg base CX0 3 (He.ga K "_law_one") fd P__law_one (sp__law_one K) := by
    refine F.ok (k := 2) sc__law_one (fun vs H Q E h => ?_) (fun cdv A outer s H vs Q E hr h => ?_)
    · obtain ⟨pen, b, xs, n, rfl, hp, hn, nb, hS, hl0, hl1, q⟩ := h
      rfl
    · obtain ⟨pen, b, xs, n, rfl, hp, hn, nb, hS, hl0, hl1, q⟩ := h
      refine ⟨_, (PSs.nox (pss_one (ps_ret (pe_ix ix_list (pv 1) (pe_has H__law_take (hr.mono (by decide)) pass0 (pa_cons (pv 0) (pa_cons (pe_callB call_len (by rfl) T.f_len (by decide +kernel) (pa_cons (pv 1) pa_nil)) pa_nil))) (fun _ _ => rfl))))), ?_⟩
      refine ⟨_, rfl, _, rfl, _, rfl, .ref b, xs.length, rfl, .inl ⟨_, hS, rfl⟩, ?_⟩
      refine ⟨pen, (xs.length : Nat), n, rfl, hp, hn, by omega, by omega, fun r H' r0 r1 oH hP => ?_⟩
      obtain ⟨x, hx, hk, _⟩ := atI_in r0 r1
      exact ⟨b, xs, r, x, rfl, rfl, oH.seq nb hS, hk, q x hx H' oH hP⟩
  exact has_of F G T.g__law_one (fun _ _ _ _ _ _ us hl => match us, hl with | [_, _], _ => rfl)
end
end K01

set_option Elab.async false
set_option linter.all false
set_option maxRecDepth 100000
set_option maxHeartbeats 8000000
namespace K01
open PySem PySem.Spec PyProof.Rows L2 XA

def divs (n : Int) (m : Nat) : List Int := ((List.range m).map fun (i : Nat) => 2 + (i : Int)).filter fun k => n % k == 0
theorem divs_succ (n : Int) (m : Nat) : divs n (m + 1) = divs n m ++ (if (n % (2 + (m : Int)) == 0) = true then [2 + (m : Int)] else []) := by
  unfold divs
  rw [List.range_succ, List.map_append, List.filter_append]
  congr 1
  simp only [List.map_cons, List.map_nil, List.filter_cons, List.filter_nil]
theorem divs_len (n : Int) : ∀ m, (divs n m).length ≤ m
  | 0 => Nat.le_refl _
  | m + 1 => by
    have h := divs_len n m
    rw [divs_succ, List.length_append]
    split <;> simp <;> omega
theorem divs_prime (n : Int) : (decide (1 < n) && (decide (n < 98) && (divs n (n - 2).toNat).isEmpty)) = primeN n := by
  have e : (divs n (n - 2).toNat).isEmpty = ((List.range (n - 2).toNat).map fun (i : Nat) => n % (2 + (i : Int))).all (fun r => r != 0) := by
    unfold divs
    rw [List.all_map, Bool.eq_iff_iff, List.isEmpty_iff, List.filter_eq_nil_iff, List.all_eq_true]
    constructor
    · intro h i hi
      have := h _ (List.mem_map.mpr ⟨i, hi, rfl⟩)
      simpa using this
    · intro h k hk
      obtain ⟨i, hi, rfl⟩ := List.mem_map.mp hk
      have := h i hi
      simpa using this
  rw [e]
  unfold primeN
  by_cases h : 2 ≤ n ∧ n ≤ 97
  · rw [decide_eq_true h, decide_eq_true (show 1 < n by omega), decide_eq_true (show n < 98 by omega)]
    rfl
  · rw [decide_eq_false h]
    by_cases h1 : 1 < n
    · rw [decide_eq_false (show ¬ n < 98 by omega), Bool.false_and, Bool.and_false]
    · rw [decide_eq_false h1]
      rfl
def sp__law_is_prime : Sp := fun vs H Q _ => ∃ n : Int, vs = [.int n] ∧ n < 1000 ∧ ∀ H', Same H H' → Q (.bl (primeN n)) H'
def sp__law_word (K : PySem.W.Frag) : Sp := fun vs H Q _ => ∃ x y, vs = [x, y] ∧ Pl H x ∧ Pl H y ∧ ∀ H', Same H H' →
  (primeV y = false → Q (.str "prime") H') ∧ (∀ p, y = .int p → primeN p = true → (inR x p = false → Q (.str "number") H') ∧
    ∀ n r, x = .int n → 1 ≤ n → n < p → 0 < r → r < p → n * r % p = 1 → Q (.int r) H')
section
variable {P : Program} {w : World} {K : PySem.W.Frag} {mg : Str → Option Value} {base : Heap}
theorem ok__law_is_prime (T : Txt K mg) {fd : FuncData} (F : FnP K "_law_is_prime" s__law_is_prime fd) :
    Has P w K mg base CX0 1 "_law_is_prime" P__law_is_prime sp__law_is_prime := by
  have G : FnOk P w K mg base CX0 1 (He.ga K "_law_is_prime") fd P__law_is_prime sp__law_is_prime := by
    refine F.ok (k := 0) sc__law_is_prime (fun vs H Q E h => ?_) (fun cdv A outer s H vs Q E hr h => ?_)
    · obtain ⟨n, rfl, hn, q⟩ := h
      rfl
    · obtain ⟨n, rfl, hn, q⟩ := h
      refine ⟨_, (PSs.nox (pss_one (ps_ret (pe_and (pe_cmpR op_gt (pv 0) pe_int (nomark _)) (pe_and (pe_cmpR op_lt (pv 0) pe_int (nomark _)) (pe_one (pe_cmpR (op_eqD hr.units) (pe_lc (own := [("k", 1)]) rfl sc__law_is_prime.nd (pi_range2 (by rfl) T.f_range (pa_cons pe_int (pa_cons (pv 0) pa_nil))) (blkOk_by (N := N__law_is_prime) (sc := defScope s__law_is_prime) (by decide +kernel)) (fun _ _ _ _ _ => pg_name (i := 1) (sc__law_is_prime.nd) rfl (Or.inl rfl)) (fun _ _ _ _ _ => (pts_one (pt_cmpR op_eq (pe_op op_modP (pv 0) (pv 1)) pe_int (nomark _)))) (fun _ _ _ _ _ => (pv 1))) (pe_lst pa_nil) (nomark _)))))))), ?_⟩
      have hP : ∀ b : Bool, (decide (1 < n) && (decide (n < 98) && (divs n (n - 2).toNat).isEmpty)) = b → ∀ H', Same H H' → Q (.bl b) H' := by
        intro b e H' s
        rw [← e, divs_prime]
        exact q H' s
      refine ⟨_, rfl, n, 1, rfl, rfl, _, rfl, ?_⟩
      refine ite2 (fun c1 => ?_) (fun c1 => ?_)
      · have c1' : 1 < n := of_decide_eq_true c1
        refine ⟨_, rfl, n, 98, rfl, rfl, _, rfl, ?_⟩
        refine ite2 (fun c2 => ?_) (fun c2 => ?_)
        · have c2' : n < 98 := of_decide_eq_true c2
          refine ⟨_, rfl, 2, n, rfl, ⟨by decide, by decide, by omega, by omega⟩, ?_⟩
          intro D hD
          have key : ∀ l : List V, (upd H D (.lst l)) D = some (.lst l) := fun l => upd_same
          refine lc_range (lo := 2) (n := (n - 2).toNat) (fun i G => G = upd H D (.lst ((divs n i).map V.int))) rfl ?_ ?_
          · rintro i G hi rfl
            refine ⟨rfl, ?_⟩
            refine ⟨_, rfl, _, rfl, n, 2 + (i : Int), rfl, rfl, by omega, rfl, _, rfl, ?_⟩
            by_cases c3 : n % (2 + (i : Int)) = 0
            · rw [decide_eq_true (show V.int (n % (2 + (i : Int))) = V.int 0 by rw [c3])]
              refine (if_pos rfl).mpr ?_
              refine ⟨_, rfl, _, key _, ?_, ?_⟩
              · rw [List.length_map]
                have := divs_len n i
                exact small1000 (by omega)
              · rw [upd_upd, divs_succ, if_pos (by rw [c3]; rfl), List.map_append]
                rfl
            · rw [decide_eq_false (show ¬ V.int (n % (2 + (i : Int))) = V.int 0 from fun z => c3 (by injection z))]
              refine (if_neg Bool.false_ne_true).mpr ?_
              have c4 : ¬ (n % (2 + (i : Int)) == 0) = true := fun z => c3 (by simpa using z)
              rw [divs_succ, if_neg c4, List.append_nil]
          · rintro G rfl
            refine ⟨Nat.zero_le _, fun p np => ?_⟩
            have nDp : D ≠ p := ne_of_none (key _) np
            refine ⟨.list ((divs n (n - 2).toNat).map PyData.int), .list [], .lst (.inl (.inl (by rw [upd_ne nDp]; exact key _))) (dpAll_ints _),
              .lst (.inl (.inl upd_same)) .nil, shaped_ints _, shaped_ints [], ?_⟩
            rw [eqv_nil]
            refine hP _ ?_ _ ((same_upd hD).trans (same_upd np))
            rw [decide_eq_true c1', decide_eq_true c2', Bool.true_and, Bool.true_and]
        · refine hP false ?_ H (Same.refl H)
          have c2' : ¬ n < 98 := fun z => c2 (decide_eq_true z)
          rw [decide_eq_false c2', Bool.false_and, Bool.and_false]
      · refine hP false ?_ H (Same.refl H)
        have c1' : ¬ 1 < n := fun z => c1 (decide_eq_true z)
        rw [decide_eq_false c1', Bool.false_and]
  exact has_of F G T.g__law_is_prime (fun _ _ _ _ _ _ us hl => match us, hl with | [_], _ => rfl)
theorem ok__law_word (T : Txt K mg) {fd : FuncData} (F : FnP K "_law_word" s__law_word fd)
    (H_contrary : HasK P w K mg base (L2.CX P w) 4 "contrary" P_contrary 1 ["prime"] (sp_contrary K)) :
    Has P w K mg base CX0 5 "_law_word" P__law_word (sp__law_word K) := by
  have G : FnOk P w K mg base CX0 5 (He.ga K "_law_word") fd P__law_word (sp__law_word K) := by
    refine F.ok (k := 4) sc__law_word (fun vs H Q E h => ?_) (fun cdv A outer s H vs Q E hr h => ?_)
    · obtain ⟨x, y, rfl, hx, hy, q⟩ := h
      rfl
    · obtain ⟨x, y, rfl, hx, hy, q⟩ := h
      refine ⟨_, (PSs.nox (pss_cons (ps_asg (pe_tup (pa_cons pe_non (pa_cons pe_non pa_nil))) (pg_tup rfl (pgs_cons (pg_name (i := 2) sc__law_word.nd rfl (by first | exact Or.inl rfl | exact Or.inr rfl)) (pgs_cons (pg_name (i := 3) sc__law_word.nd rfl (by first | exact Or.inl rfl | exact Or.inr rfl)) pgs_nil))))
  (C8.pss_cut (ps_try_asK (i := 4) (c := .ref (He.ga K "RoomError")) rfl rfl rfl sc__law_word.nd rfl rfl ⟨rfl, by decide, Or.inl T.g_RoomError⟩ takes0
  (fun W pn xe tk _ => (pss_one (ps_set (i := 3) sc__law_word.nd rfl (by first | exact Or.inl rfl | exact Or.inr rfl) (pe_hasKS H_contrary (hr.mono (by decide)) (fun σ => passAt tk σ) (pa_cons (pv 0) pa_nil) (pk_cons (pv 1) pk_nil)))))
  (fun a oe cls d pn hz hf => (pss_one (ps_set (i := 2) sc__law_word.nd rfl (by first | exact Or.inl rfl | exact Or.inr rfl) (pv 4)))))
  (pss_cons (ps_set (i := 5) sc__law_word.nd rfl (by first | exact Or.inl rfl | exact Or.inr rfl) (pe_lst (pa_cons (pe_callB call_isZ (by rfl) T.f_isinstance (by decide +kernel) (pa_cons (pv 2) (pa_cons (pe_glob (v := .ref (He.ga K "NoPrime")) (by rfl) T.g_NoPrime rfl) pa_nil))) (pa_cons (pe_callB call_isZ (by rfl) T.f_isinstance (by decide +kernel) (pa_cons (pv 2) (pa_cons (pe_glob (v := .ref (He.ga K "NoNumber")) (by rfl) T.g_NoNumber rfl) pa_nil))) (pa_cons (pe_callB call_isZ (by rfl) T.f_isinstance (by decide +kernel) (pa_cons (pv 2) (pa_cons (pe_glob (v := .ref (He.ga K "NoMatrix")) (by rfl) T.g_NoMatrix rfl) pa_nil))) pa_nil)))))
  (pss_cons (ps_expr (pe_bm PySem.F.plainAttrs_list PySem.F.slot_list_append PySem.F.type_list_append mt_append (pv 5) (pa_cons (pe_callB call_isZ (by rfl) T.f_isinstance (by decide +kernel) (pa_cons (pv 2) (pa_cons (pe_glob (v := .ref (He.ga K "NoFit")) (by rfl) T.g_NoFit rfl) pa_nil))) pa_nil)))
  (pss_cons (ps_if (pt_cmpR op_isN (pv 2) pe_non (nomark _))
   (pss_one (ps_ret (pv 3))) pss_nil)
  (pss_one (ps_ret (pe_ifExp (pt_cmpR op_eq (pe_bm PySem.F.plainAttrs_list PySem.F.slot_list_count PySem.F.type_list_count mt_countB (pv 5) (pa_cons pe_bl pa_nil)) pe_int (nomark _)) (pe_ix ix_list (pe_lst (pa_cons pe_str (pa_cons pe_str (pa_cons pe_str (pa_cons pe_str pa_nil))))) (pe_bm PySem.F.plainAttrs_list PySem.F.slot_list_index PySem.F.type_list_index mt_index (pv 5) (pa_cons pe_bl pa_nil)) (fun _ _ => rfl)) pe_str))))))))), ?_⟩
      refine ⟨by show 2 ≤ sizeLine; decide, fun t0 nt0 => ?_⟩
      refine ⟨t0, _, rfl, .inl (.inl upd_same), rfl, _, _, rfl, _, _, rfl, rfl, ?_⟩
      have sH := same_upd (o := .tup [.non, .non]) nt0
      refine ⟨fun σ F => ∃ cv fv, σ = [some x, some y, some cv, some fv, none, none] ∧ Same H F ∧
        ((cv = .non ∧ ∃ p n r, x = .int n ∧ y = .int p ∧ primeN p = true ∧ fv = .int r ∧ 1 ≤ n ∧ n < p ∧ 0 < r ∧ r < p ∧ n * r % p = 1) ∨
         (isExc K F cv "NoPrime" ∧ primeV y = false) ∨ (isExc K F cv "NoNumber" ∧ ∃ p, y = .int p ∧ primeN p = true ∧ inR x p = false)), ?_, ?_⟩
      · refine ⟨_, rfl, _, rfl, rfl, rfl, x, y, rfl, hx.mono sH, hy.mono sH, fun H1 s1 => ⟨fun c => ?_, fun p e hp => ⟨fun c => ?_, fun n r en h1 h2 h3 h4 h5 => ?_⟩⟩⟩
        · refine ⟨true, T.exm "NoPrime" (by decide), fun z => (nomatch z), fun _ a ha => ?_⟩
          refine ⟨_, rfl, .ref a, .non, rfl, (sH.trans s1).trans (same_upd ha), .inr (.inl ⟨⟨a, rfl, upd_same⟩, c⟩)⟩
        · refine ⟨true, T.exm "NoNumber" (by decide), fun z => (nomatch z), fun _ a ha => ?_⟩
          refine ⟨_, rfl, .ref a, .non, rfl, (sH.trans s1).trans (same_upd ha), .inr (.inr ⟨⟨a, rfl, upd_same⟩, p, e, hp, c⟩)⟩
        · exact ⟨.non, .int r, rfl, sH.trans s1, .inl ⟨rfl, p, n, r, en, e, hp, rfl, h1, h2, h3, h4, h5⟩⟩
      · rintro σ F ⟨cv, fv, rfl, sF, ⟨rfl, p, n, r, rfl, rfl, hp, rfl, h1, h2, h3, h4, h5⟩ | ⟨he, c⟩ | ⟨he, p, rfl, hp, c⟩⟩
        · refine ⟨_, rfl, ?_⟩
          walk_at "rd"
          refine isz_non (T.kitN _ (by decide)) ⟨_, rfl, ?_⟩
          refine isz_non (T.kitN _ (by decide)) ⟨_, rfl, ?_⟩
          refine isz_non (T.kitN _ (by decide)) ⟨by show 3 ≤ sizeLine; decide, fun l nl => ?_⟩
          refine ⟨_, rfl, .inl ⟨rfl, _, .inl (.inl upd_same)⟩, _, rfl, ?_⟩
          walk_at "rd"
          refine isz_non (T.kitN _ (by decide)) ⟨l, _, _, rfl, rfl, upd_same, by show 3 < sizeLine; decide, ?_⟩
          refine ⟨_, rfl, rfl, _, rfl, ?_⟩
          refine (if_pos rfl).mpr ?_
          refine ⟨_, rfl, ?_⟩
          have s2 : Same F (upd (upd F l (.lst [.bl false, .bl false, .bl false])) l (.lst ([.bl false, .bl false, .bl false] ++ [.bl false]))) := by
            rw [upd_upd]
            exact same_upd nl
          exact ((q _ (sF.trans s2)).2 p rfl hp).2 n r rfl h1 h2 h3 h4 h5
        · have fin : ∀ H', Same F H' → Q (.str "prime") H' := fun H' s => (q H' (sF.trans s)).1 c
          refine ⟨_, rfl, ?_⟩
          walk_at "rd"
          refine isz_exc T.e_NoPrime he (Same.refl F) ((T.kit "NoPrime" (by decide) "NoPrime" (by decide)).trans (by decide +kernel : _ = some true)) ⟨_, rfl, ?_⟩
          refine isz_exc T.e_NoPrime he (Same.refl F) ((T.kit "NoPrime" (by decide) "NoNumber" (by decide)).trans (by decide +kernel : _ = some false)) ⟨_, rfl, ?_⟩
          refine isz_exc T.e_NoPrime he (Same.refl F) ((T.kit "NoPrime" (by decide) "NoMatrix" (by decide)).trans (by decide +kernel : _ = some false)) ⟨by show 3 ≤ sizeLine; decide, fun l nl => ?_⟩
          have s1 := same_upd (o := .lst [.bl true, .bl false, .bl false]) nl
          refine ⟨_, rfl, .inl ⟨rfl, _, .inl (.inl upd_same)⟩, _, rfl, ?_⟩
          walk_at "rd"
          refine isz_exc T.e_NoPrime he s1 ((T.kit "NoPrime" (by decide) "NoFit" (by decide)).trans (by decide +kernel : _ = some false)) ⟨l, _, _, rfl, rfl, upd_same, by show 3 < sizeLine; decide, ?_⟩
          rw [upd_upd]
          have s2 := same_upd (o := .lst ([.bl true, .bl false, .bl false] ++ [.bl false])) nl
          have hl : SqL K (upd F l (.lst ([.bl true, .bl false, .bl false] ++ [.bl false]))) l ([true, false, false, false].map V.bl) := .inl (.inl upd_same)
          obtain ⟨a, rfl, _⟩ := he
          refine ⟨_, rfl, rfl, _, rfl, ?_⟩
          refine (if_neg (by simp)).mpr ?_
          refine ⟨_, rfl, .inl ⟨rfl, _, hl⟩, l, [true, false, false, false], true, rfl, rfl, hl, ?_⟩
          refine ⟨rfl, _, rfl, ?_⟩
          refine (if_pos (by decide)).mpr ?_
          refine ⟨by show 4 ≤ sizeLine; decide, fun t nt => ?_⟩
          have s3 := same_upd (o := .lst [.str "prime", .str "number", .str "", .str ""]) nt
          refine ⟨_, rfl, .inl ⟨rfl, _, s3.seq hl⟩, l, [true, false, false, false].map V.bl, .bl true, 0, .bl true, rfl, rfl, s3.seq hl, rfl, by decide, rfl, by decide, fun m z hm => absurd hm (by omega), ?_⟩
          exact ⟨t, _, 0, .str "prime", rfl, rfl, .inl (.inl upd_same), rfl, fin _ (s2.trans s3)⟩
        · have fin : ∀ H', Same F H' → Q (.str "number") H' := fun H' s => ((q H' (sF.trans s)).2 p rfl hp).1 c
          refine ⟨_, rfl, ?_⟩
          walk_at "rd"
          refine isz_exc T.e_NoNumber he (Same.refl F) ((T.kit "NoNumber" (by decide) "NoPrime" (by decide)).trans (by decide +kernel : _ = some false)) ⟨_, rfl, ?_⟩
          refine isz_exc T.e_NoNumber he (Same.refl F) ((T.kit "NoNumber" (by decide) "NoNumber" (by decide)).trans (by decide +kernel : _ = some true)) ⟨_, rfl, ?_⟩
          refine isz_exc T.e_NoNumber he (Same.refl F) ((T.kit "NoNumber" (by decide) "NoMatrix" (by decide)).trans (by decide +kernel : _ = some false)) ⟨by show 3 ≤ sizeLine; decide, fun l nl => ?_⟩
          have s1 := same_upd (o := .lst [.bl false, .bl true, .bl false]) nl
          refine ⟨_, rfl, .inl ⟨rfl, _, .inl (.inl upd_same)⟩, _, rfl, ?_⟩
          walk_at "rd"
          refine isz_exc T.e_NoNumber he s1 ((T.kit "NoNumber" (by decide) "NoFit" (by decide)).trans (by decide +kernel : _ = some false)) ⟨l, _, _, rfl, rfl, upd_same, by show 3 < sizeLine; decide, ?_⟩
          rw [upd_upd]
          have s2 := same_upd (o := .lst ([.bl false, .bl true, .bl false] ++ [.bl false])) nl
          have hl : SqL K (upd F l (.lst ([.bl false, .bl true, .bl false] ++ [.bl false]))) l ([false, true, false, false].map V.bl) := .inl (.inl upd_same)
          obtain ⟨a, rfl, _⟩ := he
          refine ⟨_, rfl, rfl, _, rfl, ?_⟩
          refine (if_neg (by simp)).mpr ?_
          refine ⟨_, rfl, .inl ⟨rfl, _, hl⟩, l, [false, true, false, false], true, rfl, rfl, hl, ?_⟩
          refine ⟨rfl, _, rfl, ?_⟩
          refine (if_pos (by decide)).mpr ?_
          refine ⟨by show 4 ≤ sizeLine; decide, fun t nt => ?_⟩
          have s3 := same_upd (o := .lst [.str "prime", .str "number", .str "", .str ""]) nt
          refine ⟨_, rfl, .inl ⟨rfl, _, s3.seq hl⟩, l, [false, true, false, false].map V.bl, .bl true, 1, .bl true, rfl, rfl, s3.seq hl, rfl, by decide, rfl, by decide, ?_, ?_⟩
          · intro m z hm e
            obtain rfl : m = 0 := by omega
            cases e
            rfl
          exact ⟨t, _, 1, .str "number", rfl, rfl, .inl (.inl upd_same), rfl, fin _ (s2.trans s3)⟩
  exact has_of F G T.g__law_word (fun _ _ _ _ _ _ us hl => match us, hl with | [_, _], _ => rfl)
end
end K01

set_option Elab.async false
set_option linter.all false
set_option maxRecDepth 100000
set_option maxHeartbeats 8000000
namespace K01
open PySem PySem.Spec PyProof.Rows L2 XA

theorem primeN_out {n : Int} (h : ¬ (2 ≤ n ∧ n ≤ 97)) : primeN n = false := by
  unfold primeN
  rw [decide_eq_false h, Bool.false_and]
def plist (m : Nat) : List Int := ((List.range m).map fun (i : Nat) => (i : Int)).filter primeN
theorem inR_out {n p : Int} (h : ¬ (1 ≤ n ∧ n < p)) : inR (.int n) p = false := decide_eq_false h
theorem plist_succ (m : Nat) : plist (m + 1) = plist m ++ (if primeN (m : Int) = true then [(m : Int)] else []) := by
  unfold plist
  rw [List.range_succ, List.map_append, List.filter_append]
  congr 1
  simp only [List.map_cons, List.map_nil, List.filter_cons, List.filter_nil]
theorem plist_len (m : Nat) : (plist m).length ≤ m := by
  unfold plist
  refine Nat.le_trans (List.length_filter_le _ _) ?_
  rw [List.length_map, List.length_range]
  exact Nat.le_refl _
theorem plist_in {m : Nat} {p : Int} (h : p ∈ plist m) : primeN p = true := (List.mem_filter.mp h).2
theorem primeN_in {p : Int} (h : primeN p = true) : 2 ≤ p ∧ p ≤ 97 := of_decide_eq_true (Bool.and_eq_true_iff.mp h).1
theorem word_is {x y : Str} {A B : Prop} (e : x = y) (h : B) : if (!decide (V.str x = V.str y)) = true then A else B := by
  subst e
  rw [decide_eq_true rfl]
  exact iteF h
/-- what stands through the turns: the pen, the primes -/
structure Wk (F : Hp) (pen pr : Addr) (n : Int) : Prop where
  pen : Pen F pen n
  pr : F pr = some (.lst ((plist 98).map V.int))
theorem Wk.ne {F : Hp} {pen pr : Addr} {n : Int} (w : Wk F pen pr n) : pr ≠ pen := by
  obtain ⟨c, cells, a, l, h1, _⟩ := w.pen
  rintro rfl
  have h2 := w.pr
  rw [h1] at h2
  have e : plist 98 = 2 :: (plist 98).tail := by decide +kernel
  rw [e] at h2
  simp at h2
theorem Wk.oth {F G : Hp} {pen pr : Addr} {n m : Int} (w : Wk F pen pr n) (o : Oth F G pen) (p : Pen G pen m) : Wk G pen pr m := ⟨p, o _ _ w.ne w.pr⟩
theorem Wk.same {F G : Hp} {pen pr : Addr} {n : Int} (w : Wk F pen pr n) (s : Same F G) : Wk G pen pr n := ⟨w.pen.same s, s _ _ w.pr⟩
theorem Wk.mono {F : Hp} {pen pr : Addr} {n m : Int} (w : Wk F pen pr n) (h : n ≤ m) : Wk F pen pr m := ⟨w.pen.mono h, w.pr⟩
def sp_law (K : PySem.W.Frag) : Sp := fun vs H Q _ => ∃ (a : Addr) (ns : List Int), vs = [.ref a] ∧ SqL K H a (ns.map V.int) ∧ ns.length ≤ 63 ∧ ∀ H', Q (.bl true) H'
section
variable {P : Program} {w : World} {K : PySem.W.Frag} {mg : Str → Option Value} {base : Heap}
theorem okF_law (T : Txt K mg) {fd : FuncData} (F : FnP K "law" s_law fd)
    (H_is_prime : Has P w K mg base CX0 2 "is_prime" P_is_prime sp_is_prime)
    (H__law_open : Has P w K mg base CX0 1 "_law_open" P__law_open (sp__law_open K))
    (H__law_anew : Has P w K mg base CX0 1 "_law_anew" P__law_anew sp__law_anew)
    (H__law_take : Has P w K mg base CX0 2 "_law_take" P__law_take sp__law_take)
    (H__law_one : Has P w K mg base CX0 3 "_law_one" P__law_one (sp__law_one K))
    (H__law_is_prime : Has P w K mg base CX0 1 "_law_is_prime" P__law_is_prime sp__law_is_prime)
    (H__law_word : Has P w K mg base CX0 5 "_law_word" P__law_word (sp__law_word K)) :
    FnOk P w K mg base CX0 6 (He.ga K "law") fd P_law (sp_law K) := by
  have G : FnOk P w K mg base CX0 6 (He.ga K "law") fd P_law (sp_law K) := by
    refine F.ok (k := 5) sc_law (fun vs H Q E h => ?_) (fun cdv A outer s H vs Q E hr h => ?_)
    · obtain ⟨a, ns, rfl, hS, hlen, q⟩ := h
      rfl
    · obtain ⟨a, ns, rfl, hS, hlen, q⟩ := h
      refine ⟨_, (PSs.nox (pss_cons (ps_set (i := 1) sc_law.nd rfl (by first | exact Or.inl rfl | exact Or.inr rfl) (pe_has H__law_open (hr.mono (by decide)) pass0 (pa_cons (pv 0) pa_nil)))
  (pss_cons (ps_for PassesOwn.never rfl (pi_range2 (by rfl) T.f_range (pa_cons (pe_op op_sub pe_int pe_int) (pa_cons pe_int pa_nil))) (pg_name (i := 2) sc_law.nd rfl (by first | exact Or.inl rfl | exact Or.inr rfl))
   (pss_one (ps_if (pt_cmpR op_ne (pe_callB call_reprB (by rfl) T.f_repr (by decide +kernel) (pa_cons (pe_has H_is_prime (hr.mono (by decide)) pass0 (pa_cons (pv 2) pa_nil)) pa_nil)) (pe_callB call_reprB (by rfl) T.f_repr (by decide +kernel) (pa_cons (pe_has H__law_is_prime (hr.mono (by decide)) pass0 (pa_cons (pv 2) pa_nil)) pa_nil)) (nomark _))
   (pss_one (ps_ret pe_bl)) pss_nil)))
  (pss_cons (ps_set (i := 3) sc_law.nd rfl (by first | exact Or.inl rfl | exact Or.inr rfl) (pe_lst (pa_cons pe_non (pa_cons pe_bl (pa_cons pe_bl (pa_cons pe_str (pa_cons (pe_tup (pa_cons pe_int pa_nil)) (pa_cons (pe_lst (pa_cons pe_int pa_nil)) (pa_cons (pe_op op_add (pe_op op_pow pe_int pe_int) pe_int) (pa_cons (pe_op op_sub pe_int pe_int) (pa_cons (pe_op op_add pe_int (pe_has H__law_take (hr.mono (by decide)) pass0 (pa_cons (pv 1) (pa_cons (pe_op op_pow pe_int pe_int) pa_nil)))) (pa_cons (pe_tup pa_nil) pa_nil))))))))))))
  (pss_cons (ps_for PassesOwn.never rfl (pi_list (pv 3)) (pg_name (i := 4) sc_law.nd rfl (by first | exact Or.inl rfl | exact Or.inr rfl))
   (pss_one (ps_if (pt_cmpR op_notBl (pe_has H_is_prime (hr.mono (by decide)) pass0 (pa_cons (pv 4) pa_nil)) pe_bl (nomark _))
   (pss_one (ps_ret pe_bl)) pss_nil)))
  (pss_cons (ps_setLc (i := 5) (own := [("k", 10)]) rfl sc_law.nd rfl rfl (sw_true rfl rfl rfl (by decide +kernel)) (pi_range1 (by rfl) T.f_range (pa_cons pe_int pa_nil)) (blkOk_by (N := N_law) (sc := defScope s_law) (by decide +kernel)) (fun _ _ _ _ _ => pg_name (i := 10) (sc_law.nd) rfl (Or.inl rfl)) (fun _ _ _ _ _ => (pts_one (pt_val (pe_has H__law_is_prime (hr.mono (by decide)) pass0 (pa_cons (pv 10) pa_nil))))) (fun _ _ _ _ _ => (pv 10)))
  (pss_cons (ps_for PassesOwn.never rfl (pi_range1 (by rfl) T.f_range (pa_cons pe_int pa_nil)) (pg_name (i := 6) sc_law.nd rfl (by first | exact Or.inl rfl | exact Or.inr rfl))
   (pss_cons (ps_set (i := 7) sc_law.nd rfl (by first | exact Or.inl rfl | exact Or.inr rfl) (pe_has H__law_one (hr.mono (by decide)) pass0 (pa_cons (pe_has H__law_anew (hr.mono (by decide)) pass0 (pa_cons (pv 1) pa_nil)) (pa_cons (pv 5) pa_nil))))
  (pss_cons (ps_set (i := 2) sc_law.nd rfl (by first | exact Or.inl rfl | exact Or.inr rfl) (pe_op op_add pe_int (pe_has H__law_take (hr.mono (by decide)) pass0 (pa_cons (pv 1) (pa_cons (pe_op op_sub (pv 7) pe_int) pa_nil)))))
  (pss_cons (ps_set (i := 8) sc_law.nd rfl (by first | exact Or.inl rfl | exact Or.inr rfl) (pe_has H__law_word (hr.mono (by decide)) pass0 (pa_cons (pv 2) (pa_cons (pv 7) pa_nil))))
  (pss_cons (ps_if (PW.pt (pw_or (pt_val (pe_callB call_isZ (by rfl) T.f_isinstance (by decide +kernel) (pa_cons (pv 8) (pa_cons (pe_bltn (v := .ty "bool") (by rfl) T.f_bool (by decide +kernel) rfl) pa_nil)))) (pw_or (pt_not (pt_val (pe_callB call_isZ (by rfl) T.f_isinstance (by decide +kernel) (pa_cons (pv 8) (pa_cons (pe_bltn (v := .ty "int") (by rfl) T.f_int (by decide +kernel) rfl) pa_nil))))) (pw_or (pt_not (pt_chain op_lt op_lt pe_int (pv 8) (pv 7))) (pw_or1 (pt_cmpR op_ne (pe_op op_modP (pe_op op_mul (pv 8) (pv 2)) (pv 7)) pe_int (nomark _)))))))
   (pss_one (ps_ret pe_bl)) pss_nil)
  (pss_cons (ps_set (i := 4) sc_law.nd rfl (by first | exact Or.inl rfl | exact Or.inr rfl) (pe_has H__law_one (hr.mono (by decide)) pass0 (pa_cons (pv 1) (pa_cons (pe_lst (pa_cons pe_int (pa_cons (pv 7) (pa_cons (pe_op op_sub pe_int (pv 2)) (pa_cons pe_bl (pa_cons pe_non (pa_cons pe_str (pa_cons (pe_tup (pa_cons pe_int pa_nil)) (pa_cons (pe_op op_add (pv 7) (pv 2)) (pa_cons (pe_op op_pow pe_int pe_int) (pa_cons (pe_lst (pa_cons pe_int pa_nil)) (pa_cons pe_bl pa_nil)))))))))))) pa_nil))))
  (pss_cons (ps_if (pt_cmpR op_ne (pe_has H__law_word (hr.mono (by decide)) pass0 (pa_cons (pv 4) (pa_cons (pv 7) pa_nil))) pe_str (nomark _))
   (pss_one (ps_ret pe_bl)) pss_nil)
  (pss_cons (ps_set (i := 9) sc_law.nd rfl (by first | exact Or.inl rfl | exact Or.inr rfl) (pe_has H__law_one (hr.mono (by decide)) pass0 (pa_cons (pv 1) (pa_cons (pe_lst (pa_cons pe_int (pa_cons pe_int (pa_cons pe_int (pa_cons pe_int (pa_cons pe_int (pa_cons (pe_op op_mul pe_int (pv 7)) (pa_cons pe_int (pa_cons pe_non (pa_cons pe_bl (pa_cons pe_str (pa_cons (pe_tup (pa_cons pe_int pa_nil)) (pa_cons (pe_op op_sub pe_int pe_int) (pa_cons pe_int pa_nil)))))))))))))) pa_nil))))
  (pss_one (ps_if (PW.pt (pw_or (pt_cmpR op_ne (pe_has H__law_word (hr.mono (by decide)) pass0 (pa_cons (pv 2) (pa_cons (pv 9) pa_nil))) pe_str (nomark _)) (pw_or1 (pt_cmpR op_ne (pe_has H__law_word (hr.mono (by decide)) pass0 (pa_cons (pv 4) (pa_cons (pv 9) pa_nil))) pe_str (nomark _)))))
   (pss_one (ps_ret pe_bl)) pss_nil))))))))))
  (pss_one (ps_ret pe_bl))))))))), ?_⟩
      refine ⟨_, rfl, a, ns, rfl, hS, hlen, fun H1 pen npen s1 P1 => ?_⟩
      refine ⟨0, 5, rfl, rfl, _, _, rfl, ⟨by decide, by decide, by decide, by decide⟩, ?_⟩
      refine for_range (fun i σ F => ∃ v, σ = [some (.ref a), some (.ref pen), v, none, none, none, none, none, none, none, none] ∧ Same H1 F) ⟨none, rfl, Same.refl H1⟩ ?_ ?_
      · rintro i σ F hi ⟨v, rfl, sF⟩
        refine ⟨_, rfl, _, rfl, .int _, fun G sG => ?_⟩
        refine ⟨_, rfl, ?_⟩
        refine ⟨_, rfl, _, rfl, by omega, fun G2 sG2 => ?_⟩
        refine ⟨_, rfl, ?_⟩
        refine ⟨rfl, _, rfl, ?_⟩
        refine word_is rfl ?_
        exact ⟨_, rfl, (sF.trans sG).trans sG2⟩
      rintro σ F1 ⟨v, rfl, sF1⟩
      have PF1 : Pen F1 pen 0 := P1.same sF1
      -- odd things
      refine ⟨by show 1 ≤ sizeLine; decide, fun t1 nt1 => ?_⟩
      refine ⟨by show 1 ≤ sizeLine; decide, fun l1 nl1 => ?_⟩
      refine ⟨10, 30, rfl, rfl, ⟨by decide, by decide, by decide⟩, _, _, rfl, rfl, ?_⟩
      refine ⟨_, _, rfl, rfl, ?_⟩
      have sA := (same_upd (o := .tup [.int 2]) nt1).trans (same_upd (o := .lst [.int 2]) nl1)
      have hne : l1 ≠ t1 := fun z => by rw [z, upd_same] at nl1; cases nl1
      refine ⟨_, rfl, 10, 6, rfl, rfl, ⟨by decide, by decide, by decide⟩, pen, _, 0, rfl, PF1.same sA, by decide, by decide, by decide, fun r F2 r0 r1 o2 P2 => ?_⟩
      refine ⟨98, r, rfl, rfl, ?_⟩
      refine ⟨Nat.zero_le _, fun t2 nt2 => ?_⟩
      refine ⟨by show 10 ≤ sizeLine; decide, fun od nod => ?_⟩
      have ht1 : Pl F2 (.ref t1) := Pl.oth (.tup (xs := [.int 2]) (by rw [upd_ne hne.symm]; exact upd_same)) o2 P2
      have hl1 : Pl F2 (.ref l1) := Pl.oth (.lst (xs := [.int 2]) upd_same) o2 P2
      generalize hX : ([V.non, .bl true, .bl false, .str "2", .ref t1, .ref l1, .int (10 ^ (30 : Int).toNat + 57), .int (0 - 2), .int (98 + r), .ref t2] : List V) = X at nod ⊢
      have sB := (same_upd (o := .tup []) nt2).trans (same_upd (o := .lst X) nod)
      have ht2 : Pl (upd (upd F2 t2 (.tup [])) od (.lst X)) (.ref t2) := .tup (xs := []) (same_upd nod _ _ upd_same)
      have hod : (upd (upd F2 t2 (.tup [])) od (.lst X)) od = some (.lst X) := upd_same
      generalize hF3 : upd (upd F2 t2 (.tup [])) od (.lst X) = F3 at sB ht2 hod ⊢
      have P3 : Pen F3 pen 1 := P2.same sB
      have odds : ∀ x ∈ X, Pl F3 x ∧ primeV x = false := by
        rw [← hX]
        intro x hx
        simp only [List.mem_cons, List.not_mem_nil, or_false] at hx
        rcases hx with rfl | rfl | rfl | rfl | rfl | rfl | rfl | rfl | rfl | rfl
        · exact ⟨.non, rfl⟩
        · exact ⟨.bl _, rfl⟩
        · exact ⟨.bl _, rfl⟩
        · exact ⟨.str _, rfl⟩
        · exact ⟨ht1.mono sB, rfl⟩
        · exact ⟨hl1.mono sB, rfl⟩
        · exact ⟨.int _, primeN_out (by decide)⟩
        · exact ⟨.int _, primeN_out (by decide)⟩
        · exact ⟨.int _, primeN_out (by omega)⟩
        · exact ⟨ht2, rfl⟩
      refine ⟨_, rfl, od, rfl, ⟨_, .inl (.inl hod)⟩, ?_⟩
      refine for_list (K := K) (a := od) (xs := X) (fun i σ F => ∃ u, σ = [some (.ref a), some (.ref pen), v, some (.ref od), u, none, none, none, none, none, none] ∧ Same F3 F)
        ⟨none, rfl, Same.refl F3⟩ (fun i σ F _ ⟨_, _, s⟩ => .inl (.inl (s _ _ hod))) ?_ ?_
      · rintro i x σ F hi ⟨u, rfl, sF⟩
        obtain ⟨hp, hx⟩ := odds x (List.mem_of_getElem? hi)
        refine ⟨_, rfl, _, rfl, hp.mono sF, fun G sG => ?_⟩
        refine ⟨_, _, rfl, rfl, _, rfl, ?_⟩
        rw [hx]
        refine iteF ?_
        exact ⟨_, rfl, sF.trans sG⟩
      rintro σ F4 ⟨u, rfl, sF4⟩
      have P4 : Pen F4 pen 1 := P3.same sF4
      -- the primes
      refine ⟨98, rfl, by decide, by decide, fun D nD => ?_⟩
      refine lc_range (lo := 0) (n := 98) (fun i F => Same F4 F ∧ F D = some (.lst ((plist i).map V.int))) ⟨same_upd nD, upd_same⟩ ?_ ?_
      · rintro i F hi ⟨sF, hF⟩
        refine ⟨rfl, ?_⟩
        refine ⟨_, rfl, _, rfl, by omega, fun G sG => ⟨_, rfl, ?_⟩⟩
        rw [Int.zero_add]
        refine ite2 (fun c => ?_) (fun c => ?_)
        · refine ⟨_, rfl, _, sG _ _ hF, ?_, ?_, ?_⟩
          · rw [List.length_map]
            have := plist_len i
            exact small1000 (by omega)
          · intro b o e
            rw [upd_ne (ne_of_none e nD)]
            exact sG _ _ (sF _ _ e)
          · rw [upd_same, plist_succ, if_pos c, List.map_append]
            rfl
        · refine ⟨sF.trans sG, ?_⟩
          rw [plist_succ, if_neg c, List.append_nil]
          exact sG _ _ hF
      rintro F5 ⟨sF5, hD⟩
      have W0 : Wk F5 pen D 1 := ⟨P4.same sF5, hD⟩
      -- the turns
      refine ⟨12, rfl, by decide, by decide, ?_⟩
      refine for_range (lo := 0) (n := 12) (fun i σ F => ∃ v2 v4 v6 v7 v8 v9, σ = [some (.ref a), some (.ref pen), v2, some (.ref od), v4, some (.ref D), v6, v7, v8, v9, none] ∧ Wk F pen D (1 + 4 * i))
        ⟨_, _, _, _, _, _, rfl, W0.mono (by decide)⟩ ?_ ?_
      · rintro i σ F hi ⟨v2, v4, v6, v7, v8, v9, rfl, W⟩
        -- p
        refine ⟨_, rfl, pen, _, rfl, W.pen, fun Fa oa Pa => ?_⟩
        have Wa := W.oth oa Pa
        refine ⟨_, rfl, pen, D, _, _, rfl, Wa.pen, by omega, Wa.ne, .inl (.inl Wa.pr), by decide +kernel, by decide +kernel, fun x hx Fb ob Pb => ?_⟩
        obtain ⟨p, hpm, rfl⟩ := List.mem_map.mp hx
        have hp := plist_in hpm
        have hp2 := primeN_in hp
        have Wb := Wa.oth ob Pb
        -- number
        refine ⟨_, rfl, _, rfl, p, 1, rfl, rfl, pen, p - 1, _, rfl, Wb.pen, by omega, by omega, by omega, fun r Fc r0 r1 oc Pc => ?_⟩
        have Wc := Wb.oth oc Pc
        refine ⟨1, r, rfl, rfl, ?_⟩
        try dsimp only
        have hn1 : 1 ≤ 1 + r := by omega
        have hn2 : 1 + r < p := by omega
        generalize 1 + r = num at hn1 hn2 ⊢
        -- found
        refine ⟨_, rfl, _, rfl, .int num, .int p, rfl, .int _, .int _, fun Fd sd => ⟨fun c => ?_, fun p' e hp' => ⟨fun c => ?_, fun n' q' en h1 h2 h3 h4 h5 => ?_⟩⟩⟩
        · exact absurd (show primeN p = false from c) (by rw [hp]; decide)
        · cases e
          exact absurd (show decide (1 ≤ num ∧ num < p) = false from c) (by rw [decide_eq_true ⟨hn1, hn2⟩]; decide)
        cases e
        cases en
        have Wd := Wc.same sd
        refine ⟨_, rfl, ?_⟩
        walk_at "rd"
        refine isz_bl (.int q') ⟨_, rfl, ?_⟩
        refine iteF ?_
        refine ⟨_, rfl, ?_⟩
        walk_at "rd"
        refine isz_int (.int q') ⟨_, rfl, ?_⟩
        refine iteF ?_
        refine ⟨_, rfl, 0, q', rfl, rfl, true, by dsimp only; rw [decide_eq_true h3], ?_⟩
        refine (if_pos rfl).mpr ?_
        refine ⟨_, rfl, q', p, rfl, rfl, true, by dsimp only; rw [decide_eq_true h4], ?_⟩
        refine iteF ?_
        refine ⟨_, rfl, _, rfl, q', num, rfl, rfl, .inl ⟨by omega, by omega⟩, ?_⟩
        refine ⟨_, rfl, _, p, rfl, rfl, by omega, ?_⟩
        refine ⟨rfl, false, ?_, ?_⟩
        · rw [Int.mul_comm q' num, h5]
          rfl
        refine iteF ?_
        -- thing
        refine ⟨_, rfl, _, rfl, _, rfl, 0, num, rfl, rfl, by show 1 ≤ sizeLine; decide, fun t3 nt3 => ?_⟩
        refine ⟨_, rfl, _, rfl, p, num, rfl, rfl, 10, 40, rfl, rfl, ⟨by decide, by decide, by decide⟩, by show 1 ≤ sizeLine; decide, fun l3 nl3 => ?_⟩
        refine ⟨by show 11 ≤ sizeLine; decide, fun b3 nb3 => ?_⟩
        generalize hY : ([V.int 0, .int p, .int (0 - num), .bl true, .non, .str "1", .ref t3, .int (p + num), .int (10 ^ (40 : Int).toNat), .ref l3, .bl false] : List V) = Y at nb3 ⊢
        have hlY : Y.length = 11 := by rw [← hY]; rfl
        have st3 := same_upd (o := .tup [.int 1]) nt3
        have sl3 := same_upd (o := .lst [.int 1]) nl3
        have sb3 := same_upd (o := .lst Y) nb3
        have sE := (st3.trans sl3).trans sb3
        have hb3 : (upd (upd (upd Fd t3 (.tup [.int 1])) l3 (.lst [.int 1])) b3 (.lst Y)) b3 = some (.lst Y) := upd_same
        have ht3 : Pl (upd (upd (upd Fd t3 (.tup [.int 1])) l3 (.lst [.int 1])) b3 (.lst Y)) (.ref t3) := .tup (xs := [.int 1]) (sb3 _ _ (sl3 _ _ upd_same))
        have hl3 : Pl (upd (upd (upd Fd t3 (.tup [.int 1])) l3 (.lst [.int 1])) b3 (.lst Y)) (.ref l3) := .lst (xs := [.int 1]) (sb3 _ _ upd_same)
        generalize hFe : upd (upd (upd Fd t3 (.tup [.int 1])) l3 (.lst [.int 1])) b3 (.lst Y) = Fe at sE hb3 ht3 hl3 ⊢
        have We := Wd.same sE
        have nbp : b3 ≠ pen := by
          obtain ⟨c, cells, a0, l0, g1, _⟩ := Wd.pen
          exact (ne_of_none (sl3 _ _ (st3 _ _ g1)) nb3).symm
        have things : ∀ x ∈ Y, Pl Fe x ∧ inR x p = false := by
          rw [← hY]
          intro x hx
          simp only [List.mem_cons, List.not_mem_nil, or_false] at hx
          rcases hx with rfl | rfl | rfl | rfl | rfl | rfl | rfl | rfl | rfl | rfl | rfl
          · exact ⟨.int _, inR_out (by omega)⟩
          · exact ⟨.int _, inR_out (by omega)⟩
          · exact ⟨.int _, inR_out (by omega)⟩
          · exact ⟨.bl _, rfl⟩
          · exact ⟨.non, rfl⟩
          · exact ⟨.str _, rfl⟩
          · exact ⟨ht3, rfl⟩
          · exact ⟨.int _, inR_out (by omega)⟩
          · refine ⟨.int _, inR_out ?_⟩
            have e40 : (10 : Int) ^ (40 : Int).toNat = 10000000000000000000000000000000000000000 := by decide
            rw [e40]
            omega
          · exact ⟨hl3, rfl⟩
          · exact ⟨.bl _, rfl⟩
        refine ⟨pen, b3, Y, _, rfl, We.pen, by omega, nbp, .inl (.inl hb3), by omega, by omega, fun x hx Ff of_ Pf => ?_⟩
        obtain ⟨hx1, hx2⟩ := things x hx
        have Wf := We.oth of_ Pf
        have hxf : Pl Ff x := hx1.oth of_ Pf
        refine ⟨_, rfl, _, rfl, x, .int p, rfl, hxf, .int _, fun Fg sg => ⟨fun c => ?_, fun p' e hp' => ⟨fun c => ?_, fun n' q2 en g1 g2 g3 g4 g5 => ?_⟩⟩⟩
        · exact absurd (show primeN p = false from c) (by rw [hp]; decide)
        rotate_left
        · cases e
          subst en
          exact absurd (show decide (1 ≤ n' ∧ n' < p) = false from hx2) (by rw [decide_eq_true ⟨g1, g2⟩]; decide)
        refine ⟨rfl, _, rfl, ?_⟩
        refine word_is rfl ?_
        have Wg := Wf.same sg
        have hxg := hxf.mono sg
        -- bad
        refine ⟨_, rfl, _, rfl, 97, p, rfl, rfl, .inl ⟨by decide, by decide⟩, by show 1 ≤ sizeLine; decide, fun t4 nt4 => ?_⟩
        refine ⟨0, 7, rfl, rfl, by show 13 ≤ sizeLine; decide, fun b4 nb4 => ?_⟩
        generalize hZ : ([V.int 0, .int 1, .int 4, .int 9, .int 91, .int (97 * p), .int 101, .non, .bl true, .str "3", .ref t4, .int (0 - 7), .int 95] : List V) = Z at nb4 ⊢
        have hlZ : Z.length = 13 := by rw [← hZ]; rfl
        have st4 := same_upd (o := .tup [.int 3]) nt4
        have sb4 := same_upd (o := .lst Z) nb4
        have sH := st4.trans sb4
        have hb4 : (upd (upd Fg t4 (.tup [.int 3])) b4 (.lst Z)) b4 = some (.lst Z) := upd_same
        have ht4 : Pl (upd (upd Fg t4 (.tup [.int 3])) b4 (.lst Z)) (.ref t4) := .tup (xs := [.int 3]) (sb4 _ _ upd_same)
        generalize hFh : upd (upd Fg t4 (.tup [.int 3])) b4 (.lst Z) = Fh at sH hb4 ht4 ⊢
        have Wh := Wg.same sH
        have hxh := hxg.mono sH
        have nbp4 : b4 ≠ pen := by
          obtain ⟨c, cells, a0, l0, g1, _⟩ := Wg.pen
          exact (ne_of_none (st4 _ _ g1) nb4).symm
        have bads : ∀ y ∈ Z, Pl Fh y ∧ primeV y = false := by
          rw [← hZ]
          intro y hy
          simp only [List.mem_cons, List.not_mem_nil, or_false] at hy
          rcases hy with rfl | rfl | rfl | rfl | rfl | rfl | rfl | rfl | rfl | rfl | rfl | rfl | rfl
          · exact ⟨.int _, by decide⟩
          · exact ⟨.int _, by decide⟩
          · exact ⟨.int _, by decide⟩
          · exact ⟨.int _, by decide⟩
          · exact ⟨.int _, by decide⟩
          · exact ⟨.int _, primeN_out (by omega)⟩
          · exact ⟨.int _, primeN_out (by omega)⟩
          · exact ⟨.non, rfl⟩
          · exact ⟨.bl _, rfl⟩
          · exact ⟨.str _, rfl⟩
          · exact ⟨ht4, rfl⟩
          · exact ⟨.int _, primeN_out (by omega)⟩
          · exact ⟨.int _, by decide⟩
        refine ⟨pen, b4, Z, _, rfl, Wh.pen, by omega, nbp4, .inl (.inl hb4), by omega, by omega, fun y hy Fi oi Pi => ?_⟩
        obtain ⟨hy1, hy2⟩ := bads y hy
        have Wi := Wh.oth oi Pi
        have hyi : Pl Fi y := hy1.oth oi Pi
        have hxi : Pl Fi x := hxh.oth oi Pi
        refine ⟨_, rfl, _, rfl, .int num, y, rfl, .int _, hyi, fun Fj sj => ⟨fun c => ?_, fun p' e hp' => ?_⟩⟩
        rotate_left
        · subst e
          exact absurd (show primeN p' = false from hy2) (by rw [hp']; decide)
        refine ⟨rfl, false, ?_, ?_⟩
        · rw [decide_eq_true rfl]
          rfl
        refine iteF ?_
        refine ⟨_, rfl, _, rfl, x, y, rfl, hxi.mono sj, hyi.mono sj, fun Fk sk => ⟨fun c => ?_, fun p' e hp' => ?_⟩⟩
        rotate_left
        · subst e
          exact absurd (show primeN p' = false from hy2) (by rw [hp']; decide)
        refine ⟨rfl, _, rfl, ?_⟩
        refine word_is rfl ?_
        exact ⟨_, _, _, _, _, _, rfl, ((Wi.same sj).same sk).mono (by omega)⟩
      · rintro σ F ⟨v2, v4, v6, v7, v8, v9, rfl, W⟩
        exact q F
  exact G
end
end K01

set_option Elab.async false
set_option linter.all false
set_option maxRecDepth 100000
set_option maxHeartbeats 8000000
namespace K01
open PySem PySem.Spec PyProof.Rows L2 XA
def d_is_whole : He.DefD := ⟨("is_whole", none), "is_whole", "is_whole", defArgs s_is_whole, defBody s_is_whole, defScope s_is_whole, [], []⟩
def d_is_prime : He.DefD := ⟨("is_prime", none), "is_prime", "is_prime", defArgs s_is_prime, defBody s_is_prime, defScope s_is_prime, [], []⟩
def d_need_prime : He.DefD := ⟨("need_prime", none), "need_prime", "need_prime", defArgs s_need_prime, defBody s_need_prime, defScope s_need_prime, [], []⟩
def d_contrary : He.DefD := ⟨("contrary", none), "contrary", "contrary", defArgs s_contrary, defBody s_contrary, defScope s_contrary, [], []⟩
def d__law_spread : He.DefD := ⟨("_law_spread", none), "_law_spread", "_law_spread", defArgs s__law_spread, defBody s__law_spread, defScope s__law_spread, [], []⟩
def d__law_open : He.DefD := ⟨("_law_open", none), "_law_open", "_law_open", defArgs s__law_open, defBody s__law_open, defScope s__law_open, [], []⟩
def d__law_anew : He.DefD := ⟨("_law_anew", none), "_law_anew", "_law_anew", defArgs s__law_anew, defBody s__law_anew, defScope s__law_anew, [], []⟩
def d__law_take : He.DefD := ⟨("_law_take", none), "_law_take", "_law_take", defArgs s__law_take, defBody s__law_take, defScope s__law_take, [], []⟩
def d__law_one : He.DefD := ⟨("_law_one", none), "_law_one", "_law_one", defArgs s__law_one, defBody s__law_one, defScope s__law_one, [], []⟩
def d__law_is_prime : He.DefD := ⟨("_law_is_prime", none), "_law_is_prime", "_law_is_prime", defArgs s__law_is_prime, defBody s__law_is_prime, defScope s__law_is_prime, [], []⟩
def d__law_word : He.DefD := ⟨("_law_word", none), "_law_word", "_law_word", defArgs s__law_word, defBody s__law_word, defScope s__law_word, [], []⟩
def d_law : He.DefD := ⟨("law", none), "law", "law", defArgs s_law, defBody s_law, defScope s_law, [], []⟩
def dfs : List He.DefD := [d_is_whole, d_is_prime, d_need_prime, d_contrary, d__law_spread, d__law_open, d__law_anew, d__law_take, d__law_one, d__law_is_prime, d__law_word, d_law]
def fas : List He.Fa := [.glo "RoomError", .glo "NoPrime", .glo "NoNumber", .glo "NoMatrix", .glo "NoFit", .glo "is_whole", .glo "is_prime", .glo "need_prime", .glo "contrary", .glo "_law_spread", .glo "_law_open", .glo "_law_anew", .glo "_law_take", .glo "_law_one", .glo "_law_is_prime", .glo "_law_word", .glo "law", .free "all", .free "bool", .free "enumerate", .free "int", .free "isinstance", .free "len", .free "list", .free "range", .free "repr", .int "GREATEST_PRIME" 97, .exc "RoomError", .exc "NoPrime", .exc "NoNumber", .exc "NoMatrix", .exc "NoFit"]
def exB (K : PySem.W.Frag) : Bool :=
  (excNames.all fun x => decide (PySem.W.findIn K (.ref (He.ga K x)) "__getattribute__" = some (some (.builtin "BaseException.__getattribute__"))) &&
    decide (PySem.W.findIn K (.ref (He.ga K x)) "__getattr__" = some none) && decide (PySem.W.subIn K (.ref (He.ga K x)) (.type "BaseException") = some true) &&
    PySem.W.hasDictIn K (He.ga K x) && decide (PySem.W.findIn K (.ref (He.ga K x)) "__class__" = some (some (.builtin "object.__class__"))) &&
    decide (PySem.W.specialIn K (.builtin "object.__class__") "__get__" = some (some (.builtin "getset_descriptor.__get__"))) &&
    decide (PySem.W.takesIn K (.builtin "object.__class__") = some true) && decide (PySem.W.mroIn K (He.ga K x) (.type "object") = some true)) &&
  (excNames.all fun x => decide (PySem.W.exmOne K (.ref (He.ga K x)) (.ref (He.ga K "RoomError")) = some true)) &&
  (excNames.all fun x => excNames.all fun y => decide (PySem.W.kitOne K (.ref (He.ga K x)) (.ref (He.ga K y)) = some (decide (x = y) || decide (y = "RoomError")))) &&
  (excNames.all fun y => decide (PySem.W.kitOne K (.type "NoneType") (.ref (He.ga K y)) = some false)) 
abbrev R : PySem.W.OpenRow := PySem.W.OpenLaw.row PySem.Challenge.rw_rootrooms_k01_primes_and_contraries
abbrev hk : PySem.W.Hook := He.hookX 5 fas dfs [] [] exB
def ob (s : PySem.W.SharedT) : He.AlX := He.obsX 5 fas dfs [] [] exB (HandSHeadRun.getT s)
theorem ob_eq (s : PySem.W.SharedT) : ob s = hk.obs s.abs := He.obsX_eq (HandSHeadRun.getT_eq s)
def looseNames : List Str := ["RoomError", "NoPrime", "NoNumber", "NoMatrix", "NoFit", "is_whole", "GREATEST_PRIME", "is_prime", "need_prime", "contrary", "_law_spread", "_law_open", "_law_anew", "_law_take", "_law_one", "_law_is_prime", "_law_word"]
theorem run (w : World) : HandSHeadRun.RunEq R (PySem.W.view R.prog [21]) hk ob 4000 looseNames w := by
  intro os
  kernel_rfl

theorem txt_of {w : World} {h : Heap} {K : PySem.W.Frag} {mg : Str → Option Value} (X : K.In h) (G : h.Ns mainGlobals mg) (c : He.SaysX fas dfs [] [] exB w h K) : Txt K mg := by
  have D : He.SaysD fas dfs K := c.t.d
  have m := c.more
  simp only [exB, Bool.and_eq_true, List.all_eq_true, decide_eq_true_eq] at m
  obtain ⟨⟨⟨m1, m2⟩, m3⟩, m4⟩ := m
  have ec : ∀ x ∈ excNames, ExcC K (He.ga K x) := by
    intro x hx
    obtain ⟨⟨⟨⟨⟨⟨⟨a1, a2⟩, a3⟩, a4⟩, a5⟩, a6⟩, a7⟩, a8⟩ := m1 x hx
    exact ⟨a1, a2, a3, a4, a5, a6, a7, a8⟩
  exact {
    g_RoomError := He.glo_ok X G (D.fact 0)
    g_NoPrime := He.glo_ok X G (D.fact 1)
    g_NoNumber := He.glo_ok X G (D.fact 2)
    g_NoMatrix := He.glo_ok X G (D.fact 3)
    g_NoFit := He.glo_ok X G (D.fact 4)
    g_is_whole := He.glo_ok X G (D.fact 5)
    g_is_prime := He.glo_ok X G (D.fact 6)
    g_need_prime := He.glo_ok X G (D.fact 7)
    g_contrary := He.glo_ok X G (D.fact 8)
    g__law_spread := He.glo_ok X G (D.fact 9)
    g__law_open := He.glo_ok X G (D.fact 10)
    g__law_anew := He.glo_ok X G (D.fact 11)
    g__law_take := He.glo_ok X G (D.fact 12)
    g__law_one := He.glo_ok X G (D.fact 13)
    g__law_is_prime := He.glo_ok X G (D.fact 14)
    g__law_word := He.glo_ok X G (D.fact 15)
    g_law := He.glo_ok X G (D.fact 16)
    f_all := He.free_ok X G (D.fact 17)
    f_bool := He.free_ok X G (D.fact 18)
    f_enumerate := He.free_ok X G (D.fact 19)
    f_int := He.free_ok X G (D.fact 20)
    f_isinstance := He.free_ok X G (D.fact 21)
    f_len := He.free_ok X G (D.fact 22)
    f_list := He.free_ok X G (D.fact 23)
    f_range := He.free_ok X G (D.fact 24)
    f_repr := He.free_ok X G (D.fact 25)
    c_GREATEST_PRIME := He.int_ok X G (D.fact 26)
    x_RoomError := (He.exc_ok (D.fact 27)).1
    k_RoomError := (He.exc_ok (D.fact 27)).2.1
    b_RoomError := (He.exc_ok (D.fact 27)).2.2.1
    t_RoomError := (He.exc_ok (D.fact 27)).2.2.2
    e_RoomError := ec _ (by decide)
    x_NoPrime := (He.exc_ok (D.fact 28)).1
    k_NoPrime := (He.exc_ok (D.fact 28)).2.1
    b_NoPrime := (He.exc_ok (D.fact 28)).2.2.1
    t_NoPrime := (He.exc_ok (D.fact 28)).2.2.2
    e_NoPrime := ec _ (by decide)
    x_NoNumber := (He.exc_ok (D.fact 29)).1
    k_NoNumber := (He.exc_ok (D.fact 29)).2.1
    b_NoNumber := (He.exc_ok (D.fact 29)).2.2.1
    t_NoNumber := (He.exc_ok (D.fact 29)).2.2.2
    e_NoNumber := ec _ (by decide)
    x_NoMatrix := (He.exc_ok (D.fact 30)).1
    k_NoMatrix := (He.exc_ok (D.fact 30)).2.1
    b_NoMatrix := (He.exc_ok (D.fact 30)).2.2.1
    t_NoMatrix := (He.exc_ok (D.fact 30)).2.2.2
    e_NoMatrix := ec _ (by decide)
    x_NoFit := (He.exc_ok (D.fact 31)).1
    k_NoFit := (He.exc_ok (D.fact 31)).2.1
    b_NoFit := (He.exc_ok (D.fact 31)).2.2.1
    t_NoFit := (He.exc_ok (D.fact 31)).2.2.2
    e_NoFit := ec _ (by decide)
    exm := m2
    kit := m3
    kitN := m4 }
theorem law_ok {P : Program} {w w' : World} {K : PySem.W.Frag} {h : Heap} {mg : Str → Option Value} {f : Addr} (X : K.In h) (G : h.Ns mainGlobals mg) (hfa : mg ("law" : Str) = some (.ref f)) (c : He.SaysX fas dfs [] [] exB w' h K) :
    ∃ fd : FuncData, (∀ (s : Shared) (v : Value), BindsTo s fd ⟨[v], []⟩ [("script", v)]) ∧
      ∀ base : Heap, K.In base → base.Ns mainGlobals mg → FnOk P w K mg base CX0 6 f fd ["script"] (sp_law K) := by
  have T := txt_of X G c
  have D : He.SaysD fas dfs K := c.t.d
  obtain ⟨fd_is_whole, F_is_whole⟩ := D.def_ 0 (d := d_is_whole) rfl
  have F_is_whole : FnP K "is_whole" s_is_whole fd_is_whole := F_is_whole
  obtain ⟨fd_is_prime, F_is_prime⟩ := D.def_ 1 (d := d_is_prime) rfl
  have F_is_prime : FnP K "is_prime" s_is_prime fd_is_prime := F_is_prime
  obtain ⟨fd_need_prime, F_need_prime⟩ := D.def_ 2 (d := d_need_prime) rfl
  have F_need_prime : FnP K "need_prime" s_need_prime fd_need_prime := F_need_prime
  obtain ⟨fd_contrary, F_contrary⟩ := D.def_ 3 (d := d_contrary) rfl
  have F_contrary : FnP K "contrary" s_contrary fd_contrary := F_contrary
  obtain ⟨fd__law_spread, F__law_spread⟩ := D.def_ 4 (d := d__law_spread) rfl
  have F__law_spread : FnP K "_law_spread" s__law_spread fd__law_spread := F__law_spread
  obtain ⟨fd__law_open, F__law_open⟩ := D.def_ 5 (d := d__law_open) rfl
  have F__law_open : FnP K "_law_open" s__law_open fd__law_open := F__law_open
  obtain ⟨fd__law_anew, F__law_anew⟩ := D.def_ 6 (d := d__law_anew) rfl
  have F__law_anew : FnP K "_law_anew" s__law_anew fd__law_anew := F__law_anew
  obtain ⟨fd__law_take, F__law_take⟩ := D.def_ 7 (d := d__law_take) rfl
  have F__law_take : FnP K "_law_take" s__law_take fd__law_take := F__law_take
  obtain ⟨fd__law_one, F__law_one⟩ := D.def_ 8 (d := d__law_one) rfl
  have F__law_one : FnP K "_law_one" s__law_one fd__law_one := F__law_one
  obtain ⟨fd__law_is_prime, F__law_is_prime⟩ := D.def_ 9 (d := d__law_is_prime) rfl
  have F__law_is_prime : FnP K "_law_is_prime" s__law_is_prime fd__law_is_prime := F__law_is_prime
  obtain ⟨fd__law_word, F__law_word⟩ := D.def_ 10 (d := d__law_word) rfl
  have F__law_word : FnP K "_law_word" s__law_word fd__law_word := F__law_word
  obtain ⟨fd_law, F_law⟩ := D.def_ 11 (d := d_law) rfl
  have F_law : FnP K "law" s_law fd_law := F_law
  have e := hfa.symm.trans T.g_law
  cases e
  have b := FunD.bindsA (ps := ["script"]) F_law fun _ _ _ _ _ _ us hl => match us, hl with | [_], _ => rfl
  refine ⟨fd_law, fun s v => b s [v] rfl, fun base _ _ => ?_⟩
  have H_is_whole := ok_is_whole (P := P) (w := w) (base := base) T F_is_whole
  have H_is_prime := ok_is_prime (P := P) (w := w) (base := base) T F_is_prime H_is_whole
  have H_need_prime := ok_need_prime (P := P) (w := w) (base := base) T F_need_prime H_is_prime
  have H_contrary := ok_contrary (P := P) (w := w) (base := base) T F_contrary H_is_whole H_need_prime
  have H__law_spread := ok__law_spread (P := P) (w := w) (base := base) T F__law_spread
  have H__law_open := ok__law_open (P := P) (w := w) (base := base) T F__law_open
  have H__law_anew := ok__law_anew (P := P) (w := w) (base := base) T F__law_anew
  have H__law_take := ok__law_take (P := P) (w := w) (base := base) T F__law_take H__law_spread
  have H__law_one := ok__law_one (P := P) (w := w) (base := base) T F__law_one H__law_take
  have H__law_is_prime := ok__law_is_prime (P := P) (w := w) (base := base) T F__law_is_prime
  have H__law_word := ok__law_word (P := P) (w := w) (base := base) T F__law_word H_contrary
  exact okF_law (P := P) (w := w) (base := base) T F_law H_is_prime H__law_open H__law_anew H__law_take H__law_one H__law_is_prime H__law_word
end K01
open PySem PySem.W PySem.Calls PyProof.Rows
set_option maxRecDepth 100000 in
set_option maxHeartbeats 0 in
theorem PySem.Challenge.cw_rootrooms_k01_primes_and_contraries_holds : PySem.Challenge.rw_rootrooms_k01_primes_and_contraries.Holds := by
  w_on; o_law
  refine HandSHeadRun.head_any (r := OpenLaw.row PySem.Challenge.rw_rootrooms_k01_primes_and_contraries) (q := view (OpenLaw.row PySem.Challenge.rw_rootrooms_k01_primes_and_contraries).prog [21]) (H := K01.hk) (ob := K01.ob) (M := 4000) (loose := K01.looseNames) (d := HandSHeadRun.topDef (OpenLaw.row PySem.Challenge.rw_rootrooms_k01_primes_and_contraries).prog 21) (kwd := []) K01.ob_eq
    (by kernel_rfl) (fun s => by kernel_rfl) K01.run (by kernel_rfl) (by kernel_rfl) (by kernel_rfl) (by rfl) (by first | assumption | decide +kernel) (by decide +kernel) ⟨rfl, rfl, rfl, rfl, rfl, by decide +kernel⟩ ?hw ?hc
  case hw => w_witness2
  case hc =>
    refine L2.walk_ofE (l := PySem.Challenge.rw_rootrooms_k01_primes_and_contraries) (n := 63) (k := 6) (x := "script") (CX := L2.CX0) rfl (by decide) (by kernel_rfl) ⟨rfl, by decide, by decide⟩ ?F (fun _ _ _ _ z => z)
    intro w mg fa h Y G hmg0
    obtain ⟨K, KX, c⟩ := Y
    have hmg : mg ("law" : PySem.Str) = some (.ref fa) := by
      have e : (HandSHeadRun.topDef (OpenLaw.row PySem.Challenge.rw_rootrooms_k01_primes_and_contraries).prog 21).name = ("law" : PySem.Str) := by kernel_rfl
      rw [← e]
      exact hmg0
    obtain ⟨fd, hb, hF⟩ := K01.law_ok (P := (PySem.Challenge.rw_rootrooms_k01_primes_and_contraries).prog) (w := w) KX G hmg c
    exact ⟨K, fd, K01.sp_law K, KX, hb, fun H a ns hl _ hS => ⟨a, ns, rfl, hS, hl, fun _ => rfl⟩, hF⟩

