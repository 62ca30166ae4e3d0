import PyProof.Rows.All
import Wide.All
import OpenK.AllK
import Wide.FinOn
import HandS.ForMost
import HandS.ForExc
import HandS.More
import HandS.Wide
import HandS.Style
import HandS.Flow
import HandS.SetFor
import HandS.Defaults
import HandS.IsInst
import HandS.ExcIs
import HandS.ExcValue
import HandS.Conv
import HandS.TupAny
import HandS.Deep
import HandS.Codes
import HandS.Head0
import HandS.Head1
import HandS.Head2
import HandS.HeadEnd
import HandS.HeadHook1
import HandS.HeadHook2
import HandS.HeadHook3
import HandS.HeadHook4
import HandS.TupMul
import HandS.Zip
import HandS.MakeKw
import PySem.Challenge.RW_rootrooms_k13_heaps_and_their_form
set_option Elab.async false
set_option linter.all false
set_option maxRecDepth 100000
set_option maxHeartbeats 4000000
/-! XA: rules of our own over the hand layer. -/
namespace XA
open PySem PySem.Spec PyProof.Rows L2

/-! ### weaker readings -/
theorem OpR.imp {X : Cx} {f : Value → Value → Sem Value} {r r' : R2} (h : OpR X f r)
    (i : ∀ x y H Q, r' x y H Q → r x y H Q) : OpR X f r' :=
  fun pins s σ H x y v u Q I rx ry q => h pins s σ H x y v u Q I rx ry (i x y H Q q)

/-- a rest by a positive number -/
def rModP : R2 := fun x y H Q => ∃ i j, x = .int i ∧ y = .int j ∧ 0 < j ∧ Q (.int (i % j)) H
theorem op_modP {X : Cx} : OpR X (binaryOp .Mod) rModP := OpR.imp op_modN (by
  rintro x y H Q ⟨i, j, rfl, rfl, hj, q⟩
  refine ⟨i, j, rfl, rfl, by omega, ?_⟩
  show Q (V.int (i.fmod j)) H
  rw [Int.fmod_eq_emod_of_nonneg _ (by omega)]
  exact q)
/-- a whole part by a positive number below 2 ^ 30 -/
def rDivP : R2 := fun x y H Q => ∃ i j, x = .int i ∧ y = .int j ∧ (0 < j ∧ j < 1073741824) ∧ Q (.int (i / j)) H
theorem op_divP {X : Cx} : OpR X (binaryOp .FloorDiv) rDivP := OpR.imp op_fdivN (by
  rintro x y H Q ⟨i, j, rfl, rfl, ⟨hj, hk⟩, q⟩
  refine ⟨i, j, rfl, rfl, ⟨by omega, by omega⟩, ?_⟩
  show Q (V.int (i.fdiv j)) H
  rw [Int.fdiv_eq_ediv_of_nonneg _ (by omega)]
  exact q)

/-! ### all of a list of ints -/
theorem truth_ints {prog : Program} {w : World} {A : Around} {ns : List Int} {its : List Value} (e : Vals (ns.map V.int) its) :
    TruthOf prog w A (fun i v => its.toArray[i]? = some v) (fun i => (ns.map fun n => n != 0).getD i false) := by
  intro i v s Q E hv hq
  have hv' : its[i]? = some v := by simpa using hv
  have hlt : i < ns.length := by
    have h1 : i < its.length := (List.getElem?_eq_some_iff.mp hv').1
    have h2 := e.length
    rw [List.length_map] at h2
    omega
  have hx : (ns.map V.int)[i]? = some (V.int ns[i]) := by
    rw [List.getElem?_map, List.getElem?_eq_getElem hlt] <;> rfl
  obtain ⟨u, hu, r⟩ := e.get hx
  rw [hv'] at hu
  cases hu
  obtain ⟨t, rfl⟩ := r
  have hg : (ns.map fun n => n != 0).getD i false = (ns[i] != 0) := by
    rw [List.getD_eq_getElem?_getD, List.getElem?_map, List.getElem?_eq_getElem hlt] <;> rfl
  have hq' : Q ((ns.map fun n => n != 0).getD i false) s := hq
  rw [hg] at hq'
  exact PyProof.Rows.truthy_int hq'
def rAllI (K : PySem.W.Frag) : List V → Hp → VK → Prop := fun vs H Q =>
  ∃ (a : Addr) (ns : List Int), vs = [V.ref a] ∧ SqL K H a (ns.map V.int) ∧ Q (.bl (ns.all fun n => n != 0)) H
theorem cr_allI {X : Cx} (hc : X.calm = true) : CallR X (.builtin "all") (rAllI X.K) := by
  intro pins s σ H vs us Q I r h
  obtain ⟨a, ns, rfl, hs, q⟩ := h
  obtain ⟨its, rv, hl, _⟩ := I.list hs
  rw [Vals.ref1 r]
  have hlen : its.toArray.size = (ns.map fun n => n != 0).length := by
    have := rv.length
    simp only [List.length_map] at this
    simp only [List.size_toArray, List.length_map, this]
  apply call_all_walk
  apply iter_any hl.isList
  intro s2 e2 st hne
  subst e2
  refine ⟨_, _, _, _, _, _, _, rfl,
    Walks.list (A := X.A.in1) (I.ok.hd hc) _ a hne its.toArray, st, truth_ints rv, ?_⟩
  intro h' tk hk
  have keep : ∀ b u, s.heap.get? b = some u → h'.get? b = some u := by
    intro b o eo
    apply hk b o
    · intro hm
      rcases List.mem_cons.mp hm with e1 | hm
      · have := Heap.lt_size eo
        rw [e1] at this
        exact Nat.lt_irrefl _ this
      · cases hm
    · exact Heap.get?_push_of_some _ eo
  refine ⟨.bl _, H, I.kept keep, ?_, q⟩
  show Value.bool _ = Value.bool _
  rw [hlen, L2.all_range, List.all_map]
  rfl

/-! ### the count of a truth in a list of truths -/
def isB (k : Bool) : Value → Bool
  | .bool b => b == k
  | _ => false
theorem countB (k : Bool) : ∀ bs : List Bool, (bs.map Value.bool).countP (isB k) = bs.count k
  | [] => rfl
  | b :: r => by
    rw [List.map_cons, List.countP_cons, List.count_cons, countB k r]
    rfl
def rCntB (K : PySem.W.Frag) : V → List V → Hp → VK → Prop := fun x xs H Q =>
  ∃ (p : Addr) (bs : List Bool) (k : Bool), x = .ref p ∧ xs = [.bl k] ∧ SqL K H p (bs.map V.bl) ∧ Q (.int (bs.count k : Nat)) H
theorem mt_countB {X : Cx} : MtR X "list.count" (rCntB X.K) := by
  intro pins s σ H x xs v us Q I rx rxs h
  obtain ⟨p, bs, k, rfl, rfl, hs, q⟩ := h
  cases rx
  obtain ⟨u, rfl, ru⟩ := rxs.one
  obtain rfl : u = Value.bool k := ru
  obtain ⟨its, rv, ⟨⟨cls, dd, data, sl⟩, n, ho, hc, hdn, hd⟩, hlen⟩ := I.list hs
  have hi := rv.bls
  simp only at hc hd
  subst hc hd hi
  refine call_meets PySem.F.slot_list_count ⟨_, ho, rfl⟩ PySem.F.entry_list_count (PySem.F.args_list_count_2 _ _)
    (SeqAt.list_countAt p _ n dd sl (.bool k) (isB k)) ⟨ho, ?_, ?_⟩
  · intro y hy
    have hy' : y ∈ bs.map Value.bool := by simpa using hy
    obtain ⟨b, _, rfl⟩ := List.mem_map.mp hy'
    exact SeqAt.EqAt.bool_bool b k
  · refine ⟨.int (bs.count k : Nat), H, I.tok _, ⟨s.toks, ?_⟩, q⟩
    rw [← countB]

/-! ### an exception of an own class, held by a name behind its suite -/
def ExH (cls : Value) (d : Option Addr) (a : Addr) : HO :=
  .ext fun h => ∃ (oe : Obj) (vs : Array Value), h.get? a = some oe ∧ Zc cls d oe ∧ oe.data = .fields vs
theorem exH_ok {P : Program} {w : World} {H : Hp} {h : Heap} {a : Addr} {cls : Value} {d : Option Addr} {oe : Obj} {vs : Array Value}
    (e : h.get? a = some oe) (z : Zc cls d oe) (f : oe.data = .fields vs) : ObjOk P w H h a (ExH cls d a) := by
  refine ⟨⟨oe, vs, e, z, f⟩, ⟨oe, e⟩, ?_⟩
  rintro h1 h2 ⟨o, v, q, r⟩ k
  exact ⟨o, v, k o q, r⟩
/-- an object that stands untracked and new since the entry is tracked from here on -/
theorem track {X : Cx} {pins : List (Addr × Obj)} {σ : L2.St} {H : Hp} {s : Shared} {a : Addr} {o : HO} (I : Inv X pins σ H s)
    (n0 : X.s_0.heap.get? a = none) (hn : H a = none) (hL : a ≠ X.env.locals) (hC : ∀ x c, X.env.cells.lookup x = some c → c ≠ a)
    (hP : ∀ p ∈ X.pn ++ pins, p.1 ≠ a) (new : ObjOk X.prog X.w (upd H a o) s.heap a o) : Inv X pins σ (upd H a o) s := by
  have ne0 : ∀ b u, X.s_0.heap.get? b = some u → b ≠ a := by
    intro b u e z
    rw [z, n0] at e
    cases e
  have neH : ∀ b u, H b = some u → b ≠ a := fun b u e => ne_of_none e hn
  refine ⟨I.ok, I.os, I.bare, ?_, I.loc, I.cell, ?_, ?_, ?_, ?_, I.len⟩
  · constructor
    · exact I.base.keep
    · exact I.base.slot
    · intro b u e n hx
      rw [upd_ne (ne0 b u e)]
      exact I.base.free b u e n hx
    · exact I.base.there
    · intro b xs e
      have q := I.base.tups b xs e
      rw [upd_ne (neH _ _ q)]
      exact q
    · intro b u v e
      have q := I.base.frzs b u v e
      rw [upd_ne (neH _ _ q)]
      exact q
    · intro b ps e
      obtain ⟨m, q⟩ := I.base.tbls b ps e
      exact ⟨m, by rw [upd_ne (neH _ _ q)]; exact q⟩
  · rw [upd_ne (Ne.symm hL)]
    exact I.free
  · intro x c e
    rw [upd_ne (hC x c e)]
    exact I.freeC x c e
  · intro p hp
    obtain ⟨e, n, r⟩ := I.pin p hp
    exact ⟨e, by rw [upd_ne (hP p hp)]; exact n, r⟩
  · intro b u e
    by_cases hb : b = a
    · subst hb
      rw [upd_same] at e
      cases e
      exact new
    · rw [upd_ne hb] at e
      refine (I.hok b u e).stay (fun c v _ q => q) (fun c q => ?_) (fun c xs q => ?_)
      · rw [upd_ne (neH _ _ q)]
        exact q
      · rw [upd_ne (neH _ _ q)]
        exact q

/-! ### try .. except C as e: suite, and what was caught stays known -/
/-- the ends behind the suite: e's slot is empty, the exception at a is tracked -/
def endsK (D : Ends) (i : Nat) (cls : Value) (d : Option Addr) (a : Addr) : Ends where
  nx := fun τ G => D.nx (τ.set i none) (upd G a (ExH cls d a))
  rt := fun v G => D.rt v (upd G a (ExH cls d a))
  bk := fun τ G => D.bk (τ.set i none) (upd G a (ExH cls d a))
  ct := fun τ G => D.ct (τ.set i none) (upd G a (ExH cls d a))
/-- what the clause wishes of an exception of the body -/
def wAsK (K : PySem.W.Frag) (c : Value) (i : Nat) (ts : Addr → Value → Option Addr → TS) (Wo : WX) (D : Ends) : WX := fun cls d σ H =>
  ∃ b, PySem.W.exmOne K cls c = some b ∧ (b = false → Wo cls d σ H) ∧
    (b = true → ∀ a, H a = none → ts a cls d (endsK D i cls d a) (σ.set i (some (.ref a))) H)
section
variable {X : Cx} {x n : Str} {c : Value} {i : Nat} {body suite : List Stmt} {b0 : Stmt} {np p1 p2 : Pos}
  {tb : WX → TS} {ts : Addr → Value → Option Addr → TS} {Wo : WX}
theorem ps_try_asK (hst : X.stack = X.env :: X.outer) (hfm : X.env.frame = some X.env.locals) (hex : X.ex = [])
    (hnd : X.N.Nodup) (hi : X.N[i]? = some n) (hlo : X.env.kindOf n = some .local) (hc : Names X x c) (tk : Takes X Wo)
    (hb : ∀ (W : WX) (pn : List (Addr × Obj)) (xe : Value → Shared → Prop), Takes (X.tr pn xe) W →
      PassesOwn (model X.prog X.w) X.A X.env xe → PSs (X.tr pn xe) body (tb W))
    (hsu : ∀ (a : Addr) (oe : Obj) (cls : Value) (d : Option Addr) (pn : List (Addr × Obj)), Zc cls d oe →
      (∃ vs, oe.data = .fields vs) → PSs (X.suite a ((a, oe) :: pn)) (b0 :: suite) (ts a cls d)) :
    PS X (.Try body [.ExceptHandler (some (.Name x np)) (some n) (b0 :: suite) p1] [] [] p2)
      (fun D σ H => tb (wAsK X.K c i ts Wo D) D σ H) := by
  refine ⟨?_⟩
  intro pins s σ H D I h
  have ok := I.ok
  have hfr : X.A.frames = some (X.env :: X.outer) := by
    rw [ok.frames, hst]
  have hlc : Loc X.env.scope n := Or.inl hlo
  apply wpAny_Try_except
  let xeT : Value → Shared → Prop := fun e t1 =>
    wpAny (model X.prog X.w) X.A (noteFrame e X.env) (fun _ t2 =>
      wpAny (model X.prog X.w) X.A (setFlight e none) (fun _ t3 =>
        wpAny (model X.prog X.w) X.A
          (handleBy e X.env [.ExceptHandler (some (.Name x np)) (some n) (b0 :: suite) p1])
          (SP X pins D) X.xe t3) X.xe t2) X.xe t1
  have takesT : Takes (X.tr (X.pn ++ pins) xeT) (wAsK X.K c i ts Wo D) := by
    intro u z hz
    obtain ⟨a, B, zI, pins', τ, G, cls, d, rfl, J', nb, up, sky, na, os, ag, b, hb1, hno, hyes⟩ := hz
    have J : Inv X pins τ G zI := J'.ofTry ok
    have sky' : Sky B (X.env :: X.outer) a (Zc cls d) X.env.locals z.heap := hst ▸ sky
    show wpAny _ _ (noteFrame (.ref a) X.env) _ _ _
    apply Sky.land Zc.steady hfr hfm sky'
    intro h3 fl3 up3
    have B0 : B.get? a = none := fl3.2.1
    -- a is none of the objects of the state without it, but perhaps a frame
    have zn : ∀ o, zI.heap.get? a = some o → a ∉ frs X.stack → False := by
      intro o e m
      have q := nb a o e m
      rw [B0] at q
      cases q
    have J3 : Inv X pins τ G { z with heap := h3 } := J.landed nb fl3.1 (up.trans up3) os ag
    obtain ⟨oe3, vs3, he3, hz3, hd3⟩ := fl3.there
    have nfr : a ∉ frs (X.env :: X.outer) := by
      intro hm
      obtain ⟨_, o', e', hnf⟩ := fl3.2.2.1.mem hm
      rw [he3] at e'
      cases e'
      exact hnf _ hd3
    have nfs : a ∉ frs X.stack := by
      rw [hst]
      exact nfr
    have nL : a ≠ X.env.locals := by
      intro q
      exact nfr (List.mem_filterMap.mpr ⟨X.env, List.mem_cons_self, by rw [hfm, q]⟩)
    have nF : a ∉ X.fs := by
      intro hm
      obtain ⟨e, he, q⟩ := List.mem_filterMap.mp hm
      exact nfr (List.mem_filterMap.mpr ⟨e, List.mem_cons_of_mem _ he, q⟩)
    have n0 : X.s_0.heap.get? a = none := by
      cases q : X.s_0.heap.get? a with
      | none => rfl
      | some o =>
        exfalso
        obtain ⟨o', q'⟩ := J.base.there a o q (by rw [hex]; exact fun m => nomatch m)
        exact zn o' q' nfs
    have nC : ∀ y k, X.env.cells.lookup y = some k → k ≠ a := by
      intro y k e q
      obtain ⟨v, o, ho, _⟩ := J.cell y k e
      rw [q] at ho
      exact zn o ho nfs
    have nP : ∀ p ∈ X.pn ++ pins, p.1 ≠ a := by
      intro p hp q
      obtain ⟨e, _⟩ := J.pin p hp
      rw [q] at e
      exact zn _ e nfs
    have S3 := J3.suite he3 hd3 na nL nF
    refine wpAny_handleBy_cons (codeAny_handlers_test ?_) (by intro q; cases q)
    have LT : PySem.W.Looks (model X.prog X.w) h3 (typeOf (.ref a)) cls := by
      intro A Q E t k q
      exact wpAny_typeOf_ref (k _ _ he3) (by rw [hz3.1]; exact q)
    have LM := PySem.W.exm_one (M := model X.prog X.w) J3.kIn LT hb1
    have asks : ∀ {Q E : Value → Shared → Prop}, Q c { z with heap := h3 } →
        wpAny (model X.prog X.w) (X.A.mark (some (.ref a))) (eval (.Name x np) X.env) Q E { z with heap := h3 } := by
      intro Q E q
      obtain ⟨hg, hdb, hm | ⟨hm, hv, hnn⟩⟩ := hc
      · exact ld_glob (X := X.suite a ((a, oe3) :: (X.pn ++ pins))) S3 hg hm q hdb
      · exact ld_blt (X := X.suite a ((a, oe3) :: (X.pn ++ pins))) S3 hg hm hv q hnn hdb
    refine asks (LM.here ?_)
    cases b with
    | true =>
      apply codeAny_handlers_suite_as
      apply HandSPX.lands_againZ fl3
      intro h4 fl4 up4
      have J4 : Inv X pins τ G { z with heap := h4 } :=
        J.landed nb fl4.1 ((up.trans up3).trans up4) os ag
      obtain ⟨oe4, vs4, he4, hz4, hd4⟩ := fl4.there
      have S4 := J4.suite he4 hd4 na nL nF
      refine store_ok (X := X.suite a ((a, oe4) :: (X.pn ++ pins))) (v := .ref a) S4 hnd hi hlc rfl ?_ (.inr hlo)
      intro s5 S5
      have run := (hsu a oe4 cls d (X.pn ++ pins) hz4 ⟨_, hd4⟩).run [] s5 _ G _ S5 (hyes rfl a na)
      refine wpAny_mono run ?_ (fun _ _ q => False.elim q)
      intro f s6 hsp
      have goes : ∀ {τ6 : L2.St} {G6 : Hp} {Q : Shared → Prop}, Inv (X.suite a ((a, oe4) :: (X.pn ++ pins))) [] τ6 G6 s6 →
          (∀ s7, Inv X pins (τ6.set i none) (upd G6 a (ExH cls d a)) s7 → Q s7) →
          wpAny (model X.prog X.w) X.A (do bindName X.env n .none; unbindBehindTheSuite X.env n p1)
            (fun _ s7 => Q s7) X.xe s6 := by
        intro τ6 G6 Q S6 hq
        obtain ⟨ea, ga, _⟩ := S6.pin (a, oe4) (List.mem_append_left _ List.mem_cons_self)
        have J6 : Inv X pins τ6 G6 s6 := S6.unsuite ok
        exact gone_ok (track J6 n0 ga nL nC nP (exH_ok ea hz4 hd4)) hnd hi hlo hq
      cases f with
      | next =>
        obtain ⟨τ6, G6, S6, q6⟩ := hsp
        exact goes S6 fun s7 J7 => ⟨_, _, J7, q6⟩
      | brk =>
        obtain ⟨τ6, G6, S6, q6⟩ := hsp
        exact goes S6 fun s7 J7 => ⟨_, _, J7, q6⟩
      | cont =>
        obtain ⟨τ6, G6, S6, q6⟩ := hsp
        exact goes S6 fun s7 J7 => ⟨_, _, J7, q6⟩
      | ret u =>
        obtain ⟨v6, τ6, G6, S6, r6, q6⟩ := hsp
        exact goes S6 fun s7 J7 => ⟨_, _, _, J7, r6, q6⟩
    | false =>
      show wpAny _ X.A (handleBy (.ref a) X.env []) _ _ _
      apply wpAny_handleBy_nil
      obtain ⟨k1, k2, k3, oe, vs, T, oT, ts', he, hz, hd, h1, hr⟩ := id fl3
      unfold PySem.passOn
      refine wpAny_bind (wpAny_field he hd h1 ?_)
      rw [if_neg (show ¬ ((Value.ref T == Value.none) = true) from by simp)]
      have fin : wpAny (model X.prog X.w) X.A (setFlight (.ref a) X.env.frame)
          (fun _ s4 => wpAny (model X.prog X.w) X.A (throw (.ref a) : Sem Flow) (SP X pins D) X.xe s4)
          X.xe { z with heap := h3 } := by
        rw [hfm]
        refine HandSPX.setFlight_upZ fl3 fun h4 hh4 up4 => wpAny_throw (tk _ _ ?_)
        have top : Sky B X.stack a (Zc cls d) X.env.locals h4 := Or.inr (Or.inr (by rw [hst]; exact hh4))
        exact ⟨a, B, zI, pins, τ, G, cls, d, rfl, J, nb, (up.trans up3).trans up4, top, na, os, ag, hno rfl⟩
      first
        | exact wpAny_bind (wpAny_pure (wpAny_bind fin))
        | exact wpAny_bind fin
  have run := (hb (wAsK X.K c i ts Wo D) (X.pn ++ pins) xeT takesT PassesOwn.looking).run [] s σ H D (I.toTry _) h
  refine wpAny_mono run ?_ (fun e s1 he => he)
  intro f s1 hsp
  cases f with
  | next =>
    obtain ⟨σ', H', J', q⟩ := hsp
    exact wpAny_execs_nil ⟨σ', H', J'.ofTry ok, q⟩
  | brk =>
    obtain ⟨σ', H', J', q⟩ := hsp
    exact ⟨σ', H', J'.ofTry ok, q⟩
  | cont =>
    obtain ⟨σ', H', J', q⟩ := hsp
    exact ⟨σ', H', J'.ofTry ok, q⟩
  | ret u =>
    obtain ⟨v, σ', H', J', r, q⟩ := hsp
    exact ⟨v, σ', H', J'.ofTry ok, r, q⟩
end

/-! ### isinstance of anything with a class -/
inductive TyZ (K : PySem.W.Frag) (H : Hp) : V → Value → Prop where
  | x {v : V} {t : Value} (h : TyX K H v t) : TyZ K H v t
  | exc {a D : Addr} (C : ExcC K D) (h : H a = some (ExH (.ref D) none a)) : TyZ K H (.ref a) (.ref D)
def rIsZ (K : PySem.W.Frag) : List V → Hp → VK → Prop := fun xs H Q =>
  ∃ (x c : V) (t u : Value) (b : Bool), xs = [x, c] ∧ ClsV c u ∧ TyZ K H x t ∧ PySem.W.kitOne K t u = some b ∧ Q (.bl b) H
theorem call_isZ {X : Cx} : CallR X (.builtin "isinstance") (rIsZ X.K) := by
  intro pins s σ H xs us Q I r h
  obtain ⟨x, c, t, u, b, rfl, k, ty, e, q⟩ := h
  cases ty with
  | x ty => exact call_isi pins s σ H _ us Q I r ⟨x, c, t, u, b, rfl, k, ty, e, q⟩
  | @exc a D C hx =>
    obtain ⟨u1, u2, rfl, r1, r2⟩ := vals2 r
    have e2 := k.eq r2
    subst e2
    cases (show u1 = Value.ref a from r1)
    obtain ⟨⟨oe, vs, hget, hz, hv⟩, _⟩ := I.hok a _ hx
    have J : PySem.W.InstAt s.heap a oe D none := by
      obtain ⟨oc, od, oda, osl⟩ := oe
      obtain ⟨h1, h2⟩ := hz
      dsimp only at h1 h2 hv
      subst h1 h2 hv
      exact ⟨hget, rfl, rfl, trivial⟩
    exact PySem.W.kia_one (PySem.W.handS_kitx_exc C.hg C.hk C.hs C.hd C.ha C.hn C.ht C.hm) I.kIn J e
      (fun z => nomatch z) fun tk => ⟨.bl b, H, I.tok tk, rfl, q⟩

/-! ### a call with keywords that may raise, in a try -/
def tCallNS (n m : Nat) (sp : Sp) (gV : List V → List V → List V) (E : L2.St → XK) (t tk : TA) : TE := fun σ H Q =>
  t σ H fun vs H1 => tk σ H1 fun zs H2 => vs.length = n ∧ zs.length = m ∧ sp (gV vs zs) H2 Q (E σ)
section
variable {X : Cx} {CX : CXT} {k n : Nat} {f : Addr} {fd : FuncData} {ps ks : List Str} {sp : Sp} {E : L2.St → XK} {x : Str} {p pos : Pos} {e : Expr}
  {es : List Expr} {kws : List Keyword} {t tk : TA} {g : List Value → List Value → List Value} {gV : List V → List V → List V}
theorem pe_callNS (F : FnOk X.prog X.w X.K X.mg X.base CX k f fd ps sp) (hr : Room k X.A) (hg : Gl X x) (hm : X.mg x = some (.ref f))
    (hk : PySem.W.keepIn X.K (.ref f) = true) (hb : KBn X.K fd ps n ks g gV) (hx : ∀ σ, PassesAt CX X σ (E σ))
    (ha : PA X (e :: es) t) (hkw : PK X kws tk) (hall : (backToKw pos (keywordEach kws X.env)).all (·.1.isSome) = true := by rfl)
    (hks : (backToKw pos (keywordEach kws X.env)).filterMap (·.1) = ks := by rfl)
    (hdb : (x == ("__debug__" : Str)) = false := by decide)
    (he : starEach (e :: es) X.env = (false, eval e X.env) :: starEach es X.env := by rfl)
    (hpl : ((backTo pos (starEach (e :: es) X.env)).any (·.1) || (backToKw pos (keywordEach kws X.env)).any (·.1.isNone)) = false := by rfl) :
    PE X (.Call (.Name x p) (e :: es) kws pos) (tCallNS n ks.length sp gV E t tk) := by
  refine ⟨fun pins s σ H Q I h => ?_⟩
  apply wpAny_Call_Name_kw
  refine ld_glob I hg hm ?_ hdb
  refine PySem.W.callWith_KW (h₀ := X.base) I.ok.mod.kin hk hall (thn (ha.run pos pins s σ H _ I h) ?_) hpl he
  rintro us s1 ⟨vs, H1, I1, r, q⟩
  refine thn (hkw.run pos pins s1 σ H1 _ I1 q) ?_
  rintro ws s2 ⟨zs, H2, I2, rz, l1, l2, q2⟩
  refine ⟨I2.kIn, ?_⟩
  rw [hks]
  have r2 := hb.rel r rz
  have bt := hb.to s2 us ws I2.kIn (r.length.symm.trans l1) (rz.length.symm.trans l2)
  refine wpAny_call (codeAny_mono (F.run X.A X.stack s2 H2 ⟨us, ks.zip ws⟩ (g us ws) (gV vs zs) Q (E σ) hr I2.env0 bt r2 q2) ?_)
  intro r s' hq
  cases r with
  | error e => exact hx σ pins H2 s2 e s' I2 hq
  | ok fl =>
    cases fl with
    | ret u => exact I2.after hq
    | next => exact False.elim hq
    | brk => exact False.elim hq
    | cont => exact False.elim hq
end
end XA

set_option Elab.async false
set_option linter.all false
set_option maxRecDepth 100000
set_option maxHeartbeats 4000000
/-! XB: a def of the text by its name; the steps of a reading. -/
namespace XA
open PySem PySem.Spec PyProof.Rows L2

abbrev FnP (K : PySem.W.Frag) (x : Str) (st : Stmt) (fd : FuncData) : Prop :=
  FunD K x x (defArgs st) (defBody st) (defScope st) [] [] (He.ga K x) fd
/-- the def called x keeps its promise -/
structure Has (P : Program) (w : World) (K : PySem.W.Frag) (mg : Str → Option Value) (base : Heap) (CX : CXT) (k : Nat) (x : Str) (ps : List Str) (sp : Sp) : Prop where
  fn : ∃ fd, FnOk P w K mg base CX k (He.ga K x) fd ps sp ∧ Binds K fd ps []
  kp : PySem.W.keepIn K (.ref (He.ga K x)) = true
  gl : mg x = some (.ref (He.ga K x))
/-- the same, with keyword-only parameters ks behind n others -/
structure HasK (P : Program) (w : World) (K : PySem.W.Frag) (mg : Str → Option Value) (base : Heap) (CX : CXT) (k : Nat) (x : Str) (ps : List Str) (n : Nat) (ks : List Str) (sp : Sp) : Prop where
  fn : ∃ fd, FnOk P w K mg base CX k (He.ga K x) fd ps sp ∧ KBn K fd ps n ks (fun us ws => us ++ ws) (fun vs zs => vs ++ zs)
  kp : PySem.W.keepIn K (.ref (He.ga K x)) = true
  gl : mg x = some (.ref (He.ga K x))
theorem kbn_of {K : PySem.W.Frag} {fd : FuncData} {ps : List Str} {n : Nat} {ks : List Str}
    (h : ∀ us ws : List Value, us.length = n → ws.length = ks.length → bindArgs fd ⟨us, ks.zip ws⟩ = pure (ps.zip (us ++ ws))) :
    KBn K fd ps n ks (fun us ws => us ++ ws) (fun vs zs => vs ++ zs) :=
  ⟨fun _ us ws _ h1 h2 => BindsTo.of_eq (h us ws h1 h2), fun r1 r2 => r1.append r2⟩
section
variable {X : Cx} {CX : CXT} {k n : Nat} {ps ks : List Str} {sp : Sp} {E : XK} {x : Str} {p pos : Pos} {e : Expr} {es : List Expr} {kws : List Keyword} {t tk : TA}
theorem pe_has (h : Has X.prog X.w X.K X.mg X.base CX k x ps sp) (hr : Room k X.A) (hx : Passes CX X E) (ha : PA X (e :: es) t) (hg : Gl X x := by rfl)
    (hdb : (x == ("__debug__" : Str)) = false := by decide) (he : starEach (e :: es) X.env = (false, eval e X.env) :: starEach es X.env := by rfl)
    (hpl : (backTo pos (starEach es X.env)).any (·.1) = false := by rfl) :
    PE X (.Call (.Name x p) (e :: es) [] pos) (tCall sp [] E t) := by
  obtain ⟨fd, F, b⟩ := h.fn
  exact pe_call F hr hg h.gl h.kp b .nil hx ha hdb he hpl
theorem pe_hasS {E : L2.St → XK} (h : Has X.prog X.w X.K X.mg X.base CX k x ps sp) (hr : Room k X.A) (hx : ∀ σ, PassesAt CX X σ (E σ)) (ha : PA X (e :: es) t) (hg : Gl X x := by rfl)
    (hdb : (x == ("__debug__" : Str)) = false := by decide) (he : starEach (e :: es) X.env = (false, eval e X.env) :: starEach es X.env := by rfl)
    (hpl : (backTo pos (starEach es X.env)).any (·.1) = false := by rfl) :
    PE X (.Call (.Name x p) (e :: es) [] pos) (tCallS sp E t) := by
  obtain ⟨fd, F, b⟩ := h.fn
  exact pe_callS F hr hg h.gl h.kp b hx ha hdb he hpl
theorem pe_hasK (h : HasK X.prog X.w X.K X.mg X.base CX k x ps n ks sp) (hr : Room k X.A) (hx : Passes CX X E) (ha : PA X (e :: es) t) (hkw : PK X kws tk) (hg : Gl X x := by rfl)
    (hall : (backToKw pos (keywordEach kws X.env)).all (·.1.isSome) = true := by rfl)
    (hks : (backToKw pos (keywordEach kws X.env)).filterMap (·.1) = ks := by rfl)
    (hdb : (x == ("__debug__" : Str)) = false := by decide) (he : starEach (e :: es) X.env = (false, eval e X.env) :: starEach es X.env := by rfl)
    (hpl : ((backTo pos (starEach (e :: es) X.env)).any (·.1) || (backToKw pos (keywordEach kws X.env)).any (·.1.isNone)) = false := by rfl) :
    PE X (.Call (.Name x p) (e :: es) kws pos) (tCallN n ks.length sp (fun vs zs => vs ++ zs) E t tk) := by
  obtain ⟨fd, F, b⟩ := h.fn
  exact pe_callN F hr hg h.gl h.kp b hx ha hkw hall hks hdb he hpl
theorem pe_hasKS {E : L2.St → XK} (h : HasK X.prog X.w X.K X.mg X.base CX k x ps n ks sp) (hr : Room k X.A) (hx : ∀ σ, PassesAt CX X σ (E σ)) (ha : PA X (e :: es) t) (hkw : PK X kws tk) (hg : Gl X x := by rfl)
    (hall : (backToKw pos (keywordEach kws X.env)).all (·.1.isSome) = true := by rfl)
    (hks : (backToKw pos (keywordEach kws X.env)).filterMap (·.1) = ks := by rfl)
    (hdb : (x == ("__debug__" : Str)) = false := by decide) (he : starEach (e :: es) X.env = (false, eval e X.env) :: starEach es X.env := by rfl)
    (hpl : ((backTo pos (starEach (e :: es) X.env)).any (·.1) || (backToKw pos (keywordEach kws X.env)).any (·.1.isNone)) = false := by rfl) :
    PE X (.Call (.Name x p) (e :: es) kws pos) (tCallNS n ks.length sp (fun vs zs => vs ++ zs) E t tk) := by
  obtain ⟨fd, F, b⟩ := h.fn
  exact pe_callNS F hr hg h.gl h.kp b hx ha hkw hall hks hdb he hpl
/-- repr of None, a truth -/
def rReprB : List V → Hp → VK → Prop := fun xs H Q => ∃ b : Bool, xs = [.bl b] ∧ Q (.str (if b then "True" else "False")) H
theorem call_reprB : CallR X (.builtin "repr") rReprB := by
  intro pins s σ H xs us Q I r h
  obtain ⟨b, rfl, q⟩ := h
  obtain ⟨u, rfl, ru⟩ := Vals.one r
  obtain rfl : u = Value.bool b := ru
  exact P.repr_of_bool ⟨.str (if b then "True" else "False"), H, I.tok _, ⟨_, rfl⟩, q⟩
end

/-- from a def's datum and its body -/
theorem has_of {P : Program} {w : World} {K : PySem.W.Frag} {mg : Str → Option Value} {base : Heap} {CX : CXT} {k : Nat} {x : Str} {ps : List Str} {sp : Sp} {st : Stmt} {fd : FuncData}
    (F : FnP K x st fd) (G : FnOk P w K mg base CX k (He.ga K x) fd ps sp) (gl : mg x = some (.ref (He.ga K x)))
    (h : ∀ (kV doc pm : Value) (an : Option Addr) (cdv ct : Value) (us : List Value), us.length = ps.length →
      bindArgs (PySem.W.fnOf x x (defArgs st) (defBody st) (defScope st) .none kV doc pm an cdv ct) ⟨us, []⟩ = pure (ps.zip us)) :
    Has P w K mg base CX k x ps sp := ⟨⟨fd, G, F.bindsN h⟩, F.kp, gl⟩
theorem hasK_of {P : Program} {w : World} {K : PySem.W.Frag} {mg : Str → Option Value} {base : Heap} {CX : CXT} {k n : Nat} {x : Str} {ps ks : List Str} {sp : Sp} {st : Stmt} {fd : FuncData}
    (F : FnP K x st fd) (G : FnOk P w K mg base CX k (He.ga K x) fd ps sp) (gl : mg x = some (.ref (He.ga K x)))
    (h : ∀ (kV doc pm : Value) (an : Option Addr) (cdv ct : Value) (us ws : List Value), us.length = n → ws.length = ks.length →
      bindArgs (PySem.W.fnOf x x (defArgs st) (defBody st) (defScope st) .none kV doc pm an cdv ct) ⟨us, ks.zip ws⟩ = pure (ps.zip (us ++ ws))) :
    HasK P w K mg base CX k x ps n ks sp := by
  obtain ⟨oc, od, dV, kV, doc, pm, an, cdv, ct, osl, rfl, lk, hcd, hD, hK⟩ := id F.ex
  rcases hD with ⟨_, rfl⟩ | ⟨e, _⟩
  · exact ⟨⟨_, G, kbn_of (h kV doc pm an cdv ct)⟩, F.kp, gl⟩
  · exact absurd rfl e

/-! ### what is handed about -/
/-- None, a truth, a number, a text, a list, a tuple -/
inductive Pl (H : Hp) : V → Prop where
  | non : Pl H .non
  | bl (b : Bool) : Pl H (.bl b)
  | int (i : Int) : Pl H (.int i)
  | str (x : Str) : Pl H (.str x)
  | lst {a : Addr} {xs : List V} (e : H a = some (.lst xs)) : Pl H (.ref a)
  | tup {a : Addr} {xs : List V} (e : H a = some (.tup xs)) : Pl H (.ref a)
def tyN (H : Hp) : V → String
  | .non => "NoneType"
  | .bl _ => "bool"
  | .int _ => "int"
  | .str _ => "str"
  | .ref a => match H a with
    | some (.tup _) => "tuple"
    | _ => "list"
  | _ => "?"
theorem Pl.ty {K : PySem.W.Frag} {H : Hp} {x : V} (h : Pl H x) : TyZ K H x (.type (tyN H x)) := by
  cases h with
  | non => exact .x (.base .non)
  | bl b => exact .x (.base (.bl b))
  | int i => exact .x (.base (.int i))
  | str s => exact .x (.base (.str s))
  | @lst a xs e =>
    have h1 : tyN H (.ref a) = "list" := by simp only [tyN, e]
    rw [h1]
    exact .x (.base (.lst e))
  | @tup a xs e =>
    have h1 : tyN H (.ref a) = "tuple" := by simp only [tyN, e]
    rw [h1]
    exact .x (.base (.tup e))
theorem tyN_mem {H : Hp} {x : V} (h : Pl H x) : tyN H x = "NoneType" ∨ tyN H x = "bool" ∨ tyN H x = "int" ∨ tyN H x = "str" ∨ tyN H x = "tuple" ∨ tyN H x = "list" := by
  cases h with
  | non => exact Or.inl rfl
  | bl b => exact Or.inr (Or.inl rfl)
  | int i => exact Or.inr (Or.inr (Or.inl rfl))
  | str s => exact Or.inr (Or.inr (Or.inr (Or.inl rfl)))
  | lst e => exact Or.inr (Or.inr (Or.inr (Or.inr (Or.inr (by simp only [tyN, e])))))
  | tup e => exact Or.inr (Or.inr (Or.inr (Or.inr (Or.inl (by simp only [tyN, e])))))
theorem kit_nm {K : PySem.W.Frag} {a b : String} (ha : a = "NoneType" ∨ a = "bool" ∨ a = "int" ∨ a = "str" ∨ a = "tuple" ∨ a = "list")
    (hb : b = "int" ∨ b = "bool" ∨ b = "tuple" ∨ b = "list" ∨ b = "str") :
    PySem.W.kitOne K (.type a) (.type b) = some (decide (a = b) || (decide (a = "bool") && decide (b = "int"))) := by
  apply kit_ty
  rcases ha with rfl | rfl | rfl | rfl | rfl | rfl <;> rcases hb with rfl | rfl | rfl | rfl | rfl <;> decide +kernel
def xInt : V → Bool
  | .int _ => true
  | _ => false
def xBl : V → Bool
  | .bl _ => true
  | _ => false
theorem tyN_int {H : Hp} {x : V} (h : Pl H x) : decide (tyN H x = "int") = xInt x := by
  cases h with
  | lst e => simp [tyN, e, xInt]
  | tup e => simp [tyN, e, xInt]
  | _ => rfl
theorem tyN_bl {H : Hp} {x : V} (h : Pl H x) : decide (tyN H x = "bool") = xBl x := by
  cases h with
  | lst e => simp [tyN, e, xBl]
  | tup e => simp [tyN, e, xBl]
  | _ => rfl
/-- isinstance(x, int), isinstance(x, bool) of such -/
theorem isz_int {K : PySem.W.Frag} {H : Hp} {x : V} {Q : VK} (h : Pl H x) (q : Q (.bl (xInt x || xBl x)) H) : rIsZ K [x, .ty "int"] H Q := by
  refine ⟨x, .ty "int", .type (tyN H x), .type "int", _, rfl, .ty _, h.ty, kit_nm (tyN_mem h) (Or.inl rfl), ?_⟩
  rw [tyN_int h, tyN_bl h]
  simpa using q
theorem isz_bl {K : PySem.W.Frag} {H : Hp} {x : V} {Q : VK} (h : Pl H x) (q : Q (.bl (xBl x)) H) : rIsZ K [x, .ty "bool"] H Q := by
  refine ⟨x, .ty "bool", .type (tyN H x), .type "bool", _, rfl, .ty _, h.ty, kit_nm (tyN_mem h) (Or.inr (Or.inl rfl)), ?_⟩
  rw [tyN_bl h]
  simpa using q
theorem Pl.mono {H H' : Hp} {x : V} (h : Pl H x) (s : Same H H') : Pl H' x := by
  cases h with
  | non => exact .non
  | bl b => exact .bl b
  | int i => exact .int i
  | str x => exact .str x
  | lst e => exact .lst (s _ _ e)
  | tup e => exact .tup (s _ _ e)
theorem same_upd {H : Hp} {p : Addr} {o : HO} (h : H p = none) : Same H (upd H p o) := fun b x e => by
  rw [upd_ne (ne_of_none e h)]
  exact e

end XA

set_option Elab.async false
set_option linter.all false
set_option maxRecDepth 100000
set_option maxHeartbeats 4000000
/-! XC: the pen that draws; loops over enumerate. -/
namespace XA
open PySem PySem.Spec PyProof.Rows L2

theorem for_enumL {K : PySem.W.Frag} {a : Addr} {xs : List V} {g : TG} {tb : TS} {D : Ends} {σ : L2.St} {H : Hp}
    (Pv : Nat → L2.St → Hp → Prop) (h0 : Pv 0 σ H) (hq : ∀ i σ H, Pv i σ H → SqL K H a xs)
    (hs : ∀ (i : Nat) (x : V) (T : Addr) (σ : L2.St) (H : Hp), xs[i]? = some x → Pv i σ H → H T = none →
      g (.ref T) σ (upd H T (.tup [.int (i : Nat), x])) fun σ2 H2 => tb { D with nx := Pv (i + 1), ct := Pv (i + 1), bk := D.nx } σ2 H2)
    (hd : ∀ σ H, Pv xs.length σ H → D.nx σ H) :
    ∃ W : Nat → Nat → L2.St → Hp → Prop, (∃ m, W 0 m σ H) ∧ ∀ i m σ H, W i m σ H →
      ((Ite K a).stop i H ∧ D.nx σ H) ∨ ((Ite K a).go i H ∧ ∃ N : L2.St → Hp → Prop, (∀ σ' H', N σ' H' → ∃ m', m' < m ∧ W (i + 1) m' σ' H') ∧
        ∀ v H', (Ite K a).yld i H v H' → g v σ H' fun σ2 H2 => tb { D with nx := N, ct := N, bk := D.nx } σ2 H2) := by
  refine ⟨fun i m σ H => m = xs.length - i ∧ i ≤ xs.length ∧ Pv i σ H, ⟨xs.length, rfl, Nat.zero_le _, h0⟩, ?_⟩
  rintro i m σ H ⟨rfl, hi, p⟩
  have q := hq i σ H p
  by_cases hlt : i < xs.length
  · have hx : xs[i]? = some xs[i] := List.getElem?_eq_getElem hlt
    refine .inr ⟨⟨xs, _, q, hx⟩, Pv (i + 1), ?_, ?_⟩
    · intro σ' H' p'
      exact ⟨xs.length - (i + 1), by omega, rfl, hlt, p'⟩
    · rintro v H' ⟨T, x, rfl, hT, rfl, f⟩
      exact hs i x T σ H (f xs q) p hT
  · have e : i = xs.length := by omega
    subst e
    exact .inl ⟨⟨xs, q, Nat.le_refl _⟩, hd σ H p⟩

/-- all that was tracked, but at the pen, is as it was -/
def Oth (H H' : Hp) (pen : Addr) : Prop := ∀ b o, b ≠ pen → H b = some o → H' b = some o
theorem Oth.refl (H : Hp) (pen : Addr) : Oth H H pen := fun _ _ _ h => h
theorem Oth.trans {H H1 H2 : Hp} {pen : Addr} (a : Oth H H1 pen) (b : Oth H1 H2 pen) : Oth H H2 pen := fun c o n h => b c o n (a c o n h)
theorem Oth.of_same {H H' : Hp} {pen : Addr} (s : Same H H') : Oth H H' pen := fun b o _ h => s b o h
theorem Oth.new {H : Hp} {pen p : Addr} {o : HO} (h : H p = none) : Oth H (upd H p o) pen := Oth.of_same (same_upd h)
theorem Oth.seq {K : PySem.W.Frag} {H H' : Hp} {pen b : Addr} {xs : List V} (s : Oth H H' pen) (n : b ≠ pen) (h : SqL K H b xs) : SqL K H' b xs := by
  rcases h with (h | ⟨o, h⟩) | h
  · exact .inl (.inl (s _ _ n h))
  · exact .inl (.inr ⟨o, s _ _ n h⟩)
  · exact .inr h
theorem Oth.upd {H H' : Hp} {pen : Addr} {o : HO} (s : Oth H H' pen) : Oth H (L2.upd H' pen o) pen := fun b u n h => by
  rw [upd_ne n]
  exact s b u n h
/-- a pen: its cells, how often it was refilled (at most n), what is left -/
def Pen (H : Hp) (pen : Addr) (n : Int) : Prop := ∃ (c : Addr) (cells : List Int) (a l : Int),
  H pen = some (.lst [.ref c, .int a, .int l]) ∧ H c = some (.lst (cells.map V.int)) ∧ cells.length ≤ 12 ∧ 0 ≤ a ∧ a ≤ n
theorem Pen.mono {H : Hp} {pen : Addr} {n m : Int} (h : Pen H pen n) (e : n ≤ m) : Pen H pen m := by
  obtain ⟨c, cells, a, l, h1, h2, h3, h4, h5⟩ := h
  exact ⟨c, cells, a, l, h1, h2, h3, h4, by omega⟩
theorem pen_ne {H : Hp} {pen c : Addr} {cells : List Int} {a l : Int} (h1 : H pen = some (.lst [.ref c, .int a, .int l]))
    (h2 : H c = some (.lst (cells.map V.int))) : c ≠ pen := by
  rintro rfl
  rw [h1] at h2
  cases cells with
  | nil => simp at h2
  | cons x r => simp at h2
theorem Pen.same {H H' : Hp} {pen : Addr} {n : Int} (h : Pen H pen n) (s : Same H H') : Pen H' pen n := by
  obtain ⟨c, cells, a, l, h1, h2, h3⟩ := h
  exact ⟨c, cells, a, l, s _ _ h1, s _ _ h2, h3⟩
/-- the pen's own numbers are changed -/
theorem pen_put {H H' : Hp} {pen c : Addr} {cells : List Int} {a l a' l' n : Int} (h1 : H pen = some (.lst [.ref c, .int a, .int l]))
    (h2 : H c = some (.lst (cells.map V.int))) (h3 : cells.length ≤ 12) (s : Oth H H' pen) (g1 : 0 ≤ a') (g2 : a' ≤ n) :
    Pen (L2.upd H' pen (.lst [.ref c, .int a', .int l'])) pen n := by
  have ne := pen_ne h1 h2
  exact ⟨c, cells, a', l', upd_same, by rw [upd_ne ne]; exact s _ _ ne h2, h3, g1, g2⟩
theorem cut_take (xs : List V) (n : Nat) : cutV xs none (some (n : Int)) = xs.take n := by
  unfold cutV
  rw [HT.sIx_none, HT.sIx_nat, List.drop_zero, Nat.sub_zero]
  by_cases h : n ≤ xs.length
  · rw [Nat.min_eq_left h]
  · rw [Nat.min_eq_right (by omega), List.take_of_length_le (Nat.le_refl _), List.take_of_length_le (by omega)]
theorem cut_mid (xs : List V) (n m : Nat) : cutV xs (some (n : Int)) (some (m : Int)) = (xs.drop n).take (m - n) := by
  unfold cutV
  rw [HT.sIx_nat, HT.sIx_nat]
  by_cases h : n ≤ xs.length
  · rw [Nat.min_eq_left h]
    by_cases h2 : m ≤ xs.length
    · rw [Nat.min_eq_left h2]
    · rw [Nat.min_eq_right (by omega), List.take_of_length_le (by rw [List.length_drop]; omega), List.take_of_length_le (by rw [List.length_drop]; omega)]
  · have e : xs.drop n = [] := List.drop_eq_nil_of_le (by omega)
    have e2 : xs.drop (min n xs.length) = [] := List.drop_eq_nil_of_le (by omega)
    rw [e, e2, List.take_nil, List.take_nil]
theorem atI_in {α : Type} {xs : List α} {i : Int} (h0 : 0 ≤ i) (h1 : i < xs.length) : ∃ x, x ∈ xs ∧ atI xs i = some x ∧ xs[i.toNat]? = some x := by
  have hj : i.toNat < xs.length := by omega
  refine ⟨xs[i.toNat], List.getElem_mem hj, ?_, List.getElem?_eq_getElem hj⟩
  have e : atI xs ((i.toNat : Nat) : Int) = some xs[i.toNat] := atI_nat (List.getElem?_eq_getElem hj)
  rw [Int.toNat_of_nonneg h0] at e
  exact e
theorem atI_int {ns : List Int} {i : Int} (h0 : 0 ≤ i) (h1 : i < ns.length) : ∃ z, atI (ns.map V.int) i = some (.int z) ∧ ns[i.toNat]? = some z := by
  obtain ⟨x, _, h2, h3⟩ := atI_in (xs := ns.map V.int) h0 (by rw [List.length_map]; exact h1)
  rw [List.getElem?_map] at h3
  cases e : ns[i.toNat]? with
  | none => rw [e] at h3; cases h3
  | some z =>
    rw [e] at h3
    obtain rfl : V.int z = x := Option.some.inj h3
    exact ⟨z, h2, rfl⟩
theorem ixN_in {n : Nat} {i : Int} (h0 : 0 ≤ i) (h1 : i < n) : ixN n i = some i.toNat := by
  unfold ixN
  rw [if_pos h0, if_pos h1]
/-- the primes that spread a cell -/
def spreads : List Int := [2147483629, 2147483587, 2147483579, 2147483563, 2147483549, 2147483543, 2147483497, 2147483489, 2147483477, 2147483423, 2147483399, 2147483353, 2147483323]
theorem spread_at (i : Int) : ∃ v : Int, atI (spreads.map V.int) (i % 13) = some (.int v) ∧ 0 < v ∧ v < 2147483647 := by
  have h : ∀ j : Nat, j < 13 → ∃ v : Int, (spreads.map V.int)[j]? = some (.int v) ∧ 0 < v ∧ v < 2147483647 := by
    intro j hj
    have hl : j < spreads.length := hj
    refine ⟨spreads[j], by rw [List.getElem?_map, List.getElem?_eq_getElem hl] <;> rfl, ?_⟩
    have all : ∀ x ∈ spreads, 0 < x ∧ x < 2147483647 := by decide
    exact all _ (List.getElem_mem hl)
  obtain ⟨v, h1, h2, h3⟩ := h (i % 13).toNat (by omega)
  refine ⟨v, ?_, h2, h3⟩
  have e : i % 13 = (((i % 13).toNat : Nat) : Int) := by omega
  rw [e]
  exact atI_nat h1
theorem mul_in {a b A B : Int} (h1 : 0 ≤ a) (h2 : a ≤ A) (h3 : 0 ≤ b) (h4 : b ≤ B) : 0 ≤ a * b ∧ a * b ≤ A * B :=
  ⟨Int.mul_nonneg h1 h3, Int.mul_le_mul h2 h4 h3 (by omega)⟩
end XA

set_option Elab.async false
set_option linter.all false
set_option maxRecDepth 100000
set_option maxHeartbeats 4000000
/-! XD: data. -/
namespace XA
open PySem PySem.Spec PyProof.Rows L2
theorem dpAll_ints {K : PySem.W.Frag} {H : Hp} : ∀ ns : List Int, DpAll K H (ns.map V.int) (ns.map PyData.int)
  | [] => .nil
  | n :: r => .cons (.int n) (dpAll_ints r)
theorem lay_ints : ∀ ns : List Int, PyData.canLayAll0 (ns.map PyData.int) = true
  | [] => rfl
  | n :: r => by
    rw [List.map_cons]
    simp only [PyData.canLayAll0, PyData.canLay0, lay_ints r, Bool.and_self]
theorem depth_ints : ∀ ns : List Int, PyData.depthAll (ns.map PyData.int) = 0
  | [] => rfl
  | n :: r => by
    rw [List.map_cons]
    simp only [PyData.depthAll, PyData.depth, depth_ints r, Nat.max_self]
theorem shaped_ints (ns : List Int) : SeqAt.shaped (.list (ns.map PyData.int)) = true := by
  unfold SeqAt.shaped
  simp only [PyData.canLay0, PyData.depth, lay_ints, depth_ints]
  decide
theorem eqv_nil (ns : List Int) : PyData.eqv (.list (ns.map PyData.int)) (.list []) = ns.isEmpty := by
  cases ns with
  | nil => rfl
  | cons n r => rfl
/-- what a refused call leaves in a name: an exception of the class called D -/
def isExc (K : PySem.W.Frag) (F : Hp) (v : V) (D : Str) : Prop := ∃ a, v = .ref a ∧ F a = some (ExH (.ref (He.ga K D)) none a)
theorem isz_exc {K : PySem.W.Frag} {F G : Hp} {v : V} {D C : Str} {Q : VK} {b : Bool} (e : ExcC K (He.ga K D)) (h : isExc K F v D) (s : Same F G)
    (k : PySem.W.kitOne K (.ref (He.ga K D)) (.ref (He.ga K C)) = some b) (q : Q (.bl b) G) : rIsZ K [v, .ref (He.ga K C)] G Q := by
  obtain ⟨a, rfl, ha⟩ := h
  exact ⟨.ref a, .ref (He.ga K C), _, _, b, rfl, .own _, .exc e (s _ _ ha), k, q⟩
theorem isz_excT {K : PySem.W.Frag} {F G : Hp} {v : V} {D : Str} {n : String} {Q : VK} {b : Bool} (e : ExcC K (He.ga K D)) (h : isExc K F v D) (s : Same F G)
    (k : PySem.W.kitOne K (.ref (He.ga K D)) (.type n) = some b) (q : Q (.bl b) G) : rIsZ K [v, .ty n] G Q := by
  obtain ⟨a, rfl, ha⟩ := h
  exact ⟨.ref a, .ty n, _, _, b, rfl, .ty _, .exc e (s _ _ ha), k, q⟩
theorem isz_non {K : PySem.W.Frag} {G : Hp} {C : Str} {Q : VK} (k : PySem.W.kitOne K (.type "NoneType") (.ref (He.ga K C)) = some false) (q : Q (.bl false) G) :
    rIsZ K [.non, .ref (He.ga K C)] G Q := ⟨.non, .ref (He.ga K C), _, _, false, rfl, .own _, .x (.base .non), k, q⟩
end XA
namespace XA
open PySem PySem.Spec PyProof.Rows L2
theorem Pl.oth {H H' : Hp} {x : V} {pen : Addr} {n : Int} (h : Pl H x) (o : Oth H H' pen) (P : Pen H' pen n) : Pl H' x := by
  obtain ⟨c, cells, a, l, h1, _⟩ := P
  cases h with
  | non => exact .non
  | bl b => exact .bl b
  | int i => exact .int i
  | str x => exact .str x
  | @lst b xs e =>
    by_cases hb : b = pen
    · subst hb
      exact .lst h1
    · exact .lst (o _ _ hb e)
  | @tup b xs e =>
    by_cases hb : b = pen
    · subst hb
      exact .lst h1
    · exact .tup (o _ _ hb e)
end XA

set_option Elab.async false
set_option linter.all false
set_option maxRecDepth 100000
set_option maxHeartbeats 4000000
/-! XE: data that is handed about: its reading, isinstance, tuples cut, glued, repeated, shown. -/
namespace XA
open PySem PySem.Spec PyProof.Rows L2

/-! ### data; av: an address that no list of it stands at -/
mutual
inductive Da (K : PySem.W.Frag) (H : Hp) (av : Addr) : V → PyData → Prop
  | non : Da K H av .non .none
  | bl (b : Bool) : Da K H av (.bl b) (.bool b)
  | int (i : Int) : Da K H av (.int i) (.int i)
  | str (x : Str) : Da K H av (.str x) (.str x)
  | lst {a : Addr} {xs : List V} {ds : List PyData} : a ≠ av → SqL K H a xs → DaAll K H av xs ds → Da K H av (.ref a) (.list ds)
  | tup {a : Addr} {xs : List V} {ds : List PyData} : SqT K H a xs → DaAll K H av xs ds → Da K H av (.ref a) (.tuple ds)
inductive DaAll (K : PySem.W.Frag) (H : Hp) (av : Addr) : List V → List PyData → Prop
  | nil : DaAll K H av [] []
  | cons {v : V} {vs : List V} {d : PyData} {ds : List PyData} : Da K H av v d → DaAll K H av vs ds → DaAll K H av (v :: vs) (d :: ds)
end
section
variable {K : PySem.W.Frag} {H H' : Hp} {av : Addr}
theorem Same.seqT {a : Addr} {xs : List V} (e : Same H H') (h : SqT K H a xs) : SqT K H' a xs := by
  rcases h with (h | ⟨o, h⟩) | h
  · exact .inl (.inl (e _ _ h))
  · exact .inl (.inr ⟨o, e _ _ h⟩)
  · exact .inr h
theorem Oth.seqT {pen a : Addr} {xs ps : List V} (e : Oth H H' pen) (hp : H pen = some (.lst ps)) (h : SqT K H a xs) : SqT K H' a xs := by
  rcases h with (h | ⟨o, h⟩) | h
  · refine .inl (.inl (e _ _ ?_ h))
    rintro rfl
    rw [hp] at h
    cases h
  · refine .inl (.inr ⟨o, e _ _ ?_ h⟩)
    rintro rfl
    rw [hp] at h
    cases h
  · exact .inr h
mutual
theorem Da.dp : ∀ (d : PyData) (v : V), Da K H av v d → Dp K H v d
  | .none, _, h => by cases h; exact .non
  | .bool b, _, h => by cases h; exact .bl b
  | .int i, _, h => by cases h; exact .int i
  | .str x, _, h => by cases h; exact .str x
  | .list ds, _, h => by
    cases h with
    | lst n hs ha => exact .lst hs (DaAll.dp ds _ ha)
  | .tuple ds, _, h => by
    cases h with
    | tup hs ha => exact .tup hs (DaAll.dp ds _ ha)
  | .dict _, _, h => by cases h
theorem DaAll.dp : ∀ (ds : List PyData) (vs : List V), DaAll K H av vs ds → DpAll K H vs ds
  | [], _, h => by cases h; exact .nil
  | d :: ds, _, h => by
    cases h with
    | cons h1 h2 => exact .cons (Da.dp d _ h1) (DaAll.dp ds _ h2)
end
mutual
theorem Da.move (hl : ∀ a xs, a ≠ av → SqL K H a xs → SqL K H' a xs) (ht : ∀ a xs, SqT K H a xs → SqT K H' a xs) : ∀ (d : PyData) (v : V), Da K H av v d → Da K H' av v d
  | .none, _, h => by cases h; exact .non
  | .bool b, _, h => by cases h; exact .bl b
  | .int i, _, h => by cases h; exact .int i
  | .str x, _, h => by cases h; exact .str x
  | .list ds, _, h => by
    cases h with
    | lst n hs ha => exact .lst n (hl _ _ n hs) (DaAll.move hl ht ds _ ha)
  | .tuple ds, _, h => by
    cases h with
    | tup hs ha => exact .tup (ht _ _ hs) (DaAll.move hl ht ds _ ha)
  | .dict _, _, h => by cases h
theorem DaAll.move (hl : ∀ a xs, a ≠ av → SqL K H a xs → SqL K H' a xs) (ht : ∀ a xs, SqT K H a xs → SqT K H' a xs) : ∀ (ds : List PyData) (vs : List V), DaAll K H av vs ds → DaAll K H' av vs ds
  | [], _, h => by cases h; exact .nil
  | d :: ds, _, h => by
    cases h with
    | cons h1 h2 => exact .cons (Da.move hl ht d _ h1) (DaAll.move hl ht ds _ h2)
end
theorem Da.same {v : V} {d : PyData} (h : Da K H av v d) (s : Same H H') : Da K H' av v d := Da.move (fun _ _ _ q => s.seq q) (fun _ _ q => Same.seqT s q) d v h
theorem DaAll.same {vs : List V} {ds : List PyData} (h : DaAll K H av vs ds) (s : Same H H') : DaAll K H' av vs ds := DaAll.move (fun _ _ _ q => s.seq q) (fun _ _ q => Same.seqT s q) ds vs h
theorem Da.oth {v : V} {d : PyData} {ps : List V} (h : Da K H av v d) (hp : H av = some (.lst ps)) (s : Oth H H' av) : Da K H' av v d := Da.move (fun _ _ n q => s.seq n q) (fun _ _ q => Oth.seqT s hp q) d v h
theorem DaAll.oth {vs : List V} {ds : List PyData} {ps : List V} (h : DaAll K H av vs ds) (hp : H av = some (.lst ps)) (s : Oth H H' av) : DaAll K H' av vs ds := DaAll.move (fun _ _ n q => s.seq n q) (fun _ _ q => Oth.seqT s hp q) ds vs h
theorem DaAll.length : ∀ {vs : List V} {ds : List PyData}, DaAll K H av vs ds → vs.length = ds.length
  | _, _, .nil => rfl
  | _, _, .cons _ t => by rw [List.length_cons, List.length_cons, DaAll.length t]
theorem DaAll.get : ∀ {vs : List V} {ds : List PyData} {i : Nat} {v : V}, DaAll K H av vs ds → vs[i]? = some v → ∃ d, ds[i]? = some d ∧ Da K H av v d
  | _, _, _, _, .nil, e => by simp at e
  | _, _, 0, _, .cons r _, e => by simp at e; subst e; exact ⟨_, rfl, r⟩
  | _, _, i + 1, v, .cons _ t, e => by
    obtain ⟨d, h1, h2⟩ := DaAll.get (i := i) (v := v) t (by simpa using e)
    exact ⟨d, by simpa using h1, h2⟩
theorem DaAll.getD : ∀ {vs : List V} {ds : List PyData} {i : Nat} {d : PyData}, DaAll K H av vs ds → ds[i]? = some d → ∃ v, vs[i]? = some v ∧ Da K H av v d
  | _, _, _, _, .nil, e => by simp at e
  | _, _, 0, _, .cons r _, e => by simp at e; subst e; exact ⟨_, rfl, r⟩
  | _, _, i + 1, d, .cons _ t, e => by
    obtain ⟨v, h1, h2⟩ := DaAll.getD (i := i) (d := d) t (by simpa using e)
    exact ⟨v, by simpa using h1, h2⟩
theorem DaAll.append : ∀ {vs us : List V} {ds es : List PyData}, DaAll K H av vs ds → DaAll K H av us es → DaAll K H av (vs ++ us) (ds ++ es)
  | _, _, _, _, .nil, s => s
  | _, _, _, _, .cons r t, s => .cons r (DaAll.append t s)
theorem DaAll.take : ∀ {vs : List V} {ds : List PyData} (n : Nat), DaAll K H av vs ds → DaAll K H av (vs.take n) (ds.take n)
  | _, _, 0, _ => .nil
  | _, _, _ + 1, .nil => .nil
  | _, _, n + 1, .cons r t => .cons r (DaAll.take n t)
theorem DaAll.drop : ∀ {vs : List V} {ds : List PyData} (n : Nat), DaAll K H av vs ds → DaAll K H av (vs.drop n) (ds.drop n)
  | _, _, 0, r => r
  | _, _, _ + 1, .nil => .nil
  | _, _, n + 1, .cons _ t => DaAll.drop n t
theorem DaAll.ints : ∀ ns : List Int, DaAll K H av (ns.map V.int) (ns.map PyData.int)
  | [] => .nil
  | n :: r => .cons (.int n) (DaAll.ints r)
theorem DaAll.isInts : ∀ {vs : List V} {ns : List Int}, DaAll K H av vs (ns.map PyData.int) → vs = ns.map V.int
  | [], [], _ => rfl
  | _, n :: r, h => by
    rw [List.map_cons] at h
    cases h with
    | cons h1 h2 =>
      cases h1
      rw [DaAll.isInts h2, List.map_cons]
  | _ :: _, [], h => by cases h
theorem Da.isTup {v : V} {ds : List PyData} (h : Da K H av v (.tuple ds)) : ∃ a xs, v = .ref a ∧ SqT K H a xs ∧ DaAll K H av xs ds := by
  cases h with
  | tup hs ha => exact ⟨_, _, rfl, hs, ha⟩
theorem Da.isLst {v : V} {ds : List PyData} (h : Da K H av v (.list ds)) : ∃ a xs, v = .ref a ∧ a ≠ av ∧ SqL K H a xs ∧ DaAll K H av xs ds := by
  cases h with
  | lst n hs ha => exact ⟨_, _, rfl, n, hs, ha⟩
end

/-! ### kinds -/
def tyD : PyData → String
  | .none => "NoneType"
  | .bool _ => "bool"
  | .int _ => "int"
  | .str _ => "str"
  | .list _ => "list"
  | .tuple _ => "tuple"
  | .dict _ => "dict"
theorem Da.ty {K : PySem.W.Frag} {H : Hp} {av : Addr} {v : V} {d : PyData} (h : Da K H av v d) : TyX K H v (.type (tyD d)) := by
  cases h with
  | non => exact .base .non
  | bl b => exact .base (.bl b)
  | int i => exact .base (.int i)
  | str s => exact .base (.str s)
  | lst n hs ha =>
    rcases hs with (e | ⟨o, e⟩) | ⟨o, its, n, k, c, _⟩
    · exact .base (.lst e)
    · exact .base (.frz e)
    · exact .kList k c
  | tup hs ha =>
    rcases hs with (e | ⟨o, e⟩) | ⟨o, its, n, k, c, _⟩
    · exact .base (.tup e)
    · exact .fTuple e
    · exact .kTuple k c
/-- isinstance(d, T) -/
def isD (d : PyData) (T : String) : Bool := decide (tyD d = T) || (decide (tyD d = "bool") && decide (T = "int"))
theorem isz_d {K : PySem.W.Frag} {H : Hp} {av : Addr} {x : V} {d : PyData} {Q : VK} {T : String} (h : Da K H av x d)
    (hT : T = "int" ∨ T = "bool" ∨ T = "tuple" ∨ T = "list" ∨ T = "str") (q : Q (.bl (isD d T)) H) : rIsZ K [x, .ty T] H Q := by
  have hk : PySem.W.kitOne K (.type (tyD d)) (.type T) = some (isD d T) := by
    cases d with
    | dict z => cases h
    | none => exact kit_nm (Or.inl rfl) hT
    | bool z => exact kit_nm (Or.inr (Or.inl rfl)) hT
    | int z => exact kit_nm (Or.inr (Or.inr (Or.inl rfl))) hT
    | str z => exact kit_nm (Or.inr (Or.inr (Or.inr (Or.inl rfl)))) hT
    | tuple z => exact kit_nm (Or.inr (Or.inr (Or.inr (Or.inr (Or.inl rfl))))) hT
    | list z => exact kit_nm (Or.inr (Or.inr (Or.inr (Or.inr (Or.inr rfl))))) hT
  exact ⟨x, .ty T, .type (tyD d), .type T, _, rfl, .ty _, .x h.ty, hk, q⟩
/-- a whole number (no truth) -/
def whole : PyData → Bool
  | .int _ => true
  | _ => false

/-! ### tuples -/
def rCatD (K : PySem.W.Frag) : R2 := fun x y H Q => ∃ a b xs ys, x = .ref a ∧ y = .ref b ∧ SqT K H a xs ∧ SqT K H b ys ∧ xs.length + ys.length ≤ sizeLine ∧
  ∀ p H', Same H H' → SqT K H' p (xs ++ ys) → Q (.ref p) H'
theorem op_catD {X : Cx} : OpR X (binaryOp .Add) (rCatD X.K) := OpR.imp op_catA (by
  rintro x y H Q ⟨a, b, xs, ys, rfl, rfl, ha, hb, hl, q⟩
  refine ⟨a, b, xs, ys, rfl, rfl, ha, hb, hl, ?_, ?_, ?_⟩
  · rintro rfl
    exact q b H (Same.refl H) hb
  · rintro _ rfl
    exact q a H (Same.refl H) (by rw [List.append_nil]; exact ha)
  · intro _ _ p np
    exact q p _ (same_upd np) (.inl (.inl upd_same)))
theorem SlR.imp {X : Cx} {r r' : V → Option Int → Option Int → Hp → VK → Prop} (h : SlR X r) (i : ∀ x l u H Q, r' x l u H Q → r x l u H Q) : SlR X r' :=
  fun pins s σ H x v vl vu lo hi sl Q I rx hs pl pu q => h pins s σ H x v vl vu lo hi sl Q I rx hs pl pu (i _ _ _ _ _ q)
def rSlD (K : PySem.W.Frag) : V → Option Int → Option Int → Hp → VK → Prop := fun x lo hi H Q => ∃ a xs, x = .ref a ∧ SqT K H a xs ∧
  ∀ p H', Same H H' → SqT K H' p (cutV xs lo hi) → Q (.ref p) H'
theorem sl_tupD {X : Cx} : SlR X (rSlD X.K) := SlR.imp sl_tupA (by
  rintro x lo hi H Q ⟨a, xs, rfl, hx, q⟩
  refine ⟨a, xs, rfl, hx, ?_, ?_⟩
  · rintro ⟨h1, h2⟩
    refine q a H (Same.refl H) ?_
    have e : cutV xs lo hi = xs := by
      unfold cutV
      rw [h1, h2, List.drop_zero, Nat.sub_zero, List.take_length]
    rw [e]
    exact hx
  · intro _ p np
    exact q p _ (same_upd np) (.inl (.inl upd_same)))
end XA

set_option Elab.async false
set_option linter.all false
set_option maxRecDepth 100000
set_option maxHeartbeats 4000000
/-! XF: a tuple repeated; what is shown; the law's own def at the caller. -/
namespace XA
open PySem PySem.Spec PyProof.Rows L2
theorem tuple_mul_one (l : Addr) (items : Array Value) (n : Nat) (dd : Option Addr) (sl : Array (Option Value)) (u : Tok) :
    Meets (Builtin.«tuple.__mul__» ⟨[.ref l, .int 1 u], []⟩) (fun _ R s => s.heap.get? l = some { cls := .type "tuple", dict := dd, data := .seq items n, slots := sl } ∧
      R (.ok (.ret (Value.ref l))) s) :=
  .of_wp fun prog w A R s h => by
    obtain ⟨hp, g, d, tk, os⟩ := s
    obtain ⟨hl, h⟩ := h
    have f1 := AutoSeq1.idx_int
    have c1 : (items.isEmpty || (1 : Int) == 1) = true := by simp
    wp_walk using wpAny_loadPart' hl
    repeat (first
      | (refine wpAny_ite_false (decide_eq_false (by decide)) ?_; wp_walk using wpAny_loadPart' hl)
      | (refine wpAny_ite_true (decide_eq_true c1) ?_; wp_walk using wpAny_loadPart' hl))
    exact ⟨_, rfl, h⟩
theorem tuple_mul_zero (l : Addr) (items : Array Value) (n : Nat) (dd : Option Addr) (sl : Array (Option Value)) (u : Tok) (hi : items.isEmpty = false) :
    Meets (Builtin.«tuple.__mul__» ⟨[.ref l, .int 0 u], []⟩) (fun _ R s => s.heap.get? l = some { cls := .type "tuple", dict := dd, data := .seq items n, slots := sl } ∧
      R (.ok (.ret (Value.ref s.heap.objs.size))) { s with heap := s.heap.push { cls := Value.type "tuple", data := Data.seq #[] }, toks := s.toks }) :=
  .of_wp fun prog w A R s h => by
    obtain ⟨hp, g, d, tk, os⟩ := s
    obtain ⟨hl, h⟩ := h
    have f1 := AutoSeq1.idx_int
    have c1 : (items.isEmpty || (0 : Int) == 1) = false := by rw [hi]; rfl
    have c2 : (decide ((0 : Int) ≤ 0) || items.isEmpty) = true := by simp
    wp_walk using wpAny_loadPart' hl
    repeat (first
      | (refine wpAny_ite_false (decide_eq_false (by rw [c1]; exact Bool.false_ne_true)) ?_; wp_walk using wpAny_loadPart' hl)
      | (refine wpAny_ite_false (decide_eq_false (by decide)) ?_; wp_walk using wpAny_loadPart' hl)
      | (refine wpAny_ite_true (decide_eq_true c2) ?_; wp_walk using wpAny_loadPart' hl))
    exact ⟨_, rfl, h⟩
/-- a tuple (not empty) so often: k from 0 on -/
def rRepD (K : PySem.W.Frag) : R2 := fun x y H Q => ∃ l k xs, x = .ref l ∧ y = .int k ∧ SqT K H l xs ∧ xs ≠ [] ∧ 0 ≤ k ∧ (xs.length : Int) * k ≤ 1000000 ∧
  ∀ p H', Same H H' → SqT K H' p (List.replicate k.toNat xs).flatten → Q (.ref p) H'
theorem op_repD {X : Cx} : OpR X (binaryOp .Mult) (rRepD X.K) := by
  intro pins s σ H x y v u Q I rx ry h
  obtain ⟨l, k, xs, rfl, rfl, hT, hne, h0, hmul, q⟩ := h
  cases rx
  obtain ⟨t, rfl⟩ := ry
  obtain ⟨its, r, ⟨⟨cls, dd, data, sl⟩, ho, hc, n, hd⟩, hs⟩ := I.tuple hT
  simp only at hc hd
  subst hc hd
  have hle : its.length = xs.length := r.length.symm
  have hi : its.toArray.isEmpty = false := by
    cases its with
    | nil => exact absurd (List.eq_nil_of_length_eq_zero hle.symm) hne
    | cons a b => rfl
  have hpos : 1 ≤ xs.length := by
    cases xs with
    | nil => exact absurd rfl hne
    | cons a b => rw [List.length_cons]; omega
  have hk : k ≤ 1000000 := by
    have z : 1 * k ≤ (xs.length : Int) * k := Int.mul_le_mul_of_nonneg_right (by omega) h0
    omega
  have hsz0 : its.toArray.size = xs.length := by rw [List.size_toArray, hle]
  refine wpAny_binaryOp_repeat_ref (T := "tuple") (U := "int") (by decide) ⟨_, ho, rfl⟩ (fun s' => typeIs_int s' k t) noFill_tuple_mul F.fills_int_mul F.slot_int_rmul repeat_tuple F.slot_int_index.lookup
    (call_meets F.slot_int_rmul (typeIs_int s k t) F.entry_int_rmul (F.args_int_rmul_2 _ _) (int_rmul_tuple k t l its.toArray n dd sl) ⟨ho, rfl, ⟨_, ho, rfl⟩, ?_⟩)
  by_cases k0 : k = 0
  · subst k0
    refine call_meets F.slot_tuple_mul ⟨_, ho, rfl⟩ F.entry_tuple_mul (F.args_tuple_mul_2 _ _) (tuple_mul_zero l its.toArray n dd sl t hi) ⟨ho, ?_⟩
    have new := I.hok.fresh (Nat.le_refl s.heap.objs.size)
    refine ⟨.ref s.heap.objs.size, _, I.laid (t' := s.toks) (o := .tup []) (fun b ob q => Heap.get?_push_of_some _ q) (Nat.le_refl _) ?_, rfl, q _ _ (same_upd new) (.inl (.inl upd_same))⟩
    exact ⟨Nat.zero_le _, [], .nil, IsTup.new _ _⟩
  by_cases k1 : k = 1
  · subst k1
    refine call_meets F.slot_tuple_mul ⟨_, ho, rfl⟩ F.entry_tuple_mul (F.args_tuple_mul_2 _ _) (tuple_mul_one l its.toArray n dd sl t) ⟨ho, ?_⟩
    refine ⟨.ref l, H, I, rfl, q _ _ (Same.refl H) ?_⟩
    have e : (List.replicate (1 : Int).toNat xs).flatten = xs := by simp
    rw [e]
    exact hT
  have flen : (List.replicate k.toNat its).flatten.length ≤ sizeLine := by
    rw [PyProof.Rows.lm_len_rep_flat, hle, sizeLine_eq]
    have e : ((k.toNat * xs.length : Nat) : Int) = (xs.length : Int) * k := by
      rw [Int.natCast_mul, Int.toNat_of_nonneg h0, Int.mul_comm]
    omega
  have c0 : (decide (k < -(2 ^ 63)) || decide (k ≥ 2 ^ 63)) = false := by
    rw [decide_eq_false (by omega), decide_eq_false (by omega)] <;> rfl
  have c1 : (its.toArray.isEmpty || k == 1) = false := by
    rw [hi, Bool.false_or]
    exact beq_eq_false_iff_ne.mpr k1
  have c2 : (decide (k ≤ 0) || its.toArray.isEmpty) = false := by
    rw [hi, Bool.or_false]
    exact decide_eq_false (by omega)
  have c4 : Builtin.Tuple.tupleTooMany (((its.toArray.size : Nat) : Int) * k) = false := by
    unfold Builtin.Tuple.tupleTooMany
    rw [sizeLine_eq, hsz0]
    exact decide_eq_false (by omega)
  have c3 : ¬ ((its.toArray.size : Nat) : Int) * k > (2 ^ 63 - 1) / 8 := by
    rw [hsz0]
    omega
  refine call_meets F.slot_tuple_mul ⟨_, ho, rfl⟩ F.entry_tuple_mul (F.args_tuple_mul_2 _ _) (tuple_mulW l its.toArray n dd sl k t c0 c1 c2 c3 c4 (by rw [size_rep, List.size_toArray]; exact flen)) ⟨ho, ?_⟩
  rw [size_rep]
  have new := I.hok.fresh (Nat.le_refl s.heap.objs.size)
  refine ⟨.ref s.heap.objs.size, _, I.laid (t' := s.toks) (o := .tup (List.replicate k.toNat xs).flatten) (fun b ob q => Heap.get?_push_of_some _ q) (Nat.le_refl _) ?_, rfl, q _ _ (same_upd new) (.inl (.inl upd_same))⟩
  refine ⟨?_, _, r.rep k.toNat, IsTup.new _ _⟩
  rw [PyProof.Rows.lm_len_rep_flat] at flen ⊢
  rw [← hle]
  exact flen

/-! ### what is shown -/
def rReprD (K : PySem.W.Frag) : List V → Hp → VK → Prop := fun xs H Q => ∃ (x : V) (d : PyData), xs = [x] ∧ Dp K H x d ∧ d.showable = true ∧ d.hasDict = false ∧ d.depth ≤ 100 ∧ d.shown.length ≤ sizeLine ∧ Q (.str d.shown) H
theorem call_reprD {X : Cx} (hg : X.A.guards = some []) (hu : X.A.units + 150 < cLine) : CallR X (.builtin "repr") (rReprD X.K) := by
  intro pins s σ H xs us Q I r h
  obtain ⟨x, d, rfl, hd, h1, h2, h3, h4, q⟩ := h
  obtain ⟨u, rfl, ru⟩ := Vals.one r
  cases hd with
  | non =>
    obtain rfl : u = Value.none := ru
    exact P.repr_of_none ⟨.str "None", H, I.tok _, ⟨_, rfl⟩, q⟩
  | bl b =>
    obtain rfl : u = Value.bool b := ru
    exact P.repr_of_bool ⟨.str (if b then "True" else "False"), H, I.tok _, ⟨_, rfl⟩, q⟩
  | int i =>
    obtain ⟨t, rfl⟩ := ru
    exact P.repr_of_int (of_decide_eq_true h1) ⟨.str (toString i), H, I.tok _, ⟨_, rfl⟩, q⟩
  | str z =>
    obtain ⟨t, rfl⟩ := ru
    exact P.repr_of_str ⟨.str (reprText z), H, I.tok _, ⟨_, rfl⟩, q⟩ h4
  | @lst a ys ds hs ha =>
    obtain ⟨as, rd⟩ := Dp.reads I _ _ _ (.lst hs ha) ru
    obtain rfl : u = Value.ref a := ru
    refine repr_of_reads' rd h1 (PyData.noDict_hsm h2) hg (by omega) (fun b o e => e) (fun h' t tk hk => ?_) h4
    exact ⟨.str _, H, I.kept hk, ⟨_, rfl⟩, q⟩
  | @tup a ys ds hs ha =>
    obtain ⟨as, rd⟩ := Dp.reads I _ _ _ (.tup hs ha) ru
    obtain rfl : u = Value.ref a := ru
    refine repr_of_reads' rd h1 (PyData.noDict_hsm h2) hg (by omega) (fun b o e => e) (fun h' t tk hk => ?_) h4
    exact ⟨.str _, H, I.kept hk, ⟨_, rfl⟩, q⟩
end XA

set_option Elab.async false
set_option linter.all false
set_option maxRecDepth 100000
set_option maxHeartbeats 4000000
/-! XG: the law's own def, walked at the caller itself (nothing is being shown there). -/
namespace XA
open PySem PySem.Spec PyProof.Rows L2

/-- the def at f keeps its promise where it is called at A -/
def FnAt (P : Program) (w : World) (K : PySem.W.Frag) (mg : Str → Option Value) (base : Heap) (CX : CXT) (A : Around) (f : Addr) (fd : FuncData) (ps : List Str) (sp : Sp) : Prop :=
  ∀ (outer : List Env) (s : Shared) (H : Hp) (us : List Value) (vs : List V) (Q : VK) (E : XK), Env0 P w K mg base A outer s H →
    BindsTo s fd ⟨us, []⟩ (ps.zip us) → Vals vs us → sp vs H Q E → codeAny (model P w) A (.call (.ref f) ⟨us, []⟩) (CR CX outer P w H s Q E) s
theorem fnAt_of {P : Program} {w : World} {K : PySem.W.Frag} {mg : Str → Option Value} {base : Heap} {CX : CXT} {A : Around} {k : Nat} {x : Str} {N ps : List Str} {sp : Sp} {st : Stmt} {fd : FuncData}
    (F : FnP K x st fd) (S : FnScope N ps (defScope st)) (len : ∀ vs H Q E, sp vs H Q E → vs.length = ps.length) (hr : Room (k + 1) A)
    (body : ∀ (cdv : Value) (outer : List Env) (s : Shared) (H : Hp) (vs : List V) (Q : VK) (E : XK), Room k (A.deeper (envOfC x (defScope st) s.heap.objs.size (He.ga K x) cdv)) → sp vs H Q E →
      ∃ t, PSs (cxOf CX P w K mg base N x (defScope st) (He.ga K x) cdv A outer s H E) (defBody st) t ∧ t { nx := fun _ H' => Q .non H', rt := Q } (start N vs) H) :
    FnAt P w K mg base CX A (He.ga K x) fd ps sp := by
  obtain ⟨oc, od, dV, kV, doc, pm, an, cdv, ct, osl, rfl, lk, hcd, _, _⟩ := F.ex
  intro outer s H us vs Q E e0 hb r hsp
  have hl := len _ _ _ _ hsp
  have KX : K.In s.heap := by
    apply e0.mod.kin.keeps
    intro b o e
    exact (e0.bs b o e).1
  have lim : s.heap.NoLimit := by
    apply e0.mod.nolimit.keeps
    intro b o e
    exact (e0.bs b o e).1
  have kinds : ∀ y ∈ ps.zip us, (defScope st).names.lookup y.1 = some .local ∨
      ((defScope st).names.lookup y.1 = some .cell ∧ ((cellsFrom (s.heap.objs.size + 1) (defScope st).names []).lookup y.1).isSome = true) := by
    rintro ⟨n, v⟩ hy
    rcases S.par n (List.of_mem_zip hy).1 with q | q
    · exact Or.inl q
    · exact Or.inr ⟨q, PySem.W.cellsFrom_some _ _ _ (.inl q)⟩
  refine codeAny_call_function hr.depth (KX _ _ lk) rfl S.co S.gen rfl (PySem.W.codeRec_of KX hcd) (hb _ _ _ _ ?_)
  apply wpAny_newFunctionEnv_cells S.kind kinds
  intro env he s1 z
  subst he
  refine ⟨lim.keeps z.toInCall.keep, codeAny_func ?_⟩
  obtain ⟨t, ht, hq⟩ := body cdv outer s H vs Q E (hr.deeper _) hsp
  have I := inv_start (CX := CX) (E := E) S hr.hd e0 hl r z
  have run := ht.run [] s1 (start N vs) H _ I hq
  refine wpAny_mono run ?_ (fun e s' hs => hs)
  intro fl s' hs
  cases fl with
  | ret u =>
    obtain ⟨v, σ', H', J, rv, q⟩ := hs
    exact ⟨v, H', J.os, J.bare, J.base, J.hok, rv, q⟩
  | next =>
    obtain ⟨σ', H', J, q⟩ := hs
    exact ⟨.non, H', J.os, J.bare, J.base, J.hok, rfl, q⟩
  | brk =>
    obtain ⟨_, _, _, q⟩ := hs
    exact q.elim
  | cont =>
    obtain ⟨_, _, _, q⟩ := hs
    exact q.elim

theorem law_at {P : Program} {w : World} {K : PySem.W.Frag} {mg mb : Str → Option Value} {fa a : Addr} {fd : FuncData} {x : Str} {sp : Sp} {s₁ : Shared} {vs : List Value} {ns : List Int}
    (KX : K.In s₁.heap) (hns : s₁.heap.Ns mainGlobals mg) (hb : s₁.heap.Ns builtinsNs mb) (hbb : ∀ x : Str, x ≠ "__name__" → mb x = bootBuiltins x) (hlim : s₁.heap.NoLimit) (hg : s₁.gens = #[])
    (ha : s₁.heap.get? a = some { cls := .type "list", data := .seq vs.toArray }) (hi : IntsAre vs ns) (hl : ns.length ≤ sizeLine)
    (F : ∀ base : Heap, K.In base → base.Ns mainGlobals mg → FnAt P w K mg base CX0 callerA fa fd [x] sp) (bind : ∀ (s : Shared) (u : Value), BindsTo s fd ⟨[u], []⟩ [(x, u)])
    (hsp : ∀ H : Hp, Only H → SqL K H a (ns.map V.int) → sp [.ref a] H (fun v _ => v = .bl true) fun _ _ _ => False) :
    codeAny (model P w) callerA (.call (.ref fa) ⟨[.ref a], []⟩) (fun r s' => r = .ok (.ret (.bool true)) ∧ OldK s₁.heap s'.heap ∧ s'.os = s₁.os ∧ AllBare s'.gens) s₁ := by
  have rv := vals_ints hi
  have lenV := hi.length
  have core : ∀ H : Hp, Only H → SqL K H a (ns.map V.int) → HOk P w H s₁.heap → (∀ b, H b ≠ none → b = a) → (H a ≠ none → K.lookup a = none) →
      codeAny (model P w) callerA (.call (.ref fa) ⟨[.ref a], []⟩) (fun r s' => r = .ok (.ret (.bool true)) ∧ OldK s₁.heap s'.heap ∧ s'.os = s₁.os ∧ AllBare s'.gens) s₁ := by
    intro H only hS hok onlyA notK
    have dictFree : ∀ {b : Addr} {o : Obj} {es : Array DictEntry} {ep : Nat}, s₁.heap.get? b = some o → o.data = .dict es ep → H b = none := by
      intro b o es ep e d
      cases q : H b with
      | none => rfl
      | some u =>
        exfalso
        obtain rfl : b = a := onlyA b (by rw [q]; simp)
        rw [ha] at e
        cases e
        exact nomatch (show Data.seq vs.toArray _ = Data.dict es ep from d)
    have toBase : ∀ {b : Addr} {m : Str → Option Value}, s₁.heap.Ns b m → (hidT s₁.heap H).Ns b m := by
      rintro b m ⟨o, es, ep, e, d, r⟩
      exact ⟨o, es, ep, hidT_get e (dictFree e d), d, r⟩
    have kBase : K.In (hidT s₁.heap H) := by
      intro b o e
      apply hidT_get (KX b o e)
      cases q : H b with
      | none => rfl
      | some u =>
        exfalso
        obtain rfl : b = a := onlyA b (by rw [q]; simp)
        rw [notK (by rw [q]; simp)] at e
        cases e
    have modB : Mod K mg (hidT s₁.heap H) := by
      refine ⟨kBase, toBase hns, ⟨mb, toBase hb, hbb⟩, ?_⟩
      obtain ⟨mc, h1, h2⟩ := hlim
      exact ⟨mc, toBase h1, h2⟩
    have e0 : Env0 P w K mg (hidT s₁.heap H) callerA [] s₁ H := by
      refine ⟨rfl, modB, fun b o e => of_hidT e, Nat.le_of_eq (hidT_size _ _), trivial, ?_, hok, .of_eq hg⟩
      intro b hb
      exact absurd (show b ∈ ([] : List Addr) from hb) (by simp)
    refine codeAny_mono (F _ kBase (toBase hns) [] s₁ H [.ref a] [.ref a] _ _ e0 (bind s₁ (.ref a)) (.cons rfl .nil) (hsp H only hS)) ?_
    intro r s' h
    cases r with
    | error e => exact h.elim
    | ok fl =>
      cases fl with
      | next => exact h.elim
      | brk => exact h.elim
      | cont => exact h.elim
      | ret u =>
        obtain ⟨v, H', os, bare, un, hok', r', q⟩ := h
        obtain rfl : v = .bl true := q
        obtain rfl : u = Value.bool true := r'
        refine ⟨rfl, OldK.of_keep ?_, os, bare⟩
        intro b o e
        cases q : H b with
        | none => exact un.keep b o e q (fun z => by simp [frs] at z) (by simp)
        | some u =>
          rcases only b with z | ⟨ob, xs, z⟩
          · rw [q] at z
            cases z
          · obtain ⟨e1, _⟩ := hok b _ z
            obtain ⟨e2, _⟩ := hok' b _ (un.frzs b ob _ z)
            rw [e] at e1
            cases e1
            exact e2
  cases hk : K.lookup a with
  | some o =>
    have e := KX a o hk
    rw [ha] at e
    cases e
    apply core (fun _ => none) (fun _ => Or.inl rfl)
    · exact .inr ⟨_, vs.toArray, _, hk, rfl, rfl, rfl, by rw [List.size_toArray, lenV]; exact hl, by simpa using rv⟩
    · intro b u z
      exact nomatch (show (none : Option HO) = some u from z)
    · intro b z
      exact absurd rfl z
    · intro z
      exact absurd rfl z
  | none =>
    let o1 : Obj := { cls := .type "list", data := .seq vs.toArray }
    let H1 : Hp := upd (fun _ => none) a (.frz o1 (.lst (ns.map V.int)))
    have at1 : H1 a = some (.frz o1 (.lst (ns.map V.int))) := upd_same
    have off1 : ∀ b, b ≠ a → H1 b = none := fun b n => upd_ne n
    apply core H1
    · intro b
      by_cases n : b = a
      · rw [n]
        exact Or.inr ⟨_, _, at1⟩
      · exact Or.inl (off1 b n)
    · exact .inl (.inr ⟨o1, at1⟩)
    · intro b u z
      by_cases n : b = a
      · rw [n] at z ⊢
        rw [at1] at z
        cases z
        exact ⟨ha, by rw [List.length_map]; exact hl, vs, _, rv, ha⟩
      · rw [off1 b n] at z
        cases z
    · intro b z
      by_cases n : b = a
      · exact n
      · exact absurd (off1 b n) z
    · intro _
      exact hk

theorem walk_at {l : PySem.W.OpenLaw} {n : Nat} {q : Program} {loose : List Str} {XP : (Str → Option Value) → Heap → Prop} {YP : World → Heap → Prop} {d : DefRec} {x : Str}
    (hn : l.most = some n) (hn2 : n ≤ sizeLine) (hdf : d.params.defaults = [])
    (F : ∀ (w : World) (mg : Str → Option Value) (fa : Addr) (h : Heap), YP w h → h.Ns mainGlobals mg → mg d.name = some (.ref fa) →
      ∃ (K : PySem.W.Frag) (fd : FuncData) (sp : Sp), K.In h ∧ (∀ (s : Shared) (u : Value), BindsTo s fd ⟨[u], []⟩ [(x, u)]) ∧
        (∀ (H : Hp) (a : Addr) (ns : List Int), ns.length ≤ n → Only H → SqL K H a (ns.map V.int) → sp [.ref a] H (fun v _ => v = .bl true) fun _ _ _ => False) ∧
        ∀ base : Heap, K.In base → base.Ns mainGlobals mg → FnAt l.prog w K mg base CX0 callerA fa fd [x] sp) :
    PySem.W.WalkO q loose XP YP l.row.toRowW d [] (fun f vs => PySem.call f vs) := by
  apply Att.attach_call hn hdf
  intro w s₀ s₁ mg mb fa o pm cd doc a vs ns G Y ho hd hcd hmg hobj hints hlen hg
  obtain ⟨K, fd, sp, KX, hb, hsp, hF⟩ := F w mg fa _ Y G.T.g hmg
  exact law_at KX G.T.g G.T.b G.T.builtins G.T.nolimit hg hobj hints (Nat.le_trans hlen hn2) hF hb (fun H hO hS => hsp H a ns hlen hO hS)
end XA

set_option Elab.async false
set_option linter.all false
set_option maxRecDepth 100000
set_option maxHeartbeats 4000000
/-! XH: matrices as data; comprehensions that gather. -/
namespace XA
open PySem PySem.Spec PyProof.Rows L2

/-! ### numbers -/
def primeN (n : Int) : Bool := decide (2 ≤ n ∧ n ≤ 97) && ((List.range (n - 2).toNat).map fun (i : Nat) => n % (2 + (i : Int))).all (fun r => r != 0)
def primeD : PyData → Bool
  | .int n => primeN n
  | _ => false
def wholeTo : PyData → Int → Bool
  | .int i, m => decide (0 ≤ i ∧ i ≤ m)
  | _, _ => false
theorem primeN_out {n : Int} (h : ¬ (2 ≤ n ∧ n ≤ 97)) : primeN n = false := by
  unfold primeN
  rw [decide_eq_false h, Bool.false_and]
theorem primeN_in {p : Int} (h : primeN p = true) : 2 ≤ p ∧ p ≤ 97 := of_decide_eq_true (Bool.and_eq_true_iff.mp h).1
/-! ### matrices -/
def rowD (row : List Int) : PyData := .tuple (row.map .int)
def matD (r c : Int) (rows : List (List Int)) : PyData := .tuple [.int r, .int c, .tuple (rows.map rowD)]
def isRowD : PyData → Int → Int → Bool
  | .tuple ds, c, p => decide ((ds.length : Int) = c) && ds.all (fun x => wholeTo x (p - 1))
  | _, _, _ => false
def isMatD : PyData → Int → Bool
  | .tuple [r, c, .tuple rows], p => match r, c with
    | .int i, .int j => decide (0 ≤ i ∧ i ≤ 2000) && (decide (0 ≤ j ∧ j ≤ 2000) && (decide ((rows.length : Int) = i) && rows.all (fun row => isRowD row j p)))
    | _, _ => false
  | _, _ => false
theorem len3 {α : Type} : ∀ {xs : List α}, xs.length = 3 → ∃ a b c, xs = [a, b, c]
  | [a, b, c], _ => ⟨a, b, c, rfl⟩
  | [], h => by simp at h
  | [_], h => by simp at h
  | [_, _], h => by simp at h
  | _ :: _ :: _ :: _ :: _, h => by simp at h
theorem isMatD_len {ds : List PyData} (p : Int) (h : ds.length ≠ 3) : isMatD (.tuple ds) p = false := by
  unfold isMatD
  split
  · rename_i e
    injection e with e
    rw [e] at h
    exact absurd rfl h
  · rfl
def onesR (m : Nat) : List (List Int) := (List.range m).map fun row => (List.range m).map fun k => if k = row then 1 else 0
def noughtsR (r c : Nat) : List (List Int) := List.replicate r (List.replicate c 0)
/-! ### comprehensions that gather -/
theorem acc_step {H1 F H4 : Hp} {D : Addr} {l : List V} {y : V} {P : Hp → Prop} (nD : H1 D = none) (s : Same H1 F) (hF : F D = some (.lst l)) (s4 : Same F H4) (len : l.length < 10000)
    (h : ∀ G, Same H1 G → G D = some (.lst (l ++ [y])) → P G) : ∃ acc, H4 D = some (.lst acc) ∧ acc.length < sizeLine ∧ P (upd H4 D (.lst (acc ++ [y]))) := by
  refine ⟨l, s4 _ _ hF, Nat.lt_of_lt_of_le len (by decide), h _ ?_ upd_same⟩
  intro b o e
  rw [upd_ne (ne_of_none e nD)]
  exact s4 _ _ (s _ _ e)
/-! ### data without lists -/
mutual
def noL : PyData → Bool
  | .list _ => false
  | .tuple ds => noLs ds
  | .dict _ => false
  | _ => true
def noLs : List PyData → Bool
  | [] => true
  | d :: ds => noL d && noLs ds
end
section
variable {K : PySem.W.Frag} {H : Hp} {av av' : Addr}
mutual
theorem Da.any : ∀ (d : PyData) (v : V), noL d = true → Da K H av v d → Da K H av' v d
  | .none, _, _, h => by cases h; exact .non
  | .bool b, _, _, h => by cases h; exact .bl b
  | .int i, _, _, h => by cases h; exact .int i
  | .str x, _, _, h => by cases h; exact .str x
  | .list ds, _, n, h => by simp [noL] at n
  | .tuple ds, _, n, h => by
    cases h with
    | tup hs ha => exact .tup hs (DaAll.any ds _ (by simpa [noL] using n) ha)
  | .dict _, _, n, h => by cases h
theorem DaAll.any : ∀ (ds : List PyData) (vs : List V), noLs ds = true → DaAll K H av vs ds → DaAll K H av' vs ds
  | [], _, _, h => by cases h; exact .nil
  | d :: ds, _, n, h => by
    cases h with
    | cons h1 h2 =>
      simp only [noLs, Bool.and_eq_true] at n
      exact .cons (Da.any d _ n.1 h1) (DaAll.any ds _ n.2 h2)
end
end
theorem noLs_ints : ∀ ns : List Int, noLs (ns.map PyData.int) = true
  | [] => rfl
  | n :: r => by
    rw [List.map_cons]
    simp only [noLs, noL, noLs_ints r, Bool.and_self]
theorem noLs_rows : ∀ rows : List (List Int), noLs (rows.map rowD) = true
  | [] => rfl
  | r :: rs => by
    rw [List.map_cons]
    simp only [noLs, rowD, noL, noLs_ints r, noLs_rows rs, Bool.and_self]
theorem noL_mat (r c : Int) (rows : List (List Int)) : noL (matD r c rows) = true := by
  simp only [matD, noL, noLs, noLs_rows, Bool.and_self]
/-- a list at D grows; what is known of data that holds no list at D stays -/
theorem DaAll.grow {K : PySem.W.Frag} {G : Hp} {D : Addr} {vs : List V} {ds : List PyData} {o : HO} {ps : List V} (h : DaAll K G D vs ds) (hD : G D = some (.lst ps)) : DaAll K (L2.upd G D o) D vs ds :=
  h.oth hD fun b u nb e => by rw [upd_ne nb]; exact e
theorem Da.grow {K : PySem.W.Frag} {G : Hp} {D : Addr} {v : V} {d : PyData} {o : HO} {ps : List V} (h : Da K G D v d) (hD : G D = some (.lst ps)) : Da K (L2.upd G D o) D v d :=
  h.oth hD fun b u nb e => by rw [upd_ne nb]; exact e
theorem Da.newT {K : PySem.W.Frag} {G : Hp} {av p : Addr} {vs : List V} {ds : List PyData} (h : DaAll K G av vs ds) (np : G p = none) : Da K (L2.upd G p (.tup vs)) av (.ref p) (.tuple ds) :=
  .tup (.inl (.inl upd_same)) (h.same (same_upd np))
theorem DaAll.rep {K : PySem.W.Frag} {H : Hp} {av : Addr} {v : V} {d : PyData} (h : Da K H av v d) : ∀ n : Nat, DaAll K H av (List.replicate n v) (List.replicate n d)
  | 0 => .nil
  | n + 1 => by
    rw [List.replicate_succ, List.replicate_succ]
    exact .cons h (DaAll.rep h n)
theorem acc_same {H1 F H4 : Hp} {D : Addr} {o : HO} (nD : H1 D = none) (s : Same H1 F) (s4 : Same F H4) : Same H1 (L2.upd H4 D o) := by
  intro b u e
  rw [upd_ne (ne_of_none e nD)]
  exact s4 _ _ (s _ _ e)
theorem lt10 {n : Nat} (h : n < 10000) : n < sizeLine := Nat.lt_of_lt_of_le h (by decide)
/-- a pen whose cells are the list at c -/
def PenC (H : Hp) (pen c : Addr) (n : Int) : Prop := ∃ (cells : List Int) (a l : Int),
  H pen = some (.lst [.ref c, .int a, .int l]) ∧ H c = some (.lst (cells.map V.int)) ∧ cells.length ≤ 12 ∧ 0 ≤ a ∧ a ≤ n
theorem PenC.mono {H : Hp} {pen c : Addr} {n m : Int} (h : PenC H pen c n) (e : n ≤ m) : PenC H pen c m := by
  obtain ⟨cells, a, l, h1, h2, h3, h4, h5⟩ := h
  exact ⟨cells, a, l, h1, h2, h3, h4, by omega⟩
theorem PenC.ne {H : Hp} {pen c : Addr} {n : Int} (h : PenC H pen c n) : c ≠ pen := by
  obtain ⟨cells, a, l, h1, h2, _⟩ := h
  exact pen_ne h1 h2
theorem PenC.same {H H' : Hp} {pen c : Addr} {n : Int} (h : PenC H pen c n) (s : Same H H') : PenC H' pen c n := by
  obtain ⟨cells, a, l, h1, h2, h3⟩ := h
  exact ⟨cells, a, l, s _ _ h1, s _ _ h2, h3⟩
theorem PenC.lst {H : Hp} {pen c : Addr} {n : Int} (h : PenC H pen c n) : ∃ ps, H pen = some (.lst ps) := by
  obtain ⟨cells, a, l, h1, _⟩ := h
  exact ⟨_, h1⟩
/-- a new object is laid, or one changed that is neither -/
theorem PenC.upd {H : Hp} {pen c p : Addr} {n : Int} {o : HO} (h : PenC H pen c n) (h1 : p ≠ pen) (h2 : p ≠ c) : PenC (L2.upd H p o) pen c n := by
  obtain ⟨cells, a, l, g1, g2, g3⟩ := h
  exact ⟨cells, a, l, by rw [upd_ne h1.symm]; exact g1, by rw [upd_ne h2.symm]; exact g2, g3⟩
theorem PenC.new_ne {H : Hp} {pen c p : Addr} {n : Int} (h : PenC H pen c n) (hp : H p = none) : p ≠ pen ∧ p ≠ c := by
  obtain ⟨cells, a, l, g1, g2, _⟩ := h
  exact ⟨(ne_of_none g1 hp).symm, (ne_of_none g2 hp).symm⟩
theorem penC_put {H H' : Hp} {pen c : Addr} {cells : List Int} {a l a' l' n : Int} (h1 : H pen = some (.lst [.ref c, .int a, .int l]))
    (h2 : H c = some (.lst (cells.map V.int))) (h3 : cells.length ≤ 12) (s : Oth H H' pen) (g1 : 0 ≤ a') (g2 : a' ≤ n) :
    PenC (L2.upd H' pen (.lst [.ref c, .int a', .int l'])) pen c n := by
  have ne := pen_ne h1 h2
  exact ⟨cells, a', l', upd_same, by rw [upd_ne ne]; exact s _ _ ne h2, h3, g1, g2⟩
theorem Da.othP {K : PySem.W.Frag} {H H' : Hp} {pen c : Addr} {n : Int} {v : V} {d : PyData} (h : Da K H pen v d) (P : PenC H pen c n) (s : Oth H H' pen) : Da K H' pen v d := by
  obtain ⟨ps, hp⟩ := P.lst
  exact h.oth hp s
theorem DaAll.othP {K : PySem.W.Frag} {H H' : Hp} {pen c : Addr} {n : Int} {vs : List V} {ds : List PyData} (h : DaAll K H pen vs ds) (P : PenC H pen c n) (s : Oth H H' pen) : DaAll K H' pen vs ds := by
  obtain ⟨ps, hp⟩ := P.lst
  exact h.oth hp s
/-- a list that is gathered while the pen draws: one more -/
theorem acc_stepO {H1 F H4 : Hp} {D pen c : Addr} {l : List V} {y : V} {n : Int} {P : Hp → Prop} (nD : H1 D = none) (nP : D ≠ pen) (nc : D ≠ c) (s : Oth H1 F pen) (hF : F D = some (.lst l))
    (s4 : Oth F H4 pen) (p4 : PenC H4 pen c n) (len : l.length < 10000)
    (h : ∀ G, Oth H1 G pen → PenC G pen c n → G D = some (.lst (l ++ [y])) → P G) : ∃ acc, H4 D = some (.lst acc) ∧ acc.length < sizeLine ∧ P (L2.upd H4 D (.lst (acc ++ [y]))) := by
  have hD := s4 _ _ nP hF
  refine ⟨l, hD, Nat.lt_of_lt_of_le len (by decide), h _ ?_ (p4.upd nP nc) upd_same⟩
  intro b o nb e
  rw [upd_ne (ne_of_none e nD)]
  exact s4 _ _ nb (s _ _ nb e)
/-- .. the very list is changed in the heap that the pen left -/
theorem Oth.put {H1 F : Hp} {D pen : Addr} {o : HO} (nD : H1 D = none) (s : Oth H1 F pen) : Oth H1 (L2.upd F D o) pen := by
  intro b u nb e
  rw [upd_ne (ne_of_none e nD)]
  exact s b u nb e
end XA

set_option Elab.async false
set_option linter.all false
set_option maxRecDepth 100000
set_option maxHeartbeats 4000000
/-! XI: rules by a written part that is named (within comprehensions). -/
namespace XA
open PySem PySem.Spec PyProof.Rows L2
def rTupOf (K : PySem.W.Frag) : List V → Hp → VK → Prop := fun xs H Q => ∃ p ys, xs = [.ref p] ∧ ((SqL K H p ys ∧ ∀ l, H l = none → Q (.ref l) (upd H l (.tup ys))) ∨ (SqT K H p ys ∧ Q (.ref p) H))
def rLenZ (K : PySem.W.Frag) : List V → Hp → VK → Prop := fun xs H Q => ∃ x n, xs = [x] ∧ LenV K x H n ∧ Q (.int n) H
section
variable {X : Cx} (K : PySem.W.Frag) (h : X.K = K := by rfl)
include h
theorem ix_listK : IxR X (rIxL K) := h ▸ ix_list
theorem ix_tupK : IxR X (rIxT K) := h ▸ ix_tup
theorem call_isZK : CallR X (.builtin "isinstance") (rIsZ K) := h ▸ call_isZ
theorem call_lenK : CallR X (.builtin "len") (rLenZ K) := h ▸ call_len
theorem call_tupOfK : CallR X (.type "tuple") (rTupOf K) := h ▸ call_tuple_of
theorem op_catDK : OpR X (binaryOp .Add) (rCatD K) := h ▸ op_catD
theorem op_repDK : OpR X (binaryOp .Mult) (rRepD K) := h ▸ op_repD
theorem sl_listK : SlR X (rSlL K) := h ▸ sl_list
theorem sl_tupDK : SlR X (rSlD K) := h ▸ sl_tupD
theorem op_eqDK (hu : X.A.units + 64 < cLine) : OpR X (compareOp .Eq) (rEqD K) := h ▸ op_eqD hu
theorem op_neDK (hu : X.A.units + 64 < cLine) : OpR X (compareOp .NotEq) (rNeD K) := h ▸ op_neD hu
theorem pi_listK {tg l : Expr} {tl : TE} (hl : PE X l tl) : PI X tg l (iList K tl) := h ▸ pi_list hl
theorem pi_tupK {tg l : Expr} {tl : TE} (hl : PE X l tl) : PI X tg l (iTup K tl) := h ▸ pi_tup hl
theorem cr_allK (hc : X.calm = true) : CallR X (.builtin "all") (rAll K) := h ▸ cr_all hc
theorem cr_allIK (hc : X.calm = true) : CallR X (.builtin "all") (rAllI K) := h ▸ cr_allI hc
end
end XA

set_option Elab.async false
set_option linter.all false
set_option maxRecDepth 100000
set_option maxHeartbeats 4000000
/-! XJ: a tuple from behind. -/
namespace XA
open PySem PySem.Spec PyProof.Rows L2 HT
section
variable {prog : Program} {w : World} {A : Around} {E : Value → Shared → Prop} {s : Shared}
theorem places_rev (n : Nat) : Builtin.Slice.slicePlaces ((n : Int) - 1) (-1) (-1) = n := by
  unfold Builtin.Slice.slicePlaces
  rw [if_neg (by decide)]
  have e : (-(-1 : Int)) = 1 := by decide
  rw [e, Int.ediv_one]
  split <;> omega
theorem applied_rev {sl : Addr} {vl vu vs : Value} {n : Nat} {Q : Int × Int × Nat → Shared → Prop} (hs : s.heap.IsSliceOf sl vl vu vs) (pl : IsPart vl none) (pu : IsPart vu none) (ps : IsPart vs (some (-1)))
    (h : Q ((n : Int) - 1, -1, n) s) : wpAny (model prog w) A (Builtin.Slice.sliceApplied (.ref sl) (pure (n : Int))) Q E s := by
  obtain ⟨os, hos, hcs, hds⟩ := id hs
  unfold Builtin.Slice.sliceApplied Builtin.Slice.sliceFields
  refine wpAny_bind (wpAny_bind (wpAny_field hos hds (x := vl) rfl (wpAny_bind (wpAny_field hos hds (x := vu) rfl (wpAny_bind (wpAny_field hos hds (x := vs) rfl (wpAny_pure ?_)))))))
  refine wpAny_bind (slicePart_ ps ?_)
  show wpAny _ _ (if ((-1 : Int) == 0) = true then _ else _) _ _ s
  rw [if_neg (by decide)]
  refine wpAny_bind (slicePart_ pl (wpAny_bind (slicePart_ pu (wpAny_bind (wpAny_pure ?_)))))
  have adj : Builtin.Slice.sliceAdjust none none (-1) (n : Int) = ((n : Int) - 1, -1) := by
    unfold Builtin.Slice.sliceAdjust
    rfl
  show wpAny _ _ (match Builtin.Slice.sliceAdjust none none (-1) (n : Int) with | (lo, hi) => pure (lo, (-1 : Int), Builtin.Slice.slicePlaces lo hi (-1))) _ _ s
  rw [adj]
  show wpAny _ _ (pure ((n : Int) - 1, (-1 : Int), Builtin.Slice.slicePlaces ((n : Int) - 1) (-1) (-1))) _ _ s
  rw [places_rev]
  exact wpAny_pure h
theorem fm_map {α β : Type} {f : α → Option β} {g : α → β} : ∀ l : List α, (∀ k ∈ l, f k = some (g k)) → l.filterMap f = l.map g
  | [], _ => rfl
  | a :: r, h => by
    rw [List.filterMap_cons, h a List.mem_cons_self, List.map_cons, fm_map r fun k hk => h k (List.mem_cons_of_mem _ hk)]
theorem pick_rev (xs : List Value) : ((List.range xs.length).filterMap fun (k : Nat) => xs.toArray[(((xs.length : Nat) : Int) - 1 + (k : Int) * (-1)).toNat]?) = xs.reverse := by
  apply List.ext_getElem?
  intro i
  have key : ∀ k, k < xs.length → xs.toArray[(((xs.length : Nat) : Int) - 1 + (k : Int) * (-1)).toNat]? = some (xs.reverse.getD k default) := by
    intro k hk
    have e : (((xs.length : Nat) : Int) - 1 + (k : Int) * (-1)).toNat = xs.length - 1 - k := by omega
    rw [e, List.getElem?_toArray, List.getD_eq_getElem?_getD, List.getElem?_reverse hk, List.getElem?_eq_getElem (by omega)]
    rfl
  have all : (List.range xs.length).filterMap (fun (k : Nat) => xs.toArray[(((xs.length : Nat) : Int) - 1 + (k : Int) * (-1)).toNat]?) = (List.range xs.length).map fun k => xs.reverse.getD k default := by
    exact fm_map _ fun k hk => key k (List.mem_range.mp hk)
  rw [all, List.getElem?_map]
  by_cases hi : i < xs.length
  · rw [List.getElem?_range hi, List.getElem?_reverse hi, List.getElem?_eq_getElem (by omega)]
    show some (xs.reverse.getD i default) = _
    rw [List.getD_eq_getElem?_getD, List.getElem?_reverse hi, List.getElem?_eq_getElem (by omega)]
    rfl
  · rw [List.getElem?_eq_none (by rw [List.length_range]; omega), List.getElem?_eq_none (by rw [List.length_reverse]; omega)]
    rfl
theorem getItem_rev {t sl : Addr} {its : List Value} {vl vu vs : Value} {Q : Value → Shared → Prop} (ht : IsTup s.heap t its.toArray) (hs : s.heap.IsSliceOf sl vl vu vs) (pl : IsPart vl none) (pu : IsPart vu none) (ps : IsPart vs (some (-1)))
    (h : Q (.ref s.heap.objs.size) { s with heap := s.heap.push { cls := .type "tuple", data := .seq its.reverse.toArray } }) (hsz : its.length ≤ sizeLine) :
    wpAny (model prog w) A (getItem (.ref t) (.ref sl)) Q E s := by
  have htake : sizeOk (.seq its.reverse.toArray) := by
    show its.reverse.toArray.size ≤ sizeLine
    rw [List.size_toArray, List.length_reverse]
    exact hsz
  obtain ⟨os, hos, hcs, hds⟩ := id hs
  have hTs : s.TypeIs (.ref sl) "slice" := ⟨os, hos, hcs⟩
  unfold getItem
  try with_reducible refine wpAny_holding ?_
  first | refine wpAny_bind (wpAny_pure ?_) | skip
  refine wpAny_bind (wpAny_sequenceKey ht.typeIs (by decide) ?_)
  apply wpAny_bind
  apply wpAny_callSpecial?_slot (name := Str.ofString "__getitem__") ht.typeIs PyProof.Rows.slot_tuple_getitem
  refine wpAny_call_entry PyProof.Rows.slot_tuple_getitem ht.typeIs entry_tuple_getitem ?_ (args_tuple_getitem _ _)
  show wpAny _ _ (Builtin.Tuple.tupleItemsOf (.ref t) >>= _) _ _ s
  refine wpAny_bind (tupleItemsOf_ ht ?_)
  refine wpAny_bind (wpAny_typeOf hTs ?_)
  rw [if_pos (by decide)]
  refine wpAny_bind (applied_rev (n := its.toArray.size) hs pl pu ps ?_)
  show wpAny _ _ (if ((((its.toArray.size : Nat) : Int) - 1 == 0) && (-1 : Int) == 1 && its.toArray.size == its.toArray.size) = true then _ else _) _ _ s
  rw [if_neg (by simp)]
  rw [List.size_toArray, pick_rev]
  first
    | exact wpAny_bind (m := Builtin.Tuple.tupleExact _) (wpAny_newObj_type (wpAny_pure ⟨_, rfl, wpAny_pure h⟩) htake)
    | exact wpAny_bind (m := Builtin.Tuple.tupleExact _) (wpAny_newObj_type (wpAny_bind (wpAny_pure (wpAny_pure ⟨_, rfl, wpAny_pure h⟩))) htake)
    | exact wpAny_bind (wpAny_bind (m := Builtin.Tuple.tupleExact _) (wpAny_newObj_type (wpAny_pure (wpAny_pure ⟨_, rfl, wpAny_pure h⟩)) htake))
    | exact wpAny_bind (wpAny_bind (m := Builtin.Tuple.tupleExact _) (wpAny_newObj_type (wpAny_pure ⟨_, rfl, wpAny_pure h⟩) htake))
end
def tRevT (K : PySem.W.Frag) (te : TE) : TE := fun σ H Q => te σ H fun x H1 => ∃ a xs, x = .ref a ∧ SqT K H1 a xs ∧ ∀ p, H1 p = none → Q (.ref p) (upd H1 p (.tup xs.reverse))
theorem pe_revT {X : Cx} {e : Expr} {te : TE} {k : Nat} {p1 p2 p3 pos : Pos} (he : PE X e te) :
    PE X (.Subscript e (.Slice none none (some (.UnaryOp .USub (.Constant (.int 1) k p1) p2)) p3) pos) (tRevT X.K te) := by
  refine ⟨fun pins s σ H Q I h => ?_⟩
  apply Subscript_
  refine thn (he.run pins s σ H _ I h) ?_
  rintro v s1 ⟨x, H1, I1, r1, a, xs, rfl, hx, q⟩
  cases r1
  have step : PO X (some (.UnaryOp .USub (.Constant (.int 1) k p1) p2)) (tPart (tUn (rU fun i => .int (-i)) (tC (.int 1)))) := po_some (pe_un un_neg pe_int)
  apply wpAny_Slice
  refine thn (po_none.run pins s1 σ H1 (fun o G => o = none ∧ G = H1) I1 ⟨rfl, rfl⟩) ?_
  rintro vl s2 ⟨l, H2, I2, pl, rfl, rfl⟩
  refine thn (po_none.run pins s2 σ H2 (fun o G => o = none ∧ G = H2) I2 ⟨rfl, rfl⟩) ?_
  rintro vu s3 ⟨u, H3, I3, pu, rfl, rfl⟩
  refine thn (step.run pins s3 σ H3 (fun o G => o = some (-1) ∧ G = H3) I3 ⟨1, rfl, -1, rfl, rfl, rfl⟩) ?_
  rintro vs s4 ⟨o, H4, I4, ps, rfl, rfl⟩
  have I5 : Inv X pins σ H4 { s4 with heap := s4.heap.push { cls := .type "slice", data := .fields #[vl, vu, vs] } } :=
    I4.kept (t' := s4.toks) fun b ob q => Heap.get?_push_of_some _ q
  obtain ⟨its, r, ht, hz⟩ := I5.tuple hx
  have hlen := r.length
  show wpAny (model X.prog X.w) X.A (subscriptTail e (.Slice none none (some (.UnaryOp .USub (.Constant (.int 1) k p1) p2)) p3) (.ref a) (.ref s4.heap.objs.size)) (EP X pins σ Q) X.xe _
  refine tail_any (ops := [.ref a, .ref s4.heap.objs.size]) ht.typeIs PyProof.Rows.slot_tuple_getitem.lookup ?_ (by with_unfolding_all rfl)
  refine getItem_rev ht (Heap.IsSliceOf.new _ vl vu vs) pl pu ps ?_ (by omega)
  refine ⟨.ref _, _, I5.laid (t' := s4.toks) (o := .tup xs.reverse) (fun b ob q => Heap.get?_push_of_some _ q) (Nat.le_refl _) ?_, rfl, q _ (I5.hok.fresh (Nat.le_refl _))⟩
  exact ⟨by rw [List.length_reverse]; exact hz, _, r.reverse, IsTup.new _ _⟩
theorem DaAll.reverse {K : PySem.W.Frag} {H : Hp} {av : Addr} : ∀ {vs : List V} {ds : List PyData}, DaAll K H av vs ds → DaAll K H av vs.reverse ds.reverse
  | _, _, .nil => .nil
  | _, _, .cons r t => by
    rw [List.reverse_cons, List.reverse_cons]
    exact (DaAll.reverse t).append (.cons r .nil)
end XA

set_option Elab.async false
set_option linter.all false
set_option maxRecDepth 100000
set_option maxHeartbeats 4000000
/-! XK: what is a matrix, and what isn't; data of moderate size. -/
namespace XA
open PySem PySem.Spec PyProof.Rows L2
theorem isMatD_1 {d1 d2 d3 : PyData} {p : Int} (h : wholeTo d1 2000 = false) : isMatD (.tuple [d1, d2, d3]) p = false := by
  cases d1 with
  | int i =>
    cases d3 with
    | tuple rows =>
      cases d2 with
      | int j =>
        show (decide (0 ≤ i ∧ i ≤ 2000) && _) = false
        rw [show decide (0 ≤ i ∧ i ≤ 2000) = false from h, Bool.false_and]
      | _ => rfl
    | _ => rfl
  | _ => cases d3 <;> rfl
theorem isMatD_2 {d1 d2 d3 : PyData} {p : Int} (h : wholeTo d2 2000 = false) : isMatD (.tuple [d1, d2, d3]) p = false := by
  cases d3 with
  | tuple rows =>
    cases d1 with
    | int i =>
      cases d2 with
      | int j =>
        show (decide (0 ≤ i ∧ i ≤ 2000) && (decide (0 ≤ j ∧ j ≤ 2000) && _)) = false
        rw [show decide (0 ≤ j ∧ j ≤ 2000) = false from h, Bool.false_and, Bool.and_false]
      | _ => rfl
    | _ => rfl
  | _ => rfl
theorem isMatD_3 {d1 d2 d3 : PyData} {p : Int} (h : ∀ rows, d3 ≠ .tuple rows) : isMatD (.tuple [d1, d2, d3]) p = false := by
  cases d3 with
  | tuple rows => exact absurd rfl (h rows)
  | _ => rfl
theorem isMatD_in {i j p : Int} {rows : List PyData} (hi : 0 ≤ i ∧ i ≤ 2000) (hj : 0 ≤ j ∧ j ≤ 2000) :
    isMatD (.tuple [.int i, .int j, .tuple rows]) p = (decide ((rows.length : Int) = i) && rows.all (fun row => isRowD row j p)) := by
  show (decide (0 ≤ i ∧ i ≤ 2000) && (decide (0 ≤ j ∧ j ≤ 2000) && _)) = _
  rw [decide_eq_true hi, decide_eq_true hj, Bool.true_and, Bool.true_and]
theorem isMatD_no {d : PyData} {p : Int} (h : isD d "tuple" = false) : isMatD d p = false := by
  cases d <;> first | rfl | (simp [isD, tyD] at h)
theorem tup_of {d : PyData} (h : isD d "tuple" = true) : ∃ ds, d = .tuple ds := by
  cases d <;> first | exact ⟨_, rfl⟩ | (simp [isD, tyD] at h)
theorem int_of {d : PyData} (h : isD d "int" = true) (h2 : isD d "bool" = false) : ∃ i, d = .int i := by
  cases d <;> first | exact ⟨_, rfl⟩ | (simp [isD, tyD] at h h2)
theorem wholeTo_no {d : PyData} {m : Int} (h : isD d "bool" = true ∨ isD d "int" = false) : wholeTo d m = false := by
  cases d <;> first | rfl | (simp [isD, tyD] at h)
theorem wholeTo_int {d : PyData} {m : Int} (h : wholeTo d m = true) : ∃ i, d = .int i ∧ 0 ≤ i ∧ i ≤ m := by
  cases d with
  | int i => exact ⟨i, rfl, of_decide_eq_true h⟩
  | _ => simp [wholeTo] at h
theorem inV_false : ∀ bs : List Bool, inV (.bl false) (bs.map V.bl) = !(bs.all id)
  | [] => rfl
  | b :: r => by
    have ih := inV_false r
    cases b with
    | true =>
      rw [List.map_cons, List.all_cons]
      show (eqV (.bl true) (.bl false) || inV (.bl false) (r.map V.bl)) = _
      rw [ih]
      rfl
    | false => rfl
theorem flat_bls : ∀ bs : List Bool, (bs.map V.bl).all flatV = true
  | [] => rfl
  | b :: r => by
    rw [List.map_cons, List.all_cons, flat_bls r]
    rfl
/-! ### moderate data -/
def Tm : Nat → PyData → Prop
  | _, .none => True
  | _, .bool _ => True
  | _, .int i => i.natAbs.log2 < 120
  | _, .str x => (reprText x).length ≤ 130
  | 0, .list _ => False
  | 0, .tuple _ => False
  | k + 1, .list ds => ds.length ≤ 8 ∧ ∀ d ∈ ds, Tm k d
  | k + 1, .tuple ds => ds.length ≤ 8 ∧ ∀ d ∈ ds, Tm k d
  | _, .dict _ => False
theorem Tm.up : ∀ {k : Nat} {d : PyData}, Tm k d → Tm (k + 1) d
  | k, .none, _ => by cases k <;> trivial
  | k, .bool _, _ => by cases k <;> trivial
  | k, .int _, h => by cases k <;> exact h
  | k, .str _, h => by cases k <;> exact h
  | 0, .list _, h => h.elim
  | 0, .tuple _, h => h.elim
  | k + 1, .list ds, h => ⟨h.1, fun d hd => Tm.up (h.2 d hd)⟩
  | k + 1, .tuple ds, h => ⟨h.1, fun d hd => Tm.up (h.2 d hd)⟩
  | 0, .dict _, h => h.elim
  | k + 1, .dict _, h => h.elim
theorem Tm.le {k m : Nat} {d : PyData} (h : Tm k d) (e : k ≤ m) : Tm m d := by
  induction e with
  | refl => exact h
  | step _ ih => exact ih.up
theorem shown_int (i : Int) : ((PyData.int i).shown).length = (toString i).length := by
  simp only [PyData.shown]
  exact PySem.ofString_length _
def tmB : Nat → Nat
  | 0 => 130
  | k + 1 => 8 * (tmB k + 2) + 3
theorem tmB_ge : ∀ k, 130 ≤ tmB k
  | 0 => Nat.le_refl _
  | k + 1 => by
    have := tmB_ge k
    show 130 ≤ 8 * (tmB k + 2) + 3
    omega
theorem sum_le {B : Nat} : ∀ ls : List Nat, (∀ x ∈ ls, x ≤ B) → ls.sum ≤ ls.length * B
  | [], _ => by simp
  | a :: r, h => by
    have h1 := h a List.mem_cons_self
    have h2 := sum_le r fun x hx => h x (List.mem_cons_of_mem _ hx)
    rw [List.sum_cons, List.length_cons, Nat.succ_mul]
    omega
theorem shownAll_eq : ∀ ds : List PyData, PyData.shownAll ds = ds.map PyData.shown
  | [] => rfl
  | d :: r => by
    rw [List.map_cons, ← shownAll_eq r]
    rfl
theorem showableAll_eq : ∀ ds : List PyData, PyData.showableAll ds = ds.all PyData.showable
  | [] => rfl
  | d :: r => by
    rw [List.all_cons, ← showableAll_eq r]
    rfl
theorem hasDictAll_eq : ∀ ds : List PyData, PyData.hasDictAll ds = ds.any PyData.hasDict
  | [] => rfl
  | d :: r => by
    rw [List.any_cons, ← hasDictAll_eq r]
    rfl
theorem depthAll_le {n : Nat} : ∀ ds : List PyData, (∀ d ∈ ds, d.depth ≤ n) → PyData.depthAll ds ≤ n
  | [], _ => Nat.zero_le _
  | d :: r, h => by
    show max d.depth (PyData.depthAll r) ≤ n
    exact Nat.max_le.mpr ⟨h d List.mem_cons_self, depthAll_le r fun x hx => h x (List.mem_cons_of_mem _ hx)⟩
theorem Tm.ok : ∀ {k : Nat} {d : PyData}, Tm k d → d.showable = true ∧ d.hasDict = false ∧ d.depth ≤ k ∧ d.shown.length ≤ tmB k
  | k, .none, _ => ⟨rfl, rfl, Nat.zero_le _, Nat.le_trans (by decide : (4 : Nat) ≤ 130) (tmB_ge k)⟩
  | k, .bool b, _ => ⟨rfl, rfl, Nat.zero_le _, Nat.le_trans (by cases b <;> decide) (tmB_ge k)⟩
  | k, .int i, h => by
    have h' : i.natAbs.log2 < 120 := by cases k <;> exact h
    refine ⟨decide_eq_true (by omega), rfl, Nat.zero_le _, ?_⟩
    rw [shown_int]
    have := int_text_length_le (k := 120) (by decide) h'
    have := tmB_ge k
    omega
  | k, .str x, h => by
    have h' : (reprText x).length ≤ 130 := by cases k <;> exact h
    exact ⟨rfl, rfl, Nat.zero_le _, Nat.le_trans h' (tmB_ge k)⟩
  | 0, .list _, h => h.elim
  | 0, .tuple _, h => h.elim
  | k + 1, .list ds, h => by
    have ih : ∀ d ∈ ds, d.showable = true ∧ d.hasDict = false ∧ d.depth ≤ k ∧ d.shown.length ≤ tmB k := fun d hd => Tm.ok (h.2 d hd)
    refine ⟨?_, ?_, ?_, ?_⟩
    · show PyData.showableAll ds = true
      rw [showableAll_eq, List.all_eq_true]
      exact fun d hd => (ih d hd).1
    · show PyData.hasDictAll ds = false
      rw [hasDictAll_eq, List.any_eq_false]
      exact fun d hd => by rw [(ih d hd).2.1]; decide
    · show PyData.depthAll ds + 1 ≤ k + 1
      exact Nat.succ_le_succ (depthAll_le ds fun d hd => (ih d hd).2.2.1)
    · show (listText (PyData.shownAll ds)).length ≤ 8 * (tmB k + 2) + 3
      have z := listText_len_le (PyData.shownAll ds)
      rw [shownAll_eq, List.map_map, List.length_map] at z
      have s := sum_le (B := tmB k) (ds.map ((fun x => x.length) ∘ PyData.shown)) (by
        intro x hx
        obtain ⟨d, hd, rfl⟩ := List.mem_map.mp hx
        exact (ih d hd).2.2.2)
      rw [List.length_map] at s
      have s2 := Nat.mul_le_mul_right (tmB k) h.1
      have hl8 := h.1
      rw [shownAll_eq]
      omega
  | k + 1, .tuple ds, h => by
    have ih : ∀ d ∈ ds, d.showable = true ∧ d.hasDict = false ∧ d.depth ≤ k ∧ d.shown.length ≤ tmB k := fun d hd => Tm.ok (h.2 d hd)
    refine ⟨?_, ?_, ?_, ?_⟩
    · show PyData.showableAll ds = true
      rw [showableAll_eq, List.all_eq_true]
      exact fun d hd => (ih d hd).1
    · show PyData.hasDictAll ds = false
      rw [hasDictAll_eq, List.any_eq_false]
      exact fun d hd => by rw [(ih d hd).2.1]; decide
    · show PyData.depthAll ds + 1 ≤ k + 1
      exact Nat.succ_le_succ (depthAll_le ds fun d hd => (ih d hd).2.2.1)
    · show (tupleText (PyData.shownAll ds)).length ≤ 8 * (tmB k + 2) + 3
      have z := tupleText_len_le (PyData.shownAll ds)
      rw [shownAll_eq, List.map_map, List.length_map] at z
      have s := sum_le (B := tmB k) (ds.map ((fun x => x.length) ∘ PyData.shown)) (by
        intro x hx
        obtain ⟨d, hd, rfl⟩ := List.mem_map.mp hx
        exact (ih d hd).2.2.2)
      rw [List.length_map] at s
      have s2 := Nat.mul_le_mul_right (tmB k) h.1
      have hl8 := h.1
      rw [shownAll_eq]
      omega
  | 0, .dict _, h => h.elim
  | k + 1, .dict _, h => h.elim
theorem tmB5 : tmB 5 ≤ sizeLine := by decide
/-- repr of moderate data -/
theorem repr_tm {K : PySem.W.Frag} {H : Hp} {av : Addr} {v : V} {d : PyData} {Q : VK} (h : Da K H av v d) (t : Tm 5 d) (q : Q (.str d.shown) H) : rReprD K [v] H Q := by
  obtain ⟨h1, h2, h3, h4⟩ := t.ok
  exact ⟨v, d, rfl, h.dp, h1, h2, by omega, Nat.le_trans h4 tmB5, q⟩
theorem tm_row {row : List Int} {p : Int} (hl : row.length ≤ 8) (hp : p ≤ 97) (h : ∀ x ∈ row, 0 ≤ x ∧ x < p) : Tm 1 (rowD row) := by
  refine ⟨by rw [List.length_map]; exact hl, ?_⟩
  intro d hd
  obtain ⟨x, hx, rfl⟩ := List.mem_map.mp hd
  obtain ⟨h1, h2⟩ := h x hx
  show x.natAbs.log2 < 120
  by_cases z : x.natAbs = 0
  · rw [z]
    decide
  · exact (Nat.log2_lt z).mpr (Nat.lt_of_lt_of_le (show x.natAbs < 97 by omega) (by decide))
theorem log_small {x : Int} (h : x.natAbs < 10 ^ 30) : x.natAbs.log2 < 120 := by
  by_cases z : x.natAbs = 0
  · rw [z]
    decide
  · exact (Nat.log2_lt z).mpr (Nat.lt_of_lt_of_le h (by decide))
end XA
namespace XA
open PySem PySem.Spec PyProof.Rows L2
/-! ### parts of data -/
def cutD (ds : List PyData) (lo hi : Option Int) : List PyData := (ds.drop (HT.sIx ds.length 0 lo)).take (HT.sIx ds.length ds.length hi - HT.sIx ds.length 0 lo)
theorem cutD_mem {ds : List PyData} {lo hi : Option Int} {d : PyData} (h : d ∈ cutD ds lo hi) : d ∈ ds := List.mem_of_mem_drop (List.mem_of_mem_take h)
theorem cutD_len (ds : List PyData) (lo hi : Option Int) : (cutD ds lo hi).length ≤ ds.length := by
  unfold cutD
  rw [List.length_take, List.length_drop]
  omega
theorem DaAll.cut {K : PySem.W.Frag} {H : Hp} {av : Addr} {vs : List V} {ds : List PyData} (h : DaAll K H av vs ds) (lo hi : Option Int) : DaAll K H av (cutV vs lo hi) (cutD ds lo hi) := by
  unfold cutV cutD
  rw [h.length]
  exact (h.drop _).take _
theorem noLs_all : ∀ ds : List PyData, (∀ d ∈ ds, noL d = true) → noLs ds = true
  | [], _ => rfl
  | d :: r, h => by
    simp only [noLs, h d List.mem_cons_self, noLs_all r fun x hx => h x (List.mem_cons_of_mem _ hx), Bool.and_self]
theorem noLs_mem : ∀ {ds : List PyData}, noLs ds = true → ∀ d ∈ ds, noL d = true
  | d :: r, h, x, hx => by
    simp only [noLs, Bool.and_eq_true] at h
    rcases List.mem_cons.mp hx with e | hx
    · rw [e]
      exact h.1
    · exact noLs_mem h.2 x hx
/-- a list of moderate data at S -/
structure LD (K : PySem.W.Frag) (F : Hp) (pen S : Addr) (vs : List V) (ds : List PyData) : Prop where
  at_ : F S = some (.lst vs)
  da : DaAll K F pen vs ds
  tm : ∀ d ∈ ds, Tm 4 d
  ne : S ≠ pen
theorem LD.same {K : PySem.W.Frag} {F F' : Hp} {pen S : Addr} {vs : List V} {ds : List PyData} (h : LD K F pen S vs ds) (s : Same F F') : LD K F' pen S vs ds :=
  ⟨s _ _ h.at_, h.da.same s, h.tm, h.ne⟩
theorem LD.oth {K : PySem.W.Frag} {F F' : Hp} {pen c S : Addr} {n : Int} {vs : List V} {ds : List PyData} (h : LD K F pen S vs ds) (P : PenC F pen c n) (s : Oth F F' pen) : LD K F' pen S vs ds :=
  ⟨s _ _ h.ne h.at_, h.da.othP P s, h.tm, h.ne⟩
/-- a longer list, new at S' -/
theorem LD.ext {K : PySem.W.Frag} {F : Hp} {pen S S' : Addr} {vs us : List V} {ds es : List PyData} (h : LD K F pen S vs ds) (ha : DaAll K F pen us es) (ht : ∀ d ∈ es, Tm 4 d)
    (n : F S' = none) (ne : S' ≠ pen) : LD K (upd F S' (.lst (vs ++ us))) pen S' (vs ++ us) (ds ++ es) := by
  refine ⟨upd_same, (h.da.append ha).same (same_upd n), ?_, ne⟩
  intro d hd
  rcases List.mem_append.mp hd with hd | hd
  · exact h.tm d hd
  · exact ht d hd
theorem LD.pick {K : PySem.W.Frag} {F : Hp} {pen S : Addr} {vs : List V} {ds : List PyData} (h : LD K F pen S vs ds) {x : V} (hx : x ∈ vs) : ∃ d, Da K F pen x d ∧ Tm 4 d := by
  obtain ⟨i, hi, e⟩ := List.mem_iff_getElem.mp hx
  obtain ⟨d, hd, hda⟩ := h.da.get (i := i) (v := x) (by rw [List.getElem?_eq_getElem hi, e])
  exact ⟨d, hda, h.tm d (List.mem_of_getElem? hd)⟩
theorem tmT {k : Nat} {ds : List PyData} (hl : ds.length ≤ 8) (h : ∀ d ∈ ds, Tm k d) : Tm (k + 1) (.tuple ds) := ⟨hl, h⟩
theorem tmL {k : Nat} {ds : List PyData} (hl : ds.length ≤ 8) (h : ∀ d ∈ ds, Tm k d) : Tm (k + 1) (.list ds) := ⟨hl, h⟩
theorem all1 {α : Type} {P : α → Prop} {a : α} (h : P a) : ∀ x ∈ [a], P x := by
  intro x hx
  rw [List.mem_singleton.mp hx]
  exact h
theorem all2 {α : Type} {P : α → Prop} {a b : α} (h1 : P a) (h2 : P b) : ∀ x ∈ [a, b], P x := by
  intro x hx
  rcases List.mem_cons.mp hx with e | hx
  · rw [e]
    exact h1
  · exact all1 h2 x hx
theorem all3 {α : Type} {P : α → Prop} {a b c : α} (h1 : P a) (h2 : P b) (h3 : P c) : ∀ x ∈ [a, b, c], P x := by
  intro x hx
  rcases List.mem_cons.mp hx with e | hx
  · rw [e]
    exact h1
  · exact all2 h2 h3 x hx
theorem all4 {α : Type} {P : α → Prop} {a b c d : α} (h1 : P a) (h2 : P b) (h3 : P c) (h4 : P d) : ∀ x ∈ [a, b, c, d], P x := by
  intro x hx
  rcases List.mem_cons.mp hx with e | hx
  · rw [e]
    exact h1
  · exact all3 h2 h3 h4 x hx
theorem tmI (k : Nat) {i : Int} (h : i.natAbs < 10 ^ 30) : Tm k (.int i) := by
  cases k <;> exact log_small h
theorem tmB' (k : Nat) (b : Bool) : Tm k (.bool b) := by cases k <;> trivial
theorem tmN (k : Nat) : Tm k .none := by cases k <;> trivial
theorem tmS (k : Nat) {x : Str} (h : (reprText x).length ≤ 130) : Tm k (.str x) := by cases k <;> exact h
theorem sz_le {n : Nat} (h : n ≤ 1000) : n ≤ sizeLine := Nat.le_trans h (by decide)
end XA

set_option Elab.async false
set_option linter.all false
set_option maxRecDepth 100000
set_option maxHeartbeats 4000000
/-! XL: a list of moderate data in the making. -/
namespace XA
open PySem PySem.Spec PyProof.Rows L2
theorem DaAll.hd {K : PySem.W.Frag} {H : Hp} {av : Addr} {v : V} {vs : List V} {d : PyData} {ds : List PyData} (h : DaAll K H av (v :: vs) (d :: ds)) : Da K H av v d := by
  cases h with
  | cons h1 _ => exact h1
theorem DaAll.tl {K : PySem.W.Frag} {H : Hp} {av : Addr} {v : V} {vs : List V} {d : PyData} {ds : List PyData} (h : DaAll K H av (v :: vs) (d :: ds)) : DaAll K H av vs ds := by
  cases h with
  | cons _ h1 => exact h1
/-- a list of moderate data at S -/
structure Ls (j : Nat) (K : PySem.W.Frag) (F : Hp) (pen S : Addr) (vs : List V) (ds : List PyData) : Prop where
  at_ : F S = some (.lst vs)
  da : DaAll K F pen vs ds
  tm : ∀ d ∈ ds, Tm j d
  ne : S ≠ pen
theorem Ls.same {j : Nat} {K : PySem.W.Frag} {F F' : Hp} {pen S : Addr} {vs : List V} {ds : List PyData} (h : Ls j K F pen S vs ds) (s : Same F F') : Ls j K F' pen S vs ds :=
  ⟨s _ _ h.at_, h.da.same s, h.tm, h.ne⟩
theorem Ls.oth {j : Nat} {K : PySem.W.Frag} {F F' : Hp} {pen c S : Addr} {n : Int} {vs : List V} {ds : List PyData} (h : Ls j K F pen S vs ds) (P : PenC F pen c n) (s : Oth F F' pen) : Ls j K F' pen S vs ds :=
  ⟨s _ _ h.ne h.at_, h.da.othP P s, h.tm, h.ne⟩
/-- a longer list, new at S' -/
theorem Ls.ext {j : Nat} {K : PySem.W.Frag} {F : Hp} {pen S S' : Addr} {vs us : List V} {ds es : List PyData} (h : Ls j K F pen S vs ds) (ha : DaAll K F pen us es) (ht : ∀ d ∈ es, Tm j d)
    (n : F S' = Option.none) (ne : S' ≠ pen) : Ls j K (L2.upd F S' (.lst (vs ++ us))) pen S' (vs ++ us) (ds ++ es) := by
  refine ⟨upd_same, (h.da.append ha).same (same_upd n), ?_, ne⟩
  intro d hd
  rcases List.mem_append.mp hd with hd | hd
  · exact h.tm d hd
  · exact ht d hd
theorem Ls.pick {j : Nat} {K : PySem.W.Frag} {F : Hp} {pen S : Addr} {vs : List V} {ds : List PyData} (h : Ls j K F pen S vs ds) {x : V} (hx : x ∈ vs) : ∃ d, Da K F pen x d ∧ Tm j d := by
  obtain ⟨i, hi, e⟩ := List.mem_iff_getElem.mp hx
  obtain ⟨d, hd, hda⟩ := h.da.get (i := i) (v := x) (by rw [List.getElem?_eq_getElem hi, e])
  exact ⟨d, hda, h.tm d (List.mem_of_getElem? hd)⟩
theorem Tm.cut {k : Nat} {ds : List PyData} (lo hi : Option Int) (h : Tm (k + 1) (.tuple ds)) : Tm (k + 1) (.tuple (cutD ds lo hi)) :=
  ⟨Nat.le_trans (cutD_len ds lo hi) h.1, fun d hd => h.2 d (cutD_mem hd)⟩
theorem Tm.snoc {k : Nat} {ds : List PyData} {d : PyData} (h : Tm (k + 1) (.tuple ds)) (hl : ds.length ≤ 7) (hd : Tm k d) : Tm (k + 1) (.tuple (ds ++ [d])) := by
  refine ⟨by rw [List.length_append]; exact Nat.succ_le_succ hl, fun e he => ?_⟩
  rcases List.mem_append.mp he with he | he
  · exact h.2 e he
  · rw [List.mem_singleton.mp he]
    exact hd
theorem Tm.app {k : Nat} {ds es : List PyData} (h : ∀ d ∈ ds, Tm k d) (h' : ∀ d ∈ es, Tm k d) (hl : ds.length + es.length ≤ 8) : Tm (k + 1) (.tuple (ds ++ es)) := by
  refine ⟨by rw [List.length_append]; exact hl, fun e he => ?_⟩
  rcases List.mem_append.mp he with he | he
  · exact h e he
  · exact h' e he
theorem Tm.mid {k : Nat} {ds es : List PyData} {d : PyData} (h1 : ∀ x ∈ ds, Tm k x) (h2 : Tm k d) (h3 : ∀ x ∈ es, Tm k x) (hl : ds.length + 1 + es.length ≤ 8) : Tm (k + 1) (.tuple (ds ++ [d] ++ es)) := by
  refine Tm.app (fun x hx => ?_) h3 (by rw [List.length_append]; exact hl)
  rcases List.mem_append.mp hx with hx | hx
  · exact h1 x hx
  · rw [List.mem_singleton.mp hx]
    exact h2
theorem cutD_pre (ds : List PyData) {i : Int} (h0 : 0 ≤ i) : (cutD ds none (some i)).length ≤ i.toNat := by
  unfold cutD
  rw [List.length_take, HT.sIx_none]
  have e : HT.sIx ds.length ds.length (some i) = min i.toNat ds.length := by
    show (if i < 0 then _ else _) = _
    rw [if_neg (by omega)]
  rw [e]
  omega
theorem cutD_suf (ds : List PyData) {i : Int} (h0 : 0 ≤ i) : (cutD ds (some i) none).length ≤ ds.length - i.toNat := by
  unfold cutD
  rw [List.length_take, List.length_drop, HT.sIx_none]
  have e : HT.sIx ds.length 0 (some i) = min i.toNat ds.length := by
    show (if i < 0 then _ else _) = _
    rw [if_neg (by omega)]
  rw [e]
  omega
/-- the row at a place -/
theorem rowAt {K : PySem.W.Frag} {F : Hp} {av : Addr} {ys : List V} {rows : List (List Int)} {i : Nat} (h : DaAll K F av ys (rows.map rowD)) (hi : i < rows.length) :
    ∃ (b : Addr) (us : List V) (row : List Int), atI ys (i : Int) = some (.ref b) ∧ row ∈ rows ∧ SqT K F b us ∧ DaAll K F av us (row.map .int) ∧ us.length = row.length := by
  obtain ⟨v, hv, hd⟩ := h.getD (i := i) (d := rowD rows[i]) (by rw [List.getElem?_map, List.getElem?_eq_getElem hi]; rfl)
  obtain ⟨b, us, rfl, hS, hA⟩ := (show Da K F av v (.tuple (rows[i].map .int)) from hd).isTup
  have hl := (List.getElem?_eq_some_iff.mp hv).1
  refine ⟨b, us, rows[i], ?_, List.getElem_mem hi, hS, hA, by rw [hA.length, List.length_map]⟩
  exact atI_nat hv
theorem rowAtI {K : PySem.W.Frag} {F : Hp} {av : Addr} {ys : List V} {rows : List (List Int)} {i : Int} (h : DaAll K F av ys (rows.map rowD)) (h0 : 0 ≤ i) (hi : i < rows.length) :
    ∃ (b : Addr) (us : List V) (row : List Int), atI ys i = some (.ref b) ∧ row ∈ rows ∧ SqT K F b us ∧ DaAll K F av us (row.map .int) ∧ us.length = row.length := by
  obtain ⟨b, us, row, z⟩ := rowAt (i := i.toNat) h (by omega)
  rw [Int.toNat_of_nonneg h0] at z
  exact ⟨b, us, row, z⟩
theorem lay_rows : ∀ rows : List (List Int), PyData.canLayAll0 (rows.map rowD) = true
  | [] => rfl
  | n :: r => by
    rw [List.map_cons]
    simp only [PyData.canLayAll0, rowD, PyData.canLay0, lay_ints, lay_rows r, Bool.and_self]
theorem shaped_rows {k : Nat} {rows : List (List Int)} (h : Tm k (.tuple (rows.map rowD))) (hk : k ≤ 64) : SeqAt.shaped (.tuple (rows.map rowD)) = true := by
  unfold SeqAt.shaped
  have d := h.ok.2.2.1
  simp only [PyData.canLay0, lay_rows, Bool.true_and]
  exact decide_eq_true (by omega)
theorem shaped_nilT : SeqAt.shaped (.tuple []) = true := by decide
theorem eqv_rows (rows : List (List Int)) : PyData.eqv (.tuple (rows.map rowD)) (.tuple []) = rows.isEmpty := by
  cases rows with
  | nil => rfl
  | cons n r => rfl
theorem Tm.row {rows : List (List Int)} {row : List Int} (h : Tm 2 (.tuple (rows.map rowD))) (hr : row ∈ rows) : Tm 1 (.tuple (row.map .int)) :=
  h.2 (rowD row) (List.mem_map.mpr ⟨row, hr, rfl⟩)
structure Ds (j : Nat) (K : PySem.W.Frag) (F : Hp) (pen c : Addr) (m : Int) (xv : List V) (xd : List PyData) (us : List V) (es : List PyData) : Prop where
  P : PenC F pen c m
  X : DaAll K F pen xv xd
  I : DaAll K F pen us es
  T : ∀ d ∈ es, Tm j d
section
variable {K : PySem.W.Frag} {F F' : Hp} {pen c S : Addr} {m : Int} {j : Nat} {xv vs us ws : List V} {xd ds es zs : List PyData}
theorem Ds.same (h : Ds j K F pen c m xv xd us es) (s : Same F F') : Ds j K F' pen c m xv xd us es := ⟨h.P.same s, h.X.same s, h.I.same s, h.T⟩
theorem Ds.newT (h : Ds j K F pen c m xv xd us es) {t : Addr} (n : F t = none) (hd : DaAll K F pen ws zs) (ht : Tm j (.tuple zs)) :
    Ds j K (upd F t (.tup ws)) pen c m xv xd (us ++ [.ref t]) (es ++ [.tuple zs]) := by
  refine ⟨h.P.same (same_upd n), h.X.same (same_upd n), (h.I.same (same_upd n)).append (.cons (Da.newT hd n) .nil), ?_⟩
  intro d hd
  rcases List.mem_append.mp hd with hd | hd
  · exact h.T d hd
  · rw [List.mem_singleton.mp hd]
    exact ht
theorem Ds.add (h : Ds j K F pen c m xv xd us es) {v : V} {d : PyData} (hv : Da K F pen v d) (ht : Tm j d) :
    Ds j K F pen c m xv xd (us ++ [v]) (es ++ [d]) := by
  refine ⟨h.P, h.X, h.I.append (.cons hv .nil), ?_⟩
  intro e hd
  rcases List.mem_append.mp hd with hd | hd
  · exact h.T e hd
  · rw [List.mem_singleton.mp hd]
    exact ht
theorem Ds.newL (h : Ds j K F pen c m xv xd us es) {t : Addr} (n : F t = none) (hd : DaAll K F pen ws zs) (ht : Tm j (.list zs)) :
    Ds j K (upd F t (.lst ws)) pen c m xv xd (us ++ [.ref t]) (es ++ [.list zs]) := by
  refine ⟨h.P.same (same_upd n), h.X.same (same_upd n), (h.I.same (same_upd n)).append (.cons (.lst (h.P.new_ne n).1 (.inl (.inl upd_same)) (hd.same (same_upd n))) .nil), ?_⟩
  intro d hd
  rcases List.mem_append.mp hd with hd | hd
  · exact h.T d hd
  · rw [List.mem_singleton.mp hd]
    exact ht
theorem Ds.addX (h : Ds j K F pen c m xv xd us es) {v : V} {d : PyData} (hv : Da K F pen v d) : Ds j K F pen c m (xv ++ [v]) (xd ++ [d]) us es := ⟨h.P, h.X.append (.cons hv .nil), h.I, h.T⟩
theorem Ds.setX (h : Ds j K F pen c m xv xd us es) (hv : DaAll K F pen vs ds) : Ds j K F pen c m vs ds us es := ⟨h.P, hv, h.I, h.T⟩
theorem Ds.lev (h : Ds j K F pen c m xv xd us es) (i : Nat) : Ds i K F pen c m xv xd [] [] := ⟨h.P, h.X, .nil, fun d hd => by cases hd⟩
theorem Ds.oth (h : Ds j K F pen c m xv xd us es) {m' : Int} (s : Oth F F' pen) (P : PenC F' pen c m') : Ds j K F' pen c m' xv xd us es := ⟨P, h.X.othP h.P s, h.I.othP h.P s, h.T⟩
theorem Ds.nix (h : Ds j K F pen c m xv xd us es) : Ds j K F pen c m xv xd [] [] := ⟨h.P, h.X, .nil, fun d hd => by cases hd⟩
theorem Ds.keep (h : Ds j K F pen c m xv xd us es) : Ds j K F pen c m (xv ++ us) (xd ++ es) [] [] := ⟨h.P, h.X.append h.I, .nil, fun d hd => by cases hd⟩
/-- the list itself -/
theorem Ds.list (h : Ds j K F pen c m xv xd us es) (n : F S = Option.none) : Ls j K (upd F S (.lst us)) pen S us es :=
  ⟨upd_same, h.I.same (same_upd n), h.T, (h.P.new_ne n).1⟩
/-- glued behind another -/
theorem Ds.glue (h : Ds j K F pen c m xv xd us es) (hL : Ls j K F pen S vs ds) {N : Addr} (n : F N = Option.none) : Ls j K (upd F N (.lst (vs ++ us))) pen N (vs ++ us) (ds ++ es) :=
  hL.ext h.I h.T n (h.P.new_ne n).1
theorem Da.put {v : V} {d : PyData} {ps : List V} {o : HO} (h : Da K F pen v d) (n : noL d = true) (hS : F S = some (.lst ps)) : Da K (upd F S o) pen v d :=
  Da.any (av := S) d v n ((Da.any (av := pen) d v n h).grow hS)
theorem DaAll.put {ps : List V} {o : HO} : ∀ {us : List V} {es : List PyData}, DaAll K F pen us es → noLs es = true → F S = some (.lst ps) → DaAll K (upd F S o) pen us es
  | _, _, .nil, _, _ => .nil
  | _, _, .cons a b, n, hS => by
    simp only [noLs, Bool.and_eq_true] at n
    exact .cons (a.put n.1 hS) (b.put n.2 hS)
theorem Oth.putS {H G : Hp} {o : HO} (s : Same H G) (n : H S = Option.none) : Oth H (L2.upd G S o) pen := by
  intro b u nb e
  rw [upd_ne (ne_of_none e n)]
  exact s b u e
theorem tmK (j : Nat) : ∀ {k : Nat}, k ≤ 6 → Tm j (.str (Str.ofString (toString (k : Int))))
  | 0, _ => tmS j (by decide +kernel)
  | 1, _ => tmS j (by decide +kernel)
  | 2, _ => tmS j (by decide +kernel)
  | 3, _ => tmS j (by decide +kernel)
  | 4, _ => tmS j (by decide +kernel)
  | 5, _ => tmS j (by decide +kernel)
  | 6, _ => tmS j (by decide +kernel)
  | n + 7, h => absurd h (by omega)
theorem tm20 (k : Nat) {p : Int} (h2 : 2 ≤ p) (h : p ≤ 97) : Tm k (.int (p + 10 ^ (20 : Int).toNat)) := by
  refine tmI _ ?_
  have e20 : (10 : Int) ^ (20 : Int).toNat = 100000000000000000000 := by decide
  rw [e20]
  omega
theorem Tm.rep {k : Nat} {d : PyData} (h : Tm k d) (n : Nat) : ∀ x ∈ (List.replicate n [d]).flatten, Tm k x := by
  intro x hx
  obtain ⟨l, hl, hx⟩ := List.mem_flatten.mp hx
  rw [List.eq_of_mem_replicate hl] at hx
  rw [List.mem_singleton.mp hx]
  exact h
theorem DaAll.repF {v : V} {d : PyData} {H : Hp} {av : Addr} (h : Da K H av v d) : ∀ n : Nat, DaAll K H av (List.replicate n [v]).flatten (List.replicate n [d]).flatten
  | 0 => .nil
  | n + 1 => by
    rw [List.replicate_succ, List.replicate_succ]
    exact .cons h (DaAll.repF h n)
theorem Ds.rep {v : V} {d : PyData} (h : Ds j K F pen c m xv xd [v] [d]) (n : Nat) : Ds j K F pen c m xv xd (List.replicate n [v]).flatten (List.replicate n [d]).flatten :=
  ⟨h.P, h.X, DaAll.repF h.I.hd n, Tm.rep (h.T d (List.mem_singleton.mpr rfl)) n⟩
end
end XA

set_option Elab.async false
set_option linter.all false
set_option maxRecDepth 100000
set_option maxHeartbeats 4000000
/-! XM: two walks in one comprehension. -/
namespace XA
open PySem PySem.Spec PyProof.Rows L2
/-- what the inner walk owes -/
def Inn (J : It) (Nx : Hp → Prop) (g : TG) (tt : TT) (te : TE) (D : Addr) (σ : L2.St) (ws : List Nat) (H0 : Hp) : Prop :=
  ∃ W : Nat → Nat → Hp → Prop, (∃ m, W 0 m H0) ∧ ∀ j k H, W j k H → (J.stop j H ∧ Nx H) ∨
    (J.go j H ∧ ∃ Ny : Hp → Prop, (∀ H', Ny H' → ∃ k', k' < k ∧ W (j + 1) k' H') ∧
      ∀ x H', J.yld j H x H' → g x (wipe σ ws) H' fun τ H5 => wipe τ ws = wipe σ ws ∧ tt τ H5 fun b H6 =>
        if b = true then te τ H6 fun y H7 => ∃ acc, H7 D = some (.lst acc) ∧ acc.length < sizeLine ∧ Ny (L2.upd H7 D (.lst (acc ++ [y]))) else Ny H6)
theorem inn_tup {K : PySem.W.Frag} {a : Addr} {xs : List V} {Nx : Hp → Prop} {g : TG} {tt : TT} {te : TE} {D : Addr} {σ : L2.St} {ws : List Nat} {H0 : Hp} (P : Nat → Hp → Prop) (h0 : P 0 H0)
    (hl : ∀ j H, j ≤ xs.length → P j H → SqT K H a xs)
    (hs : ∀ j x H, xs[j]? = some x → P j H → g x (wipe σ ws) H fun τ H5 => wipe τ ws = wipe σ ws ∧ tt τ H5 fun b H6 =>
      if b = true then te τ H6 fun y H7 => ∃ acc, H7 D = some (.lst acc) ∧ acc.length < sizeLine ∧ P (j + 1) (L2.upd H7 D (.lst (acc ++ [y]))) else P (j + 1) H6)
    (hd : ∀ H, P xs.length H → Nx H) : Inn (Itt K a) Nx g tt te D σ ws H0 := by
  refine ⟨fun j k H => k = xs.length - j ∧ j ≤ xs.length ∧ P j H, ⟨_, rfl, Nat.zero_le _, h0⟩, ?_⟩
  intro j k H w
  obtain ⟨rfl, hj, p⟩ := w
  have s := hl j H hj p
  rcases Nat.lt_or_ge j xs.length with lt | ge
  · refine .inr ⟨⟨xs, xs[j], s, List.getElem?_eq_getElem lt⟩, P (j + 1), fun H' p' => ⟨_, by omega, rfl, lt, p'⟩, ?_⟩
    rintro x H' ⟨rfl, y⟩
    exact hs j x _ (y xs s) p
  · obtain rfl : j = xs.length := by omega
    exact .inl ⟨⟨xs, s, Nat.le_refl _⟩, hd H p⟩
theorem lc2_list {K : PySem.W.Frag} {a : Addr} {xs : List V} {g g1 : TG} {tt tt1 : TT} {wi : TI} {te : TE} {vs ws : List Nat} {σ : L2.St} {H1 : Hp} {D : Addr} {Qd : Hp → Prop} (P : Nat → Hp → Prop)
    (h0 : P 0 (L2.upd H1 D (.lst []))) (hl : ∀ i H, i ≤ xs.length → P i H → SqL K H a xs)
    (hs : ∀ i x H, xs[i]? = some x → P i H → g x (wipe σ vs) H fun τ H2 => wipe τ vs = wipe σ vs ∧ tt τ H2 fun b H3 =>
      if b = true then wi τ H3 fun J H4 => Inn J (P (i + 1)) g1 tt1 te D τ ws H4 else P (i + 1) H3) (hd : ∀ H, P xs.length H → Qd H) :
    ∃ W : Nat → Nat → Hp → Prop, (∃ m, W 0 m (L2.upd H1 D (.lst []))) ∧ ∀ i m H, W i m H → ((Itl K a).stop i H ∧ Qd H) ∨
      ((Itl K a).go i H ∧ ∃ Nx : Hp → Prop, (∀ H', Nx H' → ∃ m', m' < m ∧ W (i + 1) m' H') ∧
        ∀ x H', (Itl K a).yld i H x H' → g x (wipe σ vs) H' fun τ H2 => wipe τ vs = wipe σ vs ∧ tt τ H2 fun b H3 =>
          if b = true then wi τ H3 fun J H4 => Inn J Nx g1 tt1 te D τ ws H4 else Nx H3) := by
  refine ⟨fun i m H => m = xs.length - i ∧ i ≤ xs.length ∧ P i H, ⟨_, rfl, Nat.zero_le _, h0⟩, ?_⟩
  intro i m H w
  obtain ⟨rfl, hj, p⟩ := w
  have s := hl i H hj p
  rcases Nat.lt_or_ge i xs.length with lt | ge
  · refine .inr ⟨⟨xs, xs[i], s, List.getElem?_eq_getElem lt⟩, P (i + 1), fun H' p' => ⟨_, by omega, rfl, lt, p'⟩, ?_⟩
    rintro x H' ⟨rfl, y⟩
    exact hs i x _ (y xs s) p
  · obtain rfl : i = xs.length := by omega
    exact .inl ⟨⟨xs, s, Nat.le_refl _⟩, hd H p⟩
end XA

set_option Elab.async false
set_option linter.all false
set_option maxRecDepth 100000
set_option maxHeartbeats 4000000
/-! XN: data of a size (wider than Tm). -/
namespace XA
open PySem PySem.Spec PyProof.Rows L2
theorem canLayAll_eq : ∀ ds : List PyData, PyData.canLayAll0 ds = ds.all PyData.canLay0
  | [] => rfl
  | d :: r => by
    rw [List.all_cons, ← canLayAll_eq r]
    rfl
/-- at most k deep, shown in at most n letters -/
structure Sz (k n : Nat) (d : PyData) : Prop where
  sh : d.showable = true
  nd : d.hasDict = false
  dp : d.depth ≤ k
  ln : d.shown.length ≤ n
  ly : d.canLay0 = true
theorem Sz.le {k n k' n' : Nat} {d : PyData} (h : Sz k n d) (e1 : k ≤ k') (e2 : n ≤ n') : Sz k' n' d :=
  ⟨h.sh, h.nd, Nat.le_trans h.dp e1, Nat.le_trans h.ln e2, h.ly⟩
theorem Sz.shaped {k n : Nat} {d : PyData} (h : Sz k n d) (e : k ≤ 64) : SeqAt.shaped d = true := by
  unfold SeqAt.shaped
  rw [h.ly, Bool.true_and]
  exact decide_eq_true (Nat.le_trans h.dp e)
theorem szAll {k n m : Nat} {ds : List PyData} (hl : ds.length ≤ m) (h : ∀ d ∈ ds, Sz k n d) :
    PyData.showableAll ds = true ∧ PyData.hasDictAll ds = false ∧ PyData.depthAll ds ≤ k ∧ ((PyData.shownAll ds).map fun x => x.length).sum ≤ m * n ∧ PyData.canLayAll0 ds = true := by
  refine ⟨?_, ?_, depthAll_le ds fun d hd => (h d hd).dp, ?_, ?_⟩
  · rw [showableAll_eq, List.all_eq_true]
    exact fun d hd => (h d hd).sh
  · rw [hasDictAll_eq, List.any_eq_false]
    exact fun d hd => by rw [(h d hd).nd]; decide
  · have s := sum_le (B := n) (ds.map ((fun x => x.length) ∘ PyData.shown)) (by
      intro x hx
      obtain ⟨d, hd, rfl⟩ := List.mem_map.mp hx
      exact (h d hd).ln)
    rw [List.length_map] at s
    rw [shownAll_eq, List.map_map]
    exact Nat.le_trans s (Nat.mul_le_mul_right n hl)
  · rw [canLayAll_eq, List.all_eq_true]
    exact fun d hd => (h d hd).ly
theorem szT {k n m : Nat} {ds : List PyData} (hl : ds.length ≤ m) (h : ∀ d ∈ ds, Sz k n d) : Sz (k + 1) (m * (n + 2) + 3) (.tuple ds) := by
  obtain ⟨h1, h2, h3, h4, h5⟩ := szAll hl h
  refine ⟨h1, h2, Nat.succ_le_succ h3, ?_, h5⟩
  show (tupleText (PyData.shownAll ds)).length ≤ _
  have z := tupleText_len_le (PyData.shownAll ds)
  rw [shownAll_eq] at z h4 ⊢
  rw [List.length_map] at z
  have e : m * (n + 2) = m * n + m * 2 := Nat.mul_add m n 2
  omega
theorem szL {k n m : Nat} {ds : List PyData} (hl : ds.length ≤ m) (h : ∀ d ∈ ds, Sz k n d) : Sz (k + 1) (m * (n + 2) + 3) (.list ds) := by
  obtain ⟨h1, h2, h3, h4, h5⟩ := szAll hl h
  refine ⟨h1, h2, Nat.succ_le_succ h3, ?_, h5⟩
  show (listText (PyData.shownAll ds)).length ≤ _
  have z := listText_len_le (PyData.shownAll ds)
  rw [shownAll_eq] at z h4 ⊢
  rw [List.length_map] at z
  have e : m * (n + 2) = m * n + m * 2 := Nat.mul_add m n 2
  omega
theorem szI (k : Nat) {i : Int} (h : i.natAbs < 10 ^ 30) : Sz k 130 (.int i) := by
  obtain ⟨h1, h2, h3, h4⟩ := (tmI 0 h : Tm 0 (.int i)).ok
  exact ⟨h1, h2, Nat.le_trans h3 (Nat.zero_le _), h4, rfl⟩
theorem szN (k : Nat) : Sz k 4 .none := ⟨rfl, rfl, Nat.zero_le _, by decide, rfl⟩
theorem szB (k : Nat) (b : Bool) : Sz k 5 (.bool b) := ⟨rfl, rfl, Nat.zero_le _, by cases b <;> decide, rfl⟩
theorem szS (k : Nat) {x : Str} {n : Nat} (h : (reprText x).length ≤ n) (h2 : (PyData.str x).canLay0 = true) : Sz k n (.str x) := ⟨rfl, rfl, Nat.zero_le _, h, h2⟩
theorem repr_sz {K : PySem.W.Frag} {H : Hp} {av : Addr} {v : V} {d : PyData} {Q : VK} {k n : Nat} (h : Da K H av v d) (t : Sz k n d) (hk : k ≤ 100) (hn : n ≤ 16777216) (q : Q (.str d.shown) H) : rReprD K [v] H Q :=
  ⟨v, d, rfl, h.dp, t.sh, t.nd, Nat.le_trans t.dp hk, Nat.le_trans t.ln hn, q⟩
theorem szRow {row : List Int} {p : Int} {m : Nat} (hl : row.length ≤ m) (hp : p ≤ 97) (h : ∀ x ∈ row, 0 ≤ x ∧ x < p) : Sz 1 (m * 132 + 3) (rowD row) := by
  refine szT (by rw [List.length_map]; exact hl) ?_
  intro d hd
  obtain ⟨x, hx, rfl⟩ := List.mem_map.mp hd
  obtain ⟨h1, h2⟩ := h x hx
  exact szI 0 (by omega)
def Good' (rows : List (List Int)) (p : Int) (m : Nat) : Prop := ∀ row ∈ rows, row.length ≤ m ∧ ∀ x ∈ row, 0 ≤ x ∧ x < p
theorem szMat {r c : Int} {rows : List (List Int)} {p : Int} {a b : Nat} (h : Good' rows p b) (hp : p ≤ 97) (hl : rows.length ≤ a) (hr : r.natAbs < 10 ^ 30) (hc : c.natAbs < 10 ^ 30) :
    Sz 3 (3 * (a * (b * 132 + 5) + 135) + 3) (matD r c rows) := by
  have t : Sz 2 (a * (b * 132 + 5) + 3) (.tuple (rows.map rowD)) := szT (by rw [List.length_map]; exact hl) (by
    intro d hd
    obtain ⟨row, hr', rfl⟩ := List.mem_map.mp hd
    obtain ⟨g1, g2⟩ := h row hr'
    exact szRow g1 hp g2)
  refine (szT (m := 3) (n := a * (b * 132 + 5) + 133) (by simp) (all3 ((szI _ hr).le (Nat.le_refl _) (by omega)) ((szI _ hc).le (Nat.le_refl _) (by omega)) (t.le (by decide) (by omega)))).le (Nat.le_refl _) (by omega)
theorem eqv_nilL (ds : List PyData) : PyData.eqv (.list ds) (.list []) = ds.isEmpty := by
  cases ds <;> rfl
theorem eqv_nilT (ds : List PyData) : PyData.eqv (.tuple ds) (.tuple []) = ds.isEmpty := by
  cases ds <;> rfl
end XA

set_option Elab.async false
set_option linter.all false
set_option maxRecDepth 100000
set_option maxHeartbeats 4000000
/-! XO: matrices as data, taken apart. -/
namespace XA
open PySem PySem.Spec PyProof.Rows L2
/-- rows of w numbers by p -/
def Good (rows : List (List Int)) (w : Nat) (p : Int) : Prop := ∀ row ∈ rows, row.length = w ∧ ∀ x ∈ row, 0 ≤ x ∧ x < p

def matsD : PyData → Int → Bool
  | .list ds, p => ds.all (fun x => isMatD x p)
  | _, _ => false
theorem lst_of {d : PyData} (h : isD d "list" = true) : ∃ ds, d = .list ds := by
  cases d <;> first | exact ⟨_, rfl⟩ | (simp [isD, tyD] at h)
theorem matsD_no {d : PyData} {p : Int} (h : isD d "list" = false) : matsD d p = false := by
  cases d <;> first | rfl | (simp [isD, tyD] at h)
/-- columns for rows -/
def flipR (k : Nat) (rows : List (List Int)) : List (List Int) := (List.range k).map fun j => rows.map fun row => row.getD j 0
theorem ints_of {m : Int} : ∀ {ds : List PyData}, ds.all (fun x => wholeTo x m) = true → ∃ ns : List Int, ds = ns.map .int ∧ ∀ x ∈ ns, 0 ≤ x ∧ x ≤ m
  | [], _ => ⟨[], rfl, fun x hx => by cases hx⟩
  | d :: r, h => by
    rw [List.all_cons, Bool.and_eq_true] at h
    obtain ⟨i, rfl, i0, i1⟩ := wholeTo_int h.1
    obtain ⟨ns, rfl, hn⟩ := ints_of h.2
    refine ⟨i :: ns, rfl, fun x hx => ?_⟩
    rcases List.mem_cons.mp hx with e | hx
    · rw [e]
      exact ⟨i0, i1⟩
    · exact hn x hx
theorem rows_of {k : Nat} {p : Int} : ∀ {ds : List PyData}, ds.all (fun x => isRowD x k p) = true → ∃ rows : List (List Int), ds = rows.map rowD ∧ Good rows k p
  | [], _ => ⟨[], rfl, fun x hx => by cases hx⟩
  | d :: r, h => by
    rw [List.all_cons, Bool.and_eq_true] at h
    obtain ⟨rows, rfl, hg⟩ := rows_of h.2
    have h1 := h.1
    cases d with
    | tuple ds =>
      have h2 : (decide ((ds.length : Int) = k) && ds.all (fun x => wholeTo x (p - 1))) = true := h1
      rw [Bool.and_eq_true] at h2
      obtain ⟨ns, rfl, hn⟩ := ints_of h2.2
      have hl := of_decide_eq_true h2.1
      rw [List.length_map] at hl
      refine ⟨ns :: rows, rfl, fun row hr => ?_⟩
      rcases List.mem_cons.mp hr with e | hr
      · rw [e]
        exact ⟨by omega, fun x hx => by have := hn x hx; omega⟩
      · exact hg row hr
    | _ => exact absurd (show false = true from h1) (by decide)
theorem matD_of {d : PyData} {p : Int} (h : isMatD d p = true) : ∃ (r k : Nat) (rows : List (List Int)), d = matD r k rows ∧ rows.length = r ∧ r ≤ 2000 ∧ k ≤ 2000 ∧ Good rows k p := by
  cases ht : isD d "tuple" with
  | false => rw [isMatD_no ht] at h; cases h
  | true =>
    obtain ⟨ds, rfl⟩ := tup_of ht
    by_cases hl : ds.length = 3
    · obtain ⟨d1, d2, d3, rfl⟩ := len3 hl
      cases h1 : wholeTo d1 2000 with
      | false => rw [isMatD_1 h1] at h; cases h
      | true =>
        cases h2 : wholeTo d2 2000 with
        | false => rw [isMatD_2 h2] at h; cases h
        | true =>
          cases h3 : isD d3 "tuple" with
          | false =>
            rw [isMatD_3 fun rows z => by rw [z] at h3; simp [isD, tyD] at h3] at h
            cases h
          | true =>
            obtain ⟨rs, rfl⟩ := tup_of h3
            obtain ⟨i, rfl, i0, i1⟩ := wholeTo_int h1
            obtain ⟨j, rfl, j0, j1⟩ := wholeTo_int h2
            obtain ⟨r, rfl⟩ : ∃ n : Nat, i = n := ⟨i.toNat, by omega⟩
            obtain ⟨k, rfl⟩ : ∃ n : Nat, j = n := ⟨j.toNat, by omega⟩
            rw [isMatD_in ⟨i0, i1⟩ ⟨j0, j1⟩, Bool.and_eq_true] at h
            obtain ⟨rows, rfl, hg⟩ := rows_of h.2
            have hl := of_decide_eq_true h.1
            rw [List.length_map] at hl
            exact ⟨r, k, rows, rfl, by omega, by omega, by omega, hg⟩
    · rw [isMatD_len p hl] at h
      cases h
theorem word_is {x y : Str} {A B : Prop} (e : x = y) (h : B) : if (!decide (V.str x = V.str y)) = true then A else B := by
  subst e
  rw [decide_eq_true rfl]
  exact iteF h
theorem matOk {r k : Nat} {rows : List (List Int)} {p : Int} (hl : rows.length = r) (hg : Good rows k p) (hr : r ≤ 2000) (hk : k ≤ 2000) : isMatD (matD r k rows) p = true := by
  show isMatD (.tuple [.int r, .int k, .tuple (rows.map rowD)]) p = true
  rw [isMatD_in ⟨by omega, by omega⟩ ⟨by omega, by omega⟩, Bool.and_eq_true]
  refine ⟨decide_eq_true (by rw [List.length_map, hl]), ?_⟩
  rw [List.all_eq_true]
  intro d hd
  obtain ⟨row, hm, rfl⟩ := List.mem_map.mp hd
  obtain ⟨g0, g1⟩ := hg row hm
  show (decide (((row.map PyData.int).length : Int) = k) && (row.map PyData.int).all (fun x => wholeTo x (p - 1))) = true
  rw [Bool.and_eq_true]
  refine ⟨decide_eq_true (by rw [List.length_map, g0]), ?_⟩
  rw [List.all_eq_true]
  intro x hx
  obtain ⟨z, hz, rfl⟩ := List.mem_map.mp hx
  obtain ⟨z0, z1⟩ := g1 z hz
  exact decide_eq_true ⟨z0, by omega⟩
theorem good_noughts (r k : Nat) {p : Int} (hp : 2 ≤ p) : Good (noughtsR r k) k p := by
  intro row hr
  rw [List.eq_of_mem_replicate hr, List.length_replicate]
  refine ⟨rfl, fun x hx => ?_⟩
  rw [List.eq_of_mem_replicate hx]
  exact ⟨by decide, by omega⟩
theorem good_ones (m : Nat) {p : Int} (hp : 2 ≤ p) : Good (onesR m) m p := by
  intro row hr
  obtain ⟨i, _, rfl⟩ := List.mem_map.mp hr
  refine ⟨by rw [List.length_map, List.length_range], fun x hx => ?_⟩
  obtain ⟨j, _, rfl⟩ := List.mem_map.mp hx
  by_cases e : j = i
  · rw [if_pos e]
    exact ⟨by decide, by omega⟩
  · rw [if_neg e]
    exact ⟨by decide, by omega⟩
theorem tm_mat {r k : Nat} {rows : List (List Int)} {p : Int} (hl : rows.length = r) (hg : Good rows k p) (hr : r ≤ 8) (hk : k ≤ 8) (hp : p ≤ 97) : Tm 5 (matD r k rows) := by
  have t : Tm 2 (.tuple (rows.map rowD)) := tmT (by rw [List.length_map]; omega) (by
    intro d hd
    obtain ⟨row, hr', rfl⟩ := List.mem_map.mp hd
    obtain ⟨g1, g2⟩ := hg row hr'
    exact tm_row (by omega) hp g2)
  exact tmT (by simp) (all3 (tmI _ (by omega)) (tmI _ (by omega)) (t.le (by decide)))
theorem pickD {K : PySem.W.Frag} {H : Hp} {av : Addr} : ∀ {vs : List V} {ds : List PyData}, DaAll K H av vs ds → ∀ x ∈ vs, ∃ d ∈ ds, Da K H av x d
  | _, _, .nil, x, hx => by cases hx
  | _, _, .cons a b, x, hx => by
    rcases List.mem_cons.mp hx with e | hx
    · rw [e]
      exact ⟨_, List.mem_cons_self, a⟩
    · obtain ⟨d, h1, h2⟩ := pickD b x hx
      exact ⟨d, List.mem_cons_of_mem _ h1, h2⟩
theorem depth_mat (r c : Int) (rows : List (List Int)) : (matD r c rows).depth ≤ 3 := by
  have h1 : PyData.depthAll (rows.map rowD) ≤ 1 := depthAll_le _ (by
    intro d hd
    obtain ⟨row, _, rfl⟩ := List.mem_map.mp hd
    show PyData.depthAll (row.map .int) + 1 ≤ 1
    rw [depth_ints]
    exact Nat.le_refl _)
  show max 0 (max 0 (max (PyData.depthAll (rows.map rowD) + 1) 0)) + 1 ≤ 3
  omega
theorem shaped_mat (r c : Int) (rows : List (List Int)) : SeqAt.shaped (matD r c rows) = true := by
  unfold SeqAt.shaped
  rw [Bool.and_eq_true]
  constructor
  · show PyData.canLay0 (.tuple [.int r, .int c, .tuple (rows.map rowD)]) = true
    simp only [PyData.canLay0, PyData.canLayAll0, lay_rows, Bool.and_self]
  · refine decide_eq_true ?_
    have := depth_mat r c rows
    omega
theorem wholeTo_nat {n : Nat} {m : Int} {A : Prop} (hn : (n : Int) ≤ m) (h : wholeTo (.int (n : Int)) m = false) : A := by
  have h' : decide (0 ≤ (n : Int) ∧ (n : Int) ≤ m) = false := h
  rw [decide_eq_true (by omega)] at h'
  cases h'
end XA

set_option Elab.async false
set_option linter.all false
set_option maxRecDepth 100000
set_option maxHeartbeats 4000000
/-! XP: the sum of a tuple; isinstance with several classes; objects of the program's classes. -/
namespace XA
open PySem PySem.Spec PyProof.Rows L2
def rSumT (K : PySem.W.Frag) : List V → Hp → VK → Prop := fun vs H Q => ∃ (a : Addr) (ns : List Int), vs = [V.ref a] ∧ SqT K H a (ns.map V.int) ∧ Q (.int ns.sum) H
theorem cr_sumT {X : Cx} (hc : X.calm = true) : CallR X (.builtin "sum") (rSumT X.K) := by
  intro pins s σ H vs us Q I r h
  obtain ⟨a, ns, rfl, hs, q⟩ := h
  obtain ⟨its, rv, ht, _⟩ := I.tuple hs
  rw [Vals.ref1 r]
  have hi := rv.ints
  obtain ⟨ys, hy⟩ := hi.allInts.items
  have hn : numsOf its.toArray.toList = ns := by
    show numsOf its = ns
    exact hi.numsOf
  have ht2 : s.heap.IsTuple a its.toArray := ht
  rw [hy] at ht2 hn
  rw [nums_intItems] at hn
  refine PySem.W.ktm_sumG (I.ok.hd hc) ht2 fun h' tk t' hk => ⟨.int ns.sum, H, I.kept hk, ⟨t', ?_⟩, q⟩
  rw [preSum_eq, List.take_of_length_le (by simp), hn]
def rIsZT (K : PySem.W.Frag) : List V → Hp → VK → Prop := fun xs H Q => ∃ (x : V) (tp : Addr) (cs : List V) (t : Value) (us : List Value) (b : Bool),
  xs = [x, .ref tp] ∧ H tp = some (.tup cs) ∧ Paired ClsV cs us ∧ TyZ K H x t ∧ PySem.W.kitAny K t us = some b ∧ Q (.bl b) H
theorem call_isZT {X : Cx} : CallR X (.builtin "isinstance") (rIsZT X.K) := by
  intro pins s σ H xs us Q I r h
  obtain ⟨x, tp, cs, t, ws, b, rfl, hT, k, ty, e, q⟩ := h
  cases ty with
  | x ty => exact call_isiT pins s σ H _ us Q I r ⟨x, tp, cs, t, ws, b, rfl, hT, k, ty, e, q⟩
  | @exc a D C hx =>
    obtain ⟨v1, v2, rfl, q1, q2⟩ := vals2 r
    cases (show v2 = Value.ref tp from q2)
    cases (show v1 = Value.ref a from q1)
    obtain ⟨⟨oe, fs, hget, hz, hv⟩, _⟩ := I.hok a _ hx
    have J : PySem.W.InstAt s.heap a oe D none := by
      obtain ⟨oc, od, oda, osl⟩ := oe
      obtain ⟨g1, g2⟩ := hz
      dsimp only at g1 g2 hv
      subst g1 g2 hv
      exact ⟨hget, rfl, rfl, trivial⟩
    obtain ⟨_, its, rv, o, w1, w2, n, w3⟩ := (show ObjOk X.prog X.w H s.heap tp (.tup cs) from I.hok tp _ hT)
    have e3 := ClsV.all k rv
    subst e3
    obtain ⟨oc, od, dt, sl⟩ := o
    dsimp only at w2 w3
    subst w2 w3
    exact PySem.W.kia_tup (PySem.W.handS_kitx_exc C.hg C.hk C.hs C.hd C.ha C.hn C.ht C.hm) I.kIn J w1 e (fun z => nomatch z) fun tk => ⟨.bl b, H, I.tok tk, rfl, q⟩

/-! ### objects -/
/-- the address of a class's method -/
abbrev mAt (K : PySem.W.Frag) (C m : Str) : Addr := He.ma K (He.ga K C) m
abbrev MnP (K : PySem.W.Frag) (C m qual : Str) (st : Stmt) (kws : List (Str × V)) (fd : FuncData) : Prop :=
  FunD K m qual (defArgs st) (defBody st) (defScope st) [] kws (mAt K C m) fd
/-- the class called x is made by n values and the keywords ks, its __init__ keeps its promise -/
structure HasM (P : Program) (w : World) (K : PySem.W.Frag) (mg : Str → Option Value) (base : Heap) (CX : CXT) (k : Nat) (x : Str) (ps : List Str) (n : Nat) (ks : List Str) (sp : Sp) : Prop where
  fn : ∃ fd, FnOk P w K mg base CX k (mAt K x "__init__") fd ps sp ∧ KBn K fd ps (n + 1) ks (fun us ws => us ++ ws) (fun vs zs => vs ++ zs)
  mkr : Mk K (He.ga K x) (mAt K x "__init__")
  gl : mg x = some (.ref (He.ga K x))
section
variable {X : Cx} {CX : CXT} {k n : Nat} {ps ks : List Str} {sp : Sp} {E : XK} {x : Str} {p pos : Pos} {e : Expr} {es : List Expr} {kws : List Keyword} {t tk : TA}
theorem pe_hasM (h : HasM X.prog X.w X.K X.mg X.base CX k x ps n ks sp) (hr : Room (k + 1) X.A) (hx : Passes CX X E) (ha : PA X (e :: es) t) (hkw : PK X kws tk) (hg : Gl X x := by rfl)
    (hall : (backToKw pos (keywordEach kws X.env)).all (·.1.isSome) = true := by rfl)
    (hks : (backToKw pos (keywordEach kws X.env)).filterMap (·.1) = ks := by rfl)
    (hdb : (x == ("__debug__" : Str)) = false := by decide) (he : starEach (e :: es) X.env = (false, eval e X.env) :: starEach es X.env := by rfl)
    (hpl : ((backTo pos (starEach (e :: es) X.env)).any (·.1) || (backToKw pos (keywordEach kws X.env)).any (·.1.isNone)) = false := by rfl) :
    PE X (.Call (.Name x p) (e :: es) kws pos) (tMakeN (He.ga X.K x) n ks.length sp (fun vs zs => vs ++ zs) E t tk) := by
  obtain ⟨fd, F, b⟩ := h.fn
  exact pe_makeN h.mkr F hr hg h.gl b hx ha hkw hall hks hdb he hpl
end
theorem hasM_of {P : Program} {w : World} {K : PySem.W.Frag} {mg : Str → Option Value} {base : Heap} {CX : CXT} {k n : Nat} {x qual : Str} {ps ks : List Str} {sp : Sp} {st : Stmt} {kws : List (Str × V)} {fd : FuncData}
    (F : MnP K x "__init__" qual st kws fd) (G : FnOk P w K mg base CX k (mAt K x "__init__") fd ps sp) (mk : Mk K (He.ga K x) (mAt K x "__init__")) (gl : mg x = some (.ref (He.ga K x)))
    (h : ∀ (kV doc pm : Value) (an : Option Addr) (cdv ct : Value) (us ws : List Value), us.length = n + 1 → ws.length = ks.length →
      bindArgs (PySem.W.fnOf "__init__" qual (defArgs st) (defBody st) (defScope st) .none kV doc pm an cdv ct) ⟨us, ks.zip ws⟩ = pure (ps.zip (us ++ ws))) :
    HasM P w K mg base CX k x ps n ks sp := by
  obtain ⟨oc, od, dV, kV, doc, pm, an, cdv, ct, osl, rfl, lk, hcd, hD, hK⟩ := id F.ex
  rcases hD with ⟨_, rfl⟩ | ⟨e, _⟩
  · exact ⟨⟨_, G, kbn_of (h kV doc pm an cdv ct)⟩, mk, gl⟩
  · exact absurd rfl e
/-- the statements of a class -/
def clsBody : Stmt → List Stmt
  | .ClassDef _ _ _ b _ _ _ _ _ _ _ => b
  | _ => []
end XA

set_option Elab.async false
set_option linter.all false
set_option maxRecDepth 100000
set_option maxHeartbeats 4000000
/-! XQ: comprehensions over zip of tuples. -/
namespace XA
open PySem PySem.Spec PyProof.Rows L2
theorem lc_zipT {K : PySem.W.Frag} {a b : Addr} {xs ys : List V} {g : TG} {tt : TT} {te : TE} {vs : List Nat} {σ : L2.St} {H1 : Hp} {D : Addr} {Qd : Hp → Prop} (hl : xs.length = ys.length) (P : Nat → Hp → Prop)
    (h0 : P 0 (L2.upd H1 D (.lst []))) (hq : ∀ i H, i ≤ xs.length → P i H → SqT K H a xs ∧ SqT K H b ys)
    (hs : ∀ i x y T H, xs[i]? = some x → ys[i]? = some y → P i H → H T = none → g (.ref T) (wipe σ vs) (L2.upd H T (.tup [x, y])) fun τ H2 => wipe τ vs = wipe σ vs ∧ tt τ H2 fun b H3 =>
      if b = true then te τ H3 fun z H4 => ∃ acc, H4 D = some (.lst acc) ∧ acc.length < sizeLine ∧ P (i + 1) (L2.upd H4 D (.lst (acc ++ [z]))) else P (i + 1) H3) (hd : ∀ H, P xs.length H → Qd H) :
    ∃ W : Nat → Nat → Hp → Prop, (∃ m, W 0 m (L2.upd H1 D (.lst []))) ∧ ∀ i m H, W i m H → ((RZ.ItzT K a b).stop i H ∧ Qd H) ∨
      ((RZ.ItzT K a b).go i H ∧ ∃ Nx : Hp → Prop, (∀ H', Nx H' → ∃ m', m' < m ∧ W (i + 1) m' H') ∧
        ∀ x H', (RZ.ItzT K a b).yld i H x H' → g x (wipe σ vs) H' fun τ H2 => wipe τ vs = wipe σ vs ∧ tt τ H2 fun b H3 =>
          if b = true then te τ H3 fun z H4 => ∃ acc, H4 D = some (.lst acc) ∧ acc.length < sizeLine ∧ Nx (L2.upd H4 D (.lst (acc ++ [z]))) else Nx H3) := by
  refine ⟨fun i m H => m = xs.length - i ∧ i ≤ xs.length ∧ P i H, ⟨_, rfl, Nat.zero_le _, h0⟩, ?_⟩
  intro i m H w
  obtain ⟨rfl, hj, p⟩ := w
  obtain ⟨sa, sb⟩ := hq i H hj p
  rcases Nat.lt_or_ge i xs.length with lt | ge
  · have lt2 : i < ys.length := by omega
    refine .inr ⟨⟨xs, ys, _, _, sa, sb, List.getElem?_eq_getElem lt, List.getElem?_eq_getElem lt2⟩, P (i + 1), fun H' p' => ⟨_, by omega, rfl, lt, p'⟩, ?_⟩
    rintro v H' ⟨T, x, y, rfl, nT, rfl, f1, f2⟩
    exact hs i x y T H (f1 xs sa) (f2 ys sb) p nT
  · obtain rfl : i = xs.length := by omega
    exact .inl ⟨⟨xs, ys, sa, sb, .inl (Nat.le_refl _)⟩, hd H p⟩
section
variable {X : Cx} (K : PySem.W.Frag) (h : X.K = K := by rfl)
include h
theorem pg_tupK {es : List Expr} {k : Nat} {t : TGs} {n : Nat} {pos : Pos} (hc : X.calm = true) (hp : PGs X es t)
    (hn : (assignEach es X.env).length = n := by rfl) (hst : (assignEach es X.env).findIdx? (·.1) = none := by rfl) : PG X (.Tuple es k pos) (gTup K n t) := h ▸ pg_tup hc hp hn hst
theorem pe_fldK {e : Expr} {f : Str} {pos : Pos} {ta : TE} (he : PE X e ta) (hb : attributeBase e f X.env (eval e X.env) = eval e X.env) : PE X (.Attribute e f pos) (tFld K ta f) := h ▸ pe_fld he hb
theorem pi_zipAK {e e2 : Expr} {ta : TA} {p pos tpos : Pos} {elts : List Expr} {kk : Nat} (hg : Gl X "zip") (hm : X.mg "zip" = none) (ha : PA X [e, e2] ta)
    (hs : starEach [e, e2] X.env = (false, eval e X.env) :: starEach [e2] X.env := by rfl) (hpl : (backTo pos (starEach [e2] X.env)).any (·.1) = false := by rfl) :
    PI X (.Tuple elts kk tpos) (.Call (.Name "zip" p) [e, e2] [] pos) (RZ.iZipA K ta) := h ▸ RZ.pi_zipA hg hm ha hs hpl
theorem cr_sumTK (hc : X.calm = true) : CallR X (.builtin "sum") (rSumT K) := h ▸ cr_sumT hc
theorem cr_sumK (hc : X.calm = true) : CallR X (.builtin "sum") (rSum K) := h ▸ cr_sum hc
theorem call_isZTK : CallR X (.builtin "isinstance") (rIsZT K) := h ▸ call_isZT
end
/-! ### nets -/
/-- an object of the class Net -/
def NetAt (K : PySem.W.Frag) (H : Hp) (a : Addr) (r ar p : V) : Prop := ∃ dx, H a = some (.ins (He.ga K "Net") dx [("rooms", r), ("arrows", ar), ("prime", p)])
theorem NetAt.same {K : PySem.W.Frag} {H H' : Hp} {a : Addr} {r ar p : V} (h : NetAt K H a r ar p) (s : Same H H') : NetAt K H' a r ar p := by
  obtain ⟨dx, e⟩ := h
  exact ⟨dx, s _ _ e⟩
theorem NetAt.ne {K : PySem.W.Frag} {H : Hp} {a b : Addr} {xs : List V} {r ar p : V} (h : NetAt K H a r ar p) (hb : H b = some (.lst xs)) : a ≠ b := by
  obtain ⟨dx, e⟩ := h
  rintro rfl
  rw [hb] at e
  cases e
theorem NetAt.oth {K : PySem.W.Frag} {H H' : Hp} {a pen c : Addr} {n : Int} {r ar p : V} (h : NetAt K H a r ar p) (P : PenC H pen c n) (s : Oth H H' pen) : NetAt K H' a r ar p := by
  obtain ⟨cells, x, l, h1, _⟩ := P
  have ne := h.ne h1
  obtain ⟨dx, e⟩ := h
  exact ⟨dx, s _ _ ne e⟩
def arrD (x : Int × Int) : PyData := .tuple [.int x.1, .int x.2]
def arrsD (l : List (Int × Int)) : PyData := .tuple (l.map arrD)
def arrowOk (r : Int) : PyData → Bool
  | .tuple [x, y] => wholeTo x (r - 1) && (wholeTo y (r - 1) && !(PyData.eqv x y))
  | _ => false
def roomsOk : PyData → Bool
  | .int r => decide (1 ≤ r ∧ r ≤ 8)
  | _ => false
def arrowsOk (r : Int) : PyData → Bool
  | .tuple ds => decide (ds.length ≤ 12) && ds.all (arrowOk r)
  | _ => false
def netD (dr da : PyData) : Bool := match dr with
  | .int r => decide (1 ≤ r ∧ r ≤ 8) && arrowsOk r da
  | _ => false
def intD : PyData → Int
  | .int i => i
  | _ => 0
def heapD (rooms : Int) : PyData → Bool
  | .tuple ds => decide ((ds.length : Int) = rooms) && (ds.all (fun d => wholeTo d 12) && decide ((ds.map intD).sum ≤ 30))
  | _ => false
def formI (arrows : List (Int × Int)) (xs ys : List Int) : Int :=
  (List.zipWith (· * ·) xs ys).sum - (arrows.map fun a => xs.getD a.1.toNat 0 * ys.getD a.2.toNat 0).sum
theorem heapD_ints (rooms : Int) (ns : List Int) : heapD rooms (.tuple (ns.map .int)) = (decide ((ns.length : Int) = rooms) && (ns.all (fun x => decide (0 ≤ x ∧ x ≤ 12)) && decide (ns.sum ≤ 30))) := by
  have e : ((ns.map PyData.int).map intD) = ns := by
    rw [List.map_map]
    exact List.map_id _
  unfold heapD
  dsimp only
  rw [e, List.length_map, List.all_map]
  rfl
theorem heapD_of {rooms : Int} {d : PyData} (h : heapD rooms d = true) : ∃ ns : List Int, d = .tuple (ns.map .int) ∧ (ns.length : Int) = rooms ∧ (∀ x ∈ ns, 0 ≤ x ∧ x ≤ 12) ∧ ns.sum ≤ 30 := by
  cases d with
  | tuple ds =>
    have h1 : (decide ((ds.length : Int) = rooms) && (ds.all (fun d => wholeTo d 12) && _)) = true := h
    rw [Bool.and_eq_true, Bool.and_eq_true] at h1
    obtain ⟨ns, rfl, hn⟩ := ints_of h1.2.1
    rw [heapD_ints] at h
    rw [Bool.and_eq_true, Bool.and_eq_true] at h
    refine ⟨ns, rfl, of_decide_eq_true h.1, hn, of_decide_eq_true h.2.2⟩
  | _ => cases h
theorem heapD_no {rooms : Int} {d : PyData} (h : isD d "tuple" = false) : heapD rooms d = false := by
  cases d <;> first | rfl | (simp [isD, tyD] at h)
end XA

set_option Elab.async false
set_option linter.all false
set_option maxRecDepth 100000
set_option maxHeartbeats 8000000
local macro_rules | `(tactic| walk_at "rd") => `(tactic| dsimp only [L2.tRet, L2.tAndV, L2.tOrV, L2.tNotV, L2.tCB, L2.tCons, L2.tC, L2.tNil, L2.tOp, L2.tIf, L2.tIfS, L2.tSeq, L2.tAsg, L2.tTest, L2.tNot, L2.tAnd, L2.tOr, L2.tB, L2.tChain, L2.tDrop, L2.gName, L2.tCall, L2.tNext, L2.tRetN, L2.tTup, L2.tLst])
namespace K13
open PySem PySem.Spec PyProof.Rows L2 XA
def topS (i : Nat) : Stmt := PySem.Challenge.pw_rootrooms_k13_heaps_and_their_form.main.body.getD i (.Pass ⟨0, 0, 0, 0⟩)
abbrev s_is_whole : Stmt := topS 8
abbrev N_is_whole : List Str := ["thing"]
abbrev P_is_whole : List Str := ["thing"]
theorem sc_is_whole : FnScope N_is_whole P_is_whole (defScope s_is_whole) := ⟨rfl, rfl, rfl, by decide +kernel, rfl, by decide +kernel, by decide +kernel⟩
abbrev s_is_whole_to : Stmt := topS 9
abbrev N_is_whole_to : List Str := ["thing", "most"]
abbrev P_is_whole_to : List Str := ["thing", "most"]
theorem sc_is_whole_to : FnScope N_is_whole_to P_is_whole_to (defScope s_is_whole_to) := ⟨rfl, rfl, rfl, by decide +kernel, rfl, by decide +kernel, by decide +kernel⟩
abbrev s_is_prime : Stmt := topS 12
abbrev N_is_prime : List Str := ["thing", "number"]
abbrev P_is_prime : List Str := ["thing"]
theorem sc_is_prime : FnScope N_is_prime P_is_prime (defScope s_is_prime) := ⟨rfl, rfl, rfl, by decide +kernel, rfl, by decide +kernel, by decide +kernel⟩
abbrev s_need_prime : Stmt := topS 13
abbrev N_need_prime : List Str := ["prime"]
abbrev P_need_prime : List Str := ["prime"]
theorem sc_need_prime : FnScope N_need_prime P_need_prime (defScope s_need_prime) := ⟨rfl, rfl, rfl, by decide +kernel, rfl, by decide +kernel, by decide +kernel⟩
abbrev s_Net__init : Stmt := ((XA.clsBody (topS 19)).getD 0 (.Pass ⟨0, 0, 0, 0⟩))
abbrev N_Net__init : List Str := ["self", "rooms", "arrows", "prime", "thing"]
abbrev P_Net__init : List Str := ["self", "rooms", "arrows", "prime"]
theorem sc_Net__init : FnScope N_Net__init P_Net__init (defScope s_Net__init) := ⟨rfl, rfl, rfl, by decide +kernel, rfl, by decide +kernel, by decide +kernel⟩
abbrev s_is_heap : Stmt := topS 20
abbrev N_is_heap : List Str := ["net", "thing", "x"]
abbrev P_is_heap : List Str := ["net", "thing"]
theorem sc_is_heap : FnScope N_is_heap P_is_heap (defScope s_is_heap) := ⟨rfl, rfl, rfl, by decide +kernel, rfl, by decide +kernel, by decide +kernel⟩
abbrev s_need_heap : Stmt := topS 21
abbrev N_need_heap : List Str := ["net", "thing"]
abbrev P_need_heap : List Str := ["net", "thing"]
theorem sc_need_heap : FnScope N_need_heap P_need_heap (defScope s_need_heap) := ⟨rfl, rfl, rfl, by decide +kernel, rfl, by decide +kernel, by decide +kernel⟩
abbrev s_form : Stmt := topS 22
abbrev N_form : List Str := ["net", "one", "other", "rooms", "x", "y", "begin", "end"]
abbrev P_form : List Str := ["net", "one", "other"]
theorem sc_form : FnScope N_form P_form (defScope s_form) := ⟨rfl, rfl, rfl, by decide +kernel, rfl, by decide +kernel, by decide +kernel⟩
abbrev s__is_arrow : Stmt := topS 23
abbrev N__is_arrow : List Str := ["thing", "rooms", "room"]
abbrev P__is_arrow : List Str := ["thing", "rooms"]
theorem sc__is_arrow : FnScope N__is_arrow P__is_arrow (defScope s__is_arrow) := ⟨rfl, rfl, rfl, by decide +kernel, rfl, by decide +kernel, by decide +kernel⟩
abbrev s__law_spread : Stmt := topS 25
abbrev N__law_spread : List Str := ["cell", "at", "primes", "mixed", "one", "two", "three"]
abbrev P__law_spread : List Str := ["cell", "at"]
theorem sc__law_spread : FnScope N__law_spread P__law_spread (defScope s__law_spread) := ⟨rfl, rfl, rfl, by decide +kernel, rfl, by decide +kernel, by decide +kernel⟩
abbrev s__law_open : Stmt := topS 26
abbrev N__law_open : List Str := ["script", "cells", "k", "cell"]
abbrev P__law_open : List Str := ["script"]
theorem sc__law_open : FnScope N__law_open P__law_open (defScope s__law_open) := ⟨rfl, rfl, rfl, by decide +kernel, rfl, by decide +kernel, by decide +kernel⟩
abbrev s__law_anew : Stmt := topS 27
abbrev N__law_anew : List Str := ["pen"]
abbrev P__law_anew : List Str := ["pen"]
theorem sc__law_anew : FnScope N__law_anew P__law_anew (defScope s__law_anew) := ⟨rfl, rfl, rfl, by decide +kernel, rfl, by decide +kernel, by decide +kernel⟩
abbrev s__law_take : Stmt := topS 28
abbrev N__law_take : List Str := ["pen", "many", "at", "cell", "found"]
abbrev P__law_take : List Str := ["pen", "many"]
theorem sc__law_take : FnScope N__law_take P__law_take (defScope s__law_take) := ⟨rfl, rfl, rfl, by decide +kernel, rfl, by decide +kernel, by decide +kernel⟩
abbrev s__law_one : Stmt := topS 29
abbrev N__law_one : List Str := ["pen", "some"]
abbrev P__law_one : List Str := ["pen", "some"]
theorem sc__law_one : FnScope N__law_one P__law_one (defScope s__law_one) := ⟨rfl, rfl, rfl, by decide +kernel, rfl, by decide +kernel, by decide +kernel⟩
abbrev s__law_prime : Stmt := topS 31
abbrev N__law_prime : List Str := ["pen"]
abbrev P__law_prime : List Str := ["pen"]
theorem sc__law_prime : FnScope N__law_prime P__law_prime (defScope s__law_prime) := ⟨rfl, rfl, rfl, by decide +kernel, rfl, by decide +kernel, by decide +kernel⟩
abbrev s__law_arrows : Stmt := topS 32
abbrev N__law_arrows : List Str := ["pen", "rooms", "found", "k", "begin"]
abbrev P__law_arrows : List Str := ["pen", "rooms"]
theorem sc__law_arrows : FnScope N__law_arrows P__law_arrows (defScope s__law_arrows) := ⟨rfl, rfl, rfl, by decide +kernel, rfl, by decide +kernel, by decide +kernel⟩
abbrev s__law_heap : Stmt := topS 33
abbrev N__law_heap : List Str := ["pen", "rooms", "way", "found", "at", "room"]
abbrev P__law_heap : List Str := ["pen", "rooms"]
theorem sc__law_heap : FnScope N__law_heap P__law_heap (defScope s__law_heap) := ⟨rfl, rfl, rfl, by decide +kernel, rfl, by decide +kernel, by decide +kernel⟩
abbrev s__law_spoilt : Stmt := topS 34
abbrev N__law_spoilt : List Str := ["pen", "heap", "way", "at", "other"]
abbrev P__law_spoilt : List Str := ["pen", "heap"]
theorem sc__law_spoilt : FnScope N__law_spoilt P__law_spoilt (defScope s__law_spoilt) := ⟨rfl, rfl, rfl, by decide +kernel, rfl, by decide +kernel, by decide +kernel⟩
abbrev s__law_whole : Stmt := topS 35
abbrev N__law_whole : List Str := ["thing"]
abbrev P__law_whole : List Str := ["thing"]
theorem sc__law_whole : FnScope N__law_whole P__law_whole (defScope s__law_whole) := ⟨rfl, rfl, rfl, by decide +kernel, rfl, by decide +kernel, by decide +kernel⟩
abbrev s__law_right : Stmt := topS 36
abbrev N__law_right : List Str := ["rooms", "thing", "number"]
abbrev P__law_right : List Str := ["rooms", "thing"]
theorem sc__law_right : FnScope N__law_right P__law_right (defScope s__law_right) := ⟨rfl, rfl, rfl, by decide +kernel, rfl, by decide +kernel, by decide +kernel⟩
abbrev s__law_form : Stmt := topS 37
abbrev N__law_form : List Str := ["arrows", "one", "other", "found", "a", "b", "begin", "end"]
abbrev P__law_form : List Str := ["arrows", "one", "other"]
theorem sc__law_form : FnScope N__law_form P__law_form (defScope s__law_form) := ⟨rfl, rfl, rfl, by decide +kernel, rfl, by decide +kernel, by decide +kernel⟩
abbrev s__law_told : Stmt := topS 38
abbrev N__law_told : List Str := ["net", "one", "other", "caught", "found", "e"]
abbrev P__law_told : List Str := ["net", "one", "other"]
theorem sc__law_told : FnScope N__law_told P__law_told (defScope s__law_told) := ⟨rfl, rfl, rfl, by decide +kernel, rfl, by decide +kernel, by decide +kernel⟩
abbrev s_law : Stmt := topS 39
abbrev N_law : List Str := ["script", "pen", "turn", "rooms", "arrows", "net", "some", "thing", "one", "other", "right", "due"]
abbrev P_law : List Str := ["script"]
theorem sc_law : FnScope N_law P_law (defScope s_law) := ⟨rfl, rfl, rfl, by decide +kernel, rfl, by decide +kernel, by decide +kernel⟩
def excNames : List Str := ["RoomError", "NoPrime", "NoFit", "NoNet", "NoHeap"]
structure Txt (K : PySem.W.Frag) (mg : Str → Option Value) : Prop where
  g_RoomError : mg "RoomError" = some (.ref (He.ga K "RoomError"))
  g_NoPrime : mg "NoPrime" = some (.ref (He.ga K "NoPrime"))
  g_NoFit : mg "NoFit" = some (.ref (He.ga K "NoFit"))
  g_NoNet : mg "NoNet" = some (.ref (He.ga K "NoNet"))
  g_NoHeap : mg "NoHeap" = some (.ref (He.ga K "NoHeap"))
  g_is_whole : mg "is_whole" = some (.ref (He.ga K "is_whole"))
  g_is_whole_to : mg "is_whole_to" = some (.ref (He.ga K "is_whole_to"))
  g_is_prime : mg "is_prime" = some (.ref (He.ga K "is_prime"))
  g_need_prime : mg "need_prime" = some (.ref (He.ga K "need_prime"))
  g_Net : mg "Net" = some (.ref (He.ga K "Net"))
  g_is_heap : mg "is_heap" = some (.ref (He.ga K "is_heap"))
  g_need_heap : mg "need_heap" = some (.ref (He.ga K "need_heap"))
  g_form : mg "form" = some (.ref (He.ga K "form"))
  g__is_arrow : mg "_is_arrow" = some (.ref (He.ga K "_is_arrow"))
  g__law_spread : mg "_law_spread" = some (.ref (He.ga K "_law_spread"))
  g__law_open : mg "_law_open" = some (.ref (He.ga K "_law_open"))
  g__law_anew : mg "_law_anew" = some (.ref (He.ga K "_law_anew"))
  g__law_take : mg "_law_take" = some (.ref (He.ga K "_law_take"))
  g__law_one : mg "_law_one" = some (.ref (He.ga K "_law_one"))
  g__law_prime : mg "_law_prime" = some (.ref (He.ga K "_law_prime"))
  g__law_arrows : mg "_law_arrows" = some (.ref (He.ga K "_law_arrows"))
  g__law_heap : mg "_law_heap" = some (.ref (He.ga K "_law_heap"))
  g__law_spoilt : mg "_law_spoilt" = some (.ref (He.ga K "_law_spoilt"))
  g__law_whole : mg "_law_whole" = some (.ref (He.ga K "_law_whole"))
  g__law_right : mg "_law_right" = some (.ref (He.ga K "_law_right"))
  g__law_form : mg "_law_form" = some (.ref (He.ga K "_law_form"))
  g__law_told : mg "_law_told" = some (.ref (He.ga K "_law_told"))
  g_law : mg "law" = some (.ref (He.ga K "law"))
  f_all : mg "all" = none
  f_bool : mg "bool" = none
  f_enumerate : mg "enumerate" = none
  f_int : mg "int" = none
  f_isinstance : mg "isinstance" = none
  f_len : mg "len" = none
  f_list : mg "list" = none
  f_range : mg "range" = none
  f_repr : mg "repr" = none
  f_sum : mg "sum" = none
  f_tuple : mg "tuple" = none
  f_zip : mg "zip" = none
  f_ValueError : mg "ValueError" = none
  c_GREATEST_PRIME : ∃ t, mg "GREATEST_PRIME" = some (.int 97 t)
  c_MOST_ROOMS : ∃ t, mg "MOST_ROOMS" = some (.int 8 t)
  c_MOST_ARROWS : ∃ t, mg "MOST_ARROWS" = some (.int 12 t)
  c_MOST_IN_A_ROOM : ∃ t, mg "MOST_IN_A_ROOM" = some (.int 12 t)
  c_MOST_IN_ALL : ∃ t, mg "MOST_IN_ALL" = some (.int 30 t)
  x_RoomError : PySem.W.excIn K (He.ga K "RoomError") He.veBase "ValueError.__new__" = true
  k_RoomError : PySem.W.keepIn K (.ref (He.ga K "RoomError")) = true
  b_RoomError : PySem.W.subIn K (.ref (He.ga K "RoomError")) (.type "BaseException") = some true
  t_RoomError : PySem.W.typeIn K (.ref (He.ga K "RoomError")) = some (.type "type")
  e_RoomError : ExcC K (He.ga K "RoomError")
  x_NoPrime : PySem.W.excIn K (He.ga K "NoPrime") He.veBase "ValueError.__new__" = true
  k_NoPrime : PySem.W.keepIn K (.ref (He.ga K "NoPrime")) = true
  b_NoPrime : PySem.W.subIn K (.ref (He.ga K "NoPrime")) (.type "BaseException") = some true
  t_NoPrime : PySem.W.typeIn K (.ref (He.ga K "NoPrime")) = some (.type "type")
  e_NoPrime : ExcC K (He.ga K "NoPrime")
  x_NoFit : PySem.W.excIn K (He.ga K "NoFit") He.veBase "ValueError.__new__" = true
  k_NoFit : PySem.W.keepIn K (.ref (He.ga K "NoFit")) = true
  b_NoFit : PySem.W.subIn K (.ref (He.ga K "NoFit")) (.type "BaseException") = some true
  t_NoFit : PySem.W.typeIn K (.ref (He.ga K "NoFit")) = some (.type "type")
  e_NoFit : ExcC K (He.ga K "NoFit")
  x_NoNet : PySem.W.excIn K (He.ga K "NoNet") He.veBase "ValueError.__new__" = true
  k_NoNet : PySem.W.keepIn K (.ref (He.ga K "NoNet")) = true
  b_NoNet : PySem.W.subIn K (.ref (He.ga K "NoNet")) (.type "BaseException") = some true
  t_NoNet : PySem.W.typeIn K (.ref (He.ga K "NoNet")) = some (.type "type")
  e_NoNet : ExcC K (He.ga K "NoNet")
  x_NoHeap : PySem.W.excIn K (He.ga K "NoHeap") He.veBase "ValueError.__new__" = true
  k_NoHeap : PySem.W.keepIn K (.ref (He.ga K "NoHeap")) = true
  b_NoHeap : PySem.W.subIn K (.ref (He.ga K "NoHeap")) (.type "BaseException") = some true
  t_NoHeap : PySem.W.typeIn K (.ref (He.ga K "NoHeap")) = some (.type "type")
  e_NoHeap : ExcC K (He.ga K "NoHeap")
  cl_Net : Cls K (He.ga K "Net")
  mk_Net : Mk K (He.ga K "Net") (XA.mAt K "Net" "__init__")
  na_Net_rooms : NoAttr K (He.ga K "Net") "rooms"
  na_Net_arrows : NoAttr K (He.ga K "Net") "arrows"
  na_Net_prime : NoAttr K (He.ga K "Net") "prime"
  exm : ∀ x ∈ excNames, PySem.W.exmOne K (.ref (He.ga K x)) (.ref (He.ga K "RoomError")) = some true
  kit : ∀ x ∈ excNames, ∀ y ∈ excNames, PySem.W.kitOne K (.ref (He.ga K x)) (.ref (He.ga K y)) = some (decide (x = y) || decide (y = "RoomError"))
  kitN : ∀ y ∈ excNames, PySem.W.kitOne K (.type "NoneType") (.ref (He.ga K y)) = some false
  kitV : ∀ x ∈ excNames, PySem.W.kitOne K (.ref (He.ga K x)) (.type "ValueError") = some true
end K13

set_option Elab.async false
set_option linter.all false
set_option maxRecDepth 100000
set_option maxHeartbeats 8000000
namespace K13
open PySem PySem.Spec PyProof.Rows L2 XA

/-! ### the program's promises -/
def sp_is_whole (K : PySem.W.Frag) : Sp := fun vs H Q _ => ∃ x d av, vs = [x] ∧ Da K H av x d ∧ Q (.bl (whole d)) H
def sp_is_whole_to (K : PySem.W.Frag) : Sp := fun vs H Q _ => ∃ x d av m, vs = [x, .int m] ∧ Da K H av x d ∧ Q (.bl (wholeTo d m)) H
def sp_is_prime (K : PySem.W.Frag) : Sp := fun vs H Q _ => ∃ x d av, vs = [x] ∧ Da K H av x d ∧ ∀ H', Same H H' → Q (.bl (primeD d)) H'
def sp_need_prime (K : PySem.W.Frag) : Sp := fun vs H Q E => ∃ x d av, vs = [x] ∧ Da K H av x d ∧ ∀ H', Same H H' →
  if primeD d = true then Q .non H' else E (.ref (He.ga K "NoPrime")) none H'
/-! ### the pen's promises -/
def sp__law_spread : Sp := fun vs H Q _ => ∃ cell a : Int, vs = [.int cell, .int a] ∧ 0 ≤ a ∧ a ≤ 20000 ∧ ∀ (H' : Hp) (r : Int), Same H H' → Q (.int r) H'
def sp__law_open (K : PySem.W.Frag) : Sp := fun vs H Q _ => ∃ (a : Addr) (ns : List Int), vs = [.ref a] ∧ SqL K H a (ns.map V.int) ∧ ns.length ≤ 63 ∧
  ∀ (H' : Hp) (pen c : Addr), H pen = none → Same H H' → PenC H' pen c 0 → Q (.ref pen) H'
def sp__law_anew : Sp := fun vs H Q _ => ∃ (pen c : Addr) (n : Int), vs = [.ref pen] ∧ PenC H pen c n ∧ ∀ H', Oth H H' pen → PenC H' pen c n → Q (.ref pen) H'
def sp__law_take : Sp := fun vs H Q _ => ∃ (pen c : Addr) (m n : Int), vs = [.ref pen, .int m] ∧ PenC H pen c n ∧ n ≤ 10000 ∧ 0 < m ∧ m < 1073741824 ∧
  ∀ (r : Int) (H' : Hp), 0 ≤ r → r < m → Oth H H' pen → PenC H' pen c (n + 1) → Q (.int r) H'
def sp__law_one (K : PySem.W.Frag) : Sp := fun vs H Q _ => ∃ (pen c b : Addr) (xs : List V) (n : Int), vs = [.ref pen, .ref b] ∧ PenC H pen c n ∧ n ≤ 10000 ∧ b ≠ pen ∧ SqL K H b xs ∧ 0 < xs.length ∧
  xs.length ≤ 1000000 ∧ ∀ x ∈ xs, ∀ H', Oth H H' pen → PenC H' pen c (n + 1) → Q x H'
section
variable {P : Program} {w : World} {K : PySem.W.Frag} {mg : Str → Option Value} {base : Heap}
theorem ok_is_whole (T : Txt K mg) {fd : FuncData} (F : FnP K "is_whole" s_is_whole fd) :
    Has P w K mg base CX0 1 "is_whole" P_is_whole (sp_is_whole K) := by
  have G : FnOk P w K mg base CX0 1 (He.ga K "is_whole") fd P_is_whole (sp_is_whole K) := by
    refine F.ok (k := 0) sc_is_whole (fun vs H Q E h => ?_) (fun cdv A outer s H vs Q E hr h => ?_)
    · obtain ⟨x, d, av, rfl, hx, q⟩ := h
      rfl
    · obtain ⟨x, d, av, rfl, hx, q⟩ := h
      refine ⟨_, (PSs.nox (pss_one (ps_ret (pe_and (pe_callB (id := "isinstance") call_isZ (by rfl) T.f_isinstance (by decide +kernel) (pa_cons (pv 0) (pa_cons (pe_bltn (v := .ty "int") (by rfl) T.f_int (by decide +kernel) rfl) pa_nil))) (pe_one (pe_not (pe_callB (id := "isinstance") call_isZ (by rfl) T.f_isinstance (by decide +kernel) (pa_cons (pv 0) (pa_cons (pe_bltn (v := .ty "bool") (by rfl) T.f_bool (by decide +kernel) rfl) pa_nil))))))))), ?_⟩
      refine ⟨x, rfl, ?_⟩
      walk_at "rd"
      refine isz_d hx (Or.inl rfl) ⟨_, rfl, ?_⟩
      refine ite2 (fun c => ?_) (fun c => ?_)
      · refine ⟨x, rfl, ?_⟩
        walk_at "rd"
        refine isz_d hx (Or.inr (Or.inl rfl)) ⟨_, rfl, ?_⟩
        have e : (!isD d "bool") = whole d := by
          cases d <;> first | rfl | (simp [isD, tyD, whole, primeD, wholeTo] at c)
        show Q (.bl (!isD d "bool")) H
        rw [e]
        exact q
      · have e : whole d = false := by
          cases d <;> first | rfl | (simp [isD, tyD, whole, primeD, wholeTo] at c)
        rw [e] at q
        exact q
  exact has_of F G T.g_is_whole (fun _ _ _ _ _ _ us hl => match us, hl with | [_], _ => rfl)
theorem ok_is_whole_to (T : Txt K mg) {fd : FuncData} (F : FnP K "is_whole_to" s_is_whole_to fd)
    (H_is_whole : Has P w K mg base CX0 1 "is_whole" P_is_whole (sp_is_whole K)) :
    Has P w K mg base CX0 2 "is_whole_to" P_is_whole_to (sp_is_whole_to K) := by
  have G : FnOk P w K mg base CX0 2 (He.ga K "is_whole_to") fd P_is_whole_to (sp_is_whole_to K) := by
    refine F.ok (k := 1) sc_is_whole_to (fun vs H Q E h => ?_) (fun cdv A outer s H vs Q E hr h => ?_)
    · obtain ⟨x, d, av, m, rfl, hx, q⟩ := h
      rfl
    · obtain ⟨x, d, av, m, rfl, hx, q⟩ := h
      refine ⟨_, (PSs.nox (pss_one (ps_ret (pe_and (pe_has H_is_whole (hr.mono (by decide)) pass0 (pa_cons (pv 0) pa_nil)) (pe_one (pe_chain op_le op_le pe_int (pv 0) (pv 1))))))), ?_⟩
      refine ⟨x, rfl, x, d, av, rfl, hx, _, rfl, ?_⟩
      cases hw : whole d with
      | false =>
        have e : wholeTo d m = false := by
          cases d <;> first | rfl | (simp [isD, tyD, whole, primeD, wholeTo] at hw)
        rw [e] at q
        exact (if_neg Bool.false_ne_true).mpr q
      | true =>
        obtain ⟨n, rfl⟩ : ∃ n, d = .int n := by
          cases d <;> first | exact ⟨_, rfl⟩ | (simp [isD, tyD, whole, primeD, wholeTo] at hw)
        cases hx
        refine (if_pos rfl).mpr ?_
        refine ⟨_, rfl, 0, n, rfl, rfl, _, rfl, ?_⟩
        refine ite2 (fun c1 => ?_) (fun c1 => ?_)
        · refine ⟨_, rfl, n, m, rfl, rfl, ?_⟩
          have e : wholeTo (.int n) m = decide (n ≤ m) := by
            show decide (0 ≤ n ∧ n ≤ m) = decide (n ≤ m)
            have c1' : 0 ≤ n := of_decide_eq_true c1
            by_cases c2 : n ≤ m
            · rw [decide_eq_true c2, decide_eq_true ⟨c1', c2⟩]
            · rw [decide_eq_false c2, decide_eq_false (fun z => c2 z.2)]
          rw [e] at q
          exact q
        · have e : wholeTo (.int n) m = false := decide_eq_false fun z => c1 (decide_eq_true z.1)
          rw [e] at q
          exact q
  exact has_of F G T.g_is_whole_to (fun _ _ _ _ _ _ us hl => match us, hl with | [_, _], _ => rfl)
theorem ok_is_prime (T : Txt K mg) {fd : FuncData} (F : FnP K "is_prime" s_is_prime fd)
    (H_is_whole : Has P w K mg base CX0 1 "is_whole" P_is_whole (sp_is_whole K)) :
    Has P w K mg base CX0 2 "is_prime" P_is_prime (sp_is_prime K) := by
  have G : FnOk P w K mg base CX0 2 (He.ga K "is_prime") fd P_is_prime (sp_is_prime K) := by
    refine F.ok (k := 1) sc_is_prime (fun vs H Q E h => ?_) (fun cdv A outer s H vs Q E hr h => ?_)
    · obtain ⟨x, d, av, rfl, hx, q⟩ := h
      rfl
    · obtain ⟨x, d, av, rfl, hx, q⟩ := h
      refine ⟨_, (PSs.nox (pss_cons (ps_if (PW.pt (pw_or (pt_not (pt_val (pe_has H_is_whole (hr.mono (by decide)) pass0 (pa_cons (pv 0) pa_nil)))) (pw_or1 (pt_not (pt_chain op_le op_le pe_int (pv 0) (pe_glob (v := .int 97) (by rfl) (T.c_GREATEST_PRIME).choose_spec ⟨_, rfl⟩))))))
   (pss_one (ps_ret pe_bl)) pss_nil)
  (pss_one (ps_ret (pe_callB (id := "all") (cr_allI rfl) (by rfl) T.f_all (by decide +kernel) (pa_cons (pe_lc (own := [("number", 1)]) rfl sc_is_prime.nd (pi_range2 (by rfl) T.f_range (pa_cons pe_int (pa_cons (pv 0) pa_nil))) (blkOk_by (N := N_is_prime) (sc := defScope s_is_prime) (by decide +kernel)) (fun _ _ _ _ _ => pg_name (i := 1) (sc_is_prime.nd) rfl (by first | exact Or.inl rfl | exact Or.inr rfl)) (fun _ _ _ _ _ => pts_nil) (fun _ _ _ _ _ => (pe_op op_modP (pv 0) (pv 1)))) pa_nil)))))), ?_⟩
      have hP : ∀ b : Bool, primeD d = b → ∀ H', Same H H' → Q (.bl b) H' := by
        intro b e H' s
        rw [← e]
        exact q H' s
      refine ⟨_, rfl, x, d, av, rfl, hx, _, rfl, ?_⟩
      cases hi : whole d with
      | false =>
        refine iteT ?_
        refine iteT ?_
        refine hP false ?_ H (Same.refl H)
        cases d <;> first | rfl | (simp [isD, tyD, whole, primeD, wholeTo] at hi)
      | true =>
        obtain ⟨n, rfl⟩ : ∃ n, d = .int n := by
          cases d <;> first | exact ⟨_, rfl⟩ | (simp [isD, tyD, whole, primeD, wholeTo] at hi)
        cases hx
        refine iteF ?_
        refine ⟨_, rfl, 2, n, rfl, rfl, _, rfl, ?_⟩
        refine ite2 (fun c1 => ?_) (fun c1 => ?_)
        · refine ⟨n, 97, rfl, rfl, _, rfl, ?_⟩
          have c1' : 2 ≤ n := of_decide_eq_true c1
          by_cases c2 : n ≤ 97
          · rw [decide_eq_true c2]
            refine iteF ?_
            refine ⟨_, rfl, 2, n, rfl, ⟨by decide, by decide, by omega, by omega⟩, ?_⟩
            intro D hD
            refine lc_range (lo := 2) (n := (n - 2).toNat) (fun i G => Same H G ∧ G D = some (.lst (((List.range i).map fun (i : Nat) => n % (2 + (i : Int))).map V.int))) ⟨same_upd hD, upd_same⟩ ?_ ?_
            · rintro i G hi ⟨sG, hG⟩
              refine ⟨rfl, ?_⟩
              refine ⟨_, rfl, _, rfl, n, 2 + (i : Int), rfl, rfl, by omega, ?_⟩
              refine ⟨_, (Same.refl G) _ _ hG, lt10 (by rw [List.length_map, List.length_map, List.length_range]; omega), acc_same hD sG (Same.refl G), ?_⟩
              rw [upd_same, List.range_succ, List.map_append, List.map_append]
              rfl
            · rintro G ⟨sG, hG⟩
              refine ⟨D, (List.range (n - 2).toNat).map (fun (i : Nat) => n % (2 + (i : Int))), rfl, .inl (.inl hG), ?_⟩
              refine hP _ ?_ _ sG
              show (decide (2 ≤ n ∧ n ≤ 97) && _) = _
              rw [decide_eq_true (⟨c1', c2⟩ : 2 ≤ n ∧ n ≤ 97), Bool.true_and]
          · rw [decide_eq_false c2]
            refine iteT ?_
            refine hP false (primeN_out fun z => c2 z.2) H (Same.refl H)
        · refine ⟨false, rfl, ?_⟩
          refine iteT ?_
          refine hP false (primeN_out fun z => c1 (decide_eq_true z.1)) H (Same.refl H)
  exact has_of F G T.g_is_prime (fun _ _ _ _ _ _ us hl => match us, hl with | [_], _ => rfl)
theorem ok_need_prime (T : Txt K mg) {fd : FuncData} (F : FnP K "need_prime" s_need_prime fd)
    (H_is_prime : Has P w K mg base CX0 2 "is_prime" P_is_prime (sp_is_prime K)) :
    Has P w K mg base (L2.CX P w) 3 "need_prime" P_need_prime (sp_need_prime K) := by
  have G : FnOk P w K mg base (L2.CX P w) 3 (He.ga K "need_prime") fd P_need_prime (sp_need_prime K) := by
    refine F.ok (k := 2) sc_need_prime (fun vs H Q E h => ?_) (fun cdv A outer s H vs Q E hr h => ?_)
    · obtain ⟨x, d, av, rfl, hx, q⟩ := h
      rfl
    · obtain ⟨x, d, av, rfl, hx, q⟩ := h
      refine ⟨_, (pss_one (ps_if (pt_not (pt_val (pe_has H_is_prime (hr.mono (by decide)) pass0 (pa_cons (pv 0) pa_nil))))
   (pss_one (ps_raise rfl (takes_of rfl rfl rfl rfl) (pmk_own PySem.F.excBase_ValueError T.x_NoPrime T.g_NoPrime T.k_NoPrime (raises_own T.b_NoPrime T.t_NoPrime) rfl))) pss_nil)), ?_⟩
      refine ⟨x, rfl, x, d, av, rfl, hx, fun H' s => ⟨_, rfl, ?_⟩⟩
      have q' := q H' s
      by_cases c : primeD d = true
      · rw [if_pos c] at q'
        rw [c]
        exact iteF q'
      · rw [if_neg c] at q'
        rw [Bool.not_eq_true _ |>.mp c]
        exact iteT q'
  exact has_of F G T.g_need_prime (fun _ _ _ _ _ _ us hl => match us, hl with | [_], _ => rfl)
theorem ok__law_spread (T : Txt K mg) {fd : FuncData} (F : FnP K "_law_spread" s__law_spread fd) :
    Has P w K mg base CX0 1 "_law_spread" P__law_spread sp__law_spread := by
  have G : FnOk P w K mg base CX0 1 (He.ga K "_law_spread") fd P__law_spread sp__law_spread := by
    refine F.ok (k := 0) sc__law_spread (fun vs H Q E h => ?_) (fun cdv A outer s H vs Q E hr h => ?_)
    · obtain ⟨cell, a, rfl, ha0, ha1, q⟩ := h
      rfl
    · obtain ⟨cell, a, rfl, ha0, ha1, q⟩ := h
      refine ⟨_, (PSs.nox (pss_cons (ps_if (pt_cmpR op_ge (pv 0) (pe_op op_pow pe_int pe_int) (nomark _))
   (pss_one (ps_ret (pv 0))) pss_nil)
  (pss_cons (ps_set (i := 2) sc__law_spread.nd rfl (by first | exact Or.inl rfl | exact Or.inr rfl) (pe_lst (pa_cons pe_int (pa_cons pe_int (pa_cons pe_int (pa_cons pe_int (pa_cons pe_int (pa_cons pe_int (pa_cons pe_int pa_nil)))))))))
  (pss_cons (ps_set (i := 2) sc__law_spread.nd rfl (by first | exact Or.inl rfl | exact Or.inr rfl) (pe_op op_cat (pv 2) (pe_lst (pa_cons pe_int (pa_cons pe_int (pa_cons pe_int (pa_cons pe_int (pa_cons pe_int (pa_cons pe_int pa_nil)))))))))
  (pss_cons (ps_set (i := 3) sc__law_spread.nd rfl (by first | exact Or.inl rfl | exact Or.inr rfl) (pe_op op_add (pe_op op_add (pe_op op_mul (pe_op op_modP (pv 0) pe_int) (pe_op op_add (pe_op op_mul pe_int (pv 1)) pe_int)) (pe_op op_mul (pv 1) pe_int)) pe_int))
  (pss_cons (ps_set (i := 4) sc__law_spread.nd rfl (by first | exact Or.inl rfl | exact Or.inr rfl) (pe_op op_modP (pe_op op_pow (pv 3) pe_int) (pe_ix ix_list (pv 2) (pe_op op_modP (pv 1) pe_int) (fun _ _ => rfl))))
  (pss_cons (ps_set (i := 5) sc__law_spread.nd rfl (by first | exact Or.inl rfl | exact Or.inr rfl) (pe_op op_modP (pe_op op_pow (pe_op op_add (pe_op op_add (pe_op op_mul (pv 4) (pe_op op_add (pv 1) pe_int)) (pe_op op_modP (pv 0) pe_int)) pe_int) pe_int) (pe_ix ix_list (pv 2) (pe_op op_modP (pe_op op_add (pv 1) pe_int) pe_int) (fun _ _ => rfl))))
  (pss_cons (ps_set (i := 6) sc__law_spread.nd rfl (by first | exact Or.inl rfl | exact Or.inr rfl) (pe_op op_modP (pe_op op_pow (pe_op op_add (pe_op op_add (pv 5) (pe_op op_modP (pv 4) pe_int)) (pv 1)) pe_int) (pe_ix ix_list (pv 2) (pe_op op_modP (pe_op op_add (pv 1) pe_int) pe_int) (fun _ _ => rfl))))
  (pss_one (ps_ret (pe_op op_add (pe_op op_mul (pe_op op_add (pe_op op_mul (pv 4) pe_int) (pv 5)) pe_int) (pv 6)))))))))))), ?_⟩
      refine ⟨_, rfl, _, _, rfl, rfl, ⟨by decide, by decide, by decide⟩, ?_⟩
      refine ⟨_, _, rfl, rfl, _, rfl, ?_⟩
      refine ite2 (fun _ => ?_) (fun _ => ?_)
      · exact ⟨_, rfl, q H cell (Same.refl H)⟩
      refine ⟨by show 7 ≤ sizeLine; decide, fun p1 n1 => ?_⟩
      refine ⟨_, rfl, by show 6 ≤ sizeLine; decide, fun p2 n2 => ?_⟩
      have ne12 : p1 ≠ p2 := ne_of_none upd_same n2
      refine ⟨p1, p2, _, _, rfl, rfl, by rw [upd_ne ne12]; exact upd_same, upd_same, by show 7 + 6 ≤ sizeLine; decide, fun p3 n3 => ?_⟩
      generalize hG : upd (upd (upd H p1 _) p2 _) p3 _ = G
      have sG : Same H G := by
        rw [← hG]
        exact (same_upd n1).trans ((same_upd n2).trans (same_upd n3))
      have hp3 : SqL K G p3 (spreads.map V.int) := by
        rw [← hG]
        exact .inl (.inl upd_same)
      -- mixed
      refine ⟨_, rfl, cell, 1000000007, rfl, rfl, by decide, ?_⟩
      refine ⟨_, rfl, 2, a, rfl, rfl, .inl ⟨by decide, by decide⟩, 2 * a, 69069, rfl, rfl, ?_⟩
      refine ⟨cell % 1000000007, 2 * a + 69069, rfl, rfl, .inl ⟨by omega, by omega⟩, ?_⟩
      refine ⟨_, rfl, a, 40503, rfl, rfl, .inl ⟨by omega, by omega⟩, ?_⟩
      refine ⟨_, _, rfl, rfl, _, _, rfl, rfl, ?_⟩
      have hm : 0 ≤ cell % 1000000007 * (2 * a + 69069) + a * 40503 + 977 ∧ cell % 1000000007 * (2 * a + 69069) + a * 40503 + 977 ≤ 200000000000000 := by
        have z := mul_in (a := cell % 1000000007) (b := 2 * a + 69069) (A := 1000000007) (B := 109069) (by omega) (by omega) (by omega) (by omega)
        omega
      try dsimp only
      generalize cell % 1000000007 * (2 * a + 69069) + a * 40503 + 977 = mixed at hm ⊢
      -- one
      refine ⟨_, rfl, mixed, 3, rfl, rfl, ⟨by decide, by decide, by omega⟩, ?_⟩
      obtain ⟨v1, hv1, hp1, hl1⟩ := spread_at a
      refine ⟨_, rfl, _, rfl, a, 13, rfl, rfl, by decide, p3, _, _, _, rfl, rfl, hp3, hv1, ?_⟩
      refine ⟨_, v1, rfl, rfl, hp1, ?_⟩
      have ho : 0 ≤ mixed ^ (3 : Int).toNat % v1 ∧ mixed ^ (3 : Int).toNat % v1 < 2147483647 := ⟨Int.emod_nonneg _ (by omega), Int.lt_trans (Int.emod_lt_of_pos _ hp1) hl1⟩
      try dsimp only
      generalize mixed ^ (3 : Int).toNat % v1 = one at ho ⊢
      -- two
      refine ⟨_, rfl, _, rfl, a, 3, rfl, rfl, ?_⟩
      refine ⟨one, a + 3, rfl, rfl, .inl ⟨by omega, by omega⟩, ?_⟩
      refine ⟨_, rfl, cell, 65537, rfl, rfl, by decide, ?_⟩
      refine ⟨_, _, rfl, rfl, _, _, rfl, rfl, ?_⟩
      have h2 : 0 ≤ one * (a + 3) + cell % 65537 + 5 ∧ one * (a + 3) + cell % 65537 + 5 < 100000000000000 := by
        have z := mul_in (a := one) (b := a + 3) (A := 2147483647) (B := 20003) (by omega) (by omega) (by omega) (by omega)
        omega
      try dsimp only
      generalize one * (a + 3) + cell % 65537 + 5 = t2 at h2 ⊢
      refine ⟨t2, 5, rfl, rfl, ⟨by decide, by decide, by omega⟩, ?_⟩
      obtain ⟨v2, hv2, hp2, hl2⟩ := spread_at (a + 5)
      refine ⟨_, rfl, _, rfl, a, 5, rfl, rfl, a + 5, 13, rfl, rfl, by decide, p3, _, _, _, rfl, rfl, hp3, hv2, ?_⟩
      refine ⟨_, v2, rfl, rfl, hp2, ?_⟩
      have hw : 0 ≤ t2 ^ (5 : Int).toNat % v2 ∧ t2 ^ (5 : Int).toNat % v2 < 2147483647 := ⟨Int.emod_nonneg _ (by omega), Int.lt_trans (Int.emod_lt_of_pos _ hp2) hl2⟩
      try dsimp only
      generalize t2 ^ (5 : Int).toNat % v2 = two at hw ⊢
      -- three
      refine ⟨_, rfl, _, rfl, one, 1009, rfl, rfl, by decide, two, one % 1009, rfl, rfl, ?_⟩
      refine ⟨_, rfl, _, a, rfl, rfl, _, 3, rfl, rfl, ⟨by decide, by decide, by omega⟩, ?_⟩
      obtain ⟨v3, hv3, hp3', hl3⟩ := spread_at (a + 7)
      refine ⟨_, rfl, _, rfl, a, 7, rfl, rfl, a + 7, 13, rfl, rfl, by decide, p3, _, _, _, rfl, rfl, hp3, hv3, ?_⟩
      refine ⟨_, v3, rfl, rfl, hp3', ?_⟩
      try dsimp only
      generalize (two + one % 1009 + a) ^ (3 : Int).toNat % v3 = three
      -- the end
      refine ⟨_, rfl, one, 2147483647, rfl, rfl, .inl ⟨by omega, by omega⟩, ?_⟩
      refine ⟨_, rfl, _, two, rfl, rfl, _, 2147483647, rfl, rfl, .inr ⟨by decide, by decide⟩, ?_⟩
      refine ⟨_, rfl, _, three, rfl, rfl, ?_⟩
      exact q _ _ sG
  exact has_of F G T.g__law_spread (fun _ _ _ _ _ _ us hl => match us, hl with | [_, _], _ => rfl)
theorem ok__law_open (T : Txt K mg) {fd : FuncData} (F : FnP K "_law_open" s__law_open fd) :
    Has P w K mg base CX0 1 "_law_open" P__law_open (sp__law_open K) := by
  have G : FnOk P w K mg base CX0 1 (He.ga K "_law_open") fd P__law_open (sp__law_open K) := by
    refine F.ok (k := 0) sc__law_open (fun vs H Q E h => ?_) (fun cdv A outer s H vs Q E hr h => ?_)
    · obtain ⟨a, ns, rfl, hS, hlen, q⟩ := h
      rfl
    · obtain ⟨a, ns, rfl, hS, hlen, q⟩ := h
      refine ⟨_, (PSs.nox (pss_cons (ps_set (i := 1) sc__law_open.nd rfl (by first | exact Or.inl rfl | exact Or.inr rfl) (pe_callTy (T := "list") call_list_of (by rfl) T.f_list (by decide +kernel) (pa_cons (pe_slice sl_list (pv 0) po_none (po_some pe_int)) pa_nil)))
  (pss_cons (ps_for PassesOwn.never rfl (pi_enum (by rfl) T.f_enumerate (pa_cons (pe_slice sl_list (pv 0) (po_some pe_int) (po_some pe_int)) pa_nil)) (pg_tup rfl (pgs_cons (pg_name (i := 2) sc__law_open.nd rfl (by first | exact Or.inl rfl | exact Or.inr rfl)) (pgs_cons (pg_name (i := 3) sc__law_open.nd rfl (by first | exact Or.inl rfl | exact Or.inr rfl)) pgs_nil)))
   (pss_one (ps_asg (pe_op op_add (pe_ix ix_list (pv 1) (pe_op op_modP (pv 2) pe_int) (fun _ _ => rfl)) (pv 3)) (pg_sub (pv 1) (pe_op op_modP (pv 2) pe_int) set_list))))
  (pss_one (ps_ret (pe_lst (pa_cons (pv 1) (pa_cons pe_int (pa_cons pe_int pa_nil))))))))), ?_⟩
      refine ⟨_, rfl, 12, rfl, a, ns.map V.int, rfl, hS, fun p1 n1 => ?_⟩
      have s1 := same_upd (o := .lst (cutV (ns.map V.int) none (some 12))) n1
      refine ⟨p1, _, rfl, .inl (.inl (.inl upd_same)), fun p2 n2 => ?_⟩
      have s2 := same_upd (o := .lst (cutV (ns.map V.int) none (some 12))) n2
      generalize hG : upd (upd H p1 _) p2 _ = G
      have sG : Same H G := by
        rw [← hG]
        exact s1.trans s2
      have hc : G p2 = some (.lst ((ns.take 12).map V.int)) := by
        rw [← hG, upd_same, show (12 : Int) = ((12 : Nat) : Int) from rfl, cut_take, List.map_take]
      have n2' : H p2 = none := Same.free s1 n2
      -- the rest of the script
      refine ⟨_, rfl, 12, rfl, 63, rfl, a, ns.map V.int, rfl, sG.seq hS, fun p3 n3 => ?_⟩
      have s3 := same_upd (o := .lst (cutV (ns.map V.int) (some 12) (some 63))) n3
      have h3 : (upd G p3 (.lst (cutV (ns.map V.int) (some 12) (some 63)))) p3 = some (.lst (((ns.drop 12).take 51).map V.int)) := by
        rw [upd_same, show (12 : Int) = ((12 : Nat) : Int) from rfl, show (63 : Int) = ((63 : Nat) : Int) from rfl, cut_mid, List.map_take, List.map_drop]
      have hc3 : (upd G p3 (.lst (cutV (ns.map V.int) (some 12) (some 63)))) p2 = some (.lst ((ns.take 12).map V.int)) := s3 _ _ hc
      have ne32 : p3 ≠ p2 := fun z => by rw [z, hc] at n3; cases n3
      refine ⟨p3, _, rfl, .inl (.inl h3), ?_⟩
      refine for_enumL (xs := ((ns.drop 12).take 51).map V.int)
        (fun i σ F => ∃ (k x : Option V) (cs : List Int), σ = [some (.ref a), some (.ref p2), k, x] ∧ Same H F ∧ F p3 = some (.lst (((ns.drop 12).take 51).map V.int)) ∧
          F p2 = some (.lst (cs.map V.int)) ∧ cs.length = (ns.take 12).length)
        ⟨none, none, ns.take 12, rfl, sG.trans s3, h3, hc3, rfl⟩ (fun i σ F ⟨_, _, _, _, _, h, _⟩ => .inl (.inl h)) ?_ ?_
      · rintro i x T σ F hx ⟨k, x', cs, rfl, sF, hF3, hF2, hl⟩ nT
        obtain ⟨z, hz, rfl⟩ : ∃ z, ((ns.drop 12).take 51)[i]? = some z ∧ V.int z = x := by
          rw [List.getElem?_map] at hx
          cases e : ((ns.drop 12).take 51)[i]? with
          | none => rw [e] at hx; cases hx
          | some z =>
            rw [e] at hx
            exact ⟨z, rfl, Option.some.inj hx⟩
        have hlen : (ns.take 12).length = 12 := by
          have h1 := (List.getElem?_eq_some_iff.mp hz).1
          rw [List.length_take, List.length_drop] at h1
          rw [List.length_take]
          omega
        have nT2 : p2 ≠ T := ne_of_none hF2 nT
        have nT3 : p3 ≠ T := ne_of_none hF3 nT
        have sT := same_upd (o := .tup [.int (i : Nat), .int z]) nT
        -- k, cell = the pair
        refine ⟨T, _, rfl, .inl (.inl upd_same), rfl, _, _, rfl, _, _, rfl, rfl, ?_⟩
        have hF2' : (upd F T (.tup [.int (i : Nat), .int z])) p2 = some (.lst (cs.map V.int)) := sT _ _ hF2
        obtain ⟨y, hk, _⟩ := atI_int (ns := cs) (i := (i : Int) % 12) (by omega) (by omega)
        refine ⟨_, rfl, _, rfl, i, 12, rfl, rfl, by decide, p2, _, _, _, rfl, rfl, .inl (.inl hF2'), hk, ?_⟩
        refine ⟨_, rfl, _, z, rfl, rfl, ?_⟩
        refine ⟨_, rfl, _, rfl, i, 12, rfl, rfl, by decide, ?_⟩
        have hix : ixN (cs.map V.int).length ((i : Int) % 12) = some ((i : Int) % 12).toNat := ixN_in (by omega) (by rw [List.length_map]; omega)
        refine ⟨p2, cs.map V.int, (i : Int) % 12, _, rfl, rfl, hF2', hix, ?_⟩
        refine ⟨_, _, cs.set ((i : Int) % 12).toNat (y + z), rfl, ?_, ?_, ?_, ?_⟩
        · intro b o e
          have nb : b ≠ p2 := ne_of_none e n2'
          rw [upd_ne nb]
          exact sT _ _ (sF _ _ e)
        · rw [upd_ne ne32]
          exact sT _ _ hF3
        · rw [upd_same, List.map_set]
        · rw [List.length_set]
          exact hl
      · rintro σ F ⟨k, x', cs, rfl, sF, hF3, hF2, hl⟩
        refine ⟨_, rfl, by show 3 ≤ sizeLine; decide, fun pen np => ?_⟩
        have sp := same_upd (o := .lst [.ref p2, .int 0, .int 0]) np
        refine q _ pen p2 (Same.free sF np) (sF.trans sp) ⟨cs, 0, 0, upd_same, sp _ _ hF2, ?_, by decide, by decide⟩
        rw [hl, List.length_take]
        omega
  exact has_of F G T.g__law_open (fun _ _ _ _ _ _ us hl => match us, hl with | [_], _ => rfl)
theorem ok__law_anew (T : Txt K mg) {fd : FuncData} (F : FnP K "_law_anew" s__law_anew fd) :
    Has P w K mg base CX0 1 "_law_anew" P__law_anew sp__law_anew := by
  have G : FnOk P w K mg base CX0 1 (He.ga K "_law_anew") fd P__law_anew sp__law_anew := by
    refine F.ok (k := 0) sc__law_anew (fun vs H Q E h => ?_) (fun cdv A outer s H vs Q E hr h => ?_)
    · obtain ⟨pen, c, n, rfl, hp, q⟩ := h
      rfl
    · obtain ⟨pen, c, n, rfl, hp, q⟩ := h
      refine ⟨_, (PSs.nox (pss_cons (ps_asg pe_int (pg_sub (pv 0) pe_int set_list))
  (pss_one (ps_ret (pv 0))))), ?_⟩
      obtain ⟨cells, at0, l, h1, h2, h3, h4, h5⟩ := hp
      refine ⟨_, rfl, ?_⟩
      refine ⟨pen, _, 2, 2, rfl, rfl, h1, rfl, ?_⟩
      refine ⟨_, rfl, q _ (Oth.refl H pen).upd (penC_put h1 h2 h3 (Oth.refl H pen) h4 h5)⟩
  exact has_of F G T.g__law_anew (fun _ _ _ _ _ _ us hl => match us, hl with | [_], _ => rfl)
theorem ok__law_take (T : Txt K mg) {fd : FuncData} (F : FnP K "_law_take" s__law_take fd)
    (H__law_spread : Has P w K mg base CX0 1 "_law_spread" P__law_spread sp__law_spread) :
    Has P w K mg base CX0 2 "_law_take" P__law_take sp__law_take := by
  have G : FnOk P w K mg base CX0 2 (He.ga K "_law_take") fd P__law_take sp__law_take := by
    refine F.ok (k := 1) sc__law_take (fun vs H Q E h => ?_) (fun cdv A outer s H vs Q E hr h => ?_)
    · obtain ⟨pen, c, m, n, rfl, hp, hn, hm0, hm1, q⟩ := h
      rfl
    · obtain ⟨pen, c, m, n, rfl, hp, hn, hm0, hm1, q⟩ := h
      refine ⟨_, (PSs.nox (C8.pss_cut (ps_if (pt_cmpR op_lt (pe_ix ix_list (pv 0) pe_int (fun _ _ => rfl)) (pv 1) (nomark _))
   (pss_cons (ps_set (i := 2) sc__law_take.nd rfl (by first | exact Or.inl rfl | exact Or.inr rfl) (pe_ix ix_list (pv 0) pe_int (fun _ _ => rfl)))
  (pss_cons (ps_set (i := 3) sc__law_take.nd rfl (by first | exact Or.inl rfl | exact Or.inr rfl) pe_int)
  (C8.pss_cut (ps_if (pt_cmpR op_lt (pv 2) (pe_callB (id := "len") call_len (by rfl) T.f_len (by decide +kernel) (pa_cons (pe_ix ix_list (pv 0) pe_int (fun _ _ => rfl)) pa_nil)) (nomark _))
   (pss_one (ps_set (i := 3) sc__law_take.nd rfl (by first | exact Or.inl rfl | exact Or.inr rfl) (pe_ix ix_list (pe_ix ix_list (pv 0) pe_int (fun _ _ => rfl)) (pv 2) (fun _ _ => rfl)))) (pss_one (ps_if (pt_cmpR op_gt (pe_callB (id := "len") call_len (by rfl) T.f_len (by decide +kernel) (pa_cons (pe_ix ix_list (pv 0) pe_int (fun _ _ => rfl)) pa_nil)) pe_int (nomark _))
   (pss_one (ps_set (i := 3) sc__law_take.nd rfl (by first | exact Or.inl rfl | exact Or.inr rfl) (pe_op op_modP (pe_ix ix_list (pe_ix ix_list (pv 0) pe_int (fun _ _ => rfl)) (pe_op op_modP (pe_op op_add (pe_op op_mul (pv 2) pe_int) pe_int) (pe_callB (id := "len") call_len (by rfl) T.f_len (by decide +kernel) (pa_cons (pe_ix ix_list (pv 0) pe_int (fun _ _ => rfl)) pa_nil))) (fun _ _ => rfl)) (pe_op op_add (pe_op op_pow pe_int pe_int) (pv 2))))) pss_nil)))
  (pss_cons (ps_asg (pe_op op_add (pv 2) pe_int) (pg_sub (pv 0) pe_int set_list))
  (pss_one (ps_asg (pe_has H__law_spread (hr.mono (by decide)) pass0 (pa_cons (pv 3) (pa_cons (pv 2) pa_nil))) (pg_sub (pv 0) pe_int set_list))))))) pss_nil)
  (pss_cons (ps_set (i := 4) sc__law_take.nd rfl (by first | exact Or.inl rfl | exact Or.inr rfl) (pe_op op_modP (pe_ix ix_list (pv 0) pe_int (fun _ _ => rfl)) (pv 1)))
  (pss_cons (ps_asg (pe_op op_divP (pe_ix ix_list (pv 0) pe_int (fun _ _ => rfl)) (pv 1)) (pg_sub (pv 0) pe_int set_list))
  (pss_one (ps_ret (pv 4))))))), ?_⟩
      obtain ⟨cells, a, l, h1, h2, h3, h4, h5⟩ := hp
      refine ⟨fun σ F => ∃ (x y : Option V) (a' l' : Int), σ = [some (.ref pen), some (.int m), x, y, none] ∧ Oth H F pen ∧ F pen = some (.lst [.ref c, .int a', .int l']) ∧ 0 ≤ a' ∧ a' ≤ n + 1, ?_, ?_⟩
      · refine ⟨_, rfl, pen, _, 2, .int l, rfl, rfl, .inl (.inl h1), rfl, _, rfl, l, m, rfl, rfl, _, rfl, ?_⟩
        refine ite2 (fun _ => ?_) (fun _ => ?_)
        · refine ⟨_, rfl, pen, _, 1, .int a, rfl, rfl, .inl (.inl h1), rfl, ?_⟩
          refine ⟨fun σ F => ∃ x : Int, σ = [some (.ref pen), some (.int m), some (.int a), some (.int x), none] ∧ F = H, ?_, ?_⟩
          · refine ⟨_, rfl, _, rfl, pen, _, 0, .ref c, rfl, rfl, .inl (.inl h1), rfl, .ref c, cells.length, rfl, .inl ⟨_, .inl (.inl h2), by rw [List.length_map]⟩, ?_⟩
            refine ⟨a, _, rfl, rfl, _, rfl, ?_⟩
            refine ite2 (fun c1 => ?_) (fun c1 => ?_)
            · have c1' : a < cells.length := of_decide_eq_true c1
              obtain ⟨y, hk, _⟩ := atI_int h4 c1'
              refine ⟨_, rfl, pen, _, 0, .ref c, rfl, rfl, .inl (.inl h1), rfl, _, rfl, c, _, a, _, rfl, rfl, .inl (.inl h2), hk, ?_⟩
              exact ⟨_, rfl, rfl⟩
            · refine ⟨_, rfl, pen, _, 0, .ref c, rfl, rfl, .inl (.inl h1), rfl, .ref c, cells.length, rfl, .inl ⟨_, .inl (.inl h2), by rw [List.length_map]⟩, ?_⟩
              refine ⟨(cells.length : Nat), 0, rfl, rfl, _, rfl, ?_⟩
              refine ite2 (fun c2 => ?_) (fun c2 => ?_)
              · have c2' : (0 : Int) < cells.length := of_decide_eq_true c2
                refine ⟨_, rfl, pen, _, 0, .ref c, rfl, rfl, .inl (.inl h1), rfl, ?_⟩
                refine ⟨_, rfl, a, 5, rfl, rfl, .inr ⟨by decide, by decide⟩, a * 5, 3, rfl, rfl, ?_⟩
                refine ⟨_, rfl, pen, _, 0, .ref c, rfl, rfl, .inl (.inl h1), rfl, .ref c, cells.length, rfl, .inl ⟨_, .inl (.inl h2), by rw [List.length_map]⟩, ?_⟩
                refine ⟨a * 5 + 3, (cells.length : Nat), rfl, rfl, c2', ?_⟩
                have b1 := Int.emod_nonneg (a * 5 + 3) (show (cells.length : Int) ≠ 0 by omega)
                have b2 := Int.emod_lt_of_pos (a * 5 + 3) c2'
                try dsimp only
                generalize hi : (a * 5 + 3) % (cells.length : Int) = i at b1 b2 ⊢
                obtain ⟨y, hk, _⟩ := atI_int b1 b2
                refine ⟨c, _, i, _, rfl, rfl, .inl (.inl h2), hk, ?_⟩
                refine ⟨10, 17, rfl, rfl, ⟨by decide, by decide, by decide⟩, _, rfl, _, a, rfl, rfl, ?_⟩
                refine ⟨_, _, rfl, rfl, ?_, ⟨_, rfl, rfl⟩⟩
                have e17 : (10 : Int) ^ (17 : Int).toNat = 100000000000000000 := by decide
                rw [e17]
                omega
              · exact ⟨0, rfl, rfl⟩
          · rintro σ F ⟨x, rfl, rfl⟩
            refine ⟨_, rfl, a, 1, rfl, rfl, _, rfl, pen, _, 1, 1, rfl, rfl, h1, rfl, ?_⟩
            refine ⟨_, rfl, _, rfl, x, a, rfl, h4, by omega, fun G r sG => ?_⟩
            have nc := pen_ne h1 h2
            have hpG : G pen = some (.lst [.ref c, .int (a + 1), .int l]) := sG _ _ upd_same
            refine ⟨_, rfl, pen, _, 2, 2, rfl, rfl, hpG, rfl, ?_⟩
            refine ⟨_, _, a + 1, r, rfl, ?_, upd_same, by omega, by omega⟩
            intro b o nb e
            rw [upd_ne nb]
            exact sG _ _ (by rw [upd_ne nb]; exact e)
        · exact ⟨_, _, a, l, rfl, Oth.refl H pen, h1, h4, by omega⟩
      · rintro σ F ⟨x, y, a', l', rfl, oF, hF, g1, g2⟩
        refine ⟨_, rfl, pen, _, 2, .int l', rfl, rfl, .inl (.inl hF), rfl, _, rfl, l', m, rfl, rfl, hm0, ?_⟩
        refine ⟨_, rfl, pen, _, 2, .int l', rfl, rfl, .inl (.inl hF), rfl, _, rfl, l', m, rfl, rfl, ⟨hm0, hm1⟩, ?_⟩
        refine ⟨_, rfl, pen, _, 2, 2, rfl, rfl, hF, rfl, ?_⟩
        refine ⟨_, rfl, q _ _ (Int.emod_nonneg _ (by omega)) (Int.emod_lt_of_pos _ hm0) oF.upd ?_⟩
        exact penC_put h1 h2 h3 oF g1 g2
  exact has_of F G T.g__law_take (fun _ _ _ _ _ _ us hl => match us, hl with | [_, _], _ => rfl)
theorem ok__law_one (T : Txt K mg) {fd : FuncData} (F : FnP K "_law_one" s__law_one fd)
    (H__law_take : Has P w K mg base CX0 2 "_law_take" P__law_take sp__law_take) :
    Has P w K mg base CX0 3 "_law_one" P__law_one (sp__law_one K) := by
  have G : FnOk P w K mg base CX0 3 (He.ga K "_law_one") fd P__law_one (sp__law_one K) := by
    refine F.ok (k := 2) sc__law_one (fun vs H Q E h => ?_) (fun cdv A outer s H vs Q E hr h => ?_)
    · obtain ⟨pen, c, b, xs, n, rfl, hp, hn, nb, hS, hl0, hl1, q⟩ := h
      rfl
    · obtain ⟨pen, c, b, xs, n, rfl, hp, hn, nb, hS, hl0, hl1, q⟩ := h
      refine ⟨_, (PSs.nox (pss_one (ps_ret (pe_ix ix_list (pv 1) (pe_has H__law_take (hr.mono (by decide)) pass0 (pa_cons (pv 0) (pa_cons (pe_callB (id := "len") call_len (by rfl) T.f_len (by decide +kernel) (pa_cons (pv 1) pa_nil)) pa_nil))) (fun _ _ => rfl))))), ?_⟩
      refine ⟨_, rfl, _, rfl, _, rfl, .ref b, xs.length, rfl, .inl ⟨_, hS, rfl⟩, ?_⟩
      refine ⟨pen, c, (xs.length : Nat), n, rfl, hp, hn, by omega, by omega, fun r H' r0 r1 oH hP => ?_⟩
      obtain ⟨x, hx, hk, _⟩ := atI_in r0 r1
      exact ⟨b, xs, r, x, rfl, rfl, oH.seq nb hS, hk, q x hx H' oH hP⟩
  exact has_of F G T.g__law_one (fun _ _ _ _ _ _ us hl => match us, hl with | [_, _], _ => rfl)
end
end K13

set_option Elab.async false
set_option linter.all false
set_option maxRecDepth 100000
set_option maxHeartbeats 8000000
namespace K13
open PySem PySem.Spec PyProof.Rows L2 XA

theorem len2 {α : Type} : ∀ {xs : List α}, xs.length = 2 → ∃ a b, xs = [a, b]
  | [a, b], _ => ⟨a, b, rfl⟩
  | [], h => by simp at h
  | [_], h => by simp at h
  | _ :: _ :: _ :: _, h => by simp at h
theorem iteT' {b : Bool} {A B : Prop} (h : b = true) (a : A) : if b = true then A else B := by
  rw [if_pos h]
  exact a
theorem iteF' {b : Bool} {A B : Prop} (h : b = false) (a : B) : if b = true then A else B := by
  rw [if_neg (by rw [h]; decide)]
  exact a
theorem mapInt {ns : List Int} {i : Nat} {u : V} (h : (ns.map V.int)[i]? = some u) : ∃ m, ns[i]? = some m ∧ u = .int m := by
  rw [List.getElem?_map] at h
  cases e : ns[i]? with
  | none =>
    rw [e] at h
    cases h
  | some m =>
    rw [e] at h
    exact ⟨m, rfl, (Option.some.inj h).symm⟩

def sp__is_arrow (K : PySem.W.Frag) : Sp := fun vs H Q _ => ∃ x d av r, vs = [x, .int r] ∧ Da K H av x d ∧ ∀ H', Same H H' → Q (.bl (arrowOk r d)) H'
def sp_Net__init (K : PySem.W.Frag) : Sp := fun vs H Q E => ∃ (s dx : Addr) (x : V) (d : PyData) (y : V) (e : PyData) (z : V) (f : PyData) (av : Addr), vs = [.ref s, x, y, z] ∧ H s = some (.ins (He.ga K "Net") dx []) ∧
  Da K H av x d ∧ Da K H av y e ∧ Da K H av z f ∧ ∀ H', Same H H' → (primeD f = false → E (.ref (He.ga K "NoPrime")) none H') ∧ (primeD f = true → netD d e = false → E (.ref (He.ga K "NoNet")) none H') ∧
    (primeD f = true → netD d e = true → Q .non (upd H' s (.ins (He.ga K "Net") dx [("rooms", x), ("arrows", y), ("prime", z)])))
def sp_is_heap (K : PySem.W.Frag) : Sp := fun vs H Q _ => ∃ (a : Addr) (r : Int) (ar p x : V) (d : PyData) (av : Addr), vs = [.ref a, x] ∧ NetAt K H a (.int r) ar p ∧ r ≤ 1000 ∧ Da K H av x d ∧ ∀ H', Same H H' → Q (.bl (heapD r d)) H'
def sp_need_heap (K : PySem.W.Frag) : Sp := fun vs H Q E => ∃ (a : Addr) (r : Int) (ar p x : V) (d : PyData) (av : Addr), vs = [.ref a, x] ∧ NetAt K H a (.int r) ar p ∧ r ≤ 1000 ∧ Da K H av x d ∧ ∀ H', Same H H' →
  if heapD r d = true then Q .non H' else E (.ref (He.ga K "NoHeap")) none H'
def arrIn (r : Int) (l : List (Int × Int)) : Prop := l.length ≤ 12 ∧ ∀ a ∈ l, 0 ≤ a.1 ∧ a.1 < r ∧ 0 ≤ a.2 ∧ a.2 < r ∧ a.1 ≠ a.2
def sp_form (K : PySem.W.Frag) : Sp := fun vs H Q E => ∃ (a : Addr) (r : Int) (ar p x y : V) (l : List (Int × Int)) (d e : PyData) (av : Addr), vs = [.ref a, x, y] ∧ NetAt K H a (.int r) ar p ∧ r ≤ 1000 ∧ Da K H av ar (arrsD l) ∧ arrIn r l ∧
  Da K H av x d ∧ Da K H av y e ∧ ∀ H', Same H H' → ((heapD r d && heapD r e) = false → E (.ref (He.ga K "NoHeap")) none H') ∧
    ∀ xs ys : List Int, d = .tuple (xs.map .int) → e = .tuple (ys.map .int) → heapD r d = true → heapD r e = true → Q (.int (formI l xs ys)) H'
section
variable {P : Program} {w : World} {K : PySem.W.Frag} {mg : Str → Option Value} {base : Heap}
theorem ok__is_arrow (T : Txt K mg) {fd : FuncData} (F : FnP K "_is_arrow" s__is_arrow fd)
    (H_is_whole_to : Has P w K mg base CX0 2 "is_whole_to" P_is_whole_to (sp_is_whole_to K)) :
    Has P w K mg base CX0 3 "_is_arrow" P__is_arrow (sp__is_arrow K) := by
  have G : FnOk P w K mg base CX0 3 (He.ga K "_is_arrow") fd P__is_arrow (sp__is_arrow K) := by
    refine F.ok (k := 2) sc__is_arrow (fun vs H Q E h => ?_) (fun cdv A outer s H vs Q E hr h => ?_)
    · obtain ⟨x, d, av, r, rfl, hx, q⟩ := h
      rfl
    · obtain ⟨x, d, av, r, rfl, hx, q⟩ := h
      refine ⟨_, (PSs.nox (pss_cons (ps_if (PW.pt (pw_or (pt_not (pt_val (pe_callB (id := "isinstance") call_isZ (by rfl) T.f_isinstance (by decide +kernel) (pa_cons (pv 0) (pa_cons (pe_bltn (v := .ty "tuple") (by rfl) T.f_tuple (by decide +kernel) rfl) pa_nil))))) (pw_or1 (pt_cmpR op_ne (pe_callB (id := "len") call_len (by rfl) T.f_len (by decide +kernel) (pa_cons (pv 0) pa_nil)) pe_int (nomark _)))))
   (pss_one (ps_ret pe_bl)) pss_nil)
  (pss_one (ps_ret (pe_and (pe_callB (id := "all") (cr_all rfl) (by rfl) T.f_all (by decide +kernel) (pa_cons (pe_lc (own := [("room", 2)]) rfl sc__is_arrow.nd (pi_tup (pv 0)) (blkOk_by (N := N__is_arrow) (sc := defScope s__is_arrow) (by decide +kernel)) (fun _ _ _ _ _ => pg_name (i := 2) (sc__is_arrow.nd) rfl (by first | exact Or.inl rfl | exact Or.inr rfl)) (fun _ _ _ _ _ => pts_nil) (fun _ _ _ _ _ => (pe_has H_is_whole_to (hr.mono (by decide)) pass0 (pa_cons (pv 2) (pa_cons (pe_op op_sub (pv 1) pe_int) pa_nil))))) pa_nil)) (pe_one (pe_cmpR op_ne (pe_ix ix_tup (pv 0) pe_int (fun _ _ => rfl)) (pe_ix ix_tup (pv 0) pe_int (fun _ _ => rfl)) (nomark _)))))))), ?_⟩
      have hP : ∀ b : Bool, arrowOk r d = b → ∀ H', Same H H' → Q (.bl b) H' := by
        intro b e H' s
        rw [← e]
        exact q H' s
      refine ⟨x, rfl, ?_⟩
      walk_at "rd"
      refine isz_d hx (Or.inr (Or.inr (Or.inl rfl))) ⟨_, rfl, ?_⟩
      cases ht : isD d "tuple" with
      | false =>
        refine iteT ?_
        refine iteT ?_
        refine hP false ?_ H (Same.refl H)
        cases d <;> first | rfl | (simp [isD, tyD] at ht)
      | true =>
        obtain ⟨ds, rfl⟩ := tup_of ht
        refine iteF ?_
        obtain ⟨a, xs, rfl, hS, hA⟩ := hx.isTup
        have hl := hA.length
        refine ⟨_, rfl, .ref a, xs.length, rfl, .inr ⟨_, hS, rfl⟩, rfl, _, rfl, ?_⟩
        by_cases e : xs.length = 2
        · rw [decide_eq_true (show V.int ((xs.length : Nat) : Int) = V.int 2 by rw [e]; rfl)]
          refine iteF ?_
          obtain ⟨x1, x2, rfl⟩ := len2 e
          obtain ⟨d1, d2, rfl⟩ := len2 (show ds.length = 2 by omega)
          refine ⟨_, rfl, a, rfl, ⟨_, hS⟩, fun D nD => ?_⟩
          refine lc_tup (K := K) (a := a) (xs := [x1, x2]) (fun i G => Same H G ∧ G D = some (.lst ((([d1, d2].take i).map fun z => wholeTo z (r - 1)).map V.bl))) ⟨same_upd nD, upd_same⟩ (fun i G _ z => Same.seqT z.1 hS) ?_ ?_
          · rintro i v G hi ⟨sG, hG⟩
            obtain ⟨z, hz, hv⟩ := hA.get hi
            have hlt := (List.getElem?_eq_some_iff.mp hi).1
            refine ⟨rfl, ?_⟩
            refine ⟨_, rfl, _, rfl, r, 1, rfl, rfl, v, z, av, _, rfl, hv.same sG, ?_⟩
            refine ⟨_, (Same.refl G) _ _ hG, lt10 (by rw [List.length_map, List.length_map, List.length_take]; omega), acc_same nD sG (Same.refl G), ?_⟩
            rw [upd_same, List.take_add_one, hz, List.map_append, List.map_append]
            rfl
          · rintro G ⟨sG, hG⟩
            refine ⟨D, [d1, d2].map fun z => wholeTo z (r - 1), rfl, .inl (.inl (by rw [hG] <;> rfl)), _, rfl, ?_⟩
            cases w1 : wholeTo d1 (r - 1) with
            | false =>
              refine iteF' (by simp [w1]) ?_
              refine hP false ?_ _ sG
              show (wholeTo d1 (r - 1) && _) = false
              rw [w1, Bool.false_and]
            | true =>
              cases w2 : wholeTo d2 (r - 1) with
              | false =>
                refine iteF' (by simp [w2]) ?_
                refine hP false ?_ _ sG
                show (wholeTo d1 (r - 1) && (wholeTo d2 (r - 1) && _)) = false
                rw [w2, Bool.false_and, Bool.and_false]
              | true =>
                refine iteT' (by simp [w1, w2]) ?_
                obtain ⟨i, rfl, _, _⟩ := wholeTo_int w1
                obtain ⟨j, rfl, _, _⟩ := wholeTo_int w2
                cases hA with
                | cons h1 hA =>
                cases hA with
                | cons h2 hA =>
                cases hA
                cases h1
                cases h2
                have hSG := Same.seqT sG hS
                refine ⟨_, rfl, a, _, 0, .int i, rfl, rfl, hSG, rfl, _, rfl, a, _, 1, .int j, rfl, rfl, hSG, rfl, rfl, ?_⟩
                refine hP _ ?_ _ sG
                show (wholeTo (.int i) (r - 1) && (wholeTo (.int j) (r - 1) && !(i == j))) = _
                rw [w1, w2, Bool.true_and, Bool.true_and]
                congr 1
                by_cases e : i = j
                · rw [e, decide_eq_true rfl]
                  exact beq_self_eq_true j
                · rw [decide_eq_false (show ¬ V.int i = V.int j from fun z => e (by injection z))]
                  exact beq_eq_false_iff_ne.mpr e
        · rw [decide_eq_false (show ¬ V.int ((xs.length : Nat) : Int) = V.int 2 from fun z => e (by injection z with z; omega))]
          refine iteT ?_
          refine hP false ?_ H (Same.refl H)
          unfold arrowOk
          split
          · rename_i e2
            injection e2 with e2
            subst e2
            exact absurd hl (by intro z; exact e z)
          · rfl
  exact has_of F G T.g__is_arrow (fun _ _ _ _ _ _ us hl => match us, hl with | [_, _], _ => rfl)
theorem ok_Net__init (T : Txt K mg) {fd : FuncData} (F : XA.MnP K "Net" "__init__" "Net.__init__" s_Net__init [("prime", V.int 2)] fd)
    (H_is_whole_to : Has P w K mg base CX0 2 "is_whole_to" P_is_whole_to (sp_is_whole_to K))
    (H_need_prime : Has P w K mg base (L2.CX P w) 3 "need_prime" P_need_prime (sp_need_prime K))
    (H__is_arrow : Has P w K mg base CX0 3 "_is_arrow" P__is_arrow (sp__is_arrow K)) :
    HasM P w K mg base (L2.CX P w) 4 "Net" P_Net__init 2 ["prime"] (sp_Net__init K) := by
  have G : FnOk P w K mg base (L2.CX P w) 4 (XA.mAt K "Net" "__init__") fd P_Net__init (sp_Net__init K) := by
    refine F.ok (k := 3) sc_Net__init (fun vs H Q E h => ?_) (fun cdv A outer s H vs Q E hr h => ?_)
    · obtain ⟨s, dx, x, d, y, e, z, f, av, rfl, hs, hx, hy, hz, q⟩ := h
      rfl
    · obtain ⟨s, dx, x, d, y, e, z, f, av, rfl, hs, hx, hy, hz, q⟩ := h
      refine ⟨_, (pss_cons (ps_expr (pe_has H_need_prime (hr.mono (by decide)) (passes_call (takes_of rfl rfl rfl rfl) (fun _ _ _ _ h => h)) (pa_cons (pv 3) pa_nil)))
  (pss_cons (ps_if (PW.pt (pw_or (pt_not (pt_val (pe_has H_is_whole_to (hr.mono (by decide)) pass0 (pa_cons (pv 1) (pa_cons (pe_glob (v := .int 8) (by rfl) (T.c_MOST_ROOMS).choose_spec ⟨_, rfl⟩) pa_nil))))) (pw_or1 (pt_cmpR op_eq (pv 1) pe_int (nomark _)))))
   (pss_one (ps_raise rfl (takes_of rfl rfl rfl rfl) (pmk_own PySem.F.excBase_ValueError T.x_NoNet T.g_NoNet T.k_NoNet (raises_own T.b_NoNet T.t_NoNet) rfl))) pss_nil)
  (pss_cons (ps_if (PW.pt (pw_or (pt_not (pt_val (pe_callB (id := "isinstance") call_isZ (by rfl) T.f_isinstance (by decide +kernel) (pa_cons (pv 2) (pa_cons (pe_bltn (v := .ty "tuple") (by rfl) T.f_tuple (by decide +kernel) rfl) pa_nil))))) (pw_or1 (pt_cmpR op_gt (pe_callB (id := "len") call_len (by rfl) T.f_len (by decide +kernel) (pa_cons (pv 2) pa_nil)) (pe_glob (v := .int 12) (by rfl) (T.c_MOST_ARROWS).choose_spec ⟨_, rfl⟩) (nomark _)))))
   (pss_one (ps_raise rfl (takes_of rfl rfl rfl rfl) (pmk_own PySem.F.excBase_ValueError T.x_NoNet T.g_NoNet T.k_NoNet (raises_own T.b_NoNet T.t_NoNet) rfl))) pss_nil)
  (pss_cons (ps_if (pt_not (pt_val (pe_callB (id := "all") (cr_all rfl) (by rfl) T.f_all (by decide +kernel) (pa_cons (pe_lc (own := [("thing", 4)]) rfl sc_Net__init.nd (pi_tup (pv 2)) (blkOk_by (N := N_Net__init) (sc := defScope s_Net__init) (by decide +kernel)) (fun _ _ _ _ _ => pg_name (i := 4) (sc_Net__init.nd) rfl (by first | exact Or.inl rfl | exact Or.inr rfl)) (fun _ _ _ _ _ => pts_nil) (fun _ _ _ _ _ => (pe_has H__is_arrow (hr.mono (by decide)) pass0 (pa_cons (pv 4) (pa_cons (pv 1) pa_nil))))) pa_nil))))
   (pss_one (ps_raise rfl (takes_of rfl rfl rfl rfl) (pmk_own PySem.F.excBase_ValueError T.x_NoNet T.g_NoNet T.k_NoNet (raises_own T.b_NoNet T.t_NoNet) rfl))) pss_nil)
  (pss_cons (ps_fld (pv 0) (pv 1) rfl)
  (pss_cons (ps_fld (pv 0) (pv 2) rfl)
  (pss_one (ps_fld (pv 0) (pv 3) rfl)))))))), ?_⟩
      refine ⟨_, rfl, z, f, av, rfl, hz, fun H1 s1 => ?_⟩
      refine ite2 (fun cp => ?_) (fun cp => ?_)
      rotate_left
      · exact (q H1 s1).1 (Bool.not_eq_true _ |>.mp cp)
      have bad : netD d e = false → ∀ H2, Same H1 H2 → E (.ref (He.ga K "NoNet")) none H2 := fun h H2 s2 => (q H2 (s1.trans s2)).2.1 cp h
      have hx := hx.same s1
      have hy := hy.same s1
      -- the rooms
      refine ⟨_, rfl, x, d, av, 8, rfl, hx, _, rfl, ?_⟩
      cases w1 : wholeTo d 8 with
      | false =>
        refine iteT ?_
        refine iteT ?_
        refine bad ?_ _ (Same.refl H1)
        cases d with
        | int i =>
          show (decide (1 ≤ i ∧ i ≤ 8) && _) = false
          have w : ¬ (0 ≤ i ∧ i ≤ 8) := of_decide_eq_false w1
          rw [decide_eq_false (by omega), Bool.false_and]
        | _ => rfl
      | true =>
        refine iteF ?_
        obtain ⟨r, rfl, r0, r1⟩ := wholeTo_int w1
        cases hx
        refine ⟨_, rfl, rfl, _, rfl, ?_⟩
        by_cases er : r = 0
        · subst er
          rw [decide_eq_true rfl]
          refine iteT ?_
          refine bad ?_ _ (Same.refl H1)
          show (decide ((1 : Int) ≤ 0 ∧ (0 : Int) ≤ 8) && arrowsOk 0 e) = false
          rw [decide_eq_false (by decide), Bool.false_and]
        rw [decide_eq_false (show ¬ V.int r = V.int 0 from fun z => er (by injection z))]
        refine iteF ?_
        have hr18 : decide (1 ≤ r ∧ r ≤ 8) = true := decide_eq_true (by omega)
        have nD : netD (.int r) e = arrowsOk r e := by
          show (decide (1 ≤ r ∧ r ≤ 8) && arrowsOk r e) = _
          rw [hr18, Bool.true_and]
        rw [nD] at bad
        -- the arrows
        refine ⟨_, rfl, ?_⟩
        walk_at "rd"
        refine isz_d hy (Or.inr (Or.inr (Or.inl rfl))) ⟨_, rfl, ?_⟩
        cases ht : isD e "tuple" with
        | false =>
          refine iteT ?_
          refine iteT ?_
          refine bad ?_ _ (Same.refl H1)
          cases e <;> first | rfl | (simp [isD, tyD] at ht)
        | true =>
          obtain ⟨ds, rfl⟩ := tup_of ht
          refine iteF ?_
          obtain ⟨b, ys, rfl, hS, hA⟩ := hy.isTup
          have hl := hA.length
          refine ⟨_, rfl, .ref b, ys.length, rfl, .inr ⟨_, hS, rfl⟩, (ys.length : Nat), 12, rfl, rfl, _, rfl, ?_⟩
          by_cases e12 : ((ys.length : Nat) : Int) > 12
          · rw [decide_eq_true e12]
            refine iteT ?_
            refine bad ?_ _ (Same.refl H1)
            show (decide (ds.length ≤ 12) && _) = false
            rw [decide_eq_false (by omega), Bool.false_and]
          rw [decide_eq_false e12]
          refine iteF ?_
          refine ⟨_, rfl, b, rfl, ⟨_, hS⟩, fun D nD2 => ?_⟩
          refine lc_tup (K := K) (a := b) (xs := ys) (fun i G => Same H1 G ∧ G D = some (.lst (((ds.take i).map (arrowOk r)).map V.bl))) ⟨same_upd nD2, upd_same⟩ (fun i G _ z => Same.seqT z.1 hS) ?_ ?_
          · rintro i v G hi ⟨sG, hG⟩
            obtain ⟨z, hz, hv⟩ := hA.get hi
            have hlt := (List.getElem?_eq_some_iff.mp hi).1
            refine ⟨rfl, ?_⟩
            refine ⟨_, rfl, _, rfl, v, z, av, r, rfl, hv.same sG, fun G4 s4 => ?_⟩
            refine ⟨_, s4 _ _ hG, lt10 (by rw [List.length_map, List.length_map, List.length_take]; omega), acc_same nD2 sG s4, ?_⟩
            rw [upd_same, List.take_add_one, hz, List.map_append, List.map_append]
            rfl
          · rintro G ⟨sG, hG⟩
            have e2 : arrowsOk r (.tuple ds) = ds.all (arrowOk r) := by
              show (decide (ds.length ≤ 12) && ds.all (arrowOk r)) = _
              rw [decide_eq_true (show ds.length ≤ 12 by omega), Bool.true_and]
            refine ⟨D, ds.map (arrowOk r), rfl, .inl (.inl (by rw [hG, hl, List.take_length])), _, rfl, ?_⟩
            rw [e2] at bad
            cases ea : ds.all (arrowOk r) with
            | false =>
              refine iteT' (by rw [List.all_map]; show (!(ds.all (arrowOk r))) = true; rw [ea]; rfl) ?_
              exact bad ea _ sG
            | true =>
              refine iteF' (by rw [List.all_map]; show (!(ds.all (arrowOk r))) = false; rw [ea]; rfl) ?_
              have hsG := sG _ _ (s1 _ _ hs)
              refine ⟨_, rfl, _, rfl, s, _, dx, [], rfl, hsG, T.cl_Net, T.na_Net_rooms, (show (0 : Nat) < 1000 by decide), ?_⟩
              refine ⟨_, rfl, _, rfl, s, _, dx, _, rfl, upd_same, T.cl_Net, T.na_Net_arrows, (show (1 : Nat) < 1000 by decide), ?_⟩
              refine ⟨_, rfl, _, rfl, s, _, dx, _, rfl, upd_same, T.cl_Net, T.na_Net_prime, (show (2 : Nat) < 1000 by decide), ?_⟩
              rw [upd_upd, upd_upd]
              refine (q G (s1.trans sG)).2.2 cp ?_
              rw [nD, e2]
              exact ea
  exact hasM_of (n := 2) F G T.mk_Net T.g_Net (fun _ _ _ _ _ _ us ws hl hm => match us, ws, hl, hm with | [_, _, _], [_], _, _ => rfl)
theorem ok_is_heap (T : Txt K mg) {fd : FuncData} (F : FnP K "is_heap" s_is_heap fd)
    (H_is_whole_to : Has P w K mg base CX0 2 "is_whole_to" P_is_whole_to (sp_is_whole_to K)) :
    Has P w K mg base CX0 3 "is_heap" P_is_heap (sp_is_heap K) := by
  have G : FnOk P w K mg base CX0 3 (He.ga K "is_heap") fd P_is_heap (sp_is_heap K) := by
    refine F.ok (k := 2) sc_is_heap (fun vs H Q E h => ?_) (fun cdv A outer s H vs Q E hr h => ?_)
    · obtain ⟨a, r, ar, p, x, d, av, rfl, hN, hr1, hx, q⟩ := h
      rfl
    · obtain ⟨a, r, ar, p, x, d, av, rfl, hN, hr1, hx, q⟩ := h
      refine ⟨_, (PSs.nox (pss_cons (ps_if (PW.pt (pw_or (pt_not (pt_val (pe_callB (id := "isinstance") call_isZ (by rfl) T.f_isinstance (by decide +kernel) (pa_cons (pv 1) (pa_cons (pe_bltn (v := .ty "tuple") (by rfl) T.f_tuple (by decide +kernel) rfl) pa_nil))))) (pw_or1 (pt_cmpR op_ne (pe_callB (id := "len") call_len (by rfl) T.f_len (by decide +kernel) (pa_cons (pv 1) pa_nil)) (pe_fld (pv 0) rfl) (nomark _)))))
   (pss_one (ps_ret pe_bl)) pss_nil)
  (pss_one (ps_ret (pe_and (pe_callB (id := "all") (cr_all rfl) (by rfl) T.f_all (by decide +kernel) (pa_cons (pe_lc (own := [("x", 2)]) rfl sc_is_heap.nd (pi_tup (pv 1)) (blkOk_by (N := N_is_heap) (sc := defScope s_is_heap) (by decide +kernel)) (fun _ _ _ _ _ => pg_name (i := 2) (sc_is_heap.nd) rfl (by first | exact Or.inl rfl | exact Or.inr rfl)) (fun _ _ _ _ _ => pts_nil) (fun _ _ _ _ _ => (pe_has H_is_whole_to (hr.mono (by decide)) pass0 (pa_cons (pv 2) (pa_cons (pe_glob (v := .int 12) (by rfl) (T.c_MOST_IN_A_ROOM).choose_spec ⟨_, rfl⟩) pa_nil))))) pa_nil)) (pe_one (pe_cmpR op_le (pe_callB (id := "sum") (cr_sumT rfl) (by rfl) T.f_sum (by decide +kernel) (pa_cons (pv 1) pa_nil)) (pe_glob (v := .int 30) (by rfl) (T.c_MOST_IN_ALL).choose_spec ⟨_, rfl⟩) (nomark _)))))))), ?_⟩
      have hP : ∀ b : Bool, heapD r d = b → ∀ H', Same H H' → Q (.bl b) H' := by
        intro b e H' s
        rw [← e]
        exact q H' s
      refine ⟨x, rfl, ?_⟩
      walk_at "rd"
      refine isz_d hx (Or.inr (Or.inr (Or.inl rfl))) ⟨_, rfl, ?_⟩
      cases ht : isD d "tuple" with
      | false =>
        refine iteT ?_
        refine iteT ?_
        exact hP false (heapD_no ht) H (Same.refl H)
      | true =>
        obtain ⟨ds, rfl⟩ := tup_of ht
        refine iteF ?_
        obtain ⟨b, xs, rfl, hS, hA⟩ := hx.isTup
        have hl := hA.length
        obtain ⟨dx, hn⟩ := hN
        refine ⟨_, rfl, .ref b, xs.length, rfl, .inr ⟨_, hS, rfl⟩, _, rfl, a, _, dx, _, .int r, rfl, hn, T.cl_Net, T.na_Net_rooms, rfl, rfl, _, rfl, ?_⟩
        by_cases e : ((xs.length : Nat) : Int) = r
        · rw [decide_eq_true (show V.int ((xs.length : Nat) : Int) = V.int r by rw [e])]
          refine iteF ?_
          refine ⟨_, rfl, b, rfl, ⟨_, hS⟩, fun D nD => ?_⟩
          refine lc_tup (K := K) (a := b) (xs := xs) (fun i G => Same H G ∧ G D = some (.lst (((ds.take i).map fun z => wholeTo z 12).map V.bl))) ⟨same_upd nD, upd_same⟩ (fun i G _ z => Same.seqT z.1 hS) ?_ ?_
          · rintro i v G hi ⟨sG, hG⟩
            obtain ⟨z, hz, hv⟩ := hA.get hi
            have hlt := (List.getElem?_eq_some_iff.mp hi).1
            refine ⟨rfl, ?_⟩
            refine ⟨_, rfl, v, z, av, 12, rfl, hv.same sG, ?_⟩
            refine ⟨_, hG, ?_, acc_same nD sG (Same.refl G), ?_⟩
            · have z := (show ((G D) = some (.lst _)) from hG)
              rw [List.length_map, List.length_map, List.length_take]
              refine Nat.lt_of_le_of_lt (Nat.min_le_right _ _) ?_
              rw [← hl]
              exact lt10 (by omega)
            rw [upd_same, List.take_add_one, hz, List.map_append, List.map_append]
            rfl
          · rintro G ⟨sG, hG⟩
            refine ⟨D, ds.map fun z => wholeTo z 12, rfl, .inl (.inl (by rw [hG, hl, List.take_length])), _, rfl, ?_⟩
            cases ea : ds.all (fun z => wholeTo z 12) with
            | false =>
              refine iteF' (by rw [List.all_map]; exact ea) ?_
              refine hP false ?_ _ sG
              show (_ && (ds.all (fun d => wholeTo d 12) && _)) = false
              rw [ea, Bool.false_and, Bool.and_false]
            | true =>
              refine iteT' (by rw [List.all_map]; exact ea) ?_
              obtain ⟨ns, rfl, hns⟩ := ints_of ea
              have hxs := hA.isInts
              subst hxs
              refine ⟨_, rfl, b, ns, rfl, Same.seqT sG hS, ns.sum, 30, rfl, rfl, ?_⟩
              refine hP _ ?_ _ sG
              rw [heapD_ints, decide_eq_true (by rw [List.length_map] at e; exact e), Bool.true_and]
              rw [show ns.all (fun x => decide (0 ≤ x ∧ x ≤ 12)) = true from List.all_eq_true.mpr fun x hx => decide_eq_true (hns x hx), Bool.true_and]
        · rw [decide_eq_false (show ¬ V.int ((xs.length : Nat) : Int) = V.int r from fun z => e (by injection z))]
          refine iteT ?_
          refine hP false ?_ H (Same.refl H)
          show (decide ((ds.length : Int) = r) && _) = false
          rw [decide_eq_false (by omega), Bool.false_and]
  exact has_of F G T.g_is_heap (fun _ _ _ _ _ _ us hl => match us, hl with | [_, _], _ => rfl)
theorem ok_need_heap (T : Txt K mg) {fd : FuncData} (F : FnP K "need_heap" s_need_heap fd)
    (H_is_heap : Has P w K mg base CX0 3 "is_heap" P_is_heap (sp_is_heap K)) :
    Has P w K mg base (L2.CX P w) 4 "need_heap" P_need_heap (sp_need_heap K) := by
  have G : FnOk P w K mg base (L2.CX P w) 4 (He.ga K "need_heap") fd P_need_heap (sp_need_heap K) := by
    refine F.ok (k := 3) sc_need_heap (fun vs H Q E h => ?_) (fun cdv A outer s H vs Q E hr h => ?_)
    · obtain ⟨a, r, ar, p, x, d, av, rfl, hN, hr1, hx, q⟩ := h
      rfl
    · obtain ⟨a, r, ar, p, x, d, av, rfl, hN, hr1, hx, q⟩ := h
      refine ⟨_, (pss_one (ps_if (pt_not (pt_val (pe_has H_is_heap (hr.mono (by decide)) pass0 (pa_cons (pv 0) (pa_cons (pv 1) pa_nil)))))
   (pss_one (ps_raise rfl (takes_of rfl rfl rfl rfl) (pmk_own PySem.F.excBase_ValueError T.x_NoHeap T.g_NoHeap T.k_NoHeap (raises_own T.b_NoHeap T.t_NoHeap) rfl))) pss_nil)), ?_⟩
      refine ⟨_, rfl, _, rfl, a, r, ar, p, x, d, av, rfl, hN, hr1, hx, fun H1 s1 => ?_⟩
      have z := q H1 s1
      cases e : heapD r d with
      | true =>
        rw [e] at z
        refine ⟨_, rfl, ?_⟩
        refine iteF ?_
        exact (if_pos rfl).mp z
      | false =>
        rw [e] at z
        refine ⟨_, rfl, ?_⟩
        refine iteT ?_
        exact (if_neg (by decide)).mp z
  exact has_of F G T.g_need_heap (fun _ _ _ _ _ _ us hl => match us, hl with | [_, _], _ => rfl)
theorem ok_form (T : Txt K mg) {fd : FuncData} (F : FnP K "form" s_form fd)
    (H_need_heap : Has P w K mg base (L2.CX P w) 4 "need_heap" P_need_heap (sp_need_heap K)) :
    Has P w K mg base (L2.CX P w) 5 "form" P_form (sp_form K) := by
  have G : FnOk P w K mg base (L2.CX P w) 5 (He.ga K "form") fd P_form (sp_form K) := by
    refine F.ok (k := 4) sc_form (fun vs H Q E h => ?_) (fun cdv A outer s H vs Q E hr h => ?_)
    · obtain ⟨a, r, ar, p, x, y, l, d, e, av, rfl, hN, hr1, har, hl, hx, hy, q⟩ := h
      rfl
    · obtain ⟨a, r, ar, p, x, y, l, d, e, av, rfl, hN, hr1, har, hl, hx, hy, q⟩ := h
      refine ⟨_, (pss_cons (ps_expr (pe_has H_need_heap (hr.mono (by decide)) (passes_call (takes_of rfl rfl rfl rfl) (fun _ _ _ _ h => h)) (pa_cons (pv 0) (pa_cons (pv 1) pa_nil))))
  (pss_cons (ps_expr (pe_has H_need_heap (hr.mono (by decide)) (passes_call (takes_of rfl rfl rfl rfl) (fun _ _ _ _ h => h)) (pa_cons (pv 0) (pa_cons (pv 2) pa_nil))))
  (pss_cons (ps_set (i := 3) sc_form.nd rfl (by first | exact Or.inl rfl | exact Or.inr rfl) (pe_callB (id := "sum") (cr_sum rfl) (by rfl) T.f_sum (by decide +kernel) (pa_cons (pe_lc (own := [("x", 4), ("y", 5)]) rfl sc_form.nd (RZ.pi_zipA (by rfl) T.f_zip (pa_cons (pv 1) (pa_cons (pv 2) pa_nil))) (blkOk_by (N := N_form) (sc := defScope s_form) (by decide +kernel)) (fun _ _ _ _ _ => (pg_tupK K (n := 2) (hc := rfl) (hp := (pgs_cons (pg_name (i := 4) sc_form.nd rfl (by first | exact Or.inl rfl | exact Or.inr rfl)) (pgs_cons (pg_name (i := 5) sc_form.nd rfl (by first | exact Or.inl rfl | exact Or.inr rfl)) pgs_nil))))) (fun _ _ _ _ _ => pts_nil) (fun _ _ _ _ _ => (pe_op op_mul (pv 4) (pv 5)))) pa_nil)))
  (pss_one (ps_ret (pe_op op_sub (pv 3) (pe_callB (id := "sum") (cr_sum rfl) (by rfl) T.f_sum (by decide +kernel) (pa_cons (pe_lc (own := [("begin", 6), ("end", 7)]) rfl sc_form.nd (pi_tup (pe_fld (pv 0) rfl)) (blkOk_by (N := N_form) (sc := defScope s_form) (by decide +kernel)) (fun _ _ _ _ _ => (pg_tupK K (n := 2) (hc := rfl) (hp := (pgs_cons (pg_name (i := 6) sc_form.nd rfl (by first | exact Or.inl rfl | exact Or.inr rfl)) (pgs_cons (pg_name (i := 7) sc_form.nd rfl (by first | exact Or.inl rfl | exact Or.inr rfl)) pgs_nil))))) (fun _ _ _ _ _ => pts_nil) (fun _ _ _ _ _ => (pe_op op_mul (pe_ix (ix_tupK K) (pv 1) (pv 6) (fun _ _ => rfl)) (pe_ix (ix_tupK K) (pv 2) (pv 7) (fun _ _ => rfl))))) pa_nil)))))))), ?_⟩
      refine ⟨_, rfl, _, rfl, a, r, ar, p, x, d, av, rfl, hN, hr1, hx, fun H1 s1 => ?_⟩
      refine ite2 (fun c1 => ?_) (fun c1 => ?_)
      rotate_left
      · refine (q H1 s1).1 ?_
        rw [Bool.not_eq_true _ |>.mp c1, Bool.false_and]
      refine ⟨_, rfl, _, rfl, a, r, ar, p, y, e, av, rfl, hN.same s1, hr1, hy.same s1, fun H2 s2 => ?_⟩
      refine ite2 (fun c2 => ?_) (fun c2 => ?_)
      rotate_left
      · refine (q H2 (s1.trans s2)).1 ?_
        rw [Bool.not_eq_true _ |>.mp c2, Bool.and_false]
      have s12 := s1.trans s2
      obtain ⟨xs, rfl, hxl, hxb, _⟩ := heapD_of c1
      obtain ⟨ys, rfl, hyl, hyb, _⟩ := heapD_of c2
      obtain ⟨b1, us, rfl, hS1, hA1⟩ := (hx.same s12).isTup
      obtain ⟨b2, ws, rfl, hS2, hA2⟩ := (hy.same s12).isTup
      have e1 := hA1.isInts
      have e2 := hA2.isInts
      subst e1 e2
      have hxy : xs.length = ys.length := by omega
      have hN2 := hN.same s12
      have har2 := har.same s12
      generalize hz : List.zipWith (· * ·) xs ys = zs
      have hzl : zs.length = xs.length := by rw [← hz, List.length_zipWith, hxy, Nat.min_self]
      refine ⟨_, rfl, _, rfl, b1, b2, _, _, rfl, .inr ⟨hS1, hS2, fun D nD => ?_⟩⟩
      refine lc_zipT (K := K) (a := b1) (b := b2) (xs := xs.map V.int) (ys := ys.map V.int) (by rw [List.length_map, List.length_map, hxy]) (fun i G => Same H2 G ∧ G D = some (.lst ((zs.take i).map V.int))) ⟨same_upd nD, upd_same⟩
        (fun i G _ z => ⟨Same.seqT z.1 hS1, Same.seqT z.1 hS2⟩) ?_ ?_
      · rintro i u v t G hu hv ⟨sG, hG⟩ nt
        obtain ⟨m, hm, rfl⟩ := mapInt hu
        obtain ⟨n, hn, rfl⟩ := mapInt hv
        have st := same_upd (o := .tup [V.int m, V.int n]) nt
        refine ⟨t, _, rfl, .inl (.inl upd_same), rfl, _, _, rfl, _, _, rfl, rfl, rfl, ?_⟩
        have mb := hxb m (List.mem_of_getElem? hm)
        have nb := hyb n (List.mem_of_getElem? hn)
        refine ⟨_, rfl, _, rfl, m, n, rfl, rfl, .inl ⟨by omega, by omega⟩, ?_⟩
        have hzi : zs[i]? = some (m * n) := by
          rw [← hz, List.getElem?_zipWith, hm, hn]
        have hlt := (List.getElem?_eq_some_iff.mp hm).1
        refine ⟨_, st _ _ hG, lt10 (by rw [List.length_map, List.length_take]; omega), acc_same nD sG st, ?_⟩
        rw [upd_same, List.take_add_one, hzi, List.map_append]
        rfl
      rintro G ⟨sG, hG⟩
      rw [List.length_map, ← hzl, List.take_length] at hG
      refine ⟨D, zs, rfl, .inl (.inl hG), ?_⟩
      have hNG := hN2.same sG
      have harG := har2.same sG
      obtain ⟨dx, hn⟩ := hNG
      obtain ⟨b3, as, rfl, hS3, hA3⟩ := harG.isTup
      refine ⟨_, rfl, _, rfl, a, _, dx, _, _, rfl, hn, T.cl_Net, T.na_Net_arrows, rfl, b3, rfl, ⟨_, hS3⟩, fun D2 nD2 => ?_⟩
      have hal := hA3.length
      rw [List.length_map] at hal
      refine lc_tup (K := K) (a := b3) (xs := as) (fun i F => Same G F ∧ F D2 = some (.lst (((l.take i).map fun a => xs.getD a.1.toNat 0 * ys.getD a.2.toNat 0).map V.int))) ⟨same_upd nD2, upd_same⟩ (fun i F _ z => Same.seqT z.1 hS3) ?_ ?_
      · rintro i v F hi ⟨sF, hF⟩
        obtain ⟨dz, hdz, hv⟩ := hA3.get hi
        rw [List.getElem?_map] at hdz
        cases el : l[i]? with
        | none =>
          rw [el] at hdz
          cases hdz
        | some pr =>
          rw [el] at hdz
          obtain rfl : arrD pr = dz := Option.some.inj hdz
          obtain ⟨b4, vs4, rfl, hS4, hA4⟩ := (hv.same sF).isTup
          cases hA4 with
          | cons g1 hA4 =>
          cases hA4 with
          | cons g2 hA4 =>
          cases hA4
          cases g1
          cases g2
          obtain ⟨p0, p1, q0, q1, _⟩ := hl.2 pr (List.mem_of_getElem? el)
          refine ⟨b4, _, rfl, hS4, rfl, _, _, rfl, _, _, rfl, rfl, rfl, ?_⟩
          have sGF := sG.trans sF
          obtain ⟨m, hm, hm2⟩ := atI_int (ns := xs) p0 (by omega)
          obtain ⟨n, hn, hn2⟩ := atI_int (ns := ys) q0 (by omega)
          have mb := hxb m (List.mem_of_getElem? hm2)
          have nb := hyb n (List.mem_of_getElem? hn2)
          refine ⟨_, rfl, _, rfl, b1, _, pr.1, .int m, rfl, rfl, Same.seqT sGF hS1, hm, _, rfl, _, rfl, b2, _, pr.2, .int n, rfl, rfl, Same.seqT sGF hS2, hn, m, n, rfl, rfl, .inl ⟨by omega, by omega⟩, ?_⟩
          have e : xs.getD pr.1.toNat 0 * ys.getD pr.2.toNat 0 = m * n := by
            rw [List.getD_eq_getElem?_getD, List.getD_eq_getElem?_getD, hm2, hn2]
            rfl
          have hlt := (List.getElem?_eq_some_iff.mp el).1
          have h12 := hl.1
          refine ⟨_, hF, lt10 (by rw [List.length_map, List.length_map, List.length_take]; omega), acc_same nD2 sF (Same.refl F), ?_⟩
          rw [upd_same, List.take_add_one, el, List.map_append, List.map_append]
          show some (HO.lst (_ ++ [V.int (m * n)])) = some (HO.lst (_ ++ [V.int (xs.getD pr.1.toNat 0 * ys.getD pr.2.toNat 0)]))
          rw [e]
      rintro F ⟨sF, hF⟩
      rw [hal, List.take_length] at hF
      refine ⟨D2, _, rfl, .inl (.inl hF), _, _, rfl, rfl, ?_⟩
      have z := (q F ((s12.trans sG).trans sF)).2 xs ys rfl rfl c1 c2
      unfold formI at z
      rw [hz] at z
      exact z
  exact has_of F G T.g_form (fun _ _ _ _ _ _ us hl => match us, hl with | [_, _, _], _ => rfl)
end
end K13

set_option Elab.async false
set_option linter.all false
set_option maxRecDepth 100000
set_option maxHeartbeats 8000000
namespace K13
open PySem PySem.Spec PyProof.Rows L2 XA

theorem noLs_arr : ∀ l : List (Int × Int), noLs (l.map arrD) = true
  | [] => rfl
  | a :: r => by
    rw [List.map_cons]
    simp only [noLs, arrD, noL, noLs_arr r, Bool.and_self]
def sp__law_prime (K : PySem.W.Frag) : Sp := fun vs H Q _ => ∃ (pen c : Addr) (n : Int), vs = [.ref pen] ∧ PenC H pen c n ∧ n ≤ 9000 ∧
  ∀ (p : Int) (H' : Hp), primeN p = true → Oth H H' pen → PenC H' pen c (n + 1) → Q (.int p) H'
def sp__law_arrows (K : PySem.W.Frag) : Sp := fun vs H Q _ => ∃ (pen c : Addr) (r : Nat) (n : Int), vs = [.ref pen, .int r] ∧ PenC H pen c n ∧ n ≤ 9000 ∧ 1 ≤ r ∧ r ≤ 8 ∧
  ∀ (v : V) (l : List (Int × Int)) (H' : Hp), arrIn r l → Da K H' pen v (arrsD l) → Oth H H' pen → PenC H' pen c (n + 40) → Q v H'
def bnd (ns : List Int) : Prop := ∀ x ∈ ns, -1000 ≤ x ∧ x ≤ 1000
def sp__law_heap (K : PySem.W.Frag) : Sp := fun vs H Q _ => ∃ (pen c : Addr) (r : Nat) (n : Int), vs = [.ref pen, .int r] ∧ PenC H pen c n ∧ n ≤ 9000 ∧ 1 ≤ r ∧ r ≤ 8 ∧
  ∀ (v : V) (ns : List Int) (H' : Hp), ns.length = r → Da K H' pen v (.tuple (ns.map .int)) → Oth H H' pen → PenC H' pen c (n + 30) → Q v H'
def sp__law_spoilt (K : PySem.W.Frag) : Sp := fun vs H Q _ => ∃ (pen c : Addr) (x : V) (ns : List Int) (n : Int), vs = [.ref pen, x] ∧ PenC H pen c n ∧ n ≤ 9000 ∧ Da K H pen x (.tuple (ns.map .int)) ∧ 1 ≤ ns.length ∧ ns.length ≤ 8 ∧
  ∀ (v : V) (d : PyData) (H' : Hp), Da K H' pen v d → Oth H H' pen → PenC H' pen c (n + 10) → Q v H'
def sp__law_whole (K : PySem.W.Frag) : Sp := fun vs H Q _ => ∃ x d av, vs = [x] ∧ Da K H av x d ∧ Q (.bl (whole d)) H
def sp__law_right (K : PySem.W.Frag) : Sp := fun vs H Q _ => ∃ (r : Int) (x : V) (d : PyData) (av : Addr), vs = [.int r, x] ∧ r ≤ 1000 ∧ Da K H av x d ∧ ∀ H', Same H H' → Q (.bl (heapD r d)) H'
def sp__law_form (K : PySem.W.Frag) : Sp := fun vs H Q _ => ∃ (r : Int) (l : List (Int × Int)) (ar x y : V) (xs ys : List Int) (av : Addr), vs = [ar, x, y] ∧ r ≤ 1000 ∧ Da K H av ar (arrsD l) ∧ arrIn r l ∧
  Da K H av x (.tuple (xs.map .int)) ∧ Da K H av y (.tuple (ys.map .int)) ∧ heapD r (.tuple (xs.map .int)) = true ∧ heapD r (.tuple (ys.map .int)) = true ∧ ∀ H', Same H H' → Q (.int (formI l xs ys)) H'
/-- what form tells, a refusal as a word -/
def formIs (r : Int) (l : List (Int × Int)) (d e : PyData) (v : V) (w : PyData) : Prop :=
  ((heapD r d && heapD r e) = false ∧ v = .str "heap" ∧ w = .str "heap") ∨ ∃ xs ys : List Int, d = .tuple (xs.map .int) ∧ e = .tuple (ys.map .int) ∧ heapD r d = true ∧ heapD r e = true ∧ v = .int (formI l xs ys) ∧ w = .int (formI l xs ys)
def sp__law_told (K : PySem.W.Frag) : Sp := fun vs H Q _ => ∃ (a : Addr) (r : Int) (ar p x y : V) (l : List (Int × Int)) (d e : PyData) (av : Addr) (v : V) (w : PyData), vs = [.ref a, x, y] ∧ NetAt K H a (.int r) ar p ∧ r ≤ 1000 ∧ Da K H av ar (arrsD l) ∧ arrIn r l ∧
  Da K H av x d ∧ Da K H av y e ∧ formIs r l d e v w ∧ ∀ H', Same H H' → Q v H'
theorem ints_inj {xs ys : List Int} (h : xs.map PyData.int = ys.map PyData.int) : xs = ys := by
  induction xs generalizing ys with
  | nil =>
    cases ys with
    | nil => rfl
    | cons a r => cases h
  | cons m r ih =>
    cases ys with
    | nil => cases h
    | cons m' r' =>
      rw [List.map_cons, List.map_cons] at h
      injection h with h1 h2
      injection h1 with h1
      rw [ih h2, h1]
theorem tupInts_inj {xs ys : List Int} (h : (PyData.tuple (xs.map .int)) = .tuple (ys.map .int)) : xs = ys := by
  injection h with h
  exact ints_inj h
theorem ring_ne {r b t : Int} (b0 : 0 ≤ b) (b1 : b < r) (t0 : 0 ≤ t) (t1 : t < r - 1) : 0 ≤ (b + 1 + t) % r ∧ (b + 1 + t) % r < r ∧ b ≠ (b + 1 + t) % r := by
  have h1 := Int.emod_nonneg (b + 1 + t) (show r ≠ 0 by omega)
  have h2 := Int.emod_lt_of_pos (b + 1 + t) (show 0 < r by omega)
  refine ⟨h1, h2, fun e => ?_⟩
  by_cases c : b + 1 + t < r
  · rw [Int.emod_eq_of_lt (by omega) c] at e
    omega
  · have z : (b + 1 + t) % r = (b + 1 + t - r) % r := by
      rw [Int.sub_emod_right]
    rw [z, Int.emod_eq_of_lt (by omega) (by omega)] at e
    omega
section
variable {P : Program} {w : World} {K : PySem.W.Frag} {mg : Str → Option Value} {base : Heap}
theorem ok__law_prime (T : Txt K mg) {fd : FuncData} (F : FnP K "_law_prime" s__law_prime fd)
    (H__law_one : Has P w K mg base CX0 3 "_law_one" P__law_one (sp__law_one K)) :
    Has P w K mg base CX0 4 "_law_prime" P__law_prime (sp__law_prime K) := by
  have G : FnOk P w K mg base CX0 4 (He.ga K "_law_prime") fd P__law_prime (sp__law_prime K) := by
    refine F.ok (k := 3) sc__law_prime (fun vs H Q E h => ?_) (fun cdv A outer s H vs Q E hr h => ?_)
    · obtain ⟨pen, c, n, rfl, hp, hn, q⟩ := h
      rfl
    · obtain ⟨pen, c, n, rfl, hp, hn, q⟩ := h
      refine ⟨_, (PSs.nox (pss_one (ps_ret (pe_has H__law_one (hr.mono (by decide)) pass0 (pa_cons (pv 0) (pa_cons (pe_lst (pa_cons pe_int (pa_cons pe_int (pa_cons pe_int (pa_cons pe_int (pa_cons pe_int (pa_cons pe_int (pa_cons pe_int (pa_cons pe_int pa_nil))))))))) pa_nil)))))), ?_⟩
      refine ⟨_, rfl, sz_le (by simp), fun l nl => ?_⟩
      have el := hp.new_ne nl
      have sl := same_upd (o := .lst [V.int 2, .int 3, .int 2, .int 5, .int 7, .int 11, .int 31, .int 97]) nl
      refine ⟨pen, c, l, _, n, rfl, hp.same sl, by omega, el.1, .inl (.inl upd_same), by decide, by decide, fun x hx H' o' P' => ?_⟩
      have hx2 : ∃ p, x = .int p ∧ primeN p = true := by
        simp only [List.mem_cons, List.not_mem_nil, or_false] at hx
        rcases hx with rfl | rfl | rfl | rfl | rfl | rfl | rfl | rfl <;> exact ⟨_, rfl, by decide +kernel⟩
      obtain ⟨p, rfl, hp⟩ := hx2
      exact q p H' hp ((Oth.of_same sl).trans o') P'
  exact has_of F G T.g__law_prime (fun _ _ _ _ _ _ us hl => match us, hl with | [_], _ => rfl)
theorem ok__law_arrows (T : Txt K mg) {fd : FuncData} (F : FnP K "_law_arrows" s__law_arrows fd)
    (H__law_take : Has P w K mg base CX0 2 "_law_take" P__law_take sp__law_take) :
    Has P w K mg base CX0 3 "_law_arrows" P__law_arrows (sp__law_arrows K) := by
  have G : FnOk P w K mg base CX0 3 (He.ga K "_law_arrows") fd P__law_arrows (sp__law_arrows K) := by
    refine F.ok (k := 2) sc__law_arrows (fun vs H Q E h => ?_) (fun cdv A outer s H vs Q E hr h => ?_)
    · obtain ⟨pen, c, r, n, rfl, hp, hn, hr1, hr8, q⟩ := h
      rfl
    · obtain ⟨pen, c, r, n, rfl, hp, hn, hr1, hr8, q⟩ := h
      refine ⟨_, (PSs.nox (pss_cons (ps_set (i := 2) sc__law_arrows.nd rfl (by first | exact Or.inl rfl | exact Or.inr rfl) (pe_lst pa_nil))
  (pss_cons (ps_for PassesOwn.never rfl (pi_range1 (by rfl) T.f_range (pa_cons (pe_op op_mul (pe_has H__law_take (hr.mono (by decide)) pass0 (pa_cons (pv 0) (pa_cons pe_int pa_nil))) (pe_callTy (T := "int") call_int1 (by rfl) T.f_int (by decide +kernel) (pa_cons (pe_cmpR op_gt (pv 1) pe_int (nomark _)) pa_nil))) pa_nil)) (pg_name (i := 3) sc__law_arrows.nd rfl (by first | exact Or.inl rfl | exact Or.inr rfl))
   (pss_cons (ps_set (i := 4) sc__law_arrows.nd rfl (by first | exact Or.inl rfl | exact Or.inr rfl) (pe_has H__law_take (hr.mono (by decide)) pass0 (pa_cons (pv 0) (pa_cons (pv 1) pa_nil))))
  (pss_one (ps_expr (pe_bm PySem.F.plainAttrs_list PySem.F.slot_list_append PySem.F.type_list_append mt_append (pv 2) (pa_cons (pe_tup (pa_cons (pv 4) (pa_cons (pe_op op_modP (pe_op op_add (pe_op op_add (pv 4) pe_int) (pe_has H__law_take (hr.mono (by decide)) pass0 (pa_cons (pv 0) (pa_cons (pe_op op_sub (pv 1) pe_int) pa_nil)))) (pv 1)) pa_nil))) pa_nil))))))
  (pss_one (ps_ret (pe_callTy (T := "tuple") call_tuple_of (by rfl) T.f_tuple (by decide +kernel) (pa_cons (pv 2) pa_nil))))))), ?_⟩
      refine ⟨Nat.zero_le _, fun L nL => ?_⟩
      have eL := hp.new_ne nL
      have sL := same_upd (o := .lst []) nL
      have P0 := hp.same sL
      refine ⟨_, rfl, pen, c, 13, n, rfl, P0, by omega, by decide, by decide, fun t G0 t0 t1 o0 P1 => ?_⟩
      have oH0 : Oth H G0 pen := (Oth.of_same sL).trans o0
      have hL0 : G0 L = some (.lst []) := o0 _ _ eL.1 upd_same
      refine ⟨_, rfl, r, 1, rfl, rfl, .inr ⟨_, rfl, t, _, rfl, rfl, .inl ⟨by omega, by omega⟩, ?_⟩⟩
      obtain ⟨M, hM, hM12, hM1⟩ : ∃ M : Nat, t * (if decide ((r : Int) > 1) = true then 1 else 0) = M ∧ M ≤ 12 ∧ (0 < M → 1 < r) := by
        by_cases c1 : (r : Int) > 1
        · rw [decide_eq_true c1, if_pos rfl]
          exact ⟨t.toNat, by omega, by omega, fun _ => by omega⟩
        · rw [decide_eq_false c1, if_neg (by decide)]
          exact ⟨0, by omega, by omega, fun h => absurd h (by omega)⟩
      refine ⟨M, congrArg (fun z => [V.int z]) hM, by omega, by omega, ?_⟩
      refine for_range (lo := 0) (n := ((M : Nat) : Int).toNat) (fun i σ F => ∃ k b, σ = [some (.ref pen), some (.int r), some (.ref L), k, b] ∧ Oth H F pen ∧ PenC F pen c (n + 1 + 2 * i) ∧
          ∃ (vs : List V) (l : List (Int × Int)), F L = some (.lst vs) ∧ DaAll K F pen vs (l.map arrD) ∧ l.length = i ∧ ∀ a ∈ l, 0 ≤ a.1 ∧ a.1 < r ∧ 0 ≤ a.2 ∧ a.2 < r ∧ a.1 ≠ a.2)
        ⟨none, none, rfl, oH0, P1.mono (by omega), [], [], hL0, .nil, rfl, fun a ha => by cases ha⟩ ?_ ?_
      · rintro i σ F hi ⟨k, b, rfl, oF, PF, vs, l, hL, hA, hlen, hgood⟩
        have h1r : 1 < r := hM1 (by omega)
        refine ⟨_, rfl, _, rfl, pen, c, r, _, rfl, PF, by omega, by omega, by omega, fun b G1 b0 b1 o1 P1 => ?_⟩
        refine ⟨_, rfl, .inl ⟨rfl, _, .inl (.inl (o1 _ _ eL.1 hL))⟩, _, rfl, _, rfl, b, 1, rfl, rfl, _, rfl, _, rfl, r, 1, rfl, rfl, ?_⟩
        refine ⟨pen, c, (r : Int) - 1, _, rfl, P1, by omega, by omega, by omega, fun t2 G2 t20 t21 o2 P2 => ?_⟩
        obtain ⟨e0, e1, ne⟩ := ring_ne b0 b1 t20 t21
        refine ⟨b + 1, t2, rfl, rfl, _, rfl, b + 1 + t2, r, rfl, rfl, by omega, sz_le (by simp), fun T nT => ?_⟩
        have hL2 := o2 _ _ eL.1 (o1 _ _ eL.1 hL)
        have sT := same_upd (o := .tup [V.int b, .int ((b + 1 + t2) % r)]) nT
        have lenV := hA.length
        rw [List.length_map] at lenV
        refine ⟨L, vs, .ref T, rfl, rfl, sT _ _ hL2, lt10 (by omega), ?_⟩
        have o12 := (o1.trans o2).trans (Oth.of_same sT)
        refine ⟨_, _, rfl, Oth.put nL (oF.trans o12), ((P2.same sT).upd eL.1 eL.2).mono (by omega), vs ++ [.ref T], l ++ [(b, (b + 1 + t2) % r)], upd_same, ?_, ?_, ?_⟩
        · rw [List.map_append]
          refine DaAll.put (S := L) (ps := vs) ((hA.othP PF o12).append (.cons (Da.newT (.cons (.int _) (.cons (.int _) .nil)) nT) .nil)) ?_ (sT _ _ hL2)
          have z := noLs_arr (l ++ [(b, (b + 1 + t2) % r)])
          rw [List.map_append] at z
          exact z
        · rw [List.length_append, hlen]
          rfl
        · intro a ha
          rcases List.mem_append.mp ha with ha | ha
          · exact hgood a ha
          · rw [List.mem_singleton] at ha
            rw [ha]
            exact ⟨b0, b1, e0, e1, ne⟩
      · rintro σ F ⟨k, b, rfl, oF, PF, vs, l, hL, hA, hlen, hgood⟩
        rw [Int.toNat_natCast] at PF hlen
        refine ⟨_, rfl, L, vs, rfl, .inl ⟨.inl (.inl hL), fun t nt => ?_⟩⟩
        have s1 := same_upd (o := .tup vs) nt
        exact q _ l _ ⟨by omega, hgood⟩ (Da.newT hA nt) (oF.trans (Oth.of_same s1)) ((PF.same s1).mono (by omega))
  exact has_of F G T.g__law_arrows (fun _ _ _ _ _ _ us hl => match us, hl with | [_, _], _ => rfl)
theorem ok__law_heap (T : Txt K mg) {fd : FuncData} (F : FnP K "_law_heap" s__law_heap fd)
    (H__law_take : Has P w K mg base CX0 2 "_law_take" P__law_take sp__law_take) :
    Has P w K mg base CX0 3 "_law_heap" P__law_heap (sp__law_heap K) := by
  have G : FnOk P w K mg base CX0 3 (He.ga K "_law_heap") fd P__law_heap (sp__law_heap K) := by
    refine F.ok (k := 2) sc__law_heap (fun vs H Q E h => ?_) (fun cdv A outer s H vs Q E hr h => ?_)
    · obtain ⟨pen, c, r, n, rfl, hp, hn, hr1, hr8, q⟩ := h
      rfl
    · obtain ⟨pen, c, r, n, rfl, hp, hn, hr1, hr8, q⟩ := h
      refine ⟨_, (PSs.nox (pss_cons (ps_set (i := 2) sc__law_heap.nd rfl (by first | exact Or.inl rfl | exact Or.inr rfl) (pe_has H__law_take (hr.mono (by decide)) pass0 (pa_cons (pv 0) (pa_cons pe_int pa_nil))))
  (pss_cons (ps_setLc (i := 3) (own := [("room", 5)]) rfl sc__law_heap.nd rfl rfl (sw_true rfl rfl rfl (by decide +kernel)) (pi_range1 (by rfl) T.f_range (pa_cons (pv 1) pa_nil)) (blkOk_by (N := N__law_heap) (sc := defScope s__law_heap) (by decide +kernel)) (fun _ _ _ _ _ => pg_name (i := 5) (sc__law_heap.nd) rfl (by first | exact Or.inl rfl | exact Or.inr rfl)) (fun _ _ _ _ _ => pts_nil) (fun _ _ _ _ _ => (pe_has H__law_take (hr.mono (by decide)) pass0 (pa_cons (pv 0) (pa_cons pe_int pa_nil)))))
  (C8.pss_cut (ps_if (pt_cmpR op_lt (pv 2) pe_int (nomark _))
   (pss_one (ps_asg (pe_ix ix_list (pe_lst (pa_cons pe_int (pa_cons pe_int (pa_cons pe_int pa_nil)))) (pv 2) (fun _ _ => rfl)) (pg_sub (pv 3) (pe_has H__law_take (hr.mono (by decide)) pass0 (pa_cons (pv 0) (pa_cons (pv 1) pa_nil))) set_list))) pss_nil)
  (C8.pss_cut (ps_if (pt_cmpR op_eq (pe_has H__law_take (hr.mono (by decide)) pass0 (pa_cons (pv 0) (pa_cons pe_int pa_nil))) pe_int (nomark _))
   (pss_cons (ps_set (i := 4) sc__law_heap.nd rfl (by first | exact Or.inl rfl | exact Or.inr rfl) (pe_has H__law_take (hr.mono (by decide)) pass0 (pa_cons (pv 0) (pa_cons (pv 1) pa_nil))))
  (pss_one (ps_asg (pe_op op_sub (pe_op op_add (pe_ix ix_list (pv 3) (pv 4) (fun _ _ => rfl)) (pe_ix ix_list (pe_lst (pa_cons pe_int (pa_cons pe_int (pa_cons pe_int pa_nil)))) (pe_op op_modP (pv 2) pe_int) (fun _ _ => rfl))) (pe_callB (id := "sum") (cr_sum rfl) (by rfl) T.f_sum (by decide +kernel) (pa_cons (pv 3) pa_nil))) (pg_sub (pv 3) (pv 4) set_list)))) pss_nil)
  (pss_one (ps_ret (pe_callTy (T := "tuple") call_tuple_of (by rfl) T.f_tuple (by decide +kernel) (pa_cons (pv 3) pa_nil))))))))), ?_⟩
      refine ⟨_, rfl, pen, c, 4, n, rfl, hp, by omega, by decide, by decide, fun way F0 w0 w1 o0 P0 => ?_⟩
      refine ⟨_, rfl, r, rfl, by omega, by omega, fun D nD => ?_⟩
      have eD := P0.new_ne nD
      have nDH : H D = none := by
        cases e : H D with
        | none => rfl
        | some u =>
          rw [o0 _ _ eD.1 e] at nD
          cases nD
      refine lc_range (lo := 0) (n := ((r : Nat) : Int).toNat) (fun j F => Oth F0 F pen ∧ PenC F pen c (n + 1 + j) ∧ ∃ xs : List Int, F D = some (.lst (xs.map V.int)) ∧ xs.length = j)
        ⟨Oth.of_same (same_upd nD), (P0.same (same_upd nD)).mono (by omega), [], upd_same, rfl⟩ ?_ ?_
      · rintro j F hj ⟨oF, PF, xs, hF, hxl⟩
        refine ⟨rfl, ?_⟩
        refine ⟨_, rfl, pen, c, 4, _, rfl, PF, by omega, by decide, by decide, fun z F2 z0 z1 o2 P2 => ?_⟩
        refine ⟨_, o2 _ _ eD.1 hF, lt10 (by rw [List.length_map]; omega), Oth.put nD (oF.trans o2), (P2.upd eD.1 eD.2).mono (by omega), xs ++ [z], ?_, ?_⟩
        · rw [upd_same, List.map_append]
          rfl
        · rw [List.length_append, hxl]
          rfl
      rintro F1 ⟨oF1, P1, xs1, hF1, hxl1⟩
      rw [Int.toNat_natCast] at P1 hxl1
      have oH1 := o0.trans oF1
      refine ⟨fun σ F => ∃ (at_ : Option V) (xs : List Int), σ = [some (.ref pen), some (.int r), some (.int way), some (.ref D), at_, none] ∧ Oth H F pen ∧ PenC F pen c (n + 1 + r + 1) ∧ F D = some (.lst (xs.map V.int)) ∧ xs.length = r, ?_, ?_⟩
      · refine ⟨_, rfl, way, 3, rfl, rfl, _, rfl, ?_⟩
        refine ite2 (fun c1 => ?_) (fun c1 => ?_)
        · have c1' : way < 3 := of_decide_eq_true c1
          refine ⟨sz_le (by simp), fun l nl => ?_⟩
          have sl := same_upd (o := .lst [V.int 11, .int 12, .int 13]) nl
          obtain ⟨z, hz, _⟩ := atI_int (ns := [11, 12, 13]) w0 (by show way < 3; exact c1')
          refine ⟨_, rfl, l, _, way, .int z, rfl, rfl, .inl (.inl upd_same), hz, ?_⟩
          refine ⟨_, rfl, _, rfl, _, rfl, pen, c, r, _, rfl, P1.same sl, by omega, by omega, by omega, fun at_ F2 a0 a1 o2 P2 => ?_⟩
          have hD2 := o2 _ _ eD.1 (sl _ _ hF1)
          have hix : ixN (xs1.map V.int).length at_ = some at_.toNat := ixN_in a0 (by rw [List.length_map]; omega)
          refine ⟨D, xs1.map V.int, at_, _, rfl, rfl, hD2, hix, ?_⟩
          refine ⟨_, xs1.set at_.toNat z, rfl, Oth.put nDH ((oH1.trans (Oth.of_same sl)).trans o2), (P2.upd eD.1 eD.2).mono (by omega), ?_, by rw [List.length_set]; exact hxl1⟩
          rw [upd_same, List.map_set]
        · exact ⟨_, xs1, rfl, oH1, P1.mono (by omega), hF1, hxl1⟩
      · rintro σ F ⟨at_, xs, rfl, oF, PF, hF, hxl⟩
        refine ⟨fun σ F => ∃ (at_ : Option V) (xs : List Int), σ = [some (.ref pen), some (.int r), some (.int way), some (.ref D), at_, none] ∧ Oth H F pen ∧ PenC F pen c (n + 1 + r + 3) ∧ F D = some (.lst (xs.map V.int)) ∧ xs.length = r, ?_, ?_⟩
        · refine ⟨_, rfl, pen, c, 3, _, rfl, PF, by omega, by decide, by decide, fun k F2 k0 k1 o2 P2 => ?_⟩
          refine ⟨rfl, _, rfl, ?_⟩
          have hF2 := o2 _ _ eD.1 hF
          refine ite2 (fun c1 => ?_) (fun c1 => ?_)
          · refine ⟨_, rfl, _, rfl, pen, c, r, _, rfl, P2, by omega, by omega, by omega, fun a F3 a0 a1 o3 P3 => ?_⟩
            have hF3 := o3 _ _ eD.1 hF2
            obtain ⟨z, hz, _⟩ := atI_int (ns := xs) a0 (by omega)
            refine ⟨_, rfl, _, rfl, D, _, a, .int z, rfl, rfl, .inl (.inl hF3), hz, sz_le (by simp), fun l nl => ?_⟩
            have sl := same_upd (o := .lst [V.int 30, .int 31, .int 29]) nl
            obtain ⟨y, hy, _⟩ := atI_int (ns := [30, 31, 29]) (i := way % 3) (by omega) (by show way % 3 < 3; omega)
            refine ⟨_, rfl, way, 3, rfl, rfl, by decide, l, _, way % 3, .int y, rfl, rfl, .inl (.inl upd_same), hy, z, y, rfl, rfl, _, rfl, D, xs, rfl, .inl (.inl (sl _ _ hF3)), _, _, rfl, rfl, ?_⟩
            have hix : ixN (xs.map V.int).length a = some a.toNat := ixN_in a0 (by rw [List.length_map]; omega)
            refine ⟨_, rfl, _, rfl, D, xs.map V.int, a, _, rfl, rfl, sl _ _ hF3, hix, ?_⟩
            refine ⟨_, xs.set a.toNat (z + y - xs.sum), rfl, Oth.put nDH (((oF.trans o2).trans o3).trans (Oth.of_same sl)), ((P3.same sl).upd eD.1 eD.2).mono (by omega), ?_, by rw [List.length_set]; exact hxl⟩
            rw [upd_same, List.map_set]
          · exact ⟨_, xs, rfl, oF.trans o2, P2.mono (by omega), hF2, hxl⟩
        · rintro σ F ⟨at_, xs, rfl, oF, PF, hF, hxl⟩
          refine ⟨_, rfl, D, _, rfl, .inl ⟨.inl (.inl hF), fun t nt => ?_⟩⟩
          have s1 := same_upd (o := .tup (xs.map V.int)) nt
          exact q _ xs _ hxl (Da.newT (DaAll.ints _) nt) (oF.trans (Oth.of_same s1)) ((PF.same s1).mono (by omega))
  exact has_of F G T.g__law_heap (fun _ _ _ _ _ _ us hl => match us, hl with | [_, _], _ => rfl)
end
end K13

set_option Elab.async false
set_option linter.all false
set_option maxRecDepth 100000
set_option maxHeartbeats 8000000
namespace K13
open PySem PySem.Spec PyProof.Rows L2 XA

theorem wholes_of : ∀ {ds : List PyData}, ds.all whole = true → ∃ ns : List Int, ds = ns.map .int
  | [], _ => ⟨[], rfl⟩
  | d :: r, h => by
    rw [List.all_cons, Bool.and_eq_true] at h
    obtain ⟨ns, rfl⟩ := wholes_of h.2
    have h1 := h.1
    cases d with
    | int i => exact ⟨i :: ns, rfl⟩
    | _ => cases h1
section
variable {P : Program} {w : World} {K : PySem.W.Frag} {mg : Str → Option Value} {base : Heap}
theorem ok__law_whole (T : Txt K mg) {fd : FuncData} (F : FnP K "_law_whole" s__law_whole fd) :
    Has P w K mg base CX0 1 "_law_whole" P__law_whole (sp__law_whole K) := by
  have G : FnOk P w K mg base CX0 1 (He.ga K "_law_whole") fd P__law_whole (sp__law_whole K) := by
    refine F.ok (k := 0) sc__law_whole (fun vs H Q E h => ?_) (fun cdv A outer s H vs Q E hr h => ?_)
    · obtain ⟨x, d, av, rfl, hx, q⟩ := h
      rfl
    · obtain ⟨x, d, av, rfl, hx, q⟩ := h
      refine ⟨_, (PSs.nox (pss_one (ps_ret (pe_and (pe_callB (id := "isinstance") call_isZ (by rfl) T.f_isinstance (by decide +kernel) (pa_cons (pv 0) (pa_cons (pe_bltn (v := .ty "int") (by rfl) T.f_int (by decide +kernel) rfl) pa_nil))) (pe_one (pe_not (pe_callB (id := "isinstance") call_isZ (by rfl) T.f_isinstance (by decide +kernel) (pa_cons (pv 0) (pa_cons (pe_bltn (v := .ty "bool") (by rfl) T.f_bool (by decide +kernel) rfl) pa_nil))))))))), ?_⟩
      refine ⟨x, rfl, ?_⟩
      walk_at "rd"
      refine isz_d hx (Or.inl rfl) ⟨_, rfl, ?_⟩
      refine ite2 (fun c => ?_) (fun c => ?_)
      · refine ⟨x, rfl, ?_⟩
        walk_at "rd"
        refine isz_d hx (Or.inr (Or.inl rfl)) ⟨_, rfl, ?_⟩
        have e : (!isD d "bool") = whole d := by
          cases d <;> first | rfl | (simp [isD, tyD, whole, primeD, wholeTo] at c)
        show Q (.bl (!isD d "bool")) H
        rw [e]
        exact q
      · have e : whole d = false := by
          cases d <;> first | rfl | (simp [isD, tyD, whole, primeD, wholeTo] at c)
        rw [e] at q
        exact q
  exact has_of F G T.g__law_whole (fun _ _ _ _ _ _ us hl => match us, hl with | [_], _ => rfl)
theorem ok__law_right (T : Txt K mg) {fd : FuncData} (F : FnP K "_law_right" s__law_right fd)
    (H__law_whole : Has P w K mg base CX0 1 "_law_whole" P__law_whole (sp__law_whole K)) :
    Has P w K mg base CX0 2 "_law_right" P__law_right (sp__law_right K) := by
  have G : FnOk P w K mg base CX0 2 (He.ga K "_law_right") fd P__law_right (sp__law_right K) := by
    refine F.ok (k := 1) sc__law_right (fun vs H Q E h => ?_) (fun cdv A outer s H vs Q E hr h => ?_)
    · obtain ⟨r, x, d, av, rfl, hr1, hx, q⟩ := h
      rfl
    · obtain ⟨r, x, d, av, rfl, hr1, hx, q⟩ := h
      refine ⟨_, (PSs.nox (pss_cons (ps_if (PW.pt (pw_or (pt_not (pt_val (pe_callB (id := "isinstance") call_isZ (by rfl) T.f_isinstance (by decide +kernel) (pa_cons (pv 1) (pa_cons (pe_bltn (v := .ty "tuple") (by rfl) T.f_tuple (by decide +kernel) rfl) pa_nil))))) (pw_or (pt_cmpR op_ne (pe_callB (id := "len") call_len (by rfl) T.f_len (by decide +kernel) (pa_cons (pv 1) pa_nil)) (pv 0) (nomark _)) (pw_or1 (pt_cmpR op_in_seq pe_bl (pe_lc (own := [("number", 2)]) rfl sc__law_right.nd (pi_tup (pv 1)) (blkOk_by (N := N__law_right) (sc := defScope s__law_right) (by decide +kernel)) (fun _ _ _ _ _ => pg_name (i := 2) (sc__law_right.nd) rfl (by first | exact Or.inl rfl | exact Or.inr rfl)) (fun _ _ _ _ _ => pts_nil) (fun _ _ _ _ _ => (pe_has H__law_whole (hr.mono (by decide)) pass0 (pa_cons (pv 2) pa_nil)))) (by rfl))))))
   (pss_one (ps_ret pe_bl)) pss_nil)
  (pss_one (ps_ret (pe_and (pe_cmpR op_notIn_seq pe_bl (pe_lc (own := [("number", 2)]) rfl sc__law_right.nd (pi_tup (pv 1)) (blkOk_by (N := N__law_right) (sc := defScope s__law_right) (by decide +kernel)) (fun _ _ _ _ _ => pg_name (i := 2) (sc__law_right.nd) rfl (by first | exact Or.inl rfl | exact Or.inr rfl)) (fun _ _ _ _ _ => pts_nil) (fun _ _ _ _ _ => (pe_chain op_le op_le pe_int (pv 2) pe_int))) (by rfl)) (pe_one (pe_cmpR op_le (pe_callB (id := "sum") (cr_sumT rfl) (by rfl) T.f_sum (by decide +kernel) (pa_cons (pv 1) pa_nil)) pe_int (nomark _)))))))), ?_⟩
      have hP : ∀ b : Bool, heapD r d = b → ∀ H', Same H H' → Q (.bl b) H' := by
        intro b e H' s
        rw [← e]
        exact q H' s
      refine ⟨x, rfl, ?_⟩
      walk_at "rd"
      refine isz_d hx (Or.inr (Or.inr (Or.inl rfl))) ⟨_, rfl, ?_⟩
      cases ht : isD d "tuple" with
      | false =>
        refine iteT ?_
        refine iteT ?_
        exact hP false (heapD_no ht) H (Same.refl H)
      | true =>
        obtain ⟨ds, rfl⟩ := tup_of ht
        refine iteF ?_
        obtain ⟨b, xs, rfl, hS, hA⟩ := hx.isTup
        have hl := hA.length
        refine ⟨_, rfl, .ref b, xs.length, rfl, .inr ⟨_, hS, rfl⟩, _, rfl, rfl, _, rfl, ?_⟩
        by_cases e : ((xs.length : Nat) : Int) = r
        · rw [decide_eq_true (show V.int ((xs.length : Nat) : Int) = V.int r by rw [e])]
          refine iteF ?_
          refine ⟨_, rfl, b, rfl, ⟨_, hS⟩, fun D nD => ?_⟩
          refine lc_tup (K := K) (a := b) (xs := xs) (fun i G => Same H G ∧ G D = some (.lst (((ds.take i).map whole).map V.bl))) ⟨same_upd nD, upd_same⟩ (fun i G _ z => Same.seqT z.1 hS) ?_ ?_
          · rintro i v G hi ⟨sG, hG⟩
            obtain ⟨z, hz, hv⟩ := hA.get hi
            have hlt := (List.getElem?_eq_some_iff.mp hi).1
            refine ⟨rfl, ?_⟩
            refine ⟨v, rfl, v, z, av, rfl, hv.same sG, ?_⟩
            refine ⟨_, hG, lt10 (by rw [List.length_map, List.length_map, List.length_take]; omega), acc_same nD sG (Same.refl G), ?_⟩
            rw [upd_same, List.take_add_one, hz, List.map_append, List.map_append]
            rfl
          · rintro G ⟨sG, hG⟩
            rw [hl, List.take_length] at hG
            refine ⟨D, _, rfl, .inl (.inl (.inl hG)), rfl, flat_bls _, _, rfl, ?_⟩
            show (if (if (false : Bool) = true then _ else inV (.bl false) ((ds.map whole).map V.bl)) = true then _ else _)
            rw [if_neg Bool.false_ne_true, inV_false, List.all_map]
            cases ew : ds.all whole with
            | false =>
              refine iteT' (by show (!(ds.all (id ∘ whole))) = true; rw [show (id ∘ whole) = whole from rfl, ew]; rfl) ?_
              refine hP false ?_ _ sG
              show (_ && (ds.all (fun d => wholeTo d 12) && _)) = false
              have : ds.all (fun d => wholeTo d 12) = false := by
                rw [List.all_eq_false] at ew ⊢
                obtain ⟨x, hx, hw⟩ := ew
                refine ⟨x, hx, fun z => hw ?_⟩
                obtain ⟨i, rfl, _⟩ := wholeTo_int z
                rfl
              rw [this, Bool.false_and, Bool.and_false]
            | true =>
              refine iteF' (by show (!(ds.all (id ∘ whole))) = false; rw [show (id ∘ whole) = whole from rfl, ew]; rfl) ?_
              obtain ⟨ns, rfl⟩ := wholes_of ew
              have hxs := hA.isInts
              subst hxs
              have hSG := Same.seqT sG hS
              rw [List.length_map] at e
              refine ⟨_, rfl, b, rfl, ⟨_, hSG⟩, fun D2 nD2 => ?_⟩
              refine lc_tup (K := K) (a := b) (xs := ns.map V.int) (fun i F => Same G F ∧ F D2 = some (.lst (((ns.take i).map fun z => decide (0 ≤ z ∧ z ≤ 12)).map V.bl))) ⟨same_upd nD2, upd_same⟩ (fun i F _ z => Same.seqT z.1 hSG) ?_ ?_
              · rintro i v F hi ⟨sF, hF⟩
                obtain ⟨m, hm, rfl⟩ := mapInt hi
                have hlt := (List.getElem?_eq_some_iff.mp hm).1
                refine ⟨rfl, ?_⟩
                refine ⟨_, rfl, 0, m, rfl, rfl, _, rfl, ?_⟩
                have acc : ∀ k : Bool, decide (0 ≤ m ∧ m ≤ 12) = k → ∃ acc, F D2 = some (.lst acc) ∧ acc.length < sizeLine ∧ Same G (upd F D2 (.lst (acc ++ [.bl k]))) ∧
                    (upd F D2 (.lst (acc ++ [.bl k]))) D2 = some (.lst (((ns.take (i + 1)).map fun z => decide (0 ≤ z ∧ z ≤ 12)).map V.bl)) := by
                  rintro k rfl
                  refine ⟨_, hF, lt10 (by rw [List.length_map, List.length_map, List.length_take]; omega), acc_same nD2 sF (Same.refl F), ?_⟩
                  rw [upd_same, List.take_add_one, hm, List.map_append, List.map_append]
                  rfl
                refine ite2 (fun c1 => ?_) (fun c1 => ?_)
                · have c1' : 0 ≤ m := of_decide_eq_true c1
                  refine ⟨m, 12, rfl, rfl, ?_⟩
                  refine acc _ ?_
                  rw [decide_eq_decide]
                  exact ⟨fun z => z.2, fun z => ⟨c1', z⟩⟩
                · exact acc _ (decide_eq_false fun z => c1 (decide_eq_true z.1))
              · rintro F ⟨sF, hF⟩
                rw [List.length_map, List.take_length] at hF
                refine ⟨D2, _, rfl, .inl (.inl (.inl hF)), rfl, flat_bls _, _, rfl, ?_⟩
                show (if (if (true : Bool) = true then !(inV (.bl false) ((ns.map fun z => decide (0 ≤ z ∧ z ≤ 12)).map V.bl)) else _) = true then _ else _)
                rw [if_pos rfl, inV_false, Bool.not_not, List.all_map]
                have sGF := sG.trans sF
                cases ea : ns.all (fun z => decide (0 ≤ z ∧ z ≤ 12)) with
                | false =>
                  refine iteF' ea ?_
                  refine hP false ?_ _ sGF
                  rw [heapD_ints, ea, Bool.false_and, Bool.and_false]
                | true =>
                  refine iteT' ea ?_
                  refine ⟨_, rfl, b, ns, rfl, Same.seqT sF hSG, ns.sum, 30, rfl, rfl, ?_⟩
                  refine hP _ ?_ _ sGF
                  rw [heapD_ints, ea, decide_eq_true e, Bool.true_and, Bool.true_and]
        · rw [decide_eq_false (show ¬ V.int ((xs.length : Nat) : Int) = V.int r from fun z => e (by injection z))]
          refine iteT ?_
          refine hP false ?_ H (Same.refl H)
          show (decide ((ds.length : Int) = r) && _) = false
          rw [decide_eq_false (by omega), Bool.false_and]
  exact has_of F G T.g__law_right (fun _ _ _ _ _ _ us hl => match us, hl with | [_, _], _ => rfl)
theorem ok__law_form (T : Txt K mg) {fd : FuncData} (F : FnP K "_law_form" s__law_form fd) :
    Has P w K mg base CX0 1 "_law_form" P__law_form (sp__law_form K) := by
  have G : FnOk P w K mg base CX0 1 (He.ga K "_law_form") fd P__law_form (sp__law_form K) := by
    refine F.ok (k := 0) sc__law_form (fun vs H Q E h => ?_) (fun cdv A outer s H vs Q E hr h => ?_)
    · obtain ⟨r, l, ar, x, y, xs, ys, av, rfl, hr1, har, hl, hx, hy, hhx, hhy, q⟩ := h
      rfl
    · obtain ⟨r, l, ar, x, y, xs, ys, av, rfl, hr1, har, hl, hx, hy, hhx, hhy, q⟩ := h
      refine ⟨_, (PSs.nox (pss_cons (ps_set (i := 3) sc__law_form.nd rfl (by first | exact Or.inl rfl | exact Or.inr rfl) (pe_callB (id := "sum") (cr_sum rfl) (by rfl) T.f_sum (by decide +kernel) (pa_cons (pe_lc (own := [("a", 4), ("b", 5)]) rfl sc__law_form.nd (RZ.pi_zipA (by rfl) T.f_zip (pa_cons (pv 1) (pa_cons (pv 2) pa_nil))) (blkOk_by (N := N__law_form) (sc := defScope s__law_form) (by decide +kernel)) (fun _ _ _ _ _ => (pg_tupK K (n := 2) (hc := rfl) (hp := (pgs_cons (pg_name (i := 4) sc__law_form.nd rfl (by first | exact Or.inl rfl | exact Or.inr rfl)) (pgs_cons (pg_name (i := 5) sc__law_form.nd rfl (by first | exact Or.inl rfl | exact Or.inr rfl)) pgs_nil))))) (fun _ _ _ _ _ => pts_nil) (fun _ _ _ _ _ => (pe_op op_mul (pv 4) (pv 5)))) pa_nil)))
  (pss_one (ps_ret (pe_op op_sub (pv 3) (pe_callB (id := "sum") (cr_sum rfl) (by rfl) T.f_sum (by decide +kernel) (pa_cons (pe_lc (own := [("begin", 6), ("end", 7)]) rfl sc__law_form.nd (pi_tup (pv 0)) (blkOk_by (N := N__law_form) (sc := defScope s__law_form) (by decide +kernel)) (fun _ _ _ _ _ => (pg_tupK K (n := 2) (hc := rfl) (hp := (pgs_cons (pg_name (i := 6) sc__law_form.nd rfl (by first | exact Or.inl rfl | exact Or.inr rfl)) (pgs_cons (pg_name (i := 7) sc__law_form.nd rfl (by first | exact Or.inl rfl | exact Or.inr rfl)) pgs_nil))))) (fun _ _ _ _ _ => pts_nil) (fun _ _ _ _ _ => (pe_op op_mul (pe_ix (ix_tupK K) (pv 1) (pv 6) (fun _ _ => rfl)) (pe_ix (ix_tupK K) (pv 2) (pv 7) (fun _ _ => rfl))))) pa_nil))))))), ?_⟩
      obtain ⟨xs', e1', hxl, hxb, _⟩ := heapD_of hhx
      obtain ⟨ys', e2', hyl, hyb, _⟩ := heapD_of hhy
      obtain rfl := tupInts_inj e1'
      obtain rfl := tupInts_inj e2'
      obtain ⟨b1, us, rfl, hS1, hA1⟩ := hx.isTup
      obtain ⟨b2, ws, rfl, hS2, hA2⟩ := hy.isTup
      have e1 := hA1.isInts
      have e2 := hA2.isInts
      subst e1 e2
      have hxy : xs.length = ys.length := by omega
      generalize hz : List.zipWith (· * ·) xs ys = zs
      have hzl : zs.length = xs.length := by rw [← hz, List.length_zipWith, hxy, Nat.min_self]
      refine ⟨_, rfl, _, rfl, b1, b2, _, _, rfl, .inr ⟨hS1, hS2, fun D nD => ?_⟩⟩
      refine lc_zipT (K := K) (a := b1) (b := b2) (xs := xs.map V.int) (ys := ys.map V.int) (by rw [List.length_map, List.length_map, hxy]) (fun i G => Same H G ∧ G D = some (.lst ((zs.take i).map V.int))) ⟨same_upd nD, upd_same⟩
        (fun i G _ z => ⟨Same.seqT z.1 hS1, Same.seqT z.1 hS2⟩) ?_ ?_
      · rintro i u v t G hu hv ⟨sG, hG⟩ nt
        obtain ⟨m, hm, rfl⟩ := mapInt hu
        obtain ⟨n, hn, rfl⟩ := mapInt hv
        have st := same_upd (o := .tup [V.int m, V.int n]) nt
        refine ⟨t, _, rfl, .inl (.inl upd_same), rfl, _, _, rfl, _, _, rfl, rfl, rfl, ?_⟩
        have mb := hxb m (List.mem_of_getElem? hm)
        have nb := hyb n (List.mem_of_getElem? hn)
        refine ⟨_, rfl, _, rfl, m, n, rfl, rfl, .inl ⟨by omega, by omega⟩, ?_⟩
        have hzi : zs[i]? = some (m * n) := by
          rw [← hz, List.getElem?_zipWith, hm, hn]
        have hlt := (List.getElem?_eq_some_iff.mp hm).1
        refine ⟨_, st _ _ hG, lt10 (by rw [List.length_map, List.length_take]; omega), acc_same nD sG st, ?_⟩
        rw [upd_same, List.take_add_one, hzi, List.map_append]
        rfl
      rintro G ⟨sG, hG⟩
      rw [List.length_map, ← hzl, List.take_length] at hG
      refine ⟨D, zs, rfl, .inl (.inl hG), ?_⟩
      have harG := har.same sG
      obtain ⟨b3, as, rfl, hS3, hA3⟩ := harG.isTup
      refine ⟨_, rfl, _, rfl, b3, rfl, ⟨_, hS3⟩, fun D2 nD2 => ?_⟩
      have hal := hA3.length
      rw [List.length_map] at hal
      refine lc_tup (K := K) (a := b3) (xs := as) (fun i F => Same G F ∧ F D2 = some (.lst (((l.take i).map fun a => xs.getD a.1.toNat 0 * ys.getD a.2.toNat 0).map V.int))) ⟨same_upd nD2, upd_same⟩ (fun i F _ z => Same.seqT z.1 hS3) ?_ ?_
      · rintro i v F hi ⟨sF, hF⟩
        obtain ⟨dz, hdz, hv⟩ := hA3.get hi
        rw [List.getElem?_map] at hdz
        cases el : l[i]? with
        | none =>
          rw [el] at hdz
          cases hdz
        | some pr =>
          rw [el] at hdz
          obtain rfl : arrD pr = dz := Option.some.inj hdz
          obtain ⟨b4, vs4, rfl, hS4, hA4⟩ := (hv.same sF).isTup
          cases hA4 with
          | cons g1 hA4 =>
          cases hA4 with
          | cons g2 hA4 =>
          cases hA4
          cases g1
          cases g2
          obtain ⟨p0, p1, q0, q1, _⟩ := hl.2 pr (List.mem_of_getElem? el)
          refine ⟨b4, _, rfl, hS4, rfl, _, _, rfl, _, _, rfl, rfl, rfl, ?_⟩
          have sGF := sG.trans sF
          obtain ⟨m, hm, hm2⟩ := atI_int (ns := xs) p0 (by omega)
          obtain ⟨n, hn, hn2⟩ := atI_int (ns := ys) q0 (by omega)
          have mb := hxb m (List.mem_of_getElem? hm2)
          have nb := hyb n (List.mem_of_getElem? hn2)
          refine ⟨_, rfl, _, rfl, b1, _, pr.1, .int m, rfl, rfl, Same.seqT sGF hS1, hm, _, rfl, _, rfl, b2, _, pr.2, .int n, rfl, rfl, Same.seqT sGF hS2, hn, m, n, rfl, rfl, .inl ⟨by omega, by omega⟩, ?_⟩
          have e : xs.getD pr.1.toNat 0 * ys.getD pr.2.toNat 0 = m * n := by
            rw [List.getD_eq_getElem?_getD, List.getD_eq_getElem?_getD, hm2, hn2]
            rfl
          have hlt := (List.getElem?_eq_some_iff.mp el).1
          have h12 := hl.1
          refine ⟨_, hF, lt10 (by rw [List.length_map, List.length_map, List.length_take]; omega), acc_same nD2 sF (Same.refl F), ?_⟩
          rw [upd_same, List.take_add_one, el, List.map_append, List.map_append]
          show some (HO.lst (_ ++ [V.int (m * n)])) = some (HO.lst (_ ++ [V.int (xs.getD pr.1.toNat 0 * ys.getD pr.2.toNat 0)]))
          rw [e]
      rintro F ⟨sF, hF⟩
      rw [hal, List.take_length] at hF
      refine ⟨D2, _, rfl, .inl (.inl hF), _, _, rfl, rfl, ?_⟩
      have z := q F (sG.trans sF)
      unfold formI at z
      rw [hz] at z
      exact z
  exact has_of F G T.g__law_form (fun _ _ _ _ _ _ us hl => match us, hl with | [_, _, _], _ => rfl)
theorem ok__law_told (T : Txt K mg) {fd : FuncData} (F : FnP K "_law_told" s__law_told fd)
    (H_form : Has P w K mg base (L2.CX P w) 5 "form" P_form (sp_form K)) :
    Has P w K mg base CX0 6 "_law_told" P__law_told (sp__law_told K) := by
  have G : FnOk P w K mg base CX0 6 (He.ga K "_law_told") fd P__law_told (sp__law_told K) := by
    refine F.ok (k := 5) sc__law_told (fun vs H Q E h => ?_) (fun cdv A outer s H vs Q E hr h => ?_)
    · obtain ⟨a, r, ar, p, x, y, l, d, e, av, v, w, rfl, hN, hr1, har, hl, hx, hy, hf, q⟩ := h
      rfl
    · obtain ⟨a, r, ar, p, x, y, l, d, e, av, v, w, rfl, hN, hr1, har, hl, hx, hy, hf, q⟩ := h
      refine ⟨_, (PSs.nox (pss_cons (ps_asg (pe_tup (pa_cons pe_non (pa_cons pe_non pa_nil))) (pg_tup rfl (pgs_cons (pg_name (i := 3) sc__law_told.nd rfl (by first | exact Or.inl rfl | exact Or.inr rfl)) (pgs_cons (pg_name (i := 4) sc__law_told.nd rfl (by first | exact Or.inl rfl | exact Or.inr rfl)) pgs_nil))))
  (C8.pss_cut (ps_try_asK (i := 5) (c := .ref (He.ga K "RoomError")) rfl rfl rfl sc__law_told.nd rfl rfl ⟨rfl, by decide, Or.inl T.g_RoomError⟩ takes0
  (fun W pn xe tk _ => (pss_one (ps_set (i := 4) sc__law_told.nd rfl (by first | exact Or.inl rfl | exact Or.inr rfl) (pe_hasS H_form (hr.mono (by decide)) (fun σ => passAt tk σ) (pa_cons (pv 0) (pa_cons (pv 1) (pa_cons (pv 2) pa_nil)))))))
  (fun a oe cls d pn hz hf => (pss_one (ps_set (i := 3) sc__law_told.nd rfl (by first | exact Or.inl rfl | exact Or.inr rfl) (pv 5)))))
  (pss_cons (ps_if (pt_cmpR op_isN (pv 3) pe_non (nomark _))
   (pss_one (ps_ret (pv 4))) pss_nil)
  (pss_one (ps_ret (pe_ifExp (PW.pt (pw_and (pt_val (pe_callB (id := "isinstance") call_isZ (by rfl) T.f_isinstance (by decide +kernel) (pa_cons (pv 3) (pa_cons (pe_glob (v := .ref (He.ga K "NoHeap")) (by rfl) T.g_NoHeap rfl) pa_nil)))) (pw_and1 (pt_not (pt_val (pe_callB (id := "isinstance") call_isZT (by rfl) T.f_isinstance (by decide +kernel) (pa_cons (pv 3) (pa_cons (pe_tup (pa_cons (pe_glob (v := .ref (He.ga K "NoFit")) (by rfl) T.g_NoFit rfl) (pa_cons (pe_glob (v := .ref (He.ga K "NoNet")) (by rfl) T.g_NoNet rfl) pa_nil))) pa_nil)))))))) pe_str pe_str))))))), ?_⟩
      refine ⟨sz_le (by simp), fun t0 nt0 => ⟨t0, _, rfl, .inl (.inl upd_same), rfl, _, _, rfl, _, _, rfl, rfl, ?_⟩⟩
      have s0 := same_upd (o := .tup [.non, .non]) nt0
      have hN := hN.same s0
      have har := har.same s0
      have hx := hx.same s0
      have hy := hy.same s0
      have q := fun H' (s : Same (upd H t0 (.tup [.non, .non])) H') => q H' (s0.trans s)
      generalize upd H t0 (.tup [.non, .non]) = H0 at hN har hx hy q ⊢
      refine ⟨fun σ F => Same H0 F ∧ ∃ (cv fv : V) (ev : Option V), σ = [some (.ref a), some x, some y, some cv, some fv, ev] ∧ ((cv = .non ∧ fv = v) ∨ (isExc K F cv "NoHeap" ∧ v = .str "heap")), ?_, ?_⟩
      · refine ⟨_, rfl, _, rfl, _, rfl, a, r, ar, p, x, y, l, d, e, av, rfl, hN, hr1, har, hl, hx, hy, fun H1 s1 => ⟨fun c => ?_, fun xs ys ed ee h1 h2 => ?_⟩⟩
        · rcases hf with ⟨_, hv, _⟩ | ⟨xs, ys, _, _, h1, h2, _⟩
          · refine ⟨true, T.exm "NoHeap" (by decide), fun z => (nomatch z), fun _ b hb => ?_⟩
            exact ⟨_, rfl, s1.trans (same_upd hb), .ref b, _, _, rfl, .inr ⟨⟨b, rfl, upd_same⟩, hv⟩⟩
          · rw [h1, h2] at c
            cases c
        · rcases hf with ⟨h0, _⟩ | ⟨xs', ys', ed', ee', _, _, hv, _⟩
          · rw [h1, h2] at h0
            cases h0
          · obtain rfl := tupInts_inj (ed.symm.trans ed')
            obtain rfl := tupInts_inj (ee.symm.trans ee')
            exact ⟨s1, .non, _, _, rfl, .inl ⟨rfl, hv.symm⟩⟩
      · rintro σ F ⟨sF, cv, fv, ev, rfl, ⟨rfl, rfl⟩ | ⟨he, rfl⟩⟩
        · refine ⟨_, rfl, rfl, _, rfl, ?_⟩
          rw [decide_eq_true rfl]
          refine iteT ?_
          exact ⟨_, rfl, q F sF⟩
        · obtain ⟨b, rfl, hb⟩ := he
          refine ⟨_, rfl, rfl, _, rfl, ?_⟩
          rw [decide_eq_false (fun z => nomatch z)]
          refine iteF ?_
          refine ⟨_, rfl, ?_⟩
          try walk_at "rd"
          refine isz_exc T.e_NoHeap ⟨b, rfl, hb⟩ (Same.refl F) ((T.kit "NoHeap" (by decide) "NoHeap" (by decide)).trans (by decide +kernel : _ = some true)) ⟨_, rfl, ?_⟩
          refine iteT ?_
          refine ⟨_, rfl, sz_le (by simp), fun tp ntp => ?_⟩
          have stp := same_upd (o := .tup [V.ref (He.ga K "NoFit"), .ref (He.ga K "NoNet")]) ntp
          refine ⟨.ref b, tp, [.ref (He.ga K "NoFit"), .ref (He.ga K "NoNet")], _, [.ref (He.ga K "NoFit"), .ref (He.ga K "NoNet")], false, rfl, upd_same, .cons (.own _) (.cons (.own _) .nil), .exc T.e_NoHeap (stp _ _ hb), ?_, ⟨_, rfl, ?_⟩⟩
          · refine kitAny_cons ((T.kit "NoHeap" (by decide) "NoFit" (by decide)).trans (by decide +kernel : _ = some false)) (fun _ => ?_) (fun z => nomatch z)
            exact kitAny_cons ((T.kit "NoHeap" (by decide) "NoNet" (by decide)).trans (by decide +kernel : _ = some false)) (fun _ => rfl) (fun z => nomatch z)
          exact q _ (sF.trans stp)
  exact has_of F G T.g__law_told (fun _ _ _ _ _ _ us hl => match us, hl with | [_, _, _], _ => rfl)
end
end K13

set_option Elab.async false
set_option linter.all false
set_option maxRecDepth 100000
set_option maxHeartbeats 8000000
namespace XA
open PySem PySem.Spec PyProof.Rows L2
theorem Oth.seqTP {K : PySem.W.Frag} {H H' : Hp} {pen c a : Addr} {n : Int} {xs : List V} (e : Oth H H' pen) (P : PenC H pen c n) (h : SqT K H a xs) : SqT K H' a xs := by
  obtain ⟨ps, hp⟩ := P.lst
  exact Oth.seqT e hp h
end XA
namespace K13
open PySem PySem.Spec PyProof.Rows L2 XA
section
variable {P : Program} {w : World} {K : PySem.W.Frag} {mg : Str → Option Value} {base : Heap}
theorem ok__law_spoilt (T : Txt K mg) {fd : FuncData} (F : FnP K "_law_spoilt" s__law_spoilt fd)
    (H__law_take : Has P w K mg base CX0 2 "_law_take" P__law_take sp__law_take)
    (H__law_one : Has P w K mg base CX0 3 "_law_one" P__law_one (sp__law_one K)) :
    Has P w K mg base CX0 4 "_law_spoilt" P__law_spoilt (sp__law_spoilt K) := by
  have G : FnOk P w K mg base CX0 4 (He.ga K "_law_spoilt") fd P__law_spoilt (sp__law_spoilt K) := by
    refine F.ok (k := 3) sc__law_spoilt (fun vs H Q E h => ?_) (fun cdv A outer s H vs Q E hr h => ?_)
    · obtain ⟨pen, c, x, ns, n, rfl, hp, hn, hx, hn1, hn8, q⟩ := h
      rfl
    · obtain ⟨pen, c, x, ns, n, rfl, hp, hn, hx, hn1, hn8, q⟩ := h
      refine ⟨_, (PSs.nox (pss_cons (ps_set (i := 2) sc__law_spoilt.nd rfl (by first | exact Or.inl rfl | exact Or.inr rfl) (pe_has H__law_take (hr.mono (by decide)) pass0 (pa_cons (pv 0) (pa_cons pe_int pa_nil))))
  (pss_cons (ps_set (i := 3) sc__law_spoilt.nd rfl (by first | exact Or.inl rfl | exact Or.inr rfl) (pe_has H__law_take (hr.mono (by decide)) pass0 (pa_cons (pv 0) (pa_cons (pe_callB (id := "len") call_len (by rfl) T.f_len (by decide +kernel) (pa_cons (pv 1) pa_nil)) pa_nil))))
  (pss_cons (ps_set (i := 4) sc__law_spoilt.nd rfl (by first | exact Or.inl rfl | exact Or.inr rfl) (pe_has H__law_one (hr.mono (by decide)) pass0 (pa_cons (pv 0) (pa_cons (pe_lst (pa_cons pe_bl (pa_cons pe_non (pa_cons pe_str (pa_cons (pe_un un_neg pe_int) (pa_cons pe_int (pa_cons (pe_tup (pa_cons pe_int pa_nil)) (pa_cons (pe_op op_pow pe_int pe_int) pa_nil)))))))) pa_nil))))
  (pss_cons (ps_if (pt_cmpR op_lt (pv 2) pe_int (nomark _))
   (pss_one (ps_ret (pe_ix ix_list (pe_lst (pa_cons (pe_op op_catD (pe_slice sl_tupD (pv 1) po_none (po_some (pv 3))) (pe_slice sl_tupD (pv 1) (po_some (pe_op op_add (pv 3) pe_int)) po_none)) (pa_cons (pe_op op_catD (pv 1) (pe_tup (pa_cons pe_int pa_nil))) (pa_cons (pe_op op_catD (pe_op op_catD (pe_slice sl_tupD (pv 1) po_none (po_some (pv 3))) (pe_tup (pa_cons (pv 4) pa_nil))) (pe_slice sl_tupD (pv 1) (po_some (pe_op op_add (pv 3) pe_int)) po_none)) (pa_cons (pe_callTy (T := "list") call_list_of (by rfl) T.f_list (by decide +kernel) (pa_cons (pv 1) pa_nil)) pa_nil))))) (pv 2) (fun _ _ => rfl)))) pss_nil)
  (pss_one (ps_ret (pe_ifExp (pt_cmpR op_eq (pv 2) pe_int (nomark _)) (pe_has H__law_one (hr.mono (by decide)) pass0 (pa_cons (pv 0) (pa_cons (pe_lst (pa_cons pe_non (pa_cons pe_int (pa_cons pe_str (pa_cons (pe_lst pa_nil) (pa_cons (pe_ix ix_tup (pv 1) pe_int (fun _ _ => rfl)) (pa_cons (pe_tup (pa_cons (pv 1) pa_nil)) pa_nil))))))) pa_nil))) (pv 1))))))))), ?_⟩
      obtain ⟨hv, hs, rfl, hS, hA⟩ := hx.isTup
      have hl := hA.length
      rw [List.length_map] at hl
      refine ⟨_, rfl, pen, c, 7, n, rfl, hp, by omega, by decide, by decide, fun way F0 w0 w1 o0 P0 => ?_⟩
      have hS := o0.seqTP hp hS
      have hA := hA.othP hp o0
      refine ⟨_, rfl, _, rfl, .ref hv, hs.length, rfl, .inr ⟨_, hS, rfl⟩, pen, c, hs.length, _, rfl, P0, by omega, by omega, by omega, fun at_ F1 a0 a1 o1 P1 => ?_⟩
      have hS := o1.seqTP P0 hS
      have hA := hA.othP P0 o1
      refine ⟨_, rfl, 1, rfl, sz_le (by simp), fun t1 nt1 => ⟨10, 60, rfl, rfl, ⟨by decide, by decide, by decide⟩, sz_le (by simp), fun l1 nl1 => ?_⟩⟩
      have st1 := same_upd (o := .tup [V.int 1]) nt1
      have xt1 : Da K (upd F1 t1 (.tup [.int 1])) pen (.ref t1) (.tuple [.int 1]) := Da.newT (.cons (.int 1) .nil) nt1
      have P1 := P1.same st1
      have e1 := P1.new_ne nl1
      have hS := Same.seqT st1 hS
      have hA := hA.same st1
      have oH1 := (o0.trans o1).trans (Oth.of_same st1)
      generalize upd F1 t1 (.tup [V.int 1]) = F2 at xt1 P1 hS hA oH1 nl1 ⊢
      generalize hX : ([.bl true, .non, .str (Str.ofString "1"), .int (-1), .int 13, .ref t1, .int (10 ^ (60 : Int).toNat)] : List V) = X at nl1 ⊢
      have lX : X.length = 7 := by rw [← hX]; rfl
      have sl1 := same_upd (o := .lst X) nl1
      have hXD : DaAll K (upd F2 l1 (.lst X)) pen X [.bool true, .none, .str (Str.ofString "1"), .int (-1), .int 13, .tuple [.int 1], .int (10 ^ (60 : Int).toNat)] := by
        have z : DaAll K F2 pen X [.bool true, .none, .str (Str.ofString "1"), .int (-1), .int 13, .tuple [.int 1], .int (10 ^ (60 : Int).toNat)] := by
          rw [← hX]
          exact .cons (.bl _) (.cons .non (.cons (.str _) (.cons (.int _) (.cons (.int _) (.cons xt1 (.cons (.int _) .nil))))))
        exact z.same sl1
      have hl1 : (upd F2 l1 (.lst X)) l1 = some (.lst X) := upd_same
      have P1 := P1.same sl1
      have hS := Same.seqT sl1 hS
      have hA := hA.same sl1
      have oH1 := oH1.trans (Oth.of_same sl1)
      generalize upd F2 l1 (.lst X) = F3 at hl1 hXD P1 hS hA oH1 ⊢
      refine ⟨pen, c, l1, X, _, rfl, P1, by omega, e1.1, .inl (.inl hl1), by omega, by omega, fun other hother F4 o4 P4 => ?_⟩
      obtain ⟨dO, _, hO⟩ := pickD (hXD.othP P1 o4) other hother
      have hS := o4.seqTP P1 hS
      have hA := hA.othP P1 o4
      have oH4 := oH1.trans o4
      clear hXD hl1 hother oH1 hX lX
      -- one of four
      refine ⟨_, rfl, way, 4, rfl, rfl, _, rfl, ?_⟩
      refine ite2 (fun c1 => ?_) (fun c1 => ?_)
      · have c1' : way < 4 := of_decide_eq_true c1
        have big : ∀ {lo hi : Option Int}, (cutV hs lo hi).length ≤ 8 := by
          intro lo hi
          unfold cutV
          rw [List.length_take, List.length_drop]
          omega
        refine ⟨_, rfl, _, rfl, at_, rfl, hv, _, rfl, hS, fun p1 G1 s1 hp1 => ?_⟩
        refine ⟨_, rfl, _, rfl, at_, 1, rfl, rfl, at_ + 1, rfl, hv, _, rfl, Same.seqT s1 hS, fun p2 G2 s2 hp2 => ?_⟩
        have b12 : (cutV hs none (some at_)).length + (cutV hs (some (at_ + 1)) none).length ≤ 1000 := by
          have := big (lo := none) (hi := some at_)
          have := big (lo := some (at_ + 1)) (hi := none)
          omega
        refine ⟨p1, p2, _, _, rfl, rfl, Same.seqT s2 hp1, hp2, sz_le b12, fun p3 G3 s3 hp3 => ?_⟩
        have sA := (s1.trans s2).trans s3
        have d3 : Da K G3 pen (.ref p3) (.tuple (cutD (ns.map .int) none (some at_) ++ cutD (ns.map .int) (some (at_ + 1)) none)) := .tup hp3 (((hA.cut none (some at_)).append (hA.cut (some (at_ + 1)) none)).same sA)
        have hS3 := Same.seqT sA hS
        have hA3 := hA.same sA
        have hO3 := hO.same sA
        have P3 := P4.same sA
        have oH3 := oH4.trans (Oth.of_same sA)
        clear sA s1 s2 s3 hp1 hp2 hp3
        -- one more
        refine ⟨_, rfl, sz_le (by simp), fun t2 nt2 => ?_⟩
        have st2 := same_upd (o := .tup [V.int 0]) nt2
        refine ⟨hv, t2, _, _, rfl, rfl, Same.seqT st2 hS3, .inl (.inl upd_same), sz_le (by show hs.length + 1 ≤ 1000; omega), fun p4 G4 s4 hp4 => ?_⟩
        have sA := st2.trans s4
        have d4 : Da K G4 pen (.ref p4) (.tuple (ns.map .int ++ [.int 0])) := .tup hp4 ((hA3.same sA).append (.cons (.int 0) .nil))
        have d3 := d3.same sA
        have hS4 := Same.seqT sA hS3
        have hA4 := hA3.same sA
        have hO4 := hO3.same sA
        have P4' := P3.same sA
        have oH4' := oH3.trans (Oth.of_same sA)
        clear sA st2 s4 hp4 hS3 hA3 hO3 P3 oH3
        -- one otherwise
        refine ⟨_, rfl, _, rfl, at_, rfl, hv, _, rfl, hS4, fun p5 G5 s5 hp5 => ?_⟩
        refine ⟨_, rfl, sz_le (by simp), fun t3 nt3 => ?_⟩
        have st3 := same_upd (o := .tup [other]) nt3
        refine ⟨p5, t3, _, _, rfl, rfl, Same.seqT st3 hp5, .inl (.inl upd_same), sz_le (by show (cutV hs none (some at_)).length + 1 ≤ 1000; have := big (lo := none) (hi := some at_); omega), fun p6 G6 s6 hp6 => ?_⟩
        have s56 := (s5.trans st3).trans s6
        refine ⟨_, rfl, _, rfl, at_, 1, rfl, rfl, at_ + 1, rfl, hv, _, rfl, Same.seqT s56 hS4, fun p7 G7 s7 hp7 => ?_⟩
        refine ⟨p6, p7, _, _, rfl, rfl, Same.seqT s7 hp6, hp7, sz_le (by rw [List.length_append]; have := big (lo := none) (hi := some at_); have := big (lo := some (at_ + 1)) (hi := none); show _ + 1 + _ ≤ 1000; omega), fun p8 G8 s8 hp8 => ?_⟩
        have sA := (s56.trans s7).trans s8
        have d8 : Da K G8 pen (.ref p8) (.tuple ((cutD (ns.map .int) none (some at_) ++ [dO]) ++ cutD (ns.map .int) (some (at_ + 1)) none)) :=
          .tup hp8 ((((hA4.cut none (some at_)).same sA).append (.cons (hO4.same sA) .nil)).append ((hA4.cut (some (at_ + 1)) none).same sA))
        have d3 := d3.same sA
        have d4 := d4.same sA
        have hS8 := Same.seqT sA hS4
        have hA8 := hA4.same sA
        have P8 := P4'.same sA
        have oH8 := oH4'.trans (Oth.of_same sA)
        clear sA s5 st3 s6 s56 s7 s8 hp5 hp6 hp7 hp8 hS4 hA4 hO4 P4' oH4'
        -- as a list
        refine ⟨_, rfl, hv, _, rfl, .inr hS8, fun l2 nl2 => ?_⟩
        have sl2 := same_upd (o := .lst hs) nl2
        have el2 := P8.new_ne nl2
        have d9 : Da K (upd G8 l2 (.lst hs)) pen (.ref l2) (.list (ns.map .int)) := .lst el2.1 (.inl (.inl upd_same)) (hA8.same sl2)
        have d3 := d3.same sl2
        have d4 := d4.same sl2
        have d8 := d8.same sl2
        refine ⟨sz_le (by simp), fun L nL => ?_⟩
        have sL := same_upd (o := .lst [V.ref p3, .ref p4, .ref p8, .ref l2]) nL
        have all := (DaAll.cons d3 (.cons d4 (.cons d8 (.cons d9 .nil)))).same sL
        obtain ⟨x, hx, hat, _⟩ := atI_in (xs := [V.ref p3, .ref p4, .ref p8, .ref l2]) w0 (by show way < 4; exact c1')
        refine ⟨_, rfl, L, _, way, x, rfl, rfl, .inl (.inl upd_same), hat, ?_⟩
        obtain ⟨dx, _, hdx⟩ := pickD all x hx
        exact q x dx _ hdx (oH8.trans (Oth.of_same (sl2.trans sL))) (((P8.same sl2).same sL).mono (by omega))
      -- or another thing
      refine ⟨_, rfl, rfl, _, rfl, ?_⟩
      refine ite2 (fun c2 => ?_) (fun c2 => ?_)
      · refine ⟨_, rfl, Nat.zero_le _, fun l2 nl2 => ?_⟩
        have sl2 := same_upd (o := .lst []) nl2
        have el2 := P4.new_ne nl2
        have d2 : Da K (upd F4 l2 (.lst [])) pen (.ref l2) (.list []) := .lst el2.1 (.inl (.inl upd_same)) .nil
        have hS2 := Same.seqT sl2 hS
        have hA2 := hA.same sl2
        have P2 := P4.same sl2
        have oH2 := oH4.trans (Oth.of_same sl2)
        obtain ⟨z, hz, hat, _⟩ := atI_in (xs := hs) (i := 0) (by decide) (by omega)
        obtain ⟨dz, _, hdz⟩ := pickD hA2 z hz
        refine ⟨_, rfl, hv, _, 0, z, rfl, rfl, hS2, hat, ?_⟩
        refine ⟨_, rfl, sz_le (by simp), fun t2 nt2 => ⟨sz_le (by simp), fun L nL => ?_⟩⟩
        have st2 := same_upd (o := .tup [V.ref hv]) nt2
        have d3 : Da K (upd (upd F4 l2 (.lst [])) t2 (.tup [.ref hv])) pen (.ref t2) (.tuple [.tuple (ns.map .int)]) := Da.newT (.cons (.tup hS2 hA2) .nil) nt2
        have sL := same_upd (o := .lst [V.non, .int 3, .str (Str.ofString "heap"), .ref l2, z, .ref t2]) nL
        have all := ((DaAll.cons .non (.cons (.int 3) (.cons (.str (Str.ofString "heap")) (.cons (d2.same st2) (.cons (hdz.same st2) (.cons d3 .nil)))))).same sL : DaAll K _ pen [V.non, .int 3, .str (Str.ofString "heap"), .ref l2, z, .ref t2] _)
        have P5 := (P2.same st2)
        have eL := P5.new_ne nL
        refine ⟨pen, c, L, _, _, rfl, P5.same sL, by omega, eL.1, .inl (.inl upd_same), by simp, by simp, fun x hx F5 o5 P6 => ?_⟩
        obtain ⟨dx, _, hdx⟩ := pickD (all.othP (P5.same sL) o5) x hx
        exact q x dx _ hdx ((oH2.trans (Oth.of_same (st2.trans sL))).trans o5) (P6.mono (by omega))
      · refine ⟨_, rfl, ?_⟩
        exact q _ _ _ (.tup hS hA) oH4 (P4.mono (by omega))
  exact has_of F G T.g__law_spoilt (fun _ _ _ _ _ _ us hl => match us, hl with | [_, _], _ => rfl)
end
end K13

set_option Elab.async false
set_option linter.all false
set_option maxRecDepth 100000
set_option maxHeartbeats 8000000
namespace K13
open PySem PySem.Spec PyProof.Rows L2 XA

def sp_law (K : PySem.W.Frag) : Sp := fun vs H Q _ => ∃ (a : Addr) (ns : List Int), vs = [.ref a] ∧ SqL K H a (ns.map V.int) ∧ ns.length ≤ 63 ∧ ∀ H', Q (.bl true) H'
theorem sum_in {B : Int} (hB : 0 ≤ B) : ∀ l : List Int, (∀ x ∈ l, 0 ≤ x ∧ x ≤ B) → 0 ≤ l.sum ∧ l.sum ≤ B * l.length
  | [], _ => ⟨Int.le_refl _, by simp⟩
  | a :: r, h => by
    have h1 := h a List.mem_cons_self
    have h2 := sum_in hB r fun x hx => h x (List.mem_cons_of_mem _ hx)
    rw [List.sum_cons, List.length_cons, Int.natCast_succ, Int.mul_add]
    omega
theorem mem_zip {z : Int} : ∀ {xs ys : List Int}, z ∈ List.zipWith (· * ·) xs ys → ∃ x ∈ xs, ∃ y ∈ ys, z = x * y
  | [], _, h => by simp at h
  | _ :: _, [], h => by simp at h
  | x :: xs, y :: ys, h => by
    rw [List.zipWith_cons_cons] at h
    rcases List.mem_cons.mp h with e | h
    · exact ⟨x, List.mem_cons_self, y, List.mem_cons_self, e⟩
    · obtain ⟨a, ha, b, hb, e⟩ := mem_zip h
      exact ⟨a, List.mem_cons_of_mem _ ha, b, List.mem_cons_of_mem _ hb, e⟩
theorem mul12 {x y : Int} (h1 : 0 ≤ x) (h2 : x ≤ 12) (h3 : 0 ≤ y) (h4 : y ≤ 12) : 0 ≤ x * y ∧ x * y ≤ 144 := by
  have := mul_in h1 h2 h3 h4
  omega
theorem getD12 {xs : List Int} (h : ∀ x ∈ xs, 0 ≤ x ∧ x ≤ 12) (i : Nat) : 0 ≤ xs.getD i 0 ∧ xs.getD i 0 ≤ 12 := by
  rw [List.getD_eq_getElem?_getD]
  cases e : xs[i]? with
  | none => exact ⟨Int.le_refl _, by decide⟩
  | some x => exact h x (List.mem_of_getElem? e)
theorem form_small {r : Int} {l : List (Int × Int)} {xs ys : List Int} (hl : l.length ≤ 12) (hr : r ≤ 1000) (hx : heapD r (.tuple (xs.map .int)) = true) (hy : heapD r (.tuple (ys.map .int)) = true) : (formI l xs ys).natAbs < 10 ^ 30 := by
  obtain ⟨xs', e1, hxl, hxb, _⟩ := heapD_of hx
  obtain rfl := tupInts_inj e1
  obtain ⟨ys', e2, hyl, hyb, _⟩ := heapD_of hy
  obtain rfl := tupInts_inj e2
  have h1 := sum_in (B := 144) (by decide) (List.zipWith (· * ·) xs ys) (by
    intro z hz
    obtain ⟨x, hx, y, hy, rfl⟩ := mem_zip hz
    exact mul12 (hxb x hx).1 (hxb x hx).2 (hyb y hy).1 (hyb y hy).2)
  rw [List.length_zipWith] at h1
  have h2 := sum_in (B := 144) (by decide) (l.map fun a => xs.getD a.1.toNat 0 * ys.getD a.2.toNat 0) (by
    intro z hz
    obtain ⟨a, _, rfl⟩ := List.mem_map.mp hz
    have g1 := getD12 hxb a.1.toNat
    have g2 := getD12 hyb a.2.toNat
    exact mul12 g1.1 g1.2 g2.1 g2.2)
  rw [List.length_map] at h2
  unfold formI
  have h3 : min xs.length ys.length ≤ 1000 := by omega
  have h4 : (144 : Int) * (min xs.length ys.length : Nat) ≤ 144000 := by omega
  omega
theorem netD_of {r : Nat} {l : List (Int × Int)} (h1 : 1 ≤ r) (h8 : r ≤ 8) (h : arrIn r l) : netD (.int r) (arrsD l) = true := by
  show (decide (1 ≤ (r : Int) ∧ (r : Int) ≤ 8) && (decide ((l.map arrD).length ≤ 12) && (l.map arrD).all (arrowOk r))) = true
  rw [decide_eq_true (by omega), List.length_map, decide_eq_true h.1, Bool.true_and, Bool.true_and, List.all_eq_true]
  intro d hd
  obtain ⟨a, ha, rfl⟩ := List.mem_map.mp hd
  obtain ⟨p0, p1, q0, q1, ne⟩ := h.2 a ha
  show (decide (0 ≤ a.1 ∧ a.1 ≤ (r : Int) - 1) && (decide (0 ≤ a.2 ∧ a.2 ≤ (r : Int) - 1) && !(a.1 == a.2))) = true
  rw [decide_eq_true (by omega), decide_eq_true (by omega), beq_eq_false_iff_ne.mpr ne]
  rfl
section
variable {P : Program} {w : World} {K : PySem.W.Frag} {mg : Str → Option Value} {base : Heap}
theorem okF_law (T : Txt K mg) {fd : FuncData} (F : FnP K "law" s_law fd)
    (H_Net__init : HasM P w K mg base (L2.CX P w) 4 "Net" P_Net__init 2 ["prime"] (sp_Net__init K))
    (H_is_heap : Has P w K mg base CX0 3 "is_heap" P_is_heap (sp_is_heap K))
    (H__law_open : Has P w K mg base CX0 1 "_law_open" P__law_open (sp__law_open K))
    (H__law_anew : Has P w K mg base CX0 1 "_law_anew" P__law_anew sp__law_anew)
    (H__law_take : Has P w K mg base CX0 2 "_law_take" P__law_take sp__law_take)
    (H__law_prime : Has P w K mg base CX0 4 "_law_prime" P__law_prime (sp__law_prime K))
    (H__law_arrows : Has P w K mg base CX0 3 "_law_arrows" P__law_arrows (sp__law_arrows K))
    (H__law_heap : Has P w K mg base CX0 3 "_law_heap" P__law_heap (sp__law_heap K))
    (H__law_spoilt : Has P w K mg base CX0 4 "_law_spoilt" P__law_spoilt (sp__law_spoilt K))
    (H__law_right : Has P w K mg base CX0 2 "_law_right" P__law_right (sp__law_right K))
    (H__law_form : Has P w K mg base CX0 1 "_law_form" P__law_form (sp__law_form K))
    (H__law_told : Has P w K mg base CX0 6 "_law_told" P__law_told (sp__law_told K)) :
    FnAt P w K mg base CX0 callerA (He.ga K "law") fd P_law (sp_law K) := by
  refine fnAt_of (k := 6) F sc_law (fun vs H Q E h => ?_) ⟨rfl, by decide, by decide⟩ (fun cdv outer s H vs Q E hr h => ?_)
  · obtain ⟨a, ns, rfl, hS, hlen, q⟩ := h
    rfl
  · obtain ⟨a, ns, rfl, hS, hlen, q⟩ := h
    refine ⟨_, (PSs.nox (pss_cons (ps_set (i := 1) sc_law.nd rfl (by first | exact Or.inl rfl | exact Or.inr rfl) (pe_has H__law_open (hr.mono (by decide)) pass0 (pa_cons (pv 0) pa_nil)))
  (pss_cons (ps_for PassesOwn.never rfl (pi_range1 (by rfl) T.f_range (pa_cons pe_int pa_nil)) (pg_name (i := 2) sc_law.nd rfl (by first | exact Or.inl rfl | exact Or.inr rfl))
   (pss_cons (ps_set (i := 3) sc_law.nd rfl (by first | exact Or.inl rfl | exact Or.inr rfl) (pe_op op_add pe_int (pe_has H__law_take (hr.mono (by decide)) pass0 (pa_cons (pe_has H__law_anew (hr.mono (by decide)) pass0 (pa_cons (pv 1) pa_nil)) (pa_cons pe_int pa_nil)))))
  (pss_cons (ps_set (i := 4) sc_law.nd rfl (by first | exact Or.inl rfl | exact Or.inr rfl) (pe_has H__law_arrows (hr.mono (by decide)) pass0 (pa_cons (pv 1) (pa_cons (pv 3) pa_nil))))
  (pss_cons (ps_set (i := 5) sc_law.nd rfl (by first | exact Or.inl rfl | exact Or.inr rfl) (pe_hasM H_Net__init (hr.mono (by decide)) passL (pa_cons (pv 3) (pa_cons (pv 4) pa_nil)) (pk_cons (pe_has H__law_prime (hr.mono (by decide)) pass0 (pa_cons (pv 1) pa_nil)) pk_nil)))
  (pss_cons (ps_set (i := 6) sc_law.nd rfl (by first | exact Or.inl rfl | exact Or.inr rfl) (pe_lst (pa_cons (pe_has H__law_heap (hr.mono (by decide)) pass0 (pa_cons (pv 1) (pa_cons (pv 3) pa_nil))) (pa_cons (pe_has H__law_heap (hr.mono (by decide)) pass0 (pa_cons (pv 1) (pa_cons (pv 3) pa_nil))) pa_nil))))
  (pss_cons (ps_set (i := 6) sc_law.nd rfl (by first | exact Or.inl rfl | exact Or.inr rfl) (pe_op op_cat (pv 6) (pe_lst (pa_cons (pe_has H__law_spoilt (hr.mono (by decide)) pass0 (pa_cons (pv 1) (pa_cons (pe_ix ix_list (pv 6) pe_int (fun _ _ => rfl)) pa_nil))) (pa_cons (pe_has H__law_spoilt (hr.mono (by decide)) pass0 (pa_cons (pv 1) (pa_cons (pe_callTy (T := "tuple") call_tuple_of (by rfl) T.f_tuple (by decide +kernel) (pa_cons (pe_op op_rep (pe_lst (pa_cons pe_int pa_nil)) (pv 3)) pa_nil)) pa_nil))) pa_nil)))))
  (pss_cons (ps_for PassesOwn.never rfl (pi_list (pv 6)) (pg_name (i := 7) sc_law.nd rfl (by first | exact Or.inl rfl | exact Or.inr rfl))
   (pss_one (ps_if (pt_cmpR op_ne (pe_callB (id := "repr") (call_reprD rfl (by show (callerA.deeper _).units + 150 < cLine; have := hr.un; omega)) (by rfl) T.f_repr (by decide +kernel) (pa_cons (pe_has H_is_heap (hr.mono (by decide)) pass0 (pa_cons (pv 5) (pa_cons (pv 7) pa_nil))) pa_nil)) (pe_callB (id := "repr") (call_reprD rfl (by show (callerA.deeper _).units + 150 < cLine; have := hr.un; omega)) (by rfl) T.f_repr (by decide +kernel) (pa_cons (pe_has H__law_right (hr.mono (by decide)) pass0 (pa_cons (pv 3) (pa_cons (pv 7) pa_nil))) pa_nil)) (nomark _))
   (pss_one (ps_ret pe_bl)) pss_nil)))
  (pss_one (ps_for PassesOwn.never rfl (pi_list (pv 6)) (pg_name (i := 8) sc_law.nd rfl (by first | exact Or.inl rfl | exact Or.inr rfl))
   (pss_one (ps_for PassesOwn.never rfl (pi_list (pv 6)) (pg_name (i := 9) sc_law.nd rfl (by first | exact Or.inl rfl | exact Or.inr rfl))
   (pss_cons (ps_set (i := 10) sc_law.nd rfl (by first | exact Or.inl rfl | exact Or.inr rfl) (pe_and (pe_has H__law_right (hr.mono (by decide)) pass0 (pa_cons (pv 3) (pa_cons (pv 8) pa_nil))) (pe_one (pe_has H__law_right (hr.mono (by decide)) pass0 (pa_cons (pv 3) (pa_cons (pv 9) pa_nil))))))
  (pss_cons (ps_set (i := 11) sc_law.nd rfl (by first | exact Or.inl rfl | exact Or.inr rfl) (pe_ifExp (pt_val (pv 10)) (pe_has H__law_form (hr.mono (by decide)) pass0 (pa_cons (pv 4) (pa_cons (pv 8) (pa_cons (pv 9) pa_nil)))) pe_str))
  (pss_one (ps_if (pt_cmpR op_ne (pe_callB (id := "repr") (call_reprD rfl (by show (callerA.deeper _).units + 150 < cLine; have := hr.un; omega)) (by rfl) T.f_repr (by decide +kernel) (pa_cons (pe_has H__law_told (hr.mono (by decide)) pass0 (pa_cons (pv 5) (pa_cons (pv 8) (pa_cons (pv 9) pa_nil)))) pa_nil)) (pe_callB (id := "repr") (call_reprD rfl (by show (callerA.deeper _).units + 150 < cLine; have := hr.un; omega)) (by rfl) T.f_repr (by decide +kernel) (pa_cons (pv 11) pa_nil)) (nomark _))
   (pss_one (ps_ret pe_bl)) pss_nil)))))))))))))))
  (pss_one (ps_ret pe_bl))))), ?_⟩
    refine ⟨_, rfl, a, ns, rfl, hS, hlen, fun H1 pen c npen s1 P1 => ?_⟩
    refine ⟨5, rfl, by decide, by decide, ?_⟩
    refine for_range (lo := 0) (n := 5) (fun i σ F => ∃ v2 v3 v4 v5 v6 v7 v8 v9 v10 v11, σ = [some (.ref a), some (.ref pen), v2, v3, v4, v5, v6, v7, v8, v9, v10, v11] ∧ PenC F pen c (300 * i))
      ⟨_, _, _, _, _, _, _, _, _, _, rfl, P1.mono (by decide)⟩ ?_ ?_
    rotate_left
    · rintro σ F ⟨v2, v3, v4, v5, v6, v7, v8, v9, v10, v11, rfl, P⟩
      exact q _
    rintro i σ F hi ⟨v2, v3, v4, v5, v6, v7, v8, v9, v10, v11, rfl, P⟩
    refine ⟨_, rfl, pen, c, _, rfl, P, fun Fa oa Pa => ⟨pen, c, 8, _, rfl, Pa, by omega, by decide, by decide, fun t Fb t0 t1 ob Pb => ⟨1, t, rfl, rfl, ?_⟩⟩⟩
    obtain ⟨m, rfl⟩ : ∃ m : Nat, t = m := ⟨t.toNat, by omega⟩
    obtain ⟨r, hr⟩ : ∃ r : Nat, r = 1 + m := ⟨_, rfl⟩
    have hr8 : r ≤ 8 := by omega
    have hr1 : 1 ≤ r := by omega
    have eR : (1 : Int) + (m : Int) = ((r : Nat) : Int) := by omega
    show gName 3 (V.int (1 + (m : Int))) _ _ _
    rw [eR]
    clear eR
    -- the arrows, the net
    refine ⟨_, rfl, _, rfl, pen, c, r, _, rfl, Pb, by omega, hr1, hr8, fun av l Fc hl har oc Pc => ?_⟩
    refine ⟨_, rfl, _, rfl, _, rfl, pen, c, _, rfl, Pc, by omega, fun p Fd hp od Pd => ⟨rfl, rfl, fun nt dx nnt ndx ne => ?_⟩⟩
    have sO := same_upd (o := .own nt) ndx
    have nnt' : (upd Fd dx (.own nt)) nt = none := by rw [upd_ne ne.symm]; exact nnt
    have sI := same_upd (o := .ins (He.ga K "Net") dx []) nnt'
    have har := (har.othP Pc od).same (sO.trans sI)
    refine ⟨nt, dx, .int r, .int r, av, arrsD l, .int p, .int p, pen, rfl, upd_same, .int _, har, .int _, fun Fe se => ⟨fun ce => absurd (show primeN p = false from ce) (by rw [hp]; decide), fun _ ce => ?_, fun _ _ => ⟨rfl, ?_⟩⟩⟩
    · rw [netD_of hr1 hr8 hl] at ce
      cases ce
    have sN : Same Fd (upd Fe nt (.ins (He.ga K "Net") dx [("rooms", .int r), ("arrows", av), ("prime", .int p)])) := acc_same nnt ((sO.trans sI).trans se) (Same.refl Fe)
    have hN : NetAt K (upd Fe nt (.ins (He.ga K "Net") dx [("rooms", .int r), ("arrows", av), ("prime", .int p)])) nt (.int r) av (.int p) := ⟨dx, upd_same⟩
    have har0 := har.same se
    have har : Da K (upd Fe nt (.ins (He.ga K "Net") dx [("rooms", .int r), ("arrows", av), ("prime", .int p)])) pen av (arrsD l) := by
      obtain ⟨bb, as, rfl, hSb, hAb⟩ := har0.isTup
      have hI : Fe nt = some (.ins (He.ga K "Net") dx []) := se _ _ upd_same
      have mv : ∀ b xs, SqT K Fe b xs → SqT K (upd Fe nt (.ins (He.ga K "Net") dx [("rooms", .int r), ("arrows", .ref bb), ("prime", .int p)])) b xs := by
        rintro b xs ((h | ⟨o, h⟩) | h)
        · refine .inl (.inl ?_)
          rw [upd_ne (by rintro rfl; rw [hI] at h; cases h)]
          exact h
        · refine .inl (.inr ⟨o, ?_⟩)
          rw [upd_ne (by rintro rfl; rw [hI] at h; cases h)]
          exact h
        · exact .inr h
      have mvl : ∀ b xs, b ≠ pen → SqL K Fe b xs → SqL K (upd Fe nt (.ins (He.ga K "Net") dx [("rooms", .int r), ("arrows", .ref bb), ("prime", .int p)])) b xs := by
        rintro b xs _ ((h | ⟨o, h⟩) | h)
        · refine .inl (.inl ?_)
          rw [upd_ne (by rintro rfl; rw [hI] at h; cases h)]
          exact h
        · refine .inl (.inr ⟨o, ?_⟩)
          rw [upd_ne (by rintro rfl; rw [hI] at h; cases h)]
          exact h
        · exact .inr h
      exact Da.move mvl mv _ _ har0
    have Pe := Pd.same sN
    clear har0 sO sI nnt' sN
    generalize upd Fe nt (.ins (He.ga K "Net") dx [("rooms", .int r), ("arrows", av), ("prime", .int p)]) = Ff at hN har Pe ⊢
    -- the heaps
    refine ⟨_, rfl, _, rfl, pen, c, r, _, rfl, Pe, by omega, hr1, hr8, fun v1 ns1 G1 hl1 hd1 o1 Q1 => ?_⟩
    have hN := hN.oth Pe o1
    have har := har.othP Pe o1
    refine ⟨_, rfl, _, rfl, pen, c, r, _, rfl, Q1, by omega, hr1, hr8, fun w1 ns2 G2 hl2 hd2 o2 Q2 => ⟨sz_le (by simp), fun L1 nL1 => ?_⟩⟩
    have hN := hN.oth Q1 o2
    have har := har.othP Q1 o2
    have hd1 := hd1.othP Q1 o2
    have sL1 := same_upd (o := .lst [v1, w1]) nL1
    have eL1 := Q2.new_ne nL1
    have hL1 : (upd G2 L1 (.lst [v1, w1])) L1 = some (.lst [v1, w1]) := upd_same
    have hN := hN.same sL1
    have har := har.same sL1
    have hd1 := hd1.same sL1
    have hd2 := hd2.same sL1
    have Q2 := Q2.same sL1
    generalize upd G2 L1 (.lst [v1, w1]) = G3 at hL1 hN har hd1 hd2 Q2 ⊢
    refine ⟨_, rfl, _, rfl, _, rfl, L1, _, 0, v1, rfl, rfl, .inl (.inl hL1), rfl, pen, c, v1, ns1, _, rfl, Q2, by omega, hd1, by omega, by omega, fun x3 d3 G4 hd3 o4 Q4 => ?_⟩
    have hN := hN.oth Q2 o4
    have har := har.othP Q2 o4
    have hd1 := hd1.othP Q2 o4
    have hd2 := hd2.othP Q2 o4
    have hL1 := o4 _ _ eL1.1 hL1
    refine ⟨_, rfl, sz_le (by simp), fun l0 nl0 => ?_⟩
    have sl0 := same_upd (o := .lst [V.int 0]) nl0
    refine ⟨_, rfl, l0, r, [.int 0], rfl, rfl, upd_same, by omega, by omega, sz_le (by show 1 * ((r : Nat) : Int).toNat ≤ 1000; omega), fun M nM => ?_⟩
    have sM := same_upd (o := .lst (List.replicate ((r : Nat) : Int).toNat [V.int 0]).flatten) nM
    refine ⟨M, _, rfl, .inl ⟨.inl (.inl upd_same), fun t nt2 => ?_⟩⟩
    have eRep : (List.replicate ((r : Nat) : Int).toNat [V.int 0]).flatten = (List.replicate r (0 : Int)).map V.int := by
      rw [Int.toNat_natCast, List.map_replicate]
      exact List.flatten_replicate_singleton
    rw [eRep] at sM nt2 ⊢
    have sT := same_upd (o := .tup ((List.replicate r (0 : Int)).map V.int)) nt2
    have sA := (sl0.trans sM).trans sT
    have hz : Da K (upd (upd (upd G4 l0 (.lst [V.int 0])) M (.lst ((List.replicate r (0 : Int)).map V.int))) t (.tup ((List.replicate r (0 : Int)).map V.int))) pen (.ref t) (.tuple ((List.replicate r (0 : Int)).map .int)) := Da.newT (DaAll.ints _) nt2
    have hN := hN.same sA
    have har := har.same sA
    have hd1 := hd1.same sA
    have hd2 := hd2.same sA
    have hd3 := hd3.same sA
    have hL1 := sA _ _ hL1
    have Q4 := Q4.same sA
    generalize upd (upd (upd G4 l0 (.lst [V.int 0])) M (.lst ((List.replicate r (0 : Int)).map V.int))) t (.tup ((List.replicate r (0 : Int)).map V.int)) = G5 at hz hN har hd1 hd2 hd3 hL1 Q4 ⊢
    refine ⟨pen, c, .ref t, List.replicate r 0, _, rfl, Q4, by omega, hz, by rw [List.length_replicate]; omega, by rw [List.length_replicate]; omega, fun x4 d4 G6 hd4 o6 Q6 => ⟨sz_le (by simp), fun L2 nL2 => ?_⟩⟩
    have sL2 := same_upd (o := .lst [x3, x4]) nL2
    have hN := (hN.oth Q4 o6).same sL2
    have har := (har.othP Q4 o6).same sL2
    have hd1 := (hd1.othP Q4 o6).same sL2
    have hd2 := (hd2.othP Q4 o6).same sL2
    have hd3 := (hd3.othP Q4 o6).same sL2
    have hd4 := hd4.same sL2
    have hL1 := sL2 _ _ (o6 _ _ eL1.1 hL1)
    have Q6 := Q6.same sL2
    refine ⟨L1, L2, [v1, w1], [x3, x4], rfl, rfl, hL1, upd_same, sz_le (by simp), fun S nS => ?_⟩
    have sS := same_upd (o := .lst ([v1, w1] ++ [x3, x4])) nS
    have hLS : (upd (upd G6 L2 (.lst [x3, x4])) S (.lst ([v1, w1] ++ [x3, x4]))) S = some (.lst [v1, w1, x3, x4]) := upd_same
    have hN := hN.same sS
    have har := har.same sS
    have all : DaAll K (upd (upd G6 L2 (.lst [x3, x4])) S (.lst ([v1, w1] ++ [x3, x4]))) pen [v1, w1, x3, x4] [.tuple (ns1.map .int), .tuple (ns2.map .int), d3, d4] := .cons (hd1.same sS) (.cons (hd2.same sS) (.cons (hd3.same sS) (.cons (hd4.same sS) .nil)))
    have Q6 := Q6.same sS
    clear hd1 hd2 hd3 hd4 hL1 hz sS sL2
    generalize upd (upd G6 L2 (.lst [x3, x4])) S (.lst ([v1, w1] ++ [x3, x4])) = G7 at hLS hN har all Q6 ⊢
    generalize ([.tuple (ns1.map .int), .tuple (ns2.map .int), d3, d4] : List PyData) = ds at all
    generalize ([v1, w1, x3, x4] : List V) = xs4 at hLS all
    refine ⟨_, rfl, S, rfl, ⟨_, .inl (.inl hLS)⟩, ?_⟩
    refine for_list (K := K) (a := S) (xs := xs4) (fun j σ G => ∃ v7, σ = [some (.ref a), some (.ref pen), some (.int (0 + (i : Int))), some (.int r), some av, some (.ref nt), some (.ref S), v7, v8, v9, v10, v11] ∧ Same G7 G)
      ⟨_, rfl, Same.refl G7⟩ (fun j σ G _ ⟨_, _, s⟩ => .inl (.inl (s _ _ hLS))) ?_ ?_
    · rintro j x σ G hj ⟨v7, rfl, sG⟩
      obtain ⟨d, _, hd⟩ := pickD all x (List.mem_of_getElem? hj)
      refine ⟨_, rfl, _, rfl, nt, (r : Int), av, .int p, x, d, pen, rfl, hN.same sG, by omega, hd.same sG, fun G8 s8 => ?_⟩
      try walk_at "rd"
      refine repr_tm (av := pen) (.bl _) (tmB' _ _) ?_
      have sG8 := sG.trans s8
      refine ⟨_, rfl, _, rfl, (r : Int), x, d, pen, rfl, by omega, hd.same sG8, fun G9 s9 => ?_⟩
      try walk_at "rd"
      refine repr_tm (av := pen) (.bl _) (tmB' _ _) ?_
      refine ⟨rfl, _, rfl, ?_⟩
      refine word_is rfl ?_
      exact ⟨_, rfl, sG8.trans s9⟩
    rintro σ G8 ⟨v7, rfl, s8⟩
    refine ⟨_, rfl, S, rfl, ⟨_, .inl (.inl (s8 _ _ hLS))⟩, ?_⟩
    refine for_list (K := K) (a := S) (xs := xs4) (fun j σ G => ∃ v8 v9 v10 v11, σ = [some (.ref a), some (.ref pen), some (.int (0 + (i : Int))), some (.int r), some av, some (.ref nt), some (.ref S), v7, v8, v9, v10, v11] ∧ Same G7 G)
      ⟨_, _, _, _, rfl, s8⟩ (fun j σ G _ ⟨_, _, _, _, _, s⟩ => .inl (.inl (s _ _ hLS))) ?_ ?_
    · rintro j one σ G hj ⟨v8, v9, v10, v11, rfl, sG⟩
      obtain ⟨d1, _, hd1⟩ := pickD all one (List.mem_of_getElem? hj)
      refine ⟨_, rfl, S, rfl, ⟨_, .inl (.inl (sG _ _ hLS))⟩, ?_⟩
      refine for_list (K := K) (a := S) (xs := xs4) (fun j σ G => ∃ v9 v10 v11, σ = [some (.ref a), some (.ref pen), some (.int (0 + (i : Int))), some (.int r), some av, some (.ref nt), some (.ref S), v7, some one, v9, v10, v11] ∧ Same G7 G)
        ⟨_, _, _, rfl, sG⟩ (fun j σ G _ ⟨_, _, _, _, s⟩ => .inl (.inl (s _ _ hLS))) ?_ ?_
      · rintro j2 other σ G1 hj2 ⟨v9, v10, v11, rfl, sG1⟩
        obtain ⟨d2, _, hd2⟩ := pickD all other (List.mem_of_getElem? hj2)
        refine ⟨_, rfl, _, rfl, (r : Int), one, d1, pen, rfl, by omega, hd1.same sG1, fun G2 s2 => ⟨_, rfl, ?_⟩⟩
        have sG2 := sG1.trans s2
        cases c1 : heapD r d1 with
        | false =>
          refine iteF ?_
          refine ⟨_, rfl, _, rfl, ?_⟩
          refine iteF ?_
          have sG := sG2
          refine ⟨_, rfl, _, rfl, _, rfl, nt, (r : Int), av, .int p, one, other, l, d1, d2, pen, (.str (Str.ofString "heap")), (.str (Str.ofString "heap")), rfl, hN.same sG, by omega, har.same sG, hl, hd1.same sG, hd2.same sG, (.inl ⟨by rw [c1, Bool.false_and], rfl, rfl⟩), fun G3 s3 => ?_⟩
          try walk_at "rd"
          refine repr_tm (av := pen) (d := (.str (Str.ofString "heap"))) (.str _) (tmS _ (by decide +kernel)) ?_
          refine ⟨_, rfl, ?_⟩
          try walk_at "rd"
          refine repr_tm (av := pen) (d := (.str (Str.ofString "heap"))) (.str _) (tmS _ (by decide +kernel)) ?_
          refine ⟨rfl, _, rfl, ?_⟩
          refine word_is rfl ?_
          exact ⟨_, _, _, rfl, sG.trans s3⟩
        | true =>
          refine iteT ?_
          refine ⟨_, rfl, _, rfl, (r : Int), other, d2, pen, rfl, by omega, hd2.same sG2, fun G3 s3 => ?_⟩
          have sG := sG2.trans s3
          cases c2 : heapD r d2 with
          | false =>
            refine ⟨_, rfl, _, rfl, ?_⟩
            refine iteF ?_
            refine ⟨_, rfl, _, rfl, _, rfl, nt, (r : Int), av, .int p, one, other, l, d1, d2, pen, (.str (Str.ofString "heap")), (.str (Str.ofString "heap")), rfl, hN.same sG, by omega, har.same sG, hl, hd1.same sG, hd2.same sG, (.inl ⟨by rw [c1, c2, Bool.and_false], rfl, rfl⟩), fun G3 s3 => ?_⟩
            try walk_at "rd"
            refine repr_tm (av := pen) (d := (.str (Str.ofString "heap"))) (.str _) (tmS _ (by decide +kernel)) ?_
            refine ⟨_, rfl, ?_⟩
            try walk_at "rd"
            refine repr_tm (av := pen) (d := (.str (Str.ofString "heap"))) (.str _) (tmS _ (by decide +kernel)) ?_
            refine ⟨rfl, _, rfl, ?_⟩
            refine word_is rfl ?_
            exact ⟨_, _, _, rfl, sG.trans s3⟩
          | true =>
            refine ⟨_, rfl, _, rfl, ?_⟩
            refine iteT ?_
            obtain ⟨xs, rfl, _⟩ := heapD_of c1
            obtain ⟨ys, rfl, _⟩ := heapD_of c2
            refine ⟨_, rfl, _, rfl, _, rfl, (r : Int), l, av, one, other, xs, ys, pen, rfl, by omega, har.same sG, hl, hd1.same sG, hd2.same sG, c1, c2, fun G4 s4 => ?_⟩
            have sG := sG.trans s4
            have sm : Tm 5 (.int (formI l xs ys)) := tmI _ (form_small hl.1 (show (r : Int) ≤ 1000 by omega) c1 c2)
            refine ⟨_, rfl, _, rfl, _, rfl, nt, (r : Int), av, .int p, one, other, l, _, _, pen, (.int (formI l xs ys)), (.int (formI l xs ys)), rfl, hN.same sG, by omega, har.same sG, hl, hd1.same sG, hd2.same sG, (.inr ⟨xs, ys, rfl, rfl, c1, c2, rfl, rfl⟩), fun G3 s3 => ?_⟩
            try walk_at "rd"
            refine repr_tm (av := pen) (d := (.int (formI l xs ys))) (.int _) sm ?_
            refine ⟨_, rfl, ?_⟩
            try walk_at "rd"
            refine repr_tm (av := pen) (d := (.int (formI l xs ys))) (.int _) sm ?_
            refine ⟨rfl, _, rfl, ?_⟩
            refine word_is rfl ?_
            exact ⟨_, _, _, rfl, sG.trans s3⟩
      · rintro σ G1 ⟨v9, v10, v11, rfl, sG1⟩
        exact ⟨_, _, _, _, rfl, sG1⟩
    · rintro σ G ⟨v8, v9, v10, v11, rfl, sG⟩
      exact ⟨_, _, _, _, _, _, _, _, _, _, rfl, (Q6.same sG).mono (by omega)⟩
end
end K13

set_option Elab.async false
set_option linter.all false
set_option maxRecDepth 100000
set_option maxHeartbeats 8000000
namespace K13
open PySem PySem.Spec PyProof.Rows L2 XA
def d_is_whole : He.DefD := ⟨("is_whole", none), "is_whole", "is_whole", defArgs s_is_whole, defBody s_is_whole, defScope s_is_whole, [], []⟩
def d_is_whole_to : He.DefD := ⟨("is_whole_to", none), "is_whole_to", "is_whole_to", defArgs s_is_whole_to, defBody s_is_whole_to, defScope s_is_whole_to, [], []⟩
def d_is_prime : He.DefD := ⟨("is_prime", none), "is_prime", "is_prime", defArgs s_is_prime, defBody s_is_prime, defScope s_is_prime, [], []⟩
def d_need_prime : He.DefD := ⟨("need_prime", none), "need_prime", "need_prime", defArgs s_need_prime, defBody s_need_prime, defScope s_need_prime, [], []⟩
def d_Net__init : He.DefD := ⟨("Net", some "__init__"), "__init__", "Net.__init__", defArgs s_Net__init, defBody s_Net__init, defScope s_Net__init, [], [("prime", .int 2)]⟩
def d_is_heap : He.DefD := ⟨("is_heap", none), "is_heap", "is_heap", defArgs s_is_heap, defBody s_is_heap, defScope s_is_heap, [], []⟩
def d_need_heap : He.DefD := ⟨("need_heap", none), "need_heap", "need_heap", defArgs s_need_heap, defBody s_need_heap, defScope s_need_heap, [], []⟩
def d_form : He.DefD := ⟨("form", none), "form", "form", defArgs s_form, defBody s_form, defScope s_form, [], []⟩
def d__is_arrow : He.DefD := ⟨("_is_arrow", none), "_is_arrow", "_is_arrow", defArgs s__is_arrow, defBody s__is_arrow, defScope s__is_arrow, [], []⟩
def d__law_spread : He.DefD := ⟨("_law_spread", none), "_law_spread", "_law_spread", defArgs s__law_spread, defBody s__law_spread, defScope s__law_spread, [], []⟩
def d__law_open : He.DefD := ⟨("_law_open", none), "_law_open", "_law_open", defArgs s__law_open, defBody s__law_open, defScope s__law_open, [], []⟩
def d__law_anew : He.DefD := ⟨("_law_anew", none), "_law_anew", "_law_anew", defArgs s__law_anew, defBody s__law_anew, defScope s__law_anew, [], []⟩
def d__law_take : He.DefD := ⟨("_law_take", none), "_law_take", "_law_take", defArgs s__law_take, defBody s__law_take, defScope s__law_take, [], []⟩
def d__law_one : He.DefD := ⟨("_law_one", none), "_law_one", "_law_one", defArgs s__law_one, defBody s__law_one, defScope s__law_one, [], []⟩
def d__law_prime : He.DefD := ⟨("_law_prime", none), "_law_prime", "_law_prime", defArgs s__law_prime, defBody s__law_prime, defScope s__law_prime, [], []⟩
def d__law_arrows : He.DefD := ⟨("_law_arrows", none), "_law_arrows", "_law_arrows", defArgs s__law_arrows, defBody s__law_arrows, defScope s__law_arrows, [], []⟩
def d__law_heap : He.DefD := ⟨("_law_heap", none), "_law_heap", "_law_heap", defArgs s__law_heap, defBody s__law_heap, defScope s__law_heap, [], []⟩
def d__law_spoilt : He.DefD := ⟨("_law_spoilt", none), "_law_spoilt", "_law_spoilt", defArgs s__law_spoilt, defBody s__law_spoilt, defScope s__law_spoilt, [], []⟩
def d__law_whole : He.DefD := ⟨("_law_whole", none), "_law_whole", "_law_whole", defArgs s__law_whole, defBody s__law_whole, defScope s__law_whole, [], []⟩
def d__law_right : He.DefD := ⟨("_law_right", none), "_law_right", "_law_right", defArgs s__law_right, defBody s__law_right, defScope s__law_right, [], []⟩
def d__law_form : He.DefD := ⟨("_law_form", none), "_law_form", "_law_form", defArgs s__law_form, defBody s__law_form, defScope s__law_form, [], []⟩
def d__law_told : He.DefD := ⟨("_law_told", none), "_law_told", "_law_told", defArgs s__law_told, defBody s__law_told, defScope s__law_told, [], []⟩
def d_law : He.DefD := ⟨("law", none), "law", "law", defArgs s_law, defBody s_law, defScope s_law, [], []⟩
def dfs : List He.DefD := [d_is_whole, d_is_whole_to, d_is_prime, d_need_prime, d_Net__init, d_is_heap, d_need_heap, d_form, d__is_arrow, d__law_spread, d__law_open, d__law_anew, d__law_take, d__law_one, d__law_prime, d__law_arrows, d__law_heap, d__law_spoilt, d__law_whole, d__law_right, d__law_form, d__law_told, d_law]
def fas : List He.Fa := [.glo "RoomError", .glo "NoPrime", .glo "NoFit", .glo "NoNet", .glo "NoHeap", .glo "is_whole", .glo "is_whole_to", .glo "is_prime", .glo "need_prime", .glo "Net", .glo "is_heap", .glo "need_heap", .glo "form", .glo "_is_arrow", .glo "_law_spread", .glo "_law_open", .glo "_law_anew", .glo "_law_take", .glo "_law_one", .glo "_law_prime", .glo "_law_arrows", .glo "_law_heap", .glo "_law_spoilt", .glo "_law_whole", .glo "_law_right", .glo "_law_form", .glo "_law_told", .glo "law", .free "all", .free "bool", .free "enumerate", .free "int", .free "isinstance", .free "len", .free "list", .free "range", .free "repr", .free "sum", .free "tuple", .free "zip", .free "ValueError", .int "GREATEST_PRIME" 97, .int "MOST_ROOMS" 8, .int "MOST_ARROWS" 12, .int "MOST_IN_A_ROOM" 12, .int "MOST_IN_ALL" 30, .exc "RoomError", .exc "NoPrime", .exc "NoFit", .exc "NoNet", .exc "NoHeap", .cls "Net", .mkr "Net", .noat "Net" "rooms", .noat "Net" "arrows", .noat "Net" "prime"]
def exB (K : PySem.W.Frag) : Bool :=
  (excNames.all fun x => decide (PySem.W.findIn K (.ref (He.ga K x)) "__getattribute__" = some (some (.builtin "BaseException.__getattribute__"))) &&
    decide (PySem.W.findIn K (.ref (He.ga K x)) "__getattr__" = some none) && decide (PySem.W.subIn K (.ref (He.ga K x)) (.type "BaseException") = some true) &&
    PySem.W.hasDictIn K (He.ga K x) && decide (PySem.W.findIn K (.ref (He.ga K x)) "__class__" = some (some (.builtin "object.__class__"))) &&
    decide (PySem.W.specialIn K (.builtin "object.__class__") "__get__" = some (some (.builtin "getset_descriptor.__get__"))) &&
    decide (PySem.W.takesIn K (.builtin "object.__class__") = some true) && decide (PySem.W.mroIn K (He.ga K x) (.type "object") = some true)) &&
  (excNames.all fun x => decide (PySem.W.exmOne K (.ref (He.ga K x)) (.ref (He.ga K "RoomError")) = some true)) &&
  (excNames.all fun x => excNames.all fun y => decide (PySem.W.kitOne K (.ref (He.ga K x)) (.ref (He.ga K y)) = some (decide (x = y) || decide (y = "RoomError")))) &&
  (excNames.all fun y => decide (PySem.W.kitOne K (.type "NoneType") (.ref (He.ga K y)) = some false)) && (excNames.all fun x => decide (PySem.W.kitOne K (.ref (He.ga K x)) (.type "ValueError") = some true))
abbrev R : PySem.W.OpenRow := PySem.W.OpenLaw.row PySem.Challenge.rw_rootrooms_k13_heaps_and_their_form
abbrev hk : PySem.W.Hook := He.hookX 5 fas dfs [] [] exB
def ob (s : PySem.W.SharedT) : He.AlX := He.obsX 5 fas dfs [] [] exB (HandSHeadRun.getT s)
theorem ob_eq (s : PySem.W.SharedT) : ob s = hk.obs s.abs := He.obsX_eq (HandSHeadRun.getT_eq s)
def loose0 : List Str := ["_wall", "RoomError", "NoPrime", "NoFit", "NoNet", "NoHeap", "is_whole", "is_whole_to", "GREATEST_PRIME", "is_prime", "need_prime", "MOST_ROOMS", "MOST_ARROWS", "MOST_IN_A_ROOM", "MOST_IN_ALL", "Net"]
def loose1 : List Str := ["is_heap", "need_heap", "form", "_is_arrow", "_law_spread", "_law_open", "_law_anew", "_law_take", "_law_one", "_law_few", "_law_prime", "_law_arrows", "_law_heap", "_law_spoilt", "_law_whole", "_law_right"]
def loose2 : List Str := ["_law_form", "_law_told"]
def looseNames : List Str := loose0 ++ loose1 ++ loose2
theorem run (w : World) : HandSHeadRun.RunEq R (PySem.W.view R.prog [39]) hk ob 4000 looseNames w := by
  intro os
  kernel_rfl


theorem txt_of {w : World} {h : Heap} {K : PySem.W.Frag} {mg : Str → Option Value} (X : K.In h) (G : h.Ns mainGlobals mg) (c : He.SaysX fas dfs [] [] exB w h K) : Txt K mg := by
  have D : He.SaysD fas dfs K := c.t.d
  have m := c.more
  simp only [exB, Bool.and_eq_true, List.all_eq_true, decide_eq_true_eq] at m
  obtain ⟨⟨⟨⟨m1, m2⟩, m3⟩, m4⟩, m5⟩ := m
  have ec : ∀ x ∈ excNames, ExcC K (He.ga K x) := by
    intro x hx
    obtain ⟨⟨⟨⟨⟨⟨⟨a1, a2⟩, a3⟩, a4⟩, a5⟩, a6⟩, a7⟩, a8⟩ := m1 x hx
    exact ⟨a1, a2, a3, a4, a5, a6, a7, a8⟩
  exact {
    g_RoomError := He.glo_ok X G (D.fact 0)
    g_NoPrime := He.glo_ok X G (D.fact 1)
    g_NoFit := He.glo_ok X G (D.fact 2)
    g_NoNet := He.glo_ok X G (D.fact 3)
    g_NoHeap := He.glo_ok X G (D.fact 4)
    g_is_whole := He.glo_ok X G (D.fact 5)
    g_is_whole_to := He.glo_ok X G (D.fact 6)
    g_is_prime := He.glo_ok X G (D.fact 7)
    g_need_prime := He.glo_ok X G (D.fact 8)
    g_Net := He.glo_ok X G (D.fact 9)
    g_is_heap := He.glo_ok X G (D.fact 10)
    g_need_heap := He.glo_ok X G (D.fact 11)
    g_form := He.glo_ok X G (D.fact 12)
    g__is_arrow := He.glo_ok X G (D.fact 13)
    g__law_spread := He.glo_ok X G (D.fact 14)
    g__law_open := He.glo_ok X G (D.fact 15)
    g__law_anew := He.glo_ok X G (D.fact 16)
    g__law_take := He.glo_ok X G (D.fact 17)
    g__law_one := He.glo_ok X G (D.fact 18)
    g__law_prime := He.glo_ok X G (D.fact 19)
    g__law_arrows := He.glo_ok X G (D.fact 20)
    g__law_heap := He.glo_ok X G (D.fact 21)
    g__law_spoilt := He.glo_ok X G (D.fact 22)
    g__law_whole := He.glo_ok X G (D.fact 23)
    g__law_right := He.glo_ok X G (D.fact 24)
    g__law_form := He.glo_ok X G (D.fact 25)
    g__law_told := He.glo_ok X G (D.fact 26)
    g_law := He.glo_ok X G (D.fact 27)
    f_all := He.free_ok X G (D.fact 28)
    f_bool := He.free_ok X G (D.fact 29)
    f_enumerate := He.free_ok X G (D.fact 30)
    f_int := He.free_ok X G (D.fact 31)
    f_isinstance := He.free_ok X G (D.fact 32)
    f_len := He.free_ok X G (D.fact 33)
    f_list := He.free_ok X G (D.fact 34)
    f_range := He.free_ok X G (D.fact 35)
    f_repr := He.free_ok X G (D.fact 36)
    f_sum := He.free_ok X G (D.fact 37)
    f_tuple := He.free_ok X G (D.fact 38)
    f_zip := He.free_ok X G (D.fact 39)
    f_ValueError := He.free_ok X G (D.fact 40)
    c_GREATEST_PRIME := He.int_ok X G (D.fact 41)
    c_MOST_ROOMS := He.int_ok X G (D.fact 42)
    c_MOST_ARROWS := He.int_ok X G (D.fact 43)
    c_MOST_IN_A_ROOM := He.int_ok X G (D.fact 44)
    c_MOST_IN_ALL := He.int_ok X G (D.fact 45)
    x_RoomError := (He.exc_ok (D.fact 46)).1
    k_RoomError := (He.exc_ok (D.fact 46)).2.1
    b_RoomError := (He.exc_ok (D.fact 46)).2.2.1
    t_RoomError := (He.exc_ok (D.fact 46)).2.2.2
    e_RoomError := ec _ (by decide)
    x_NoPrime := (He.exc_ok (D.fact 47)).1
    k_NoPrime := (He.exc_ok (D.fact 47)).2.1
    b_NoPrime := (He.exc_ok (D.fact 47)).2.2.1
    t_NoPrime := (He.exc_ok (D.fact 47)).2.2.2
    e_NoPrime := ec _ (by decide)
    x_NoFit := (He.exc_ok (D.fact 48)).1
    k_NoFit := (He.exc_ok (D.fact 48)).2.1
    b_NoFit := (He.exc_ok (D.fact 48)).2.2.1
    t_NoFit := (He.exc_ok (D.fact 48)).2.2.2
    e_NoFit := ec _ (by decide)
    x_NoNet := (He.exc_ok (D.fact 49)).1
    k_NoNet := (He.exc_ok (D.fact 49)).2.1
    b_NoNet := (He.exc_ok (D.fact 49)).2.2.1
    t_NoNet := (He.exc_ok (D.fact 49)).2.2.2
    e_NoNet := ec _ (by decide)
    x_NoHeap := (He.exc_ok (D.fact 50)).1
    k_NoHeap := (He.exc_ok (D.fact 50)).2.1
    b_NoHeap := (He.exc_ok (D.fact 50)).2.2.1
    t_NoHeap := (He.exc_ok (D.fact 50)).2.2.2
    e_NoHeap := ec _ (by decide)
    cl_Net := He.cls_ok (D.fact 51)
    mk_Net := He.mkr_ok (D.fact 52)
    na_Net_rooms := He.noat_ok (D.fact 53)
    na_Net_arrows := He.noat_ok (D.fact 54)
    na_Net_prime := He.noat_ok (D.fact 55)
    exm := m2
    kit := m3
    kitN := m4, kitV := m5 }
theorem law_ok {P : Program} {w w' : World} {K : PySem.W.Frag} {h : Heap} {mg : Str → Option Value} {f : Addr} (X : K.In h) (G : h.Ns mainGlobals mg) (hfa : mg ("law" : Str) = some (.ref f)) (c : He.SaysX fas dfs [] [] exB w' h K) :
    ∃ fd : FuncData, (∀ (s : Shared) (v : Value), BindsTo s fd ⟨[v], []⟩ [("script", v)]) ∧
      ∀ base : Heap, K.In base → base.Ns mainGlobals mg → FnAt P w K mg base CX0 callerA f fd ["script"] (sp_law K) := by
  have T := txt_of X G c
  have D : He.SaysD fas dfs K := c.t.d
  obtain ⟨fd_is_whole, F_is_whole⟩ := D.def_ 0 (d := d_is_whole) rfl
  have F_is_whole : FnP K "is_whole" s_is_whole fd_is_whole := F_is_whole
  obtain ⟨fd_is_whole_to, F_is_whole_to⟩ := D.def_ 1 (d := d_is_whole_to) rfl
  have F_is_whole_to : FnP K "is_whole_to" s_is_whole_to fd_is_whole_to := F_is_whole_to
  obtain ⟨fd_is_prime, F_is_prime⟩ := D.def_ 2 (d := d_is_prime) rfl
  have F_is_prime : FnP K "is_prime" s_is_prime fd_is_prime := F_is_prime
  obtain ⟨fd_need_prime, F_need_prime⟩ := D.def_ 3 (d := d_need_prime) rfl
  have F_need_prime : FnP K "need_prime" s_need_prime fd_need_prime := F_need_prime
  obtain ⟨fd_Net__init, F_Net__init⟩ := D.def_ 4 (d := d_Net__init) rfl
  have F_Net__init : XA.MnP K "Net" "__init__" "Net.__init__" s_Net__init [("prime", V.int 2)] fd_Net__init := F_Net__init
  obtain ⟨fd_is_heap, F_is_heap⟩ := D.def_ 5 (d := d_is_heap) rfl
  have F_is_heap : FnP K "is_heap" s_is_heap fd_is_heap := F_is_heap
  obtain ⟨fd_need_heap, F_need_heap⟩ := D.def_ 6 (d := d_need_heap) rfl
  have F_need_heap : FnP K "need_heap" s_need_heap fd_need_heap := F_need_heap
  obtain ⟨fd_form, F_form⟩ := D.def_ 7 (d := d_form) rfl
  have F_form : FnP K "form" s_form fd_form := F_form
  obtain ⟨fd__is_arrow, F__is_arrow⟩ := D.def_ 8 (d := d__is_arrow) rfl
  have F__is_arrow : FnP K "_is_arrow" s__is_arrow fd__is_arrow := F__is_arrow
  obtain ⟨fd__law_spread, F__law_spread⟩ := D.def_ 9 (d := d__law_spread) rfl
  have F__law_spread : FnP K "_law_spread" s__law_spread fd__law_spread := F__law_spread
  obtain ⟨fd__law_open, F__law_open⟩ := D.def_ 10 (d := d__law_open) rfl
  have F__law_open : FnP K "_law_open" s__law_open fd__law_open := F__law_open
  obtain ⟨fd__law_anew, F__law_anew⟩ := D.def_ 11 (d := d__law_anew) rfl
  have F__law_anew : FnP K "_law_anew" s__law_anew fd__law_anew := F__law_anew
  obtain ⟨fd__law_take, F__law_take⟩ := D.def_ 12 (d := d__law_take) rfl
  have F__law_take : FnP K "_law_take" s__law_take fd__law_take := F__law_take
  obtain ⟨fd__law_one, F__law_one⟩ := D.def_ 13 (d := d__law_one) rfl
  have F__law_one : FnP K "_law_one" s__law_one fd__law_one := F__law_one
  obtain ⟨fd__law_prime, F__law_prime⟩ := D.def_ 14 (d := d__law_prime) rfl
  have F__law_prime : FnP K "_law_prime" s__law_prime fd__law_prime := F__law_prime
  obtain ⟨fd__law_arrows, F__law_arrows⟩ := D.def_ 15 (d := d__law_arrows) rfl
  have F__law_arrows : FnP K "_law_arrows" s__law_arrows fd__law_arrows := F__law_arrows
  obtain ⟨fd__law_heap, F__law_heap⟩ := D.def_ 16 (d := d__law_heap) rfl
  have F__law_heap : FnP K "_law_heap" s__law_heap fd__law_heap := F__law_heap
  obtain ⟨fd__law_spoilt, F__law_spoilt⟩ := D.def_ 17 (d := d__law_spoilt) rfl
  have F__law_spoilt : FnP K "_law_spoilt" s__law_spoilt fd__law_spoilt := F__law_spoilt
  obtain ⟨fd__law_whole, F__law_whole⟩ := D.def_ 18 (d := d__law_whole) rfl
  have F__law_whole : FnP K "_law_whole" s__law_whole fd__law_whole := F__law_whole
  obtain ⟨fd__law_right, F__law_right⟩ := D.def_ 19 (d := d__law_right) rfl
  have F__law_right : FnP K "_law_right" s__law_right fd__law_right := F__law_right
  obtain ⟨fd__law_form, F__law_form⟩ := D.def_ 20 (d := d__law_form) rfl
  have F__law_form : FnP K "_law_form" s__law_form fd__law_form := F__law_form
  obtain ⟨fd__law_told, F__law_told⟩ := D.def_ 21 (d := d__law_told) rfl
  have F__law_told : FnP K "_law_told" s__law_told fd__law_told := F__law_told
  obtain ⟨fd_law, F_law⟩ := D.def_ 22 (d := d_law) rfl
  have F_law : FnP K "law" s_law fd_law := F_law
  have e := hfa.symm.trans T.g_law
  cases e
  have b := FunD.bindsA (ps := ["script"]) F_law fun _ _ _ _ _ _ us hl => match us, hl with | [_], _ => rfl
  refine ⟨fd_law, fun s v => b s [v] rfl, fun base _ _ => ?_⟩
  have H_is_whole := ok_is_whole (P := P) (w := w) (base := base) T F_is_whole
  have H__law_spread := ok__law_spread (P := P) (w := w) (base := base) T F__law_spread
  have H__law_open := ok__law_open (P := P) (w := w) (base := base) T F__law_open
  have H__law_anew := ok__law_anew (P := P) (w := w) (base := base) T F__law_anew
  have H__law_whole := ok__law_whole (P := P) (w := w) (base := base) T F__law_whole
  have H__law_form := ok__law_form (P := P) (w := w) (base := base) T F__law_form
  have H_is_whole_to := ok_is_whole_to (P := P) (w := w) (base := base) T F_is_whole_to H_is_whole
  have H_is_prime := ok_is_prime (P := P) (w := w) (base := base) T F_is_prime H_is_whole
  have H__law_take := ok__law_take (P := P) (w := w) (base := base) T F__law_take H__law_spread
  have H__law_right := ok__law_right (P := P) (w := w) (base := base) T F__law_right H__law_whole
  have H_need_prime := ok_need_prime (P := P) (w := w) (base := base) T F_need_prime H_is_prime
  have H_is_heap := ok_is_heap (P := P) (w := w) (base := base) T F_is_heap H_is_whole_to
  have H__is_arrow := ok__is_arrow (P := P) (w := w) (base := base) T F__is_arrow H_is_whole_to
  have H__law_one := ok__law_one (P := P) (w := w) (base := base) T F__law_one H__law_take
  have H__law_arrows := ok__law_arrows (P := P) (w := w) (base := base) T F__law_arrows H__law_take
  have H__law_heap := ok__law_heap (P := P) (w := w) (base := base) T F__law_heap H__law_take
  have H_Net__init := ok_Net__init (P := P) (w := w) (base := base) T F_Net__init H_is_whole_to H_need_prime H__is_arrow
  have H_need_heap := ok_need_heap (P := P) (w := w) (base := base) T F_need_heap H_is_heap
  have H__law_prime := ok__law_prime (P := P) (w := w) (base := base) T F__law_prime H__law_one
  have H__law_spoilt := ok__law_spoilt (P := P) (w := w) (base := base) T F__law_spoilt H__law_take H__law_one
  have H_form := ok_form (P := P) (w := w) (base := base) T F_form H_need_heap
  have H__law_told := ok__law_told (P := P) (w := w) (base := base) T F__law_told H_form
  exact okF_law (P := P) (w := w) (base := base) T F_law H_Net__init H_is_heap H__law_open H__law_anew H__law_take H__law_prime H__law_arrows H__law_heap H__law_spoilt H__law_right H__law_form H__law_told
end K13
open PySem PySem.W PySem.Calls PyProof.Rows
set_option maxRecDepth 100000 in
set_option maxHeartbeats 0 in
theorem PySem.Challenge.cw_rootrooms_k13_heaps_and_their_form_holds : PySem.Challenge.rw_rootrooms_k13_heaps_and_their_form.Holds := by
  w_on; o_law
  refine HandSHeadRun.head_any (r := OpenLaw.row PySem.Challenge.rw_rootrooms_k13_heaps_and_their_form) (q := view (OpenLaw.row PySem.Challenge.rw_rootrooms_k13_heaps_and_their_form).prog [39]) (H := K13.hk) (ob := K13.ob) (M := 4000) (loose := K13.looseNames) (d := HandSHeadRun.topDef (OpenLaw.row PySem.Challenge.rw_rootrooms_k13_heaps_and_their_form).prog 39) (kwd := []) K13.ob_eq
    (by kernel_rfl) (fun s => by kernel_rfl) K13.run (by kernel_rfl) (by kernel_rfl) (by kernel_rfl) (by rfl) (by first | assumption | decide +kernel) (by decide +kernel) ⟨rfl, rfl, rfl, rfl, rfl, by decide +kernel⟩ ?hw ?hc
  case hw => w_witness2
  case hc =>
    refine XA.walk_at (l := PySem.Challenge.rw_rootrooms_k13_heaps_and_their_form) (n := 63) (x := "script") rfl (by decide) (by kernel_rfl) ?F
    intro w mg fa h Y G hmg0
    obtain ⟨K, KX, c⟩ := Y
    have hmg : mg ("law" : PySem.Str) = some (.ref fa) := by
      have e : (HandSHeadRun.topDef (OpenLaw.row PySem.Challenge.rw_rootrooms_k13_heaps_and_their_form).prog 39).name = ("law" : PySem.Str) := by kernel_rfl
      rw [← e]
      exact hmg0
    obtain ⟨fd, hb, hF⟩ := K13.law_ok (P := (PySem.Challenge.rw_rootrooms_k13_heaps_and_their_form).prog) (w := w) KX G hmg c
    exact ⟨K, fd, K13.sp_law K, KX, hb, fun H a ns hl _ hS => ⟨a, ns, rfl, hS, hl, fun _ => rfl⟩, hF⟩

