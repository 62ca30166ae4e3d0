import PyProof.Rows.All
import Wide.All
import OpenK.AllK
import Wide.FinOn
import HandS.ForMost
import HandS.ForExc
import HandS.More
import HandS.Wide
import HandS.Style
import HandS.Flow
import HandS.SetFor
import HandS.Defaults
import HandS.IsInst
import HandS.ExcIs
import HandS.ExcValue
import HandS.Conv
import HandS.TupAny
import HandS.Deep
import HandS.Codes
import HandS.Head0
import HandS.Head1
import HandS.Head2
import HandS.HeadEnd
import HandS.HeadHook1
import HandS.HeadHook2
import HandS.HeadHook3
import HandS.HeadHook4
import HandS.TupMul
import HandS.Zip
import PySem.Challenge.RW_rootrooms_k02_what_is_a_matrix
set_option Elab.async false
set_option linter.all false
set_option maxRecDepth 100000
set_option maxHeartbeats 4000000
/-! XA: rules of our own over the hand layer. -/
namespace XA
open PySem PySem.Spec PyProof.Rows L2

/-! ### weaker readings -/
theorem OpR.imp {X : Cx} {f : Value → Value → Sem Value} {r r' : R2} (h : OpR X f r)
    (i : ∀ x y H Q, r' x y H Q → r x y H Q) : OpR X f r' :=
  fun pins s σ H x y v u Q I rx ry q => h pins s σ H x y v u Q I rx ry (i x y H Q q)

/-- a rest by a positive number -/
def rModP : R2 := fun x y H Q => ∃ i j, x = .int i ∧ y = .int j ∧ 0 < j ∧ Q (.int (i % j)) H
theorem op_modP {X : Cx} : OpR X (binaryOp .Mod) rModP := OpR.imp op_modN (by
  rintro x y H Q ⟨i, j, rfl, rfl, hj, q⟩
  refine ⟨i, j, rfl, rfl, by omega, ?_⟩
  show Q (V.int (i.fmod j)) H
  rw [Int.fmod_eq_emod_of_nonneg _ (by omega)]
  exact q)
/-- a whole part by a positive number below 2 ^ 30 -/
def rDivP : R2 := fun x y H Q => ∃ i j, x = .int i ∧ y = .int j ∧ (0 < j ∧ j < 1073741824) ∧ Q (.int (i / j)) H
theorem op_divP {X : Cx} : OpR X (binaryOp .FloorDiv) rDivP := OpR.imp op_fdivN (by
  rintro x y H Q ⟨i, j, rfl, rfl, ⟨hj, hk⟩, q⟩
  refine ⟨i, j, rfl, rfl, ⟨by omega, by omega⟩, ?_⟩
  show Q (V.int (i.fdiv j)) H
  rw [Int.fdiv_eq_ediv_of_nonneg _ (by omega)]
  exact q)

/-! ### all of a list of ints -/
theorem truth_ints {prog : Program} {w : World} {A : Around} {ns : List Int} {its : List Value} (e : Vals (ns.map V.int) its) :
    TruthOf prog w A (fun i v => its.toArray[i]? = some v) (fun i => (ns.map fun n => n != 0).getD i false) := by
  intro i v s Q E hv hq
  have hv' : its[i]? = some v := by simpa using hv
  have hlt : i < ns.length := by
    have h1 : i < its.length := (List.getElem?_eq_some_iff.mp hv').1
    have h2 := e.length
    rw [List.length_map] at h2
    omega
  have hx : (ns.map V.int)[i]? = some (V.int ns[i]) := by
    rw [List.getElem?_map, List.getElem?_eq_getElem hlt] <;> rfl
  obtain ⟨u, hu, r⟩ := e.get hx
  rw [hv'] at hu
  cases hu
  obtain ⟨t, rfl⟩ := r
  have hg : (ns.map fun n => n != 0).getD i false = (ns[i] != 0) := by
    rw [List.getD_eq_getElem?_getD, List.getElem?_map, List.getElem?_eq_getElem hlt] <;> rfl
  have hq' : Q ((ns.map fun n => n != 0).getD i false) s := hq
  rw [hg] at hq'
  exact PyProof.Rows.truthy_int hq'
def rAllI (K : PySem.W.Frag) : List V → Hp → VK → Prop := fun vs H Q =>
  ∃ (a : Addr) (ns : List Int), vs = [V.ref a] ∧ SqL K H a (ns.map V.int) ∧ Q (.bl (ns.all fun n => n != 0)) H
theorem cr_allI {X : Cx} (hc : X.calm = true) : CallR X (.builtin "all") (rAllI X.K) := by
  intro pins s σ H vs us Q I r h
  obtain ⟨a, ns, rfl, hs, q⟩ := h
  obtain ⟨its, rv, hl, _⟩ := I.list hs
  rw [Vals.ref1 r]
  have hlen : its.toArray.size = (ns.map fun n => n != 0).length := by
    have := rv.length
    simp only [List.length_map] at this
    simp only [List.size_toArray, List.length_map, this]
  apply call_all_walk
  apply iter_any hl.isList
  intro s2 e2 st hne
  subst e2
  refine ⟨_, _, _, _, _, _, _, rfl,
    Walks.list (A := X.A.in1) (I.ok.hd hc) _ a hne its.toArray, st, truth_ints rv, ?_⟩
  intro h' tk hk
  have keep : ∀ b u, s.heap.get? b = some u → h'.get? b = some u := by
    intro b o eo
    apply hk b o
    · intro hm
      rcases List.mem_cons.mp hm with e1 | hm
      · have := Heap.lt_size eo
        rw [e1] at this
        exact Nat.lt_irrefl _ this
      · cases hm
    · exact Heap.get?_push_of_some _ eo
  refine ⟨.bl _, H, I.kept keep, ?_, q⟩
  show Value.bool _ = Value.bool _
  rw [hlen, L2.all_range, List.all_map]
  rfl

/-! ### the count of a truth in a list of truths -/
def isB (k : Bool) : Value → Bool
  | .bool b => b == k
  | _ => false
theorem countB (k : Bool) : ∀ bs : List Bool, (bs.map Value.bool).countP (isB k) = bs.count k
  | [] => rfl
  | b :: r => by
    rw [List.map_cons, List.countP_cons, List.count_cons, countB k r]
    rfl
def rCntB (K : PySem.W.Frag) : V → List V → Hp → VK → Prop := fun x xs H Q =>
  ∃ (p : Addr) (bs : List Bool) (k : Bool), x = .ref p ∧ xs = [.bl k] ∧ SqL K H p (bs.map V.bl) ∧ Q (.int (bs.count k : Nat)) H
theorem mt_countB {X : Cx} : MtR X "list.count" (rCntB X.K) := by
  intro pins s σ H x xs v us Q I rx rxs h
  obtain ⟨p, bs, k, rfl, rfl, hs, q⟩ := h
  cases rx
  obtain ⟨u, rfl, ru⟩ := rxs.one
  obtain rfl : u = Value.bool k := ru
  obtain ⟨its, rv, ⟨⟨cls, dd, data, sl⟩, n, ho, hc, hdn, hd⟩, hlen⟩ := I.list hs
  have hi := rv.bls
  simp only at hc hd
  subst hc hd hi
  refine call_meets PySem.F.slot_list_count ⟨_, ho, rfl⟩ PySem.F.entry_list_count (PySem.F.args_list_count_2 _ _)
    (SeqAt.list_countAt p _ n dd sl (.bool k) (isB k)) ⟨ho, ?_, ?_⟩
  · intro y hy
    have hy' : y ∈ bs.map Value.bool := by simpa using hy
    obtain ⟨b, _, rfl⟩ := List.mem_map.mp hy'
    exact SeqAt.EqAt.bool_bool b k
  · refine ⟨.int (bs.count k : Nat), H, I.tok _, ⟨s.toks, ?_⟩, q⟩
    rw [← countB]

/-! ### an exception of an own class, held by a name behind its suite -/
def ExH (cls : Value) (d : Option Addr) (a : Addr) : HO :=
  .ext fun h => ∃ (oe : Obj) (vs : Array Value), h.get? a = some oe ∧ Zc cls d oe ∧ oe.data = .fields vs
theorem exH_ok {P : Program} {w : World} {H : Hp} {h : Heap} {a : Addr} {cls : Value} {d : Option Addr} {oe : Obj} {vs : Array Value}
    (e : h.get? a = some oe) (z : Zc cls d oe) (f : oe.data = .fields vs) : ObjOk P w H h a (ExH cls d a) := by
  refine ⟨⟨oe, vs, e, z, f⟩, ⟨oe, e⟩, ?_⟩
  rintro h1 h2 ⟨o, v, q, r⟩ k
  exact ⟨o, v, k o q, r⟩
/-- an object that stands untracked and new since the entry is tracked from here on -/
theorem track {X : Cx} {pins : List (Addr × Obj)} {σ : L2.St} {H : Hp} {s : Shared} {a : Addr} {o : HO} (I : Inv X pins σ H s)
    (n0 : X.s_0.heap.get? a = none) (hn : H a = none) (hL : a ≠ X.env.locals) (hC : ∀ x c, X.env.cells.lookup x = some c → c ≠ a)
    (hP : ∀ p ∈ X.pn ++ pins, p.1 ≠ a) (new : ObjOk X.prog X.w (upd H a o) s.heap a o) : Inv X pins σ (upd H a o) s := by
  have ne0 : ∀ b u, X.s_0.heap.get? b = some u → b ≠ a := by
    intro b u e z
    rw [z, n0] at e
    cases e
  have neH : ∀ b u, H b = some u → b ≠ a := fun b u e => ne_of_none e hn
  refine ⟨I.ok, I.os, I.bare, ?_, I.loc, I.cell, ?_, ?_, ?_, ?_, I.len⟩
  · constructor
    · exact I.base.keep
    · exact I.base.slot
    · intro b u e n hx
      rw [upd_ne (ne0 b u e)]
      exact I.base.free b u e n hx
    · exact I.base.there
    · intro b xs e
      have q := I.base.tups b xs e
      rw [upd_ne (neH _ _ q)]
      exact q
    · intro b u v e
      have q := I.base.frzs b u v e
      rw [upd_ne (neH _ _ q)]
      exact q
    · intro b ps e
      obtain ⟨m, q⟩ := I.base.tbls b ps e
      exact ⟨m, by rw [upd_ne (neH _ _ q)]; exact q⟩
  · rw [upd_ne (Ne.symm hL)]
    exact I.free
  · intro x c e
    rw [upd_ne (hC x c e)]
    exact I.freeC x c e
  · intro p hp
    obtain ⟨e, n, r⟩ := I.pin p hp
    exact ⟨e, by rw [upd_ne (hP p hp)]; exact n, r⟩
  · intro b u e
    by_cases hb : b = a
    · subst hb
      rw [upd_same] at e
      cases e
      exact new
    · rw [upd_ne hb] at e
      refine (I.hok b u e).stay (fun c v _ q => q) (fun c q => ?_) (fun c xs q => ?_)
      · rw [upd_ne (neH _ _ q)]
        exact q
      · rw [upd_ne (neH _ _ q)]
        exact q

/-! ### try .. except C as e: suite, and what was caught stays known -/
/-- the ends behind the suite: e's slot is empty, the exception at a is tracked -/
def endsK (D : Ends) (i : Nat) (cls : Value) (d : Option Addr) (a : Addr) : Ends where
  nx := fun τ G => D.nx (τ.set i none) (upd G a (ExH cls d a))
  rt := fun v G => D.rt v (upd G a (ExH cls d a))
  bk := fun τ G => D.bk (τ.set i none) (upd G a (ExH cls d a))
  ct := fun τ G => D.ct (τ.set i none) (upd G a (ExH cls d a))
/-- what the clause wishes of an exception of the body -/
def wAsK (K : PySem.W.Frag) (c : Value) (i : Nat) (ts : Addr → Value → Option Addr → TS) (Wo : WX) (D : Ends) : WX := fun cls d σ H =>
  ∃ b, PySem.W.exmOne K cls c = some b ∧ (b = false → Wo cls d σ H) ∧
    (b = true → ∀ a, H a = none → ts a cls d (endsK D i cls d a) (σ.set i (some (.ref a))) H)
section
variable {X : Cx} {x n : Str} {c : Value} {i : Nat} {body suite : List Stmt} {b0 : Stmt} {np p1 p2 : Pos}
  {tb : WX → TS} {ts : Addr → Value → Option Addr → TS} {Wo : WX}
theorem ps_try_asK (hst : X.stack = X.env :: X.outer) (hfm : X.env.frame = some X.env.locals) (hex : X.ex = [])
    (hnd : X.N.Nodup) (hi : X.N[i]? = some n) (hlo : X.env.kindOf n = some .local) (hc : Names X x c) (tk : Takes X Wo)
    (hb : ∀ (W : WX) (pn : List (Addr × Obj)) (xe : Value → Shared → Prop), Takes (X.tr pn xe) W →
      PassesOwn (model X.prog X.w) X.A X.env xe → PSs (X.tr pn xe) body (tb W))
    (hsu : ∀ (a : Addr) (oe : Obj) (cls : Value) (d : Option Addr) (pn : List (Addr × Obj)), Zc cls d oe →
      (∃ vs, oe.data = .fields vs) → PSs (X.suite a ((a, oe) :: pn)) (b0 :: suite) (ts a cls d)) :
    PS X (.Try body [.ExceptHandler (some (.Name x np)) (some n) (b0 :: suite) p1] [] [] p2)
      (fun D σ H => tb (wAsK X.K c i ts Wo D) D σ H) := by
  refine ⟨?_⟩
  intro pins s σ H D I h
  have ok := I.ok
  have hfr : X.A.frames = some (X.env :: X.outer) := by
    rw [ok.frames, hst]
  have hlc : Loc X.env.scope n := Or.inl hlo
  apply wpAny_Try_except
  let xeT : Value → Shared → Prop := fun e t1 =>
    wpAny (model X.prog X.w) X.A (noteFrame e X.env) (fun _ t2 =>
      wpAny (model X.prog X.w) X.A (setFlight e none) (fun _ t3 =>
        wpAny (model X.prog X.w) X.A
          (handleBy e X.env [.ExceptHandler (some (.Name x np)) (some n) (b0 :: suite) p1])
          (SP X pins D) X.xe t3) X.xe t2) X.xe t1
  have takesT : Takes (X.tr (X.pn ++ pins) xeT) (wAsK X.K c i ts Wo D) := by
    intro u z hz
    obtain ⟨a, B, zI, pins', τ, G, cls, d, rfl, J', nb, up, sky, na, os, ag, b, hb1, hno, hyes⟩ := hz
    have J : Inv X pins τ G zI := J'.ofTry ok
    have sky' : Sky B (X.env :: X.outer) a (Zc cls d) X.env.locals z.heap := hst ▸ sky
    show wpAny _ _ (noteFrame (.ref a) X.env) _ _ _
    apply Sky.land Zc.steady hfr hfm sky'
    intro h3 fl3 up3
    have B0 : B.get? a = none := fl3.2.1
    -- a is none of the objects of the state without it, but perhaps a frame
    have zn : ∀ o, zI.heap.get? a = some o → a ∉ frs X.stack → False := by
      intro o e m
      have q := nb a o e m
      rw [B0] at q
      cases q
    have J3 : Inv X pins τ G { z with heap := h3 } := J.landed nb fl3.1 (up.trans up3) os ag
    obtain ⟨oe3, vs3, he3, hz3, hd3⟩ := fl3.there
    have nfr : a ∉ frs (X.env :: X.outer) := by
      intro hm
      obtain ⟨_, o', e', hnf⟩ := fl3.2.2.1.mem hm
      rw [he3] at e'
      cases e'
      exact hnf _ hd3
    have nfs : a ∉ frs X.stack := by
      rw [hst]
      exact nfr
    have nL : a ≠ X.env.locals := by
      intro q
      exact nfr (List.mem_filterMap.mpr ⟨X.env, List.mem_cons_self, by rw [hfm, q]⟩)
    have nF : a ∉ X.fs := by
      intro hm
      obtain ⟨e, he, q⟩ := List.mem_filterMap.mp hm
      exact nfr (List.mem_filterMap.mpr ⟨e, List.mem_cons_of_mem _ he, q⟩)
    have n0 : X.s_0.heap.get? a = none := by
      cases q : X.s_0.heap.get? a with
      | none => rfl
      | some o =>
        exfalso
        obtain ⟨o', q'⟩ := J.base.there a o q (by rw [hex]; exact fun m => nomatch m)
        exact zn o' q' nfs
    have nC : ∀ y k, X.env.cells.lookup y = some k → k ≠ a := by
      intro y k e q
      obtain ⟨v, o, ho, _⟩ := J.cell y k e
      rw [q] at ho
      exact zn o ho nfs
    have nP : ∀ p ∈ X.pn ++ pins, p.1 ≠ a := by
      intro p hp q
      obtain ⟨e, _⟩ := J.pin p hp
      rw [q] at e
      exact zn _ e nfs
    have S3 := J3.suite he3 hd3 na nL nF
    refine wpAny_handleBy_cons (codeAny_handlers_test ?_) (by intro q; cases q)
    have LT : PySem.W.Looks (model X.prog X.w) h3 (typeOf (.ref a)) cls := by
      intro A Q E t k q
      exact wpAny_typeOf_ref (k _ _ he3) (by rw [hz3.1]; exact q)
    have LM := PySem.W.exm_one (M := model X.prog X.w) J3.kIn LT hb1
    have asks : ∀ {Q E : Value → Shared → Prop}, Q c { z with heap := h3 } →
        wpAny (model X.prog X.w) (X.A.mark (some (.ref a))) (eval (.Name x np) X.env) Q E { z with heap := h3 } := by
      intro Q E q
      obtain ⟨hg, hdb, hm | ⟨hm, hv, hnn⟩⟩ := hc
      · exact ld_glob (X := X.suite a ((a, oe3) :: (X.pn ++ pins))) S3 hg hm q hdb
      · exact ld_blt (X := X.suite a ((a, oe3) :: (X.pn ++ pins))) S3 hg hm hv q hnn hdb
    refine asks (LM.here ?_)
    cases b with
    | true =>
      apply codeAny_handlers_suite_as
      apply HandSPX.lands_againZ fl3
      intro h4 fl4 up4
      have J4 : Inv X pins τ G { z with heap := h4 } :=
        J.landed nb fl4.1 ((up.trans up3).trans up4) os ag
      obtain ⟨oe4, vs4, he4, hz4, hd4⟩ := fl4.there
      have S4 := J4.suite he4 hd4 na nL nF
      refine store_ok (X := X.suite a ((a, oe4) :: (X.pn ++ pins))) (v := .ref a) S4 hnd hi hlc rfl ?_ (.inr hlo)
      intro s5 S5
      have run := (hsu a oe4 cls d (X.pn ++ pins) hz4 ⟨_, hd4⟩).run [] s5 _ G _ S5 (hyes rfl a na)
      refine wpAny_mono run ?_ (fun _ _ q => False.elim q)
      intro f s6 hsp
      have goes : ∀ {τ6 : L2.St} {G6 : Hp} {Q : Shared → Prop}, Inv (X.suite a ((a, oe4) :: (X.pn ++ pins))) [] τ6 G6 s6 →
          (∀ s7, Inv X pins (τ6.set i none) (upd G6 a (ExH cls d a)) s7 → Q s7) →
          wpAny (model X.prog X.w) X.A (do bindName X.env n .none; unbindBehindTheSuite X.env n p1)
            (fun _ s7 => Q s7) X.xe s6 := by
        intro τ6 G6 Q S6 hq
        obtain ⟨ea, ga, _⟩ := S6.pin (a, oe4) (List.mem_append_left _ List.mem_cons_self)
        have J6 : Inv X pins τ6 G6 s6 := S6.unsuite ok
        exact gone_ok (track J6 n0 ga nL nC nP (exH_ok ea hz4 hd4)) hnd hi hlo hq
      cases f with
      | next =>
        obtain ⟨τ6, G6, S6, q6⟩ := hsp
        exact goes S6 fun s7 J7 => ⟨_, _, J7, q6⟩
      | brk =>
        obtain ⟨τ6, G6, S6, q6⟩ := hsp
        exact goes S6 fun s7 J7 => ⟨_, _, J7, q6⟩
      | cont =>
        obtain ⟨τ6, G6, S6, q6⟩ := hsp
        exact goes S6 fun s7 J7 => ⟨_, _, J7, q6⟩
      | ret u =>
        obtain ⟨v6, τ6, G6, S6, r6, q6⟩ := hsp
        exact goes S6 fun s7 J7 => ⟨_, _, _, J7, r6, q6⟩
    | false =>
      show wpAny _ X.A (handleBy (.ref a) X.env []) _ _ _
      apply wpAny_handleBy_nil
      obtain ⟨k1, k2, k3, oe, vs, T, oT, ts', he, hz, hd, h1, hr⟩ := id fl3
      unfold PySem.passOn
      refine wpAny_bind (wpAny_field he hd h1 ?_)
      rw [if_neg (show ¬ ((Value.ref T == Value.none) = true) from by simp)]
      have fin : wpAny (model X.prog X.w) X.A (setFlight (.ref a) X.env.frame)
          (fun _ s4 => wpAny (model X.prog X.w) X.A (throw (.ref a) : Sem Flow) (SP X pins D) X.xe s4)
          X.xe { z with heap := h3 } := by
        rw [hfm]
        refine HandSPX.setFlight_upZ fl3 fun h4 hh4 up4 => wpAny_throw (tk _ _ ?_)
        have top : Sky B X.stack a (Zc cls d) X.env.locals h4 := Or.inr (Or.inr (by rw [hst]; exact hh4))
        exact ⟨a, B, zI, pins, τ, G, cls, d, rfl, J, nb, (up.trans up3).trans up4, top, na, os, ag, hno rfl⟩
      first
        | exact wpAny_bind (wpAny_pure (wpAny_bind fin))
        | exact wpAny_bind fin
  have run := (hb (wAsK X.K c i ts Wo D) (X.pn ++ pins) xeT takesT PassesOwn.looking).run [] s σ H D (I.toTry _) h
  refine wpAny_mono run ?_ (fun e s1 he => he)
  intro f s1 hsp
  cases f with
  | next =>
    obtain ⟨σ', H', J', q⟩ := hsp
    exact wpAny_execs_nil ⟨σ', H', J'.ofTry ok, q⟩
  | brk =>
    obtain ⟨σ', H', J', q⟩ := hsp
    exact ⟨σ', H', J'.ofTry ok, q⟩
  | cont =>
    obtain ⟨σ', H', J', q⟩ := hsp
    exact ⟨σ', H', J'.ofTry ok, q⟩
  | ret u =>
    obtain ⟨v, σ', H', J', r, q⟩ := hsp
    exact ⟨v, σ', H', J'.ofTry ok, r, q⟩
end

/-! ### isinstance of anything with a class -/
inductive TyZ (K : PySem.W.Frag) (H : Hp) : V → Value → Prop where
  | x {v : V} {t : Value} (h : TyX K H v t) : TyZ K H v t
  | exc {a D : Addr} (C : ExcC K D) (h : H a = some (ExH (.ref D) none a)) : TyZ K H (.ref a) (.ref D)
def rIsZ (K : PySem.W.Frag) : List V → Hp → VK → Prop := fun xs H Q =>
  ∃ (x c : V) (t u : Value) (b : Bool), xs = [x, c] ∧ ClsV c u ∧ TyZ K H x t ∧ PySem.W.kitOne K t u = some b ∧ Q (.bl b) H
theorem call_isZ {X : Cx} : CallR X (.builtin "isinstance") (rIsZ X.K) := by
  intro pins s σ H xs us Q I r h
  obtain ⟨x, c, t, u, b, rfl, k, ty, e, q⟩ := h
  cases ty with
  | x ty => exact call_isi pins s σ H _ us Q I r ⟨x, c, t, u, b, rfl, k, ty, e, q⟩
  | @exc a D C hx =>
    obtain ⟨u1, u2, rfl, r1, r2⟩ := vals2 r
    have e2 := k.eq r2
    subst e2
    cases (show u1 = Value.ref a from r1)
    obtain ⟨⟨oe, vs, hget, hz, hv⟩, _⟩ := I.hok a _ hx
    have J : PySem.W.InstAt s.heap a oe D none := by
      obtain ⟨oc, od, oda, osl⟩ := oe
      obtain ⟨h1, h2⟩ := hz
      dsimp only at h1 h2 hv
      subst h1 h2 hv
      exact ⟨hget, rfl, rfl, trivial⟩
    exact PySem.W.kia_one (PySem.W.handS_kitx_exc C.hg C.hk C.hs C.hd C.ha C.hn C.ht C.hm) I.kIn J e
      (fun z => nomatch z) fun tk => ⟨.bl b, H, I.tok tk, rfl, q⟩

/-! ### a call with keywords that may raise, in a try -/
def tCallNS (n m : Nat) (sp : Sp) (gV : List V → List V → List V) (E : L2.St → XK) (t tk : TA) : TE := fun σ H Q =>
  t σ H fun vs H1 => tk σ H1 fun zs H2 => vs.length = n ∧ zs.length = m ∧ sp (gV vs zs) H2 Q (E σ)
section
variable {X : Cx} {CX : CXT} {k n : Nat} {f : Addr} {fd : FuncData} {ps ks : List Str} {sp : Sp} {E : L2.St → XK} {x : Str} {p pos : Pos} {e : Expr}
  {es : List Expr} {kws : List Keyword} {t tk : TA} {g : List Value → List Value → List Value} {gV : List V → List V → List V}
theorem pe_callNS (F : FnOk X.prog X.w X.K X.mg X.base CX k f fd ps sp) (hr : Room k X.A) (hg : Gl X x) (hm : X.mg x = some (.ref f))
    (hk : PySem.W.keepIn X.K (.ref f) = true) (hb : KBn X.K fd ps n ks g gV) (hx : ∀ σ, PassesAt CX X σ (E σ))
    (ha : PA X (e :: es) t) (hkw : PK X kws tk) (hall : (backToKw pos (keywordEach kws X.env)).all (·.1.isSome) = true := by rfl)
    (hks : (backToKw pos (keywordEach kws X.env)).filterMap (·.1) = ks := by rfl)
    (hdb : (x == ("__debug__" : Str)) = false := by decide)
    (he : starEach (e :: es) X.env = (false, eval e X.env) :: starEach es X.env := by rfl)
    (hpl : ((backTo pos (starEach (e :: es) X.env)).any (·.1) || (backToKw pos (keywordEach kws X.env)).any (·.1.isNone)) = false := by rfl) :
    PE X (.Call (.Name x p) (e :: es) kws pos) (tCallNS n ks.length sp gV E t tk) := by
  refine ⟨fun pins s σ H Q I h => ?_⟩
  apply wpAny_Call_Name_kw
  refine ld_glob I hg hm ?_ hdb
  refine PySem.W.callWith_KW (h₀ := X.base) I.ok.mod.kin hk hall (thn (ha.run pos pins s σ H _ I h) ?_) hpl he
  rintro us s1 ⟨vs, H1, I1, r, q⟩
  refine thn (hkw.run pos pins s1 σ H1 _ I1 q) ?_
  rintro ws s2 ⟨zs, H2, I2, rz, l1, l2, q2⟩
  refine ⟨I2.kIn, ?_⟩
  rw [hks]
  have r2 := hb.rel r rz
  have bt := hb.to s2 us ws I2.kIn (r.length.symm.trans l1) (rz.length.symm.trans l2)
  refine wpAny_call (codeAny_mono (F.run X.A X.stack s2 H2 ⟨us, ks.zip ws⟩ (g us ws) (gV vs zs) Q (E σ) hr I2.env0 bt r2 q2) ?_)
  intro r s' hq
  cases r with
  | error e => exact hx σ pins H2 s2 e s' I2 hq
  | ok fl =>
    cases fl with
    | ret u => exact I2.after hq
    | next => exact False.elim hq
    | brk => exact False.elim hq
    | cont => exact False.elim hq
end
end XA

set_option Elab.async false
set_option linter.all false
set_option maxRecDepth 100000
set_option maxHeartbeats 4000000
/-! XB: a def of the text by its name; the steps of a reading. -/
namespace XA
open PySem PySem.Spec PyProof.Rows L2

abbrev FnP (K : PySem.W.Frag) (x : Str) (st : Stmt) (fd : FuncData) : Prop :=
  FunD K x x (defArgs st) (defBody st) (defScope st) [] [] (He.ga K x) fd
/-- the def called x keeps its promise -/
structure Has (P : Program) (w : World) (K : PySem.W.Frag) (mg : Str → Option Value) (base : Heap) (CX : CXT) (k : Nat) (x : Str) (ps : List Str) (sp : Sp) : Prop where
  fn : ∃ fd, FnOk P w K mg base CX k (He.ga K x) fd ps sp ∧ Binds K fd ps []
  kp : PySem.W.keepIn K (.ref (He.ga K x)) = true
  gl : mg x = some (.ref (He.ga K x))
/-- the same, with keyword-only parameters ks behind n others -/
structure HasK (P : Program) (w : World) (K : PySem.W.Frag) (mg : Str → Option Value) (base : Heap) (CX : CXT) (k : Nat) (x : Str) (ps : List Str) (n : Nat) (ks : List Str) (sp : Sp) : Prop where
  fn : ∃ fd, FnOk P w K mg base CX k (He.ga K x) fd ps sp ∧ KBn K fd ps n ks (fun us ws => us ++ ws) (fun vs zs => vs ++ zs)
  kp : PySem.W.keepIn K (.ref (He.ga K x)) = true
  gl : mg x = some (.ref (He.ga K x))
theorem kbn_of {K : PySem.W.Frag} {fd : FuncData} {ps : List Str} {n : Nat} {ks : List Str}
    (h : ∀ us ws : List Value, us.length = n → ws.length = ks.length → bindArgs fd ⟨us, ks.zip ws⟩ = pure (ps.zip (us ++ ws))) :
    KBn K fd ps n ks (fun us ws => us ++ ws) (fun vs zs => vs ++ zs) :=
  ⟨fun _ us ws _ h1 h2 => BindsTo.of_eq (h us ws h1 h2), fun r1 r2 => r1.append r2⟩
section
variable {X : Cx} {CX : CXT} {k n : Nat} {ps ks : List Str} {sp : Sp} {E : XK} {x : Str} {p pos : Pos} {e : Expr} {es : List Expr} {kws : List Keyword} {t tk : TA}
theorem pe_has (h : Has X.prog X.w X.K X.mg X.base CX k x ps sp) (hr : Room k X.A) (hx : Passes CX X E) (ha : PA X (e :: es) t) (hg : Gl X x := by rfl)
    (hdb : (x == ("__debug__" : Str)) = false := by decide) (he : starEach (e :: es) X.env = (false, eval e X.env) :: starEach es X.env := by rfl)
    (hpl : (backTo pos (starEach es X.env)).any (·.1) = false := by rfl) :
    PE X (.Call (.Name x p) (e :: es) [] pos) (tCall sp [] E t) := by
  obtain ⟨fd, F, b⟩ := h.fn
  exact pe_call F hr hg h.gl h.kp b .nil hx ha hdb he hpl
theorem pe_hasS {E : L2.St → XK} (h : Has X.prog X.w X.K X.mg X.base CX k x ps sp) (hr : Room k X.A) (hx : ∀ σ, PassesAt CX X σ (E σ)) (ha : PA X (e :: es) t) (hg : Gl X x := by rfl)
    (hdb : (x == ("__debug__" : Str)) = false := by decide) (he : starEach (e :: es) X.env = (false, eval e X.env) :: starEach es X.env := by rfl)
    (hpl : (backTo pos (starEach es X.env)).any (·.1) = false := by rfl) :
    PE X (.Call (.Name x p) (e :: es) [] pos) (tCallS sp E t) := by
  obtain ⟨fd, F, b⟩ := h.fn
  exact pe_callS F hr hg h.gl h.kp b hx ha hdb he hpl
theorem pe_hasK (h : HasK X.prog X.w X.K X.mg X.base CX k x ps n ks sp) (hr : Room k X.A) (hx : Passes CX X E) (ha : PA X (e :: es) t) (hkw : PK X kws tk) (hg : Gl X x := by rfl)
    (hall : (backToKw pos (keywordEach kws X.env)).all (·.1.isSome) = true := by rfl)
    (hks : (backToKw pos (keywordEach kws X.env)).filterMap (·.1) = ks := by rfl)
    (hdb : (x == ("__debug__" : Str)) = false := by decide) (he : starEach (e :: es) X.env = (false, eval e X.env) :: starEach es X.env := by rfl)
    (hpl : ((backTo pos (starEach (e :: es) X.env)).any (·.1) || (backToKw pos (keywordEach kws X.env)).any (·.1.isNone)) = false := by rfl) :
    PE X (.Call (.Name x p) (e :: es) kws pos) (tCallN n ks.length sp (fun vs zs => vs ++ zs) E t tk) := by
  obtain ⟨fd, F, b⟩ := h.fn
  exact pe_callN F hr hg h.gl h.kp b hx ha hkw hall hks hdb he hpl
theorem pe_hasKS {E : L2.St → XK} (h : HasK X.prog X.w X.K X.mg X.base CX k x ps n ks sp) (hr : Room k X.A) (hx : ∀ σ, PassesAt CX X σ (E σ)) (ha : PA X (e :: es) t) (hkw : PK X kws tk) (hg : Gl X x := by rfl)
    (hall : (backToKw pos (keywordEach kws X.env)).all (·.1.isSome) = true := by rfl)
    (hks : (backToKw pos (keywordEach kws X.env)).filterMap (·.1) = ks := by rfl)
    (hdb : (x == ("__debug__" : Str)) = false := by decide) (he : starEach (e :: es) X.env = (false, eval e X.env) :: starEach es X.env := by rfl)
    (hpl : ((backTo pos (starEach (e :: es) X.env)).any (·.1) || (backToKw pos (keywordEach kws X.env)).any (·.1.isNone)) = false := by rfl) :
    PE X (.Call (.Name x p) (e :: es) kws pos) (tCallNS n ks.length sp (fun vs zs => vs ++ zs) E t tk) := by
  obtain ⟨fd, F, b⟩ := h.fn
  exact pe_callNS F hr hg h.gl h.kp b hx ha hkw hall hks hdb he hpl
/-- repr of None, a truth -/
def rReprB : List V → Hp → VK → Prop := fun xs H Q => ∃ b : Bool, xs = [.bl b] ∧ Q (.str (if b then "True" else "False")) H
theorem call_reprB : CallR X (.builtin "repr") rReprB := by
  intro pins s σ H xs us Q I r h
  obtain ⟨b, rfl, q⟩ := h
  obtain ⟨u, rfl, ru⟩ := Vals.one r
  obtain rfl : u = Value.bool b := ru
  exact P.repr_of_bool ⟨.str (if b then "True" else "False"), H, I.tok _, ⟨_, rfl⟩, q⟩
end

/-- from a def's datum and its body -/
theorem has_of {P : Program} {w : World} {K : PySem.W.Frag} {mg : Str → Option Value} {base : Heap} {CX : CXT} {k : Nat} {x : Str} {ps : List Str} {sp : Sp} {st : Stmt} {fd : FuncData}
    (F : FnP K x st fd) (G : FnOk P w K mg base CX k (He.ga K x) fd ps sp) (gl : mg x = some (.ref (He.ga K x)))
    (h : ∀ (kV doc pm : Value) (an : Option Addr) (cdv ct : Value) (us : List Value), us.length = ps.length →
      bindArgs (PySem.W.fnOf x x (defArgs st) (defBody st) (defScope st) .none kV doc pm an cdv ct) ⟨us, []⟩ = pure (ps.zip us)) :
    Has P w K mg base CX k x ps sp := ⟨⟨fd, G, F.bindsN h⟩, F.kp, gl⟩
theorem hasK_of {P : Program} {w : World} {K : PySem.W.Frag} {mg : Str → Option Value} {base : Heap} {CX : CXT} {k n : Nat} {x : Str} {ps ks : List Str} {sp : Sp} {st : Stmt} {fd : FuncData}
    (F : FnP K x st fd) (G : FnOk P w K mg base CX k (He.ga K x) fd ps sp) (gl : mg x = some (.ref (He.ga K x)))
    (h : ∀ (kV doc pm : Value) (an : Option Addr) (cdv ct : Value) (us ws : List Value), us.length = n → ws.length = ks.length →
      bindArgs (PySem.W.fnOf x x (defArgs st) (defBody st) (defScope st) .none kV doc pm an cdv ct) ⟨us, ks.zip ws⟩ = pure (ps.zip (us ++ ws))) :
    HasK P w K mg base CX k x ps n ks sp := by
  obtain ⟨oc, od, dV, kV, doc, pm, an, cdv, ct, osl, rfl, lk, hcd, hD, hK⟩ := id F.ex
  rcases hD with ⟨_, rfl⟩ | ⟨e, _⟩
  · exact ⟨⟨_, G, kbn_of (h kV doc pm an cdv ct)⟩, F.kp, gl⟩
  · exact absurd rfl e

/-! ### what is handed about -/
/-- None, a truth, a number, a text, a list, a tuple -/
inductive Pl (H : Hp) : V → Prop where
  | non : Pl H .non
  | bl (b : Bool) : Pl H (.bl b)
  | int (i : Int) : Pl H (.int i)
  | str (x : Str) : Pl H (.str x)
  | lst {a : Addr} {xs : List V} (e : H a = some (.lst xs)) : Pl H (.ref a)
  | tup {a : Addr} {xs : List V} (e : H a = some (.tup xs)) : Pl H (.ref a)
def tyN (H : Hp) : V → String
  | .non => "NoneType"
  | .bl _ => "bool"
  | .int _ => "int"
  | .str _ => "str"
  | .ref a => match H a with
    | some (.tup _) => "tuple"
    | _ => "list"
  | _ => "?"
theorem Pl.ty {K : PySem.W.Frag} {H : Hp} {x : V} (h : Pl H x) : TyZ K H x (.type (tyN H x)) := by
  cases h with
  | non => exact .x (.base .non)
  | bl b => exact .x (.base (.bl b))
  | int i => exact .x (.base (.int i))
  | str s => exact .x (.base (.str s))
  | @lst a xs e =>
    have h1 : tyN H (.ref a) = "list" := by simp only [tyN, e]
    rw [h1]
    exact .x (.base (.lst e))
  | @tup a xs e =>
    have h1 : tyN H (.ref a) = "tuple" := by simp only [tyN, e]
    rw [h1]
    exact .x (.base (.tup e))
theorem tyN_mem {H : Hp} {x : V} (h : Pl H x) : tyN H x = "NoneType" ∨ tyN H x = "bool" ∨ tyN H x = "int" ∨ tyN H x = "str" ∨ tyN H x = "tuple" ∨ tyN H x = "list" := by
  cases h with
  | non => exact Or.inl rfl
  | bl b => exact Or.inr (Or.inl rfl)
  | int i => exact Or.inr (Or.inr (Or.inl rfl))
  | str s => exact Or.inr (Or.inr (Or.inr (Or.inl rfl)))
  | lst e => exact Or.inr (Or.inr (Or.inr (Or.inr (Or.inr (by simp only [tyN, e])))))
  | tup e => exact Or.inr (Or.inr (Or.inr (Or.inr (Or.inl (by simp only [tyN, e])))))
theorem kit_nm {K : PySem.W.Frag} {a b : String} (ha : a = "NoneType" ∨ a = "bool" ∨ a = "int" ∨ a = "str" ∨ a = "tuple" ∨ a = "list")
    (hb : b = "int" ∨ b = "bool" ∨ b = "tuple" ∨ b = "list" ∨ b = "str") :
    PySem.W.kitOne K (.type a) (.type b) = some (decide (a = b) || (decide (a = "bool") && decide (b = "int"))) := by
  apply kit_ty
  rcases ha with rfl | rfl | rfl | rfl | rfl | rfl <;> rcases hb with rfl | rfl | rfl | rfl | rfl <;> decide +kernel
def xInt : V → Bool
  | .int _ => true
  | _ => false
def xBl : V → Bool
  | .bl _ => true
  | _ => false
theorem tyN_int {H : Hp} {x : V} (h : Pl H x) : decide (tyN H x = "int") = xInt x := by
  cases h with
  | lst e => simp [tyN, e, xInt]
  | tup e => simp [tyN, e, xInt]
  | _ => rfl
theorem tyN_bl {H : Hp} {x : V} (h : Pl H x) : decide (tyN H x = "bool") = xBl x := by
  cases h with
  | lst e => simp [tyN, e, xBl]
  | tup e => simp [tyN, e, xBl]
  | _ => rfl
/-- isinstance(x, int), isinstance(x, bool) of such -/
theorem isz_int {K : PySem.W.Frag} {H : Hp} {x : V} {Q : VK} (h : Pl H x) (q : Q (.bl (xInt x || xBl x)) H) : rIsZ K [x, .ty "int"] H Q := by
  refine ⟨x, .ty "int", .type (tyN H x), .type "int", _, rfl, .ty _, h.ty, kit_nm (tyN_mem h) (Or.inl rfl), ?_⟩
  rw [tyN_int h, tyN_bl h]
  simpa using q
theorem isz_bl {K : PySem.W.Frag} {H : Hp} {x : V} {Q : VK} (h : Pl H x) (q : Q (.bl (xBl x)) H) : rIsZ K [x, .ty "bool"] H Q := by
  refine ⟨x, .ty "bool", .type (tyN H x), .type "bool", _, rfl, .ty _, h.ty, kit_nm (tyN_mem h) (Or.inr (Or.inl rfl)), ?_⟩
  rw [tyN_bl h]
  simpa using q
theorem Pl.mono {H H' : Hp} {x : V} (h : Pl H x) (s : Same H H') : Pl H' x := by
  cases h with
  | non => exact .non
  | bl b => exact .bl b
  | int i => exact .int i
  | str x => exact .str x
  | lst e => exact .lst (s _ _ e)
  | tup e => exact .tup (s _ _ e)
theorem same_upd {H : Hp} {p : Addr} {o : HO} (h : H p = none) : Same H (upd H p o) := fun b x e => by
  rw [upd_ne (ne_of_none e h)]
  exact e

end XA

set_option Elab.async false
set_option linter.all false
set_option maxRecDepth 100000
set_option maxHeartbeats 4000000
/-! XC: the pen that draws; loops over enumerate. -/
namespace XA
open PySem PySem.Spec PyProof.Rows L2

theorem for_enumL {K : PySem.W.Frag} {a : Addr} {xs : List V} {g : TG} {tb : TS} {D : Ends} {σ : L2.St} {H : Hp}
    (Pv : Nat → L2.St → Hp → Prop) (h0 : Pv 0 σ H) (hq : ∀ i σ H, Pv i σ H → SqL K H a xs)
    (hs : ∀ (i : Nat) (x : V) (T : Addr) (σ : L2.St) (H : Hp), xs[i]? = some x → Pv i σ H → H T = none →
      g (.ref T) σ (upd H T (.tup [.int (i : Nat), x])) fun σ2 H2 => tb { D with nx := Pv (i + 1), ct := Pv (i + 1), bk := D.nx } σ2 H2)
    (hd : ∀ σ H, Pv xs.length σ H → D.nx σ H) :
    ∃ W : Nat → Nat → L2.St → Hp → Prop, (∃ m, W 0 m σ H) ∧ ∀ i m σ H, W i m σ H →
      ((Ite K a).stop i H ∧ D.nx σ H) ∨ ((Ite K a).go i H ∧ ∃ N : L2.St → Hp → Prop, (∀ σ' H', N σ' H' → ∃ m', m' < m ∧ W (i + 1) m' σ' H') ∧
        ∀ v H', (Ite K a).yld i H v H' → g v σ H' fun σ2 H2 => tb { D with nx := N, ct := N, bk := D.nx } σ2 H2) := by
  refine ⟨fun i m σ H => m = xs.length - i ∧ i ≤ xs.length ∧ Pv i σ H, ⟨xs.length, rfl, Nat.zero_le _, h0⟩, ?_⟩
  rintro i m σ H ⟨rfl, hi, p⟩
  have q := hq i σ H p
  by_cases hlt : i < xs.length
  · have hx : xs[i]? = some xs[i] := List.getElem?_eq_getElem hlt
    refine .inr ⟨⟨xs, _, q, hx⟩, Pv (i + 1), ?_, ?_⟩
    · intro σ' H' p'
      exact ⟨xs.length - (i + 1), by omega, rfl, hlt, p'⟩
    · rintro v H' ⟨T, x, rfl, hT, rfl, f⟩
      exact hs i x T σ H (f xs q) p hT
  · have e : i = xs.length := by omega
    subst e
    exact .inl ⟨⟨xs, q, Nat.le_refl _⟩, hd σ H p⟩

/-- all that was tracked, but at the pen, is as it was -/
def Oth (H H' : Hp) (pen : Addr) : Prop := ∀ b o, b ≠ pen → H b = some o → H' b = some o
theorem Oth.refl (H : Hp) (pen : Addr) : Oth H H pen := fun _ _ _ h => h
theorem Oth.trans {H H1 H2 : Hp} {pen : Addr} (a : Oth H H1 pen) (b : Oth H1 H2 pen) : Oth H H2 pen := fun c o n h => b c o n (a c o n h)
theorem Oth.of_same {H H' : Hp} {pen : Addr} (s : Same H H') : Oth H H' pen := fun b o _ h => s b o h
theorem Oth.new {H : Hp} {pen p : Addr} {o : HO} (h : H p = none) : Oth H (upd H p o) pen := Oth.of_same (same_upd h)
theorem Oth.seq {K : PySem.W.Frag} {H H' : Hp} {pen b : Addr} {xs : List V} (s : Oth H H' pen) (n : b ≠ pen) (h : SqL K H b xs) : SqL K H' b xs := by
  rcases h with (h | ⟨o, h⟩) | h
  · exact .inl (.inl (s _ _ n h))
  · exact .inl (.inr ⟨o, s _ _ n h⟩)
  · exact .inr h
theorem Oth.upd {H H' : Hp} {pen : Addr} {o : HO} (s : Oth H H' pen) : Oth H (L2.upd H' pen o) pen := fun b u n h => by
  rw [upd_ne n]
  exact s b u n h
/-- a pen: its cells, how often it was refilled (at most n), what is left -/
def Pen (H : Hp) (pen : Addr) (n : Int) : Prop := ∃ (c : Addr) (cells : List Int) (a l : Int),
  H pen = some (.lst [.ref c, .int a, .int l]) ∧ H c = some (.lst (cells.map V.int)) ∧ cells.length ≤ 12 ∧ 0 ≤ a ∧ a ≤ n
theorem Pen.mono {H : Hp} {pen : Addr} {n m : Int} (h : Pen H pen n) (e : n ≤ m) : Pen H pen m := by
  obtain ⟨c, cells, a, l, h1, h2, h3, h4, h5⟩ := h
  exact ⟨c, cells, a, l, h1, h2, h3, h4, by omega⟩
theorem pen_ne {H : Hp} {pen c : Addr} {cells : List Int} {a l : Int} (h1 : H pen = some (.lst [.ref c, .int a, .int l]))
    (h2 : H c = some (.lst (cells.map V.int))) : c ≠ pen := by
  rintro rfl
  rw [h1] at h2
  cases cells with
  | nil => simp at h2
  | cons x r => simp at h2
theorem Pen.same {H H' : Hp} {pen : Addr} {n : Int} (h : Pen H pen n) (s : Same H H') : Pen H' pen n := by
  obtain ⟨c, cells, a, l, h1, h2, h3⟩ := h
  exact ⟨c, cells, a, l, s _ _ h1, s _ _ h2, h3⟩
/-- the pen's own numbers are changed -/
theorem pen_put {H H' : Hp} {pen c : Addr} {cells : List Int} {a l a' l' n : Int} (h1 : H pen = some (.lst [.ref c, .int a, .int l]))
    (h2 : H c = some (.lst (cells.map V.int))) (h3 : cells.length ≤ 12) (s : Oth H H' pen) (g1 : 0 ≤ a') (g2 : a' ≤ n) :
    Pen (L2.upd H' pen (.lst [.ref c, .int a', .int l'])) pen n := by
  have ne := pen_ne h1 h2
  exact ⟨c, cells, a', l', upd_same, by rw [upd_ne ne]; exact s _ _ ne h2, h3, g1, g2⟩
theorem cut_take (xs : List V) (n : Nat) : cutV xs none (some (n : Int)) = xs.take n := by
  unfold cutV
  rw [HT.sIx_none, HT.sIx_nat, List.drop_zero, Nat.sub_zero]
  by_cases h : n ≤ xs.length
  · rw [Nat.min_eq_left h]
  · rw [Nat.min_eq_right (by omega), List.take_of_length_le (Nat.le_refl _), List.take_of_length_le (by omega)]
theorem cut_mid (xs : List V) (n m : Nat) : cutV xs (some (n : Int)) (some (m : Int)) = (xs.drop n).take (m - n) := by
  unfold cutV
  rw [HT.sIx_nat, HT.sIx_nat]
  by_cases h : n ≤ xs.length
  · rw [Nat.min_eq_left h]
    by_cases h2 : m ≤ xs.length
    · rw [Nat.min_eq_left h2]
    · rw [Nat.min_eq_right (by omega), List.take_of_length_le (by rw [List.length_drop]; omega), List.take_of_length_le (by rw [List.length_drop]; omega)]
  · have e : xs.drop n = [] := List.drop_eq_nil_of_le (by omega)
    have e2 : xs.drop (min n xs.length) = [] := List.drop_eq_nil_of_le (by omega)
    rw [e, e2, List.take_nil, List.take_nil]
theorem atI_in {α : Type} {xs : List α} {i : Int} (h0 : 0 ≤ i) (h1 : i < xs.length) : ∃ x, x ∈ xs ∧ atI xs i = some x ∧ xs[i.toNat]? = some x := by
  have hj : i.toNat < xs.length := by omega
  refine ⟨xs[i.toNat], List.getElem_mem hj, ?_, List.getElem?_eq_getElem hj⟩
  have e : atI xs ((i.toNat : Nat) : Int) = some xs[i.toNat] := atI_nat (List.getElem?_eq_getElem hj)
  rw [Int.toNat_of_nonneg h0] at e
  exact e
theorem atI_int {ns : List Int} {i : Int} (h0 : 0 ≤ i) (h1 : i < ns.length) : ∃ z, atI (ns.map V.int) i = some (.int z) ∧ ns[i.toNat]? = some z := by
  obtain ⟨x, _, h2, h3⟩ := atI_in (xs := ns.map V.int) h0 (by rw [List.length_map]; exact h1)
  rw [List.getElem?_map] at h3
  cases e : ns[i.toNat]? with
  | none => rw [e] at h3; cases h3
  | some z =>
    rw [e] at h3
    obtain rfl : V.int z = x := Option.some.inj h3
    exact ⟨z, h2, rfl⟩
theorem ixN_in {n : Nat} {i : Int} (h0 : 0 ≤ i) (h1 : i < n) : ixN n i = some i.toNat := by
  unfold ixN
  rw [if_pos h0, if_pos h1]
/-- the primes that spread a cell -/
def spreads : List Int := [2147483629, 2147483587, 2147483579, 2147483563, 2147483549, 2147483543, 2147483497, 2147483489, 2147483477, 2147483423, 2147483399, 2147483353, 2147483323]
theorem spread_at (i : Int) : ∃ v : Int, atI (spreads.map V.int) (i % 13) = some (.int v) ∧ 0 < v ∧ v < 2147483647 := by
  have h : ∀ j : Nat, j < 13 → ∃ v : Int, (spreads.map V.int)[j]? = some (.int v) ∧ 0 < v ∧ v < 2147483647 := by
    intro j hj
    have hl : j < spreads.length := hj
    refine ⟨spreads[j], by rw [List.getElem?_map, List.getElem?_eq_getElem hl] <;> rfl, ?_⟩
    have all : ∀ x ∈ spreads, 0 < x ∧ x < 2147483647 := by decide
    exact all _ (List.getElem_mem hl)
  obtain ⟨v, h1, h2, h3⟩ := h (i % 13).toNat (by omega)
  refine ⟨v, ?_, h2, h3⟩
  have e : i % 13 = (((i % 13).toNat : Nat) : Int) := by omega
  rw [e]
  exact atI_nat h1
theorem mul_in {a b A B : Int} (h1 : 0 ≤ a) (h2 : a ≤ A) (h3 : 0 ≤ b) (h4 : b ≤ B) : 0 ≤ a * b ∧ a * b ≤ A * B :=
  ⟨Int.mul_nonneg h1 h3, Int.mul_le_mul h2 h4 h3 (by omega)⟩
end XA

set_option Elab.async false
set_option linter.all false
set_option maxRecDepth 100000
set_option maxHeartbeats 4000000
/-! XD: data. -/
namespace XA
open PySem PySem.Spec PyProof.Rows L2
theorem dpAll_ints {K : PySem.W.Frag} {H : Hp} : ∀ ns : List Int, DpAll K H (ns.map V.int) (ns.map PyData.int)
  | [] => .nil
  | n :: r => .cons (.int n) (dpAll_ints r)
theorem lay_ints : ∀ ns : List Int, PyData.canLayAll0 (ns.map PyData.int) = true
  | [] => rfl
  | n :: r => by
    rw [List.map_cons]
    simp only [PyData.canLayAll0, PyData.canLay0, lay_ints r, Bool.and_self]
theorem depth_ints : ∀ ns : List Int, PyData.depthAll (ns.map PyData.int) = 0
  | [] => rfl
  | n :: r => by
    rw [List.map_cons]
    simp only [PyData.depthAll, PyData.depth, depth_ints r, Nat.max_self]
theorem shaped_ints (ns : List Int) : SeqAt.shaped (.list (ns.map PyData.int)) = true := by
  unfold SeqAt.shaped
  simp only [PyData.canLay0, PyData.depth, lay_ints, depth_ints]
  decide
theorem eqv_nil (ns : List Int) : PyData.eqv (.list (ns.map PyData.int)) (.list []) = ns.isEmpty := by
  cases ns with
  | nil => rfl
  | cons n r => rfl
/-- what a refused call leaves in a name: an exception of the class called D -/
def isExc (K : PySem.W.Frag) (F : Hp) (v : V) (D : Str) : Prop := ∃ a, v = .ref a ∧ F a = some (ExH (.ref (He.ga K D)) none a)
theorem isz_exc {K : PySem.W.Frag} {F G : Hp} {v : V} {D C : Str} {Q : VK} {b : Bool} (e : ExcC K (He.ga K D)) (h : isExc K F v D) (s : Same F G)
    (k : PySem.W.kitOne K (.ref (He.ga K D)) (.ref (He.ga K C)) = some b) (q : Q (.bl b) G) : rIsZ K [v, .ref (He.ga K C)] G Q := by
  obtain ⟨a, rfl, ha⟩ := h
  exact ⟨.ref a, .ref (He.ga K C), _, _, b, rfl, .own _, .exc e (s _ _ ha), k, q⟩
theorem isz_excT {K : PySem.W.Frag} {F G : Hp} {v : V} {D : Str} {n : String} {Q : VK} {b : Bool} (e : ExcC K (He.ga K D)) (h : isExc K F v D) (s : Same F G)
    (k : PySem.W.kitOne K (.ref (He.ga K D)) (.type n) = some b) (q : Q (.bl b) G) : rIsZ K [v, .ty n] G Q := by
  obtain ⟨a, rfl, ha⟩ := h
  exact ⟨.ref a, .ty n, _, _, b, rfl, .ty _, .exc e (s _ _ ha), k, q⟩
theorem isz_non {K : PySem.W.Frag} {G : Hp} {C : Str} {Q : VK} (k : PySem.W.kitOne K (.type "NoneType") (.ref (He.ga K C)) = some false) (q : Q (.bl false) G) :
    rIsZ K [.non, .ref (He.ga K C)] G Q := ⟨.non, .ref (He.ga K C), _, _, false, rfl, .own _, .x (.base .non), k, q⟩
end XA
namespace XA
open PySem PySem.Spec PyProof.Rows L2
theorem Pl.oth {H H' : Hp} {x : V} {pen : Addr} {n : Int} (h : Pl H x) (o : Oth H H' pen) (P : Pen H' pen n) : Pl H' x := by
  obtain ⟨c, cells, a, l, h1, _⟩ := P
  cases h with
  | non => exact .non
  | bl b => exact .bl b
  | int i => exact .int i
  | str x => exact .str x
  | @lst b xs e =>
    by_cases hb : b = pen
    · subst hb
      exact .lst h1
    · exact .lst (o _ _ hb e)
  | @tup b xs e =>
    by_cases hb : b = pen
    · subst hb
      exact .lst h1
    · exact .tup (o _ _ hb e)
end XA

set_option Elab.async false
set_option linter.all false
set_option maxRecDepth 100000
set_option maxHeartbeats 4000000
/-! XE: data that is handed about: its reading, isinstance, tuples cut, glued, repeated, shown. -/
namespace XA
open PySem PySem.Spec PyProof.Rows L2

/-! ### data; av: an address that no list of it stands at -/
mutual
inductive Da (K : PySem.W.Frag) (H : Hp) (av : Addr) : V → PyData → Prop
  | non : Da K H av .non .none
  | bl (b : Bool) : Da K H av (.bl b) (.bool b)
  | int (i : Int) : Da K H av (.int i) (.int i)
  | str (x : Str) : Da K H av (.str x) (.str x)
  | lst {a : Addr} {xs : List V} {ds : List PyData} : a ≠ av → SqL K H a xs → DaAll K H av xs ds → Da K H av (.ref a) (.list ds)
  | tup {a : Addr} {xs : List V} {ds : List PyData} : SqT K H a xs → DaAll K H av xs ds → Da K H av (.ref a) (.tuple ds)
inductive DaAll (K : PySem.W.Frag) (H : Hp) (av : Addr) : List V → List PyData → Prop
  | nil : DaAll K H av [] []
  | cons {v : V} {vs : List V} {d : PyData} {ds : List PyData} : Da K H av v d → DaAll K H av vs ds → DaAll K H av (v :: vs) (d :: ds)
end
section
variable {K : PySem.W.Frag} {H H' : Hp} {av : Addr}
theorem Same.seqT {a : Addr} {xs : List V} (e : Same H H') (h : SqT K H a xs) : SqT K H' a xs := by
  rcases h with (h | ⟨o, h⟩) | h
  · exact .inl (.inl (e _ _ h))
  · exact .inl (.inr ⟨o, e _ _ h⟩)
  · exact .inr h
theorem Oth.seqT {pen a : Addr} {xs ps : List V} (e : Oth H H' pen) (hp : H pen = some (.lst ps)) (h : SqT K H a xs) : SqT K H' a xs := by
  rcases h with (h | ⟨o, h⟩) | h
  · refine .inl (.inl (e _ _ ?_ h))
    rintro rfl
    rw [hp] at h
    cases h
  · refine .inl (.inr ⟨o, e _ _ ?_ h⟩)
    rintro rfl
    rw [hp] at h
    cases h
  · exact .inr h
mutual
theorem Da.dp : ∀ (d : PyData) (v : V), Da K H av v d → Dp K H v d
  | .none, _, h => by cases h; exact .non
  | .bool b, _, h => by cases h; exact .bl b
  | .int i, _, h => by cases h; exact .int i
  | .str x, _, h => by cases h; exact .str x
  | .list ds, _, h => by
    cases h with
    | lst n hs ha => exact .lst hs (DaAll.dp ds _ ha)
  | .tuple ds, _, h => by
    cases h with
    | tup hs ha => exact .tup hs (DaAll.dp ds _ ha)
  | .dict _, _, h => by cases h
theorem DaAll.dp : ∀ (ds : List PyData) (vs : List V), DaAll K H av vs ds → DpAll K H vs ds
  | [], _, h => by cases h; exact .nil
  | d :: ds, _, h => by
    cases h with
    | cons h1 h2 => exact .cons (Da.dp d _ h1) (DaAll.dp ds _ h2)
end
mutual
theorem Da.move (hl : ∀ a xs, a ≠ av → SqL K H a xs → SqL K H' a xs) (ht : ∀ a xs, SqT K H a xs → SqT K H' a xs) : ∀ (d : PyData) (v : V), Da K H av v d → Da K H' av v d
  | .none, _, h => by cases h; exact .non
  | .bool b, _, h => by cases h; exact .bl b
  | .int i, _, h => by cases h; exact .int i
  | .str x, _, h => by cases h; exact .str x
  | .list ds, _, h => by
    cases h with
    | lst n hs ha => exact .lst n (hl _ _ n hs) (DaAll.move hl ht ds _ ha)
  | .tuple ds, _, h => by
    cases h with
    | tup hs ha => exact .tup (ht _ _ hs) (DaAll.move hl ht ds _ ha)
  | .dict _, _, h => by cases h
theorem DaAll.move (hl : ∀ a xs, a ≠ av → SqL K H a xs → SqL K H' a xs) (ht : ∀ a xs, SqT K H a xs → SqT K H' a xs) : ∀ (ds : List PyData) (vs : List V), DaAll K H av vs ds → DaAll K H' av vs ds
  | [], _, h => by cases h; exact .nil
  | d :: ds, _, h => by
    cases h with
    | cons h1 h2 => exact .cons (Da.move hl ht d _ h1) (DaAll.move hl ht ds _ h2)
end
theorem Da.same {v : V} {d : PyData} (h : Da K H av v d) (s : Same H H') : Da K H' av v d := Da.move (fun _ _ _ q => s.seq q) (fun _ _ q => Same.seqT s q) d v h
theorem DaAll.same {vs : List V} {ds : List PyData} (h : DaAll K H av vs ds) (s : Same H H') : DaAll K H' av vs ds := DaAll.move (fun _ _ _ q => s.seq q) (fun _ _ q => Same.seqT s q) ds vs h
theorem Da.oth {v : V} {d : PyData} {ps : List V} (h : Da K H av v d) (hp : H av = some (.lst ps)) (s : Oth H H' av) : Da K H' av v d := Da.move (fun _ _ n q => s.seq n q) (fun _ _ q => Oth.seqT s hp q) d v h
theorem DaAll.oth {vs : List V} {ds : List PyData} {ps : List V} (h : DaAll K H av vs ds) (hp : H av = some (.lst ps)) (s : Oth H H' av) : DaAll K H' av vs ds := DaAll.move (fun _ _ n q => s.seq n q) (fun _ _ q => Oth.seqT s hp q) ds vs h
theorem DaAll.length : ∀ {vs : List V} {ds : List PyData}, DaAll K H av vs ds → vs.length = ds.length
  | _, _, .nil => rfl
  | _, _, .cons _ t => by rw [List.length_cons, List.length_cons, DaAll.length t]
theorem DaAll.get : ∀ {vs : List V} {ds : List PyData} {i : Nat} {v : V}, DaAll K H av vs ds → vs[i]? = some v → ∃ d, ds[i]? = some d ∧ Da K H av v d
  | _, _, _, _, .nil, e => by simp at e
  | _, _, 0, _, .cons r _, e => by simp at e; subst e; exact ⟨_, rfl, r⟩
  | _, _, i + 1, v, .cons _ t, e => by
    obtain ⟨d, h1, h2⟩ := DaAll.get (i := i) (v := v) t (by simpa using e)
    exact ⟨d, by simpa using h1, h2⟩
theorem DaAll.getD : ∀ {vs : List V} {ds : List PyData} {i : Nat} {d : PyData}, DaAll K H av vs ds → ds[i]? = some d → ∃ v, vs[i]? = some v ∧ Da K H av v d
  | _, _, _, _, .nil, e => by simp at e
  | _, _, 0, _, .cons r _, e => by simp at e; subst e; exact ⟨_, rfl, r⟩
  | _, _, i + 1, d, .cons _ t, e => by
    obtain ⟨v, h1, h2⟩ := DaAll.getD (i := i) (d := d) t (by simpa using e)
    exact ⟨v, by simpa using h1, h2⟩
theorem DaAll.append : ∀ {vs us : List V} {ds es : List PyData}, DaAll K H av vs ds → DaAll K H av us es → DaAll K H av (vs ++ us) (ds ++ es)
  | _, _, _, _, .nil, s => s
  | _, _, _, _, .cons r t, s => .cons r (DaAll.append t s)
theorem DaAll.take : ∀ {vs : List V} {ds : List PyData} (n : Nat), DaAll K H av vs ds → DaAll K H av (vs.take n) (ds.take n)
  | _, _, 0, _ => .nil
  | _, _, _ + 1, .nil => .nil
  | _, _, n + 1, .cons r t => .cons r (DaAll.take n t)
theorem DaAll.drop : ∀ {vs : List V} {ds : List PyData} (n : Nat), DaAll K H av vs ds → DaAll K H av (vs.drop n) (ds.drop n)
  | _, _, 0, r => r
  | _, _, _ + 1, .nil => .nil
  | _, _, n + 1, .cons _ t => DaAll.drop n t
theorem DaAll.ints : ∀ ns : List Int, DaAll K H av (ns.map V.int) (ns.map PyData.int)
  | [] => .nil
  | n :: r => .cons (.int n) (DaAll.ints r)
theorem DaAll.isInts : ∀ {vs : List V} {ns : List Int}, DaAll K H av vs (ns.map PyData.int) → vs = ns.map V.int
  | [], [], _ => rfl
  | _, n :: r, h => by
    rw [List.map_cons] at h
    cases h with
    | cons h1 h2 =>
      cases h1
      rw [DaAll.isInts h2, List.map_cons]
  | _ :: _, [], h => by cases h
theorem Da.isTup {v : V} {ds : List PyData} (h : Da K H av v (.tuple ds)) : ∃ a xs, v = .ref a ∧ SqT K H a xs ∧ DaAll K H av xs ds := by
  cases h with
  | tup hs ha => exact ⟨_, _, rfl, hs, ha⟩
theorem Da.isLst {v : V} {ds : List PyData} (h : Da K H av v (.list ds)) : ∃ a xs, v = .ref a ∧ a ≠ av ∧ SqL K H a xs ∧ DaAll K H av xs ds := by
  cases h with
  | lst n hs ha => exact ⟨_, _, rfl, n, hs, ha⟩
end

/-! ### kinds -/
def tyD : PyData → String
  | .none => "NoneType"
  | .bool _ => "bool"
  | .int _ => "int"
  | .str _ => "str"
  | .list _ => "list"
  | .tuple _ => "tuple"
  | .dict _ => "dict"
theorem Da.ty {K : PySem.W.Frag} {H : Hp} {av : Addr} {v : V} {d : PyData} (h : Da K H av v d) : TyX K H v (.type (tyD d)) := by
  cases h with
  | non => exact .base .non
  | bl b => exact .base (.bl b)
  | int i => exact .base (.int i)
  | str s => exact .base (.str s)
  | lst n hs ha =>
    rcases hs with (e | ⟨o, e⟩) | ⟨o, its, n, k, c, _⟩
    · exact .base (.lst e)
    · exact .base (.frz e)
    · exact .kList k c
  | tup hs ha =>
    rcases hs with (e | ⟨o, e⟩) | ⟨o, its, n, k, c, _⟩
    · exact .base (.tup e)
    · exact .fTuple e
    · exact .kTuple k c
/-- isinstance(d, T) -/
def isD (d : PyData) (T : String) : Bool := decide (tyD d = T) || (decide (tyD d = "bool") && decide (T = "int"))
theorem isz_d {K : PySem.W.Frag} {H : Hp} {av : Addr} {x : V} {d : PyData} {Q : VK} {T : String} (h : Da K H av x d)
    (hT : T = "int" ∨ T = "bool" ∨ T = "tuple" ∨ T = "list" ∨ T = "str") (q : Q (.bl (isD d T)) H) : rIsZ K [x, .ty T] H Q := by
  have hk : PySem.W.kitOne K (.type (tyD d)) (.type T) = some (isD d T) := by
    cases d with
    | dict z => cases h
    | none => exact kit_nm (Or.inl rfl) hT
    | bool z => exact kit_nm (Or.inr (Or.inl rfl)) hT
    | int z => exact kit_nm (Or.inr (Or.inr (Or.inl rfl))) hT
    | str z => exact kit_nm (Or.inr (Or.inr (Or.inr (Or.inl rfl)))) hT
    | tuple z => exact kit_nm (Or.inr (Or.inr (Or.inr (Or.inr (Or.inl rfl))))) hT
    | list z => exact kit_nm (Or.inr (Or.inr (Or.inr (Or.inr (Or.inr rfl))))) hT
  exact ⟨x, .ty T, .type (tyD d), .type T, _, rfl, .ty _, .x h.ty, hk, q⟩
/-- a whole number (no truth) -/
def whole : PyData → Bool
  | .int _ => true
  | _ => false

/-! ### tuples -/
def rCatD (K : PySem.W.Frag) : R2 := fun x y H Q => ∃ a b xs ys, x = .ref a ∧ y = .ref b ∧ SqT K H a xs ∧ SqT K H b ys ∧ xs.length + ys.length ≤ sizeLine ∧
  ∀ p H', Same H H' → SqT K H' p (xs ++ ys) → Q (.ref p) H'
theorem op_catD {X : Cx} : OpR X (binaryOp .Add) (rCatD X.K) := OpR.imp op_catA (by
  rintro x y H Q ⟨a, b, xs, ys, rfl, rfl, ha, hb, hl, q⟩
  refine ⟨a, b, xs, ys, rfl, rfl, ha, hb, hl, ?_, ?_, ?_⟩
  · rintro rfl
    exact q b H (Same.refl H) hb
  · rintro _ rfl
    exact q a H (Same.refl H) (by rw [List.append_nil]; exact ha)
  · intro _ _ p np
    exact q p _ (same_upd np) (.inl (.inl upd_same)))
theorem SlR.imp {X : Cx} {r r' : V → Option Int → Option Int → Hp → VK → Prop} (h : SlR X r) (i : ∀ x l u H Q, r' x l u H Q → r x l u H Q) : SlR X r' :=
  fun pins s σ H x v vl vu lo hi sl Q I rx hs pl pu q => h pins s σ H x v vl vu lo hi sl Q I rx hs pl pu (i _ _ _ _ _ q)
def rSlD (K : PySem.W.Frag) : V → Option Int → Option Int → Hp → VK → Prop := fun x lo hi H Q => ∃ a xs, x = .ref a ∧ SqT K H a xs ∧
  ∀ p H', Same H H' → SqT K H' p (cutV xs lo hi) → Q (.ref p) H'
theorem sl_tupD {X : Cx} : SlR X (rSlD X.K) := SlR.imp sl_tupA (by
  rintro x lo hi H Q ⟨a, xs, rfl, hx, q⟩
  refine ⟨a, xs, rfl, hx, ?_, ?_⟩
  · rintro ⟨h1, h2⟩
    refine q a H (Same.refl H) ?_
    have e : cutV xs lo hi = xs := by
      unfold cutV
      rw [h1, h2, List.drop_zero, Nat.sub_zero, List.take_length]
    rw [e]
    exact hx
  · intro _ p np
    exact q p _ (same_upd np) (.inl (.inl upd_same)))
end XA

set_option Elab.async false
set_option linter.all false
set_option maxRecDepth 100000
set_option maxHeartbeats 4000000
/-! XF: a tuple repeated; what is shown; the law's own def at the caller. -/
namespace XA
open PySem PySem.Spec PyProof.Rows L2
theorem tuple_mul_one (l : Addr) (items : Array Value) (n : Nat) (dd : Option Addr) (sl : Array (Option Value)) (u : Tok) :
    Meets (Builtin.«tuple.__mul__» ⟨[.ref l, .int 1 u], []⟩) (fun _ R s => s.heap.get? l = some { cls := .type "tuple", dict := dd, data := .seq items n, slots := sl } ∧
      R (.ok (.ret (Value.ref l))) s) :=
  .of_wp fun prog w A R s h => by
    obtain ⟨hp, g, d, tk, os⟩ := s
    obtain ⟨hl, h⟩ := h
    have f1 := AutoSeq1.idx_int
    have c1 : (items.isEmpty || (1 : Int) == 1) = true := by simp
    wp_walk using wpAny_loadPart' hl
    repeat (first
      | (refine wpAny_ite_false (decide_eq_false (by decide)) ?_; wp_walk using wpAny_loadPart' hl)
      | (refine wpAny_ite_true (decide_eq_true c1) ?_; wp_walk using wpAny_loadPart' hl))
    exact ⟨_, rfl, h⟩
theorem tuple_mul_zero (l : Addr) (items : Array Value) (n : Nat) (dd : Option Addr) (sl : Array (Option Value)) (u : Tok) (hi : items.isEmpty = false) :
    Meets (Builtin.«tuple.__mul__» ⟨[.ref l, .int 0 u], []⟩) (fun _ R s => s.heap.get? l = some { cls := .type "tuple", dict := dd, data := .seq items n, slots := sl } ∧
      R (.ok (.ret (Value.ref s.heap.objs.size))) { s with heap := s.heap.push { cls := Value.type "tuple", data := Data.seq #[] }, toks := s.toks }) :=
  .of_wp fun prog w A R s h => by
    obtain ⟨hp, g, d, tk, os⟩ := s
    obtain ⟨hl, h⟩ := h
    have f1 := AutoSeq1.idx_int
    have c1 : (items.isEmpty || (0 : Int) == 1) = false := by rw [hi]; rfl
    have c2 : (decide ((0 : Int) ≤ 0) || items.isEmpty) = true := by simp
    wp_walk using wpAny_loadPart' hl
    repeat (first
      | (refine wpAny_ite_false (decide_eq_false (by rw [c1]; exact Bool.false_ne_true)) ?_; wp_walk using wpAny_loadPart' hl)
      | (refine wpAny_ite_false (decide_eq_false (by decide)) ?_; wp_walk using wpAny_loadPart' hl)
      | (refine wpAny_ite_true (decide_eq_true c2) ?_; wp_walk using wpAny_loadPart' hl))
    exact ⟨_, rfl, h⟩
/-- a tuple (not empty) so often: k from 0 on -/
def rRepD (K : PySem.W.Frag) : R2 := fun x y H Q => ∃ l k xs, x = .ref l ∧ y = .int k ∧ SqT K H l xs ∧ xs ≠ [] ∧ 0 ≤ k ∧ (xs.length : Int) * k ≤ 1000000 ∧
  ∀ p H', Same H H' → SqT K H' p (List.replicate k.toNat xs).flatten → Q (.ref p) H'
theorem op_repD {X : Cx} : OpR X (binaryOp .Mult) (rRepD X.K) := by
  intro pins s σ H x y v u Q I rx ry h
  obtain ⟨l, k, xs, rfl, rfl, hT, hne, h0, hmul, q⟩ := h
  cases rx
  obtain ⟨t, rfl⟩ := ry
  obtain ⟨its, r, ⟨⟨cls, dd, data, sl⟩, ho, hc, n, hd⟩, hs⟩ := I.tuple hT
  simp only at hc hd
  subst hc hd
  have hle : its.length = xs.length := r.length.symm
  have hi : its.toArray.isEmpty = false := by
    cases its with
    | nil => exact absurd (List.eq_nil_of_length_eq_zero hle.symm) hne
    | cons a b => rfl
  have hpos : 1 ≤ xs.length := by
    cases xs with
    | nil => exact absurd rfl hne
    | cons a b => rw [List.length_cons]; omega
  have hk : k ≤ 1000000 := by
    have z : 1 * k ≤ (xs.length : Int) * k := Int.mul_le_mul_of_nonneg_right (by omega) h0
    omega
  have hsz0 : its.toArray.size = xs.length := by rw [List.size_toArray, hle]
  refine wpAny_binaryOp_repeat_ref (T := "tuple") (U := "int") (by decide) ⟨_, ho, rfl⟩ (fun s' => typeIs_int s' k t) noFill_tuple_mul F.fills_int_mul F.slot_int_rmul repeat_tuple F.slot_int_index.lookup
    (call_meets F.slot_int_rmul (typeIs_int s k t) F.entry_int_rmul (F.args_int_rmul_2 _ _) (int_rmul_tuple k t l its.toArray n dd sl) ⟨ho, rfl, ⟨_, ho, rfl⟩, ?_⟩)
  by_cases k0 : k = 0
  · subst k0
    refine call_meets F.slot_tuple_mul ⟨_, ho, rfl⟩ F.entry_tuple_mul (F.args_tuple_mul_2 _ _) (tuple_mul_zero l its.toArray n dd sl t hi) ⟨ho, ?_⟩
    have new := I.hok.fresh (Nat.le_refl s.heap.objs.size)
    refine ⟨.ref s.heap.objs.size, _, I.laid (t' := s.toks) (o := .tup []) (fun b ob q => Heap.get?_push_of_some _ q) (Nat.le_refl _) ?_, rfl, q _ _ (same_upd new) (.inl (.inl upd_same))⟩
    exact ⟨Nat.zero_le _, [], .nil, IsTup.new _ _⟩
  by_cases k1 : k = 1
  · subst k1
    refine call_meets F.slot_tuple_mul ⟨_, ho, rfl⟩ F.entry_tuple_mul (F.args_tuple_mul_2 _ _) (tuple_mul_one l its.toArray n dd sl t) ⟨ho, ?_⟩
    refine ⟨.ref l, H, I, rfl, q _ _ (Same.refl H) ?_⟩
    have e : (List.replicate (1 : Int).toNat xs).flatten = xs := by simp
    rw [e]
    exact hT
  have flen : (List.replicate k.toNat its).flatten.length ≤ sizeLine := by
    rw [PyProof.Rows.lm_len_rep_flat, hle, sizeLine_eq]
    have e : ((k.toNat * xs.length : Nat) : Int) = (xs.length : Int) * k := by
      rw [Int.natCast_mul, Int.toNat_of_nonneg h0, Int.mul_comm]
    omega
  have c0 : (decide (k < -(2 ^ 63)) || decide (k ≥ 2 ^ 63)) = false := by
    rw [decide_eq_false (by omega), decide_eq_false (by omega)] <;> rfl
  have c1 : (its.toArray.isEmpty || k == 1) = false := by
    rw [hi, Bool.false_or]
    exact beq_eq_false_iff_ne.mpr k1
  have c2 : (decide (k ≤ 0) || its.toArray.isEmpty) = false := by
    rw [hi, Bool.or_false]
    exact decide_eq_false (by omega)
  have c4 : Builtin.Tuple.tupleTooMany (((its.toArray.size : Nat) : Int) * k) = false := by
    unfold Builtin.Tuple.tupleTooMany
    rw [sizeLine_eq, hsz0]
    exact decide_eq_false (by omega)
  have c3 : ¬ ((its.toArray.size : Nat) : Int) * k > (2 ^ 63 - 1) / 8 := by
    rw [hsz0]
    omega
  refine call_meets F.slot_tuple_mul ⟨_, ho, rfl⟩ F.entry_tuple_mul (F.args_tuple_mul_2 _ _) (tuple_mulW l its.toArray n dd sl k t c0 c1 c2 c3 c4 (by rw [size_rep, List.size_toArray]; exact flen)) ⟨ho, ?_⟩
  rw [size_rep]
  have new := I.hok.fresh (Nat.le_refl s.heap.objs.size)
  refine ⟨.ref s.heap.objs.size, _, I.laid (t' := s.toks) (o := .tup (List.replicate k.toNat xs).flatten) (fun b ob q => Heap.get?_push_of_some _ q) (Nat.le_refl _) ?_, rfl, q _ _ (same_upd new) (.inl (.inl upd_same))⟩
  refine ⟨?_, _, r.rep k.toNat, IsTup.new _ _⟩
  rw [PyProof.Rows.lm_len_rep_flat] at flen ⊢
  rw [← hle]
  exact flen

/-! ### what is shown -/
def rReprD (K : PySem.W.Frag) : List V → Hp → VK → Prop := fun xs H Q => ∃ (x : V) (d : PyData), xs = [x] ∧ Dp K H x d ∧ d.showable = true ∧ d.hasDict = false ∧ d.depth ≤ 100 ∧ d.shown.length ≤ sizeLine ∧ Q (.str d.shown) H
theorem call_reprD {X : Cx} (hg : X.A.guards = some []) (hu : X.A.units + 150 < cLine) : CallR X (.builtin "repr") (rReprD X.K) := by
  intro pins s σ H xs us Q I r h
  obtain ⟨x, d, rfl, hd, h1, h2, h3, h4, q⟩ := h
  obtain ⟨u, rfl, ru⟩ := Vals.one r
  cases hd with
  | non =>
    obtain rfl : u = Value.none := ru
    exact P.repr_of_none ⟨.str "None", H, I.tok _, ⟨_, rfl⟩, q⟩
  | bl b =>
    obtain rfl : u = Value.bool b := ru
    exact P.repr_of_bool ⟨.str (if b then "True" else "False"), H, I.tok _, ⟨_, rfl⟩, q⟩
  | int i =>
    obtain ⟨t, rfl⟩ := ru
    exact P.repr_of_int (of_decide_eq_true h1) ⟨.str (toString i), H, I.tok _, ⟨_, rfl⟩, q⟩
  | str z =>
    obtain ⟨t, rfl⟩ := ru
    exact P.repr_of_str ⟨.str (reprText z), H, I.tok _, ⟨_, rfl⟩, q⟩ h4
  | @lst a ys ds hs ha =>
    obtain ⟨as, rd⟩ := Dp.reads I _ _ _ (.lst hs ha) ru
    obtain rfl : u = Value.ref a := ru
    refine repr_of_reads' rd h1 (PyData.noDict_hsm h2) hg (by omega) (fun b o e => e) (fun h' t tk hk => ?_) h4
    exact ⟨.str _, H, I.kept hk, ⟨_, rfl⟩, q⟩
  | @tup a ys ds hs ha =>
    obtain ⟨as, rd⟩ := Dp.reads I _ _ _ (.tup hs ha) ru
    obtain rfl : u = Value.ref a := ru
    refine repr_of_reads' rd h1 (PyData.noDict_hsm h2) hg (by omega) (fun b o e => e) (fun h' t tk hk => ?_) h4
    exact ⟨.str _, H, I.kept hk, ⟨_, rfl⟩, q⟩
end XA

set_option Elab.async false
set_option linter.all false
set_option maxRecDepth 100000
set_option maxHeartbeats 4000000
/-! XG: the law's own def, walked at the caller itself (nothing is being shown there). -/
namespace XA
open PySem PySem.Spec PyProof.Rows L2

/-- the def at f keeps its promise where it is called at A -/
def FnAt (P : Program) (w : World) (K : PySem.W.Frag) (mg : Str → Option Value) (base : Heap) (CX : CXT) (A : Around) (f : Addr) (fd : FuncData) (ps : List Str) (sp : Sp) : Prop :=
  ∀ (outer : List Env) (s : Shared) (H : Hp) (us : List Value) (vs : List V) (Q : VK) (E : XK), Env0 P w K mg base A outer s H →
    BindsTo s fd ⟨us, []⟩ (ps.zip us) → Vals vs us → sp vs H Q E → codeAny (model P w) A (.call (.ref f) ⟨us, []⟩) (CR CX outer P w H s Q E) s
theorem fnAt_of {P : Program} {w : World} {K : PySem.W.Frag} {mg : Str → Option Value} {base : Heap} {CX : CXT} {A : Around} {k : Nat} {x : Str} {N ps : List Str} {sp : Sp} {st : Stmt} {fd : FuncData}
    (F : FnP K x st fd) (S : FnScope N ps (defScope st)) (len : ∀ vs H Q E, sp vs H Q E → vs.length = ps.length) (hr : Room (k + 1) A)
    (body : ∀ (cdv : Value) (outer : List Env) (s : Shared) (H : Hp) (vs : List V) (Q : VK) (E : XK), Room k (A.deeper (envOfC x (defScope st) s.heap.objs.size (He.ga K x) cdv)) → sp vs H Q E →
      ∃ t, PSs (cxOf CX P w K mg base N x (defScope st) (He.ga K x) cdv A outer s H E) (defBody st) t ∧ t { nx := fun _ H' => Q .non H', rt := Q } (start N vs) H) :
    FnAt P w K mg base CX A (He.ga K x) fd ps sp := by
  obtain ⟨oc, od, dV, kV, doc, pm, an, cdv, ct, osl, rfl, lk, hcd, _, _⟩ := F.ex
  intro outer s H us vs Q E e0 hb r hsp
  have hl := len _ _ _ _ hsp
  have KX : K.In s.heap := by
    apply e0.mod.kin.keeps
    intro b o e
    exact (e0.bs b o e).1
  have lim : s.heap.NoLimit := by
    apply e0.mod.nolimit.keeps
    intro b o e
    exact (e0.bs b o e).1
  have kinds : ∀ y ∈ ps.zip us, (defScope st).names.lookup y.1 = some .local ∨
      ((defScope st).names.lookup y.1 = some .cell ∧ ((cellsFrom (s.heap.objs.size + 1) (defScope st).names []).lookup y.1).isSome = true) := by
    rintro ⟨n, v⟩ hy
    rcases S.par n (List.of_mem_zip hy).1 with q | q
    · exact Or.inl q
    · exact Or.inr ⟨q, PySem.W.cellsFrom_some _ _ _ (.inl q)⟩
  refine codeAny_call_function hr.depth (KX _ _ lk) rfl S.co S.gen rfl (PySem.W.codeRec_of KX hcd) (hb _ _ _ _ ?_)
  apply wpAny_newFunctionEnv_cells S.kind kinds
  intro env he s1 z
  subst he
  refine ⟨lim.keeps z.toInCall.keep, codeAny_func ?_⟩
  obtain ⟨t, ht, hq⟩ := body cdv outer s H vs Q E (hr.deeper _) hsp
  have I := inv_start (CX := CX) (E := E) S hr.hd e0 hl r z
  have run := ht.run [] s1 (start N vs) H _ I hq
  refine wpAny_mono run ?_ (fun e s' hs => hs)
  intro fl s' hs
  cases fl with
  | ret u =>
    obtain ⟨v, σ', H', J, rv, q⟩ := hs
    exact ⟨v, H', J.os, J.bare, J.base, J.hok, rv, q⟩
  | next =>
    obtain ⟨σ', H', J, q⟩ := hs
    exact ⟨.non, H', J.os, J.bare, J.base, J.hok, rfl, q⟩
  | brk =>
    obtain ⟨_, _, _, q⟩ := hs
    exact q.elim
  | cont =>
    obtain ⟨_, _, _, q⟩ := hs
    exact q.elim

theorem law_at {P : Program} {w : World} {K : PySem.W.Frag} {mg mb : Str → Option Value} {fa a : Addr} {fd : FuncData} {x : Str} {sp : Sp} {s₁ : Shared} {vs : List Value} {ns : List Int}
    (KX : K.In s₁.heap) (hns : s₁.heap.Ns mainGlobals mg) (hb : s₁.heap.Ns builtinsNs mb) (hbb : ∀ x : Str, x ≠ "__name__" → mb x = bootBuiltins x) (hlim : s₁.heap.NoLimit) (hg : s₁.gens = #[])
    (ha : s₁.heap.get? a = some { cls := .type "list", data := .seq vs.toArray }) (hi : IntsAre vs ns) (hl : ns.length ≤ sizeLine)
    (F : ∀ base : Heap, K.In base → base.Ns mainGlobals mg → FnAt P w K mg base CX0 callerA fa fd [x] sp) (bind : ∀ (s : Shared) (u : Value), BindsTo s fd ⟨[u], []⟩ [(x, u)])
    (hsp : ∀ H : Hp, Only H → SqL K H a (ns.map V.int) → sp [.ref a] H (fun v _ => v = .bl true) fun _ _ _ => False) :
    codeAny (model P w) callerA (.call (.ref fa) ⟨[.ref a], []⟩) (fun r s' => r = .ok (.ret (.bool true)) ∧ OldK s₁.heap s'.heap ∧ s'.os = s₁.os ∧ AllBare s'.gens) s₁ := by
  have rv := vals_ints hi
  have lenV := hi.length
  have core : ∀ H : Hp, Only H → SqL K H a (ns.map V.int) → HOk P w H s₁.heap → (∀ b, H b ≠ none → b = a) → (H a ≠ none → K.lookup a = none) →
      codeAny (model P w) callerA (.call (.ref fa) ⟨[.ref a], []⟩) (fun r s' => r = .ok (.ret (.bool true)) ∧ OldK s₁.heap s'.heap ∧ s'.os = s₁.os ∧ AllBare s'.gens) s₁ := by
    intro H only hS hok onlyA notK
    have dictFree : ∀ {b : Addr} {o : Obj} {es : Array DictEntry} {ep : Nat}, s₁.heap.get? b = some o → o.data = .dict es ep → H b = none := by
      intro b o es ep e d
      cases q : H b with
      | none => rfl
      | some u =>
        exfalso
        obtain rfl : b = a := onlyA b (by rw [q]; simp)
        rw [ha] at e
        cases e
        exact nomatch (show Data.seq vs.toArray _ = Data.dict es ep from d)
    have toBase : ∀ {b : Addr} {m : Str → Option Value}, s₁.heap.Ns b m → (hidT s₁.heap H).Ns b m := by
      rintro b m ⟨o, es, ep, e, d, r⟩
      exact ⟨o, es, ep, hidT_get e (dictFree e d), d, r⟩
    have kBase : K.In (hidT s₁.heap H) := by
      intro b o e
      apply hidT_get (KX b o e)
      cases q : H b with
      | none => rfl
      | some u =>
        exfalso
        obtain rfl : b = a := onlyA b (by rw [q]; simp)
        rw [notK (by rw [q]; simp)] at e
        cases e
    have modB : Mod K mg (hidT s₁.heap H) := by
      refine ⟨kBase, toBase hns, ⟨mb, toBase hb, hbb⟩, ?_⟩
      obtain ⟨mc, h1, h2⟩ := hlim
      exact ⟨mc, toBase h1, h2⟩
    have e0 : Env0 P w K mg (hidT s₁.heap H) callerA [] s₁ H := by
      refine ⟨rfl, modB, fun b o e => of_hidT e, Nat.le_of_eq (hidT_size _ _), trivial, ?_, hok, .of_eq hg⟩
      intro b hb
      exact absurd (show b ∈ ([] : List Addr) from hb) (by simp)
    refine codeAny_mono (F _ kBase (toBase hns) [] s₁ H [.ref a] [.ref a] _ _ e0 (bind s₁ (.ref a)) (.cons rfl .nil) (hsp H only hS)) ?_
    intro r s' h
    cases r with
    | error e => exact h.elim
    | ok fl =>
      cases fl with
      | next => exact h.elim
      | brk => exact h.elim
      | cont => exact h.elim
      | ret u =>
        obtain ⟨v, H', os, bare, un, hok', r', q⟩ := h
        obtain rfl : v = .bl true := q
        obtain rfl : u = Value.bool true := r'
        refine ⟨rfl, OldK.of_keep ?_, os, bare⟩
        intro b o e
        cases q : H b with
        | none => exact un.keep b o e q (fun z => by simp [frs] at z) (by simp)
        | some u =>
          rcases only b with z | ⟨ob, xs, z⟩
          · rw [q] at z
            cases z
          · obtain ⟨e1, _⟩ := hok b _ z
            obtain ⟨e2, _⟩ := hok' b _ (un.frzs b ob _ z)
            rw [e] at e1
            cases e1
            exact e2
  cases hk : K.lookup a with
  | some o =>
    have e := KX a o hk
    rw [ha] at e
    cases e
    apply core (fun _ => none) (fun _ => Or.inl rfl)
    · exact .inr ⟨_, vs.toArray, _, hk, rfl, rfl, rfl, by rw [List.size_toArray, lenV]; exact hl, by simpa using rv⟩
    · intro b u z
      exact nomatch (show (none : Option HO) = some u from z)
    · intro b z
      exact absurd rfl z
    · intro z
      exact absurd rfl z
  | none =>
    let o1 : Obj := { cls := .type "list", data := .seq vs.toArray }
    let H1 : Hp := upd (fun _ => none) a (.frz o1 (.lst (ns.map V.int)))
    have at1 : H1 a = some (.frz o1 (.lst (ns.map V.int))) := upd_same
    have off1 : ∀ b, b ≠ a → H1 b = none := fun b n => upd_ne n
    apply core H1
    · intro b
      by_cases n : b = a
      · rw [n]
        exact Or.inr ⟨_, _, at1⟩
      · exact Or.inl (off1 b n)
    · exact .inl (.inr ⟨o1, at1⟩)
    · intro b u z
      by_cases n : b = a
      · rw [n] at z ⊢
        rw [at1] at z
        cases z
        exact ⟨ha, by rw [List.length_map]; exact hl, vs, _, rv, ha⟩
      · rw [off1 b n] at z
        cases z
    · intro b z
      by_cases n : b = a
      · exact n
      · exact absurd (off1 b n) z
    · intro _
      exact hk

theorem walk_at {l : PySem.W.OpenLaw} {n : Nat} {q : Program} {loose : List Str} {XP : (Str → Option Value) → Heap → Prop} {YP : World → Heap → Prop} {d : DefRec} {x : Str}
    (hn : l.most = some n) (hn2 : n ≤ sizeLine) (hdf : d.params.defaults = [])
    (F : ∀ (w : World) (mg : Str → Option Value) (fa : Addr) (h : Heap), YP w h → h.Ns mainGlobals mg → mg d.name = some (.ref fa) →
      ∃ (K : PySem.W.Frag) (fd : FuncData) (sp : Sp), K.In h ∧ (∀ (s : Shared) (u : Value), BindsTo s fd ⟨[u], []⟩ [(x, u)]) ∧
        (∀ (H : Hp) (a : Addr) (ns : List Int), ns.length ≤ n → Only H → SqL K H a (ns.map V.int) → sp [.ref a] H (fun v _ => v = .bl true) fun _ _ _ => False) ∧
        ∀ base : Heap, K.In base → base.Ns mainGlobals mg → FnAt l.prog w K mg base CX0 callerA fa fd [x] sp) :
    PySem.W.WalkO q loose XP YP l.row.toRowW d [] (fun f vs => PySem.call f vs) := by
  apply Att.attach_call hn hdf
  intro w s₀ s₁ mg mb fa o pm cd doc a vs ns G Y ho hd hcd hmg hobj hints hlen hg
  obtain ⟨K, fd, sp, KX, hb, hsp, hF⟩ := F w mg fa _ Y G.T.g hmg
  exact law_at KX G.T.g G.T.b G.T.builtins G.T.nolimit hg hobj hints (Nat.le_trans hlen hn2) hF hb (fun H hO hS => hsp H a ns hlen hO hS)
end XA

set_option Elab.async false
set_option linter.all false
set_option maxRecDepth 100000
set_option maxHeartbeats 4000000
/-! XH: matrices as data; comprehensions that gather. -/
namespace XA
open PySem PySem.Spec PyProof.Rows L2

/-! ### numbers -/
def primeN (n : Int) : Bool := decide (2 ≤ n ∧ n ≤ 97) && ((List.range (n - 2).toNat).map fun (i : Nat) => n % (2 + (i : Int))).all (fun r => r != 0)
def primeD : PyData → Bool
  | .int n => primeN n
  | _ => false
def wholeTo : PyData → Int → Bool
  | .int i, m => decide (0 ≤ i ∧ i ≤ m)
  | _, _ => false
theorem primeN_out {n : Int} (h : ¬ (2 ≤ n ∧ n ≤ 97)) : primeN n = false := by
  unfold primeN
  rw [decide_eq_false h, Bool.false_and]
theorem primeN_in {p : Int} (h : primeN p = true) : 2 ≤ p ∧ p ≤ 97 := of_decide_eq_true (Bool.and_eq_true_iff.mp h).1
/-! ### matrices -/
def rowD (row : List Int) : PyData := .tuple (row.map .int)
def matD (r c : Int) (rows : List (List Int)) : PyData := .tuple [.int r, .int c, .tuple (rows.map rowD)]
def isRowD : PyData → Int → Int → Bool
  | .tuple ds, c, p => decide ((ds.length : Int) = c) && ds.all (fun x => wholeTo x (p - 1))
  | _, _, _ => false
def isMatD : PyData → Int → Bool
  | .tuple [r, c, .tuple rows], p => match r, c with
    | .int i, .int j => decide (0 ≤ i ∧ i ≤ 2000) && (decide (0 ≤ j ∧ j ≤ 2000) && (decide ((rows.length : Int) = i) && rows.all (fun row => isRowD row j p)))
    | _, _ => false
  | _, _ => false
theorem len3 {α : Type} : ∀ {xs : List α}, xs.length = 3 → ∃ a b c, xs = [a, b, c]
  | [a, b, c], _ => ⟨a, b, c, rfl⟩
  | [], h => by simp at h
  | [_], h => by simp at h
  | [_, _], h => by simp at h
  | _ :: _ :: _ :: _ :: _, h => by simp at h
theorem isMatD_len {ds : List PyData} (p : Int) (h : ds.length ≠ 3) : isMatD (.tuple ds) p = false := by
  unfold isMatD
  split
  · rename_i e
    injection e with e
    rw [e] at h
    exact absurd rfl h
  · rfl
def onesR (m : Nat) : List (List Int) := (List.range m).map fun row => (List.range m).map fun k => if k = row then 1 else 0
def noughtsR (r c : Nat) : List (List Int) := List.replicate r (List.replicate c 0)
/-! ### comprehensions that gather -/
theorem acc_step {H1 F H4 : Hp} {D : Addr} {l : List V} {y : V} {P : Hp → Prop} (nD : H1 D = none) (s : Same H1 F) (hF : F D = some (.lst l)) (s4 : Same F H4) (len : l.length < 10000)
    (h : ∀ G, Same H1 G → G D = some (.lst (l ++ [y])) → P G) : ∃ acc, H4 D = some (.lst acc) ∧ acc.length < sizeLine ∧ P (upd H4 D (.lst (acc ++ [y]))) := by
  refine ⟨l, s4 _ _ hF, Nat.lt_of_lt_of_le len (by decide), h _ ?_ upd_same⟩
  intro b o e
  rw [upd_ne (ne_of_none e nD)]
  exact s4 _ _ (s _ _ e)
/-! ### data without lists -/
mutual
def noL : PyData → Bool
  | .list _ => false
  | .tuple ds => noLs ds
  | .dict _ => false
  | _ => true
def noLs : List PyData → Bool
  | [] => true
  | d :: ds => noL d && noLs ds
end
section
variable {K : PySem.W.Frag} {H : Hp} {av av' : Addr}
mutual
theorem Da.any : ∀ (d : PyData) (v : V), noL d = true → Da K H av v d → Da K H av' v d
  | .none, _, _, h => by cases h; exact .non
  | .bool b, _, _, h => by cases h; exact .bl b
  | .int i, _, _, h => by cases h; exact .int i
  | .str x, _, _, h => by cases h; exact .str x
  | .list ds, _, n, h => by simp [noL] at n
  | .tuple ds, _, n, h => by
    cases h with
    | tup hs ha => exact .tup hs (DaAll.any ds _ (by simpa [noL] using n) ha)
  | .dict _, _, n, h => by cases h
theorem DaAll.any : ∀ (ds : List PyData) (vs : List V), noLs ds = true → DaAll K H av vs ds → DaAll K H av' vs ds
  | [], _, _, h => by cases h; exact .nil
  | d :: ds, _, n, h => by
    cases h with
    | cons h1 h2 =>
      simp only [noLs, Bool.and_eq_true] at n
      exact .cons (Da.any d _ n.1 h1) (DaAll.any ds _ n.2 h2)
end
end
theorem noLs_ints : ∀ ns : List Int, noLs (ns.map PyData.int) = true
  | [] => rfl
  | n :: r => by
    rw [List.map_cons]
    simp only [noLs, noL, noLs_ints r, Bool.and_self]
theorem noLs_rows : ∀ rows : List (List Int), noLs (rows.map rowD) = true
  | [] => rfl
  | r :: rs => by
    rw [List.map_cons]
    simp only [noLs, rowD, noL, noLs_ints r, noLs_rows rs, Bool.and_self]
theorem noL_mat (r c : Int) (rows : List (List Int)) : noL (matD r c rows) = true := by
  simp only [matD, noL, noLs, noLs_rows, Bool.and_self]
/-- a list at D grows; what is known of data that holds no list at D stays -/
theorem DaAll.grow {K : PySem.W.Frag} {G : Hp} {D : Addr} {vs : List V} {ds : List PyData} {o : HO} {ps : List V} (h : DaAll K G D vs ds) (hD : G D = some (.lst ps)) : DaAll K (L2.upd G D o) D vs ds :=
  h.oth hD fun b u nb e => by rw [upd_ne nb]; exact e
theorem Da.grow {K : PySem.W.Frag} {G : Hp} {D : Addr} {v : V} {d : PyData} {o : HO} {ps : List V} (h : Da K G D v d) (hD : G D = some (.lst ps)) : Da K (L2.upd G D o) D v d :=
  h.oth hD fun b u nb e => by rw [upd_ne nb]; exact e
theorem Da.newT {K : PySem.W.Frag} {G : Hp} {av p : Addr} {vs : List V} {ds : List PyData} (h : DaAll K G av vs ds) (np : G p = none) : Da K (L2.upd G p (.tup vs)) av (.ref p) (.tuple ds) :=
  .tup (.inl (.inl upd_same)) (h.same (same_upd np))
theorem DaAll.rep {K : PySem.W.Frag} {H : Hp} {av : Addr} {v : V} {d : PyData} (h : Da K H av v d) : ∀ n : Nat, DaAll K H av (List.replicate n v) (List.replicate n d)
  | 0 => .nil
  | n + 1 => by
    rw [List.replicate_succ, List.replicate_succ]
    exact .cons h (DaAll.rep h n)
theorem acc_same {H1 F H4 : Hp} {D : Addr} {o : HO} (nD : H1 D = none) (s : Same H1 F) (s4 : Same F H4) : Same H1 (L2.upd H4 D o) := by
  intro b u e
  rw [upd_ne (ne_of_none e nD)]
  exact s4 _ _ (s _ _ e)
theorem lt10 {n : Nat} (h : n < 10000) : n < sizeLine := Nat.lt_of_lt_of_le h (by decide)
/-- a pen whose cells are the list at c -/
def PenC (H : Hp) (pen c : Addr) (n : Int) : Prop := ∃ (cells : List Int) (a l : Int),
  H pen = some (.lst [.ref c, .int a, .int l]) ∧ H c = some (.lst (cells.map V.int)) ∧ cells.length ≤ 12 ∧ 0 ≤ a ∧ a ≤ n
theorem PenC.mono {H : Hp} {pen c : Addr} {n m : Int} (h : PenC H pen c n) (e : n ≤ m) : PenC H pen c m := by
  obtain ⟨cells, a, l, h1, h2, h3, h4, h5⟩ := h
  exact ⟨cells, a, l, h1, h2, h3, h4, by omega⟩
theorem PenC.ne {H : Hp} {pen c : Addr} {n : Int} (h : PenC H pen c n) : c ≠ pen := by
  obtain ⟨cells, a, l, h1, h2, _⟩ := h
  exact pen_ne h1 h2
theorem PenC.same {H H' : Hp} {pen c : Addr} {n : Int} (h : PenC H pen c n) (s : Same H H') : PenC H' pen c n := by
  obtain ⟨cells, a, l, h1, h2, h3⟩ := h
  exact ⟨cells, a, l, s _ _ h1, s _ _ h2, h3⟩
theorem PenC.lst {H : Hp} {pen c : Addr} {n : Int} (h : PenC H pen c n) : ∃ ps, H pen = some (.lst ps) := by
  obtain ⟨cells, a, l, h1, _⟩ := h
  exact ⟨_, h1⟩
/-- a new object is laid, or one changed that is neither -/
theorem PenC.upd {H : Hp} {pen c p : Addr} {n : Int} {o : HO} (h : PenC H pen c n) (h1 : p ≠ pen) (h2 : p ≠ c) : PenC (L2.upd H p o) pen c n := by
  obtain ⟨cells, a, l, g1, g2, g3⟩ := h
  exact ⟨cells, a, l, by rw [upd_ne h1.symm]; exact g1, by rw [upd_ne h2.symm]; exact g2, g3⟩
theorem PenC.new_ne {H : Hp} {pen c p : Addr} {n : Int} (h : PenC H pen c n) (hp : H p = none) : p ≠ pen ∧ p ≠ c := by
  obtain ⟨cells, a, l, g1, g2, _⟩ := h
  exact ⟨(ne_of_none g1 hp).symm, (ne_of_none g2 hp).symm⟩
theorem penC_put {H H' : Hp} {pen c : Addr} {cells : List Int} {a l a' l' n : Int} (h1 : H pen = some (.lst [.ref c, .int a, .int l]))
    (h2 : H c = some (.lst (cells.map V.int))) (h3 : cells.length ≤ 12) (s : Oth H H' pen) (g1 : 0 ≤ a') (g2 : a' ≤ n) :
    PenC (L2.upd H' pen (.lst [.ref c, .int a', .int l'])) pen c n := by
  have ne := pen_ne h1 h2
  exact ⟨cells, a', l', upd_same, by rw [upd_ne ne]; exact s _ _ ne h2, h3, g1, g2⟩
theorem Da.othP {K : PySem.W.Frag} {H H' : Hp} {pen c : Addr} {n : Int} {v : V} {d : PyData} (h : Da K H pen v d) (P : PenC H pen c n) (s : Oth H H' pen) : Da K H' pen v d := by
  obtain ⟨ps, hp⟩ := P.lst
  exact h.oth hp s
theorem DaAll.othP {K : PySem.W.Frag} {H H' : Hp} {pen c : Addr} {n : Int} {vs : List V} {ds : List PyData} (h : DaAll K H pen vs ds) (P : PenC H pen c n) (s : Oth H H' pen) : DaAll K H' pen vs ds := by
  obtain ⟨ps, hp⟩ := P.lst
  exact h.oth hp s
/-- a list that is gathered while the pen draws: one more -/
theorem acc_stepO {H1 F H4 : Hp} {D pen c : Addr} {l : List V} {y : V} {n : Int} {P : Hp → Prop} (nD : H1 D = none) (nP : D ≠ pen) (nc : D ≠ c) (s : Oth H1 F pen) (hF : F D = some (.lst l))
    (s4 : Oth F H4 pen) (p4 : PenC H4 pen c n) (len : l.length < 10000)
    (h : ∀ G, Oth H1 G pen → PenC G pen c n → G D = some (.lst (l ++ [y])) → P G) : ∃ acc, H4 D = some (.lst acc) ∧ acc.length < sizeLine ∧ P (L2.upd H4 D (.lst (acc ++ [y]))) := by
  have hD := s4 _ _ nP hF
  refine ⟨l, hD, Nat.lt_of_lt_of_le len (by decide), h _ ?_ (p4.upd nP nc) upd_same⟩
  intro b o nb e
  rw [upd_ne (ne_of_none e nD)]
  exact s4 _ _ nb (s _ _ nb e)
/-- .. the very list is changed in the heap that the pen left -/
theorem Oth.put {H1 F : Hp} {D pen : Addr} {o : HO} (nD : H1 D = none) (s : Oth H1 F pen) : Oth H1 (L2.upd F D o) pen := by
  intro b u nb e
  rw [upd_ne (ne_of_none e nD)]
  exact s b u nb e
end XA

set_option Elab.async false
set_option linter.all false
set_option maxRecDepth 100000
set_option maxHeartbeats 4000000
/-! XI: rules by a written part that is named (within comprehensions). -/
namespace XA
open PySem PySem.Spec PyProof.Rows L2
def rTupOf (K : PySem.W.Frag) : List V → Hp → VK → Prop := fun xs H Q => ∃ p ys, xs = [.ref p] ∧ ((SqL K H p ys ∧ ∀ l, H l = none → Q (.ref l) (upd H l (.tup ys))) ∨ (SqT K H p ys ∧ Q (.ref p) H))
def rLenZ (K : PySem.W.Frag) : List V → Hp → VK → Prop := fun xs H Q => ∃ x n, xs = [x] ∧ LenV K x H n ∧ Q (.int n) H
section
variable {X : Cx} (K : PySem.W.Frag) (h : X.K = K := by rfl)
include h
theorem ix_listK : IxR X (rIxL K) := h ▸ ix_list
theorem ix_tupK : IxR X (rIxT K) := h ▸ ix_tup
theorem call_isZK : CallR X (.builtin "isinstance") (rIsZ K) := h ▸ call_isZ
theorem call_lenK : CallR X (.builtin "len") (rLenZ K) := h ▸ call_len
theorem call_tupOfK : CallR X (.type "tuple") (rTupOf K) := h ▸ call_tuple_of
theorem op_catDK : OpR X (binaryOp .Add) (rCatD K) := h ▸ op_catD
theorem op_repDK : OpR X (binaryOp .Mult) (rRepD K) := h ▸ op_repD
theorem sl_listK : SlR X (rSlL K) := h ▸ sl_list
theorem sl_tupDK : SlR X (rSlD K) := h ▸ sl_tupD
theorem op_eqDK (hu : X.A.units + 64 < cLine) : OpR X (compareOp .Eq) (rEqD K) := h ▸ op_eqD hu
theorem op_neDK (hu : X.A.units + 64 < cLine) : OpR X (compareOp .NotEq) (rNeD K) := h ▸ op_neD hu
theorem pi_listK {tg l : Expr} {tl : TE} (hl : PE X l tl) : PI X tg l (iList K tl) := h ▸ pi_list hl
theorem pi_tupK {tg l : Expr} {tl : TE} (hl : PE X l tl) : PI X tg l (iTup K tl) := h ▸ pi_tup hl
theorem cr_allK (hc : X.calm = true) : CallR X (.builtin "all") (rAll K) := h ▸ cr_all hc
theorem cr_allIK (hc : X.calm = true) : CallR X (.builtin "all") (rAllI K) := h ▸ cr_allI hc
end
end XA

set_option Elab.async false
set_option linter.all false
set_option maxRecDepth 100000
set_option maxHeartbeats 4000000
/-! XJ: a tuple from behind. -/
namespace XA
open PySem PySem.Spec PyProof.Rows L2 HT
section
variable {prog : Program} {w : World} {A : Around} {E : Value → Shared → Prop} {s : Shared}
theorem places_rev (n : Nat) : Builtin.Slice.slicePlaces ((n : Int) - 1) (-1) (-1) = n := by
  unfold Builtin.Slice.slicePlaces
  rw [if_neg (by decide)]
  have e : (-(-1 : Int)) = 1 := by decide
  rw [e, Int.ediv_one]
  split <;> omega
theorem applied_rev {sl : Addr} {vl vu vs : Value} {n : Nat} {Q : Int × Int × Nat → Shared → Prop} (hs : s.heap.IsSliceOf sl vl vu vs) (pl : IsPart vl none) (pu : IsPart vu none) (ps : IsPart vs (some (-1)))
    (h : Q ((n : Int) - 1, -1, n) s) : wpAny (model prog w) A (Builtin.Slice.sliceApplied (.ref sl) (pure (n : Int))) Q E s := by
  obtain ⟨os, hos, hcs, hds⟩ := id hs
  unfold Builtin.Slice.sliceApplied Builtin.Slice.sliceFields
  refine wpAny_bind (wpAny_bind (wpAny_field hos hds (x := vl) rfl (wpAny_bind (wpAny_field hos hds (x := vu) rfl (wpAny_bind (wpAny_field hos hds (x := vs) rfl (wpAny_pure ?_)))))))
  refine wpAny_bind (slicePart_ ps ?_)
  show wpAny _ _ (if ((-1 : Int) == 0) = true then _ else _) _ _ s
  rw [if_neg (by decide)]
  refine wpAny_bind (slicePart_ pl (wpAny_bind (slicePart_ pu (wpAny_bind (wpAny_pure ?_)))))
  have adj : Builtin.Slice.sliceAdjust none none (-1) (n : Int) = ((n : Int) - 1, -1) := by
    unfold Builtin.Slice.sliceAdjust
    rfl
  show wpAny _ _ (match Builtin.Slice.sliceAdjust none none (-1) (n : Int) with | (lo, hi) => pure (lo, (-1 : Int), Builtin.Slice.slicePlaces lo hi (-1))) _ _ s
  rw [adj]
  show wpAny _ _ (pure ((n : Int) - 1, (-1 : Int), Builtin.Slice.slicePlaces ((n : Int) - 1) (-1) (-1))) _ _ s
  rw [places_rev]
  exact wpAny_pure h
theorem fm_map {α β : Type} {f : α → Option β} {g : α → β} : ∀ l : List α, (∀ k ∈ l, f k = some (g k)) → l.filterMap f = l.map g
  | [], _ => rfl
  | a :: r, h => by
    rw [List.filterMap_cons, h a List.mem_cons_self, List.map_cons, fm_map r fun k hk => h k (List.mem_cons_of_mem _ hk)]
theorem pick_rev (xs : List Value) : ((List.range xs.length).filterMap fun (k : Nat) => xs.toArray[(((xs.length : Nat) : Int) - 1 + (k : Int) * (-1)).toNat]?) = xs.reverse := by
  apply List.ext_getElem?
  intro i
  have key : ∀ k, k < xs.length → xs.toArray[(((xs.length : Nat) : Int) - 1 + (k : Int) * (-1)).toNat]? = some (xs.reverse.getD k default) := by
    intro k hk
    have e : (((xs.length : Nat) : Int) - 1 + (k : Int) * (-1)).toNat = xs.length - 1 - k := by omega
    rw [e, List.getElem?_toArray, List.getD_eq_getElem?_getD, List.getElem?_reverse hk, List.getElem?_eq_getElem (by omega)]
    rfl
  have all : (List.range xs.length).filterMap (fun (k : Nat) => xs.toArray[(((xs.length : Nat) : Int) - 1 + (k : Int) * (-1)).toNat]?) = (List.range xs.length).map fun k => xs.reverse.getD k default := by
    exact fm_map _ fun k hk => key k (List.mem_range.mp hk)
  rw [all, List.getElem?_map]
  by_cases hi : i < xs.length
  · rw [List.getElem?_range hi, List.getElem?_reverse hi, List.getElem?_eq_getElem (by omega)]
    show some (xs.reverse.getD i default) = _
    rw [List.getD_eq_getElem?_getD, List.getElem?_reverse hi, List.getElem?_eq_getElem (by omega)]
    rfl
  · rw [List.getElem?_eq_none (by rw [List.length_range]; omega), List.getElem?_eq_none (by rw [List.length_reverse]; omega)]
    rfl
theorem getItem_rev {t sl : Addr} {its : List Value} {vl vu vs : Value} {Q : Value → Shared → Prop} (ht : IsTup s.heap t its.toArray) (hs : s.heap.IsSliceOf sl vl vu vs) (pl : IsPart vl none) (pu : IsPart vu none) (ps : IsPart vs (some (-1)))
    (h : Q (.ref s.heap.objs.size) { s with heap := s.heap.push { cls := .type "tuple", data := .seq its.reverse.toArray } }) (hsz : its.length ≤ sizeLine) :
    wpAny (model prog w) A (getItem (.ref t) (.ref sl)) Q E s := by
  have htake : sizeOk (.seq its.reverse.toArray) := by
    show its.reverse.toArray.size ≤ sizeLine
    rw [List.size_toArray, List.length_reverse]
    exact hsz
  obtain ⟨os, hos, hcs, hds⟩ := id hs
  have hTs : s.TypeIs (.ref sl) "slice" := ⟨os, hos, hcs⟩
  unfold getItem
  try with_reducible refine wpAny_holding ?_
  first | refine wpAny_bind (wpAny_pure ?_) | skip
  refine wpAny_bind (wpAny_sequenceKey ht.typeIs (by decide) ?_)
  apply wpAny_bind
  apply wpAny_callSpecial?_slot (name := Str.ofString "__getitem__") ht.typeIs PyProof.Rows.slot_tuple_getitem
  refine wpAny_call_entry PyProof.Rows.slot_tuple_getitem ht.typeIs entry_tuple_getitem ?_ (args_tuple_getitem _ _)
  show wpAny _ _ (Builtin.Tuple.tupleItemsOf (.ref t) >>= _) _ _ s
  refine wpAny_bind (tupleItemsOf_ ht ?_)
  refine wpAny_bind (wpAny_typeOf hTs ?_)
  rw [if_pos (by decide)]
  refine wpAny_bind (applied_rev (n := its.toArray.size) hs pl pu ps ?_)
  show wpAny _ _ (if ((((its.toArray.size : Nat) : Int) - 1 == 0) && (-1 : Int) == 1 && its.toArray.size == its.toArray.size) = true then _ else _) _ _ s
  rw [if_neg (by simp)]
  rw [List.size_toArray, pick_rev]
  first
    | exact wpAny_bind (m := Builtin.Tuple.tupleExact _) (wpAny_newObj_type (wpAny_pure ⟨_, rfl, wpAny_pure h⟩) htake)
    | exact wpAny_bind (m := Builtin.Tuple.tupleExact _) (wpAny_newObj_type (wpAny_bind (wpAny_pure (wpAny_pure ⟨_, rfl, wpAny_pure h⟩))) htake)
    | exact wpAny_bind (wpAny_bind (m := Builtin.Tuple.tupleExact _) (wpAny_newObj_type (wpAny_pure (wpAny_pure ⟨_, rfl, wpAny_pure h⟩)) htake))
    | exact wpAny_bind (wpAny_bind (m := Builtin.Tuple.tupleExact _) (wpAny_newObj_type (wpAny_pure ⟨_, rfl, wpAny_pure h⟩) htake))
end
def tRevT (K : PySem.W.Frag) (te : TE) : TE := fun σ H Q => te σ H fun x H1 => ∃ a xs, x = .ref a ∧ SqT K H1 a xs ∧ ∀ p, H1 p = none → Q (.ref p) (upd H1 p (.tup xs.reverse))
theorem pe_revT {X : Cx} {e : Expr} {te : TE} {k : Nat} {p1 p2 p3 pos : Pos} (he : PE X e te) :
    PE X (.Subscript e (.Slice none none (some (.UnaryOp .USub (.Constant (.int 1) k p1) p2)) p3) pos) (tRevT X.K te) := by
  refine ⟨fun pins s σ H Q I h => ?_⟩
  apply Subscript_
  refine thn (he.run pins s σ H _ I h) ?_
  rintro v s1 ⟨x, H1, I1, r1, a, xs, rfl, hx, q⟩
  cases r1
  have step : PO X (some (.UnaryOp .USub (.Constant (.int 1) k p1) p2)) (tPart (tUn (rU fun i => .int (-i)) (tC (.int 1)))) := po_some (pe_un un_neg pe_int)
  apply wpAny_Slice
  refine thn (po_none.run pins s1 σ H1 (fun o G => o = none ∧ G = H1) I1 ⟨rfl, rfl⟩) ?_
  rintro vl s2 ⟨l, H2, I2, pl, rfl, rfl⟩
  refine thn (po_none.run pins s2 σ H2 (fun o G => o = none ∧ G = H2) I2 ⟨rfl, rfl⟩) ?_
  rintro vu s3 ⟨u, H3, I3, pu, rfl, rfl⟩
  refine thn (step.run pins s3 σ H3 (fun o G => o = some (-1) ∧ G = H3) I3 ⟨1, rfl, -1, rfl, rfl, rfl⟩) ?_
  rintro vs s4 ⟨o, H4, I4, ps, rfl, rfl⟩
  have I5 : Inv X pins σ H4 { s4 with heap := s4.heap.push { cls := .type "slice", data := .fields #[vl, vu, vs] } } :=
    I4.kept (t' := s4.toks) fun b ob q => Heap.get?_push_of_some _ q
  obtain ⟨its, r, ht, hz⟩ := I5.tuple hx
  have hlen := r.length
  show wpAny (model X.prog X.w) X.A (subscriptTail e (.Slice none none (some (.UnaryOp .USub (.Constant (.int 1) k p1) p2)) p3) (.ref a) (.ref s4.heap.objs.size)) (EP X pins σ Q) X.xe _
  refine tail_any (ops := [.ref a, .ref s4.heap.objs.size]) ht.typeIs PyProof.Rows.slot_tuple_getitem.lookup ?_ (by with_unfolding_all rfl)
  refine getItem_rev ht (Heap.IsSliceOf.new _ vl vu vs) pl pu ps ?_ (by omega)
  refine ⟨.ref _, _, I5.laid (t' := s4.toks) (o := .tup xs.reverse) (fun b ob q => Heap.get?_push_of_some _ q) (Nat.le_refl _) ?_, rfl, q _ (I5.hok.fresh (Nat.le_refl _))⟩
  exact ⟨by rw [List.length_reverse]; exact hz, _, r.reverse, IsTup.new _ _⟩
theorem DaAll.reverse {K : PySem.W.Frag} {H : Hp} {av : Addr} : ∀ {vs : List V} {ds : List PyData}, DaAll K H av vs ds → DaAll K H av vs.reverse ds.reverse
  | _, _, .nil => .nil
  | _, _, .cons r t => by
    rw [List.reverse_cons, List.reverse_cons]
    exact (DaAll.reverse t).append (.cons r .nil)
end XA

set_option Elab.async false
set_option linter.all false
set_option maxRecDepth 100000
set_option maxHeartbeats 4000000
/-! XK: what is a matrix, and what isn't; data of moderate size. -/
namespace XA
open PySem PySem.Spec PyProof.Rows L2
theorem isMatD_1 {d1 d2 d3 : PyData} {p : Int} (h : wholeTo d1 2000 = false) : isMatD (.tuple [d1, d2, d3]) p = false := by
  cases d1 with
  | int i =>
    cases d3 with
    | tuple rows =>
      cases d2 with
      | int j =>
        show (decide (0 ≤ i ∧ i ≤ 2000) && _) = false
        rw [show decide (0 ≤ i ∧ i ≤ 2000) = false from h, Bool.false_and]
      | _ => rfl
    | _ => rfl
  | _ => cases d3 <;> rfl
theorem isMatD_2 {d1 d2 d3 : PyData} {p : Int} (h : wholeTo d2 2000 = false) : isMatD (.tuple [d1, d2, d3]) p = false := by
  cases d3 with
  | tuple rows =>
    cases d1 with
    | int i =>
      cases d2 with
      | int j =>
        show (decide (0 ≤ i ∧ i ≤ 2000) && (decide (0 ≤ j ∧ j ≤ 2000) && _)) = false
        rw [show decide (0 ≤ j ∧ j ≤ 2000) = false from h, Bool.false_and, Bool.and_false]
      | _ => rfl
    | _ => rfl
  | _ => rfl
theorem isMatD_3 {d1 d2 d3 : PyData} {p : Int} (h : ∀ rows, d3 ≠ .tuple rows) : isMatD (.tuple [d1, d2, d3]) p = false := by
  cases d3 with
  | tuple rows => exact absurd rfl (h rows)
  | _ => rfl
theorem isMatD_in {i j p : Int} {rows : List PyData} (hi : 0 ≤ i ∧ i ≤ 2000) (hj : 0 ≤ j ∧ j ≤ 2000) :
    isMatD (.tuple [.int i, .int j, .tuple rows]) p = (decide ((rows.length : Int) = i) && rows.all (fun row => isRowD row j p)) := by
  show (decide (0 ≤ i ∧ i ≤ 2000) && (decide (0 ≤ j ∧ j ≤ 2000) && _)) = _
  rw [decide_eq_true hi, decide_eq_true hj, Bool.true_and, Bool.true_and]
theorem isMatD_no {d : PyData} {p : Int} (h : isD d "tuple" = false) : isMatD d p = false := by
  cases d <;> first | rfl | (simp [isD, tyD] at h)
theorem tup_of {d : PyData} (h : isD d "tuple" = true) : ∃ ds, d = .tuple ds := by
  cases d <;> first | exact ⟨_, rfl⟩ | (simp [isD, tyD] at h)
theorem int_of {d : PyData} (h : isD d "int" = true) (h2 : isD d "bool" = false) : ∃ i, d = .int i := by
  cases d <;> first | exact ⟨_, rfl⟩ | (simp [isD, tyD] at h h2)
theorem wholeTo_no {d : PyData} {m : Int} (h : isD d "bool" = true ∨ isD d "int" = false) : wholeTo d m = false := by
  cases d <;> first | rfl | (simp [isD, tyD] at h)
theorem wholeTo_int {d : PyData} {m : Int} (h : wholeTo d m = true) : ∃ i, d = .int i ∧ 0 ≤ i ∧ i ≤ m := by
  cases d with
  | int i => exact ⟨i, rfl, of_decide_eq_true h⟩
  | _ => simp [wholeTo] at h
theorem inV_false : ∀ bs : List Bool, inV (.bl false) (bs.map V.bl) = !(bs.all id)
  | [] => rfl
  | b :: r => by
    have ih := inV_false r
    cases b with
    | true =>
      rw [List.map_cons, List.all_cons]
      show (eqV (.bl true) (.bl false) || inV (.bl false) (r.map V.bl)) = _
      rw [ih]
      rfl
    | false => rfl
theorem flat_bls : ∀ bs : List Bool, (bs.map V.bl).all flatV = true
  | [] => rfl
  | b :: r => by
    rw [List.map_cons, List.all_cons, flat_bls r]
    rfl
/-! ### moderate data -/
def Tm : Nat → PyData → Prop
  | _, .none => True
  | _, .bool _ => True
  | _, .int i => i.natAbs.log2 < 120
  | _, .str x => (reprText x).length ≤ 130
  | 0, .list _ => False
  | 0, .tuple _ => False
  | k + 1, .list ds => ds.length ≤ 8 ∧ ∀ d ∈ ds, Tm k d
  | k + 1, .tuple ds => ds.length ≤ 8 ∧ ∀ d ∈ ds, Tm k d
  | _, .dict _ => False
theorem Tm.up : ∀ {k : Nat} {d : PyData}, Tm k d → Tm (k + 1) d
  | k, .none, _ => by cases k <;> trivial
  | k, .bool _, _ => by cases k <;> trivial
  | k, .int _, h => by cases k <;> exact h
  | k, .str _, h => by cases k <;> exact h
  | 0, .list _, h => h.elim
  | 0, .tuple _, h => h.elim
  | k + 1, .list ds, h => ⟨h.1, fun d hd => Tm.up (h.2 d hd)⟩
  | k + 1, .tuple ds, h => ⟨h.1, fun d hd => Tm.up (h.2 d hd)⟩
  | 0, .dict _, h => h.elim
  | k + 1, .dict _, h => h.elim
theorem Tm.le {k m : Nat} {d : PyData} (h : Tm k d) (e : k ≤ m) : Tm m d := by
  induction e with
  | refl => exact h
  | step _ ih => exact ih.up
theorem shown_int (i : Int) : ((PyData.int i).shown).length = (toString i).length := by
  simp only [PyData.shown]
  exact PySem.ofString_length _
def tmB : Nat → Nat
  | 0 => 130
  | k + 1 => 8 * (tmB k + 2) + 3
theorem tmB_ge : ∀ k, 130 ≤ tmB k
  | 0 => Nat.le_refl _
  | k + 1 => by
    have := tmB_ge k
    show 130 ≤ 8 * (tmB k + 2) + 3
    omega
theorem sum_le {B : Nat} : ∀ ls : List Nat, (∀ x ∈ ls, x ≤ B) → ls.sum ≤ ls.length * B
  | [], _ => by simp
  | a :: r, h => by
    have h1 := h a List.mem_cons_self
    have h2 := sum_le r fun x hx => h x (List.mem_cons_of_mem _ hx)
    rw [List.sum_cons, List.length_cons, Nat.succ_mul]
    omega
theorem shownAll_eq : ∀ ds : List PyData, PyData.shownAll ds = ds.map PyData.shown
  | [] => rfl
  | d :: r => by
    rw [List.map_cons, ← shownAll_eq r]
    rfl
theorem showableAll_eq : ∀ ds : List PyData, PyData.showableAll ds = ds.all PyData.showable
  | [] => rfl
  | d :: r => by
    rw [List.all_cons, ← showableAll_eq r]
    rfl
theorem hasDictAll_eq : ∀ ds : List PyData, PyData.hasDictAll ds = ds.any PyData.hasDict
  | [] => rfl
  | d :: r => by
    rw [List.any_cons, ← hasDictAll_eq r]
    rfl
theorem depthAll_le {n : Nat} : ∀ ds : List PyData, (∀ d ∈ ds, d.depth ≤ n) → PyData.depthAll ds ≤ n
  | [], _ => Nat.zero_le _
  | d :: r, h => by
    show max d.depth (PyData.depthAll r) ≤ n
    exact Nat.max_le.mpr ⟨h d List.mem_cons_self, depthAll_le r fun x hx => h x (List.mem_cons_of_mem _ hx)⟩
theorem Tm.ok : ∀ {k : Nat} {d : PyData}, Tm k d → d.showable = true ∧ d.hasDict = false ∧ d.depth ≤ k ∧ d.shown.length ≤ tmB k
  | k, .none, _ => ⟨rfl, rfl, Nat.zero_le _, Nat.le_trans (by decide : (4 : Nat) ≤ 130) (tmB_ge k)⟩
  | k, .bool b, _ => ⟨rfl, rfl, Nat.zero_le _, Nat.le_trans (by cases b <;> decide) (tmB_ge k)⟩
  | k, .int i, h => by
    have h' : i.natAbs.log2 < 120 := by cases k <;> exact h
    refine ⟨decide_eq_true (by omega), rfl, Nat.zero_le _, ?_⟩
    rw [shown_int]
    have := int_text_length_le (k := 120) (by decide) h'
    have := tmB_ge k
    omega
  | k, .str x, h => by
    have h' : (reprText x).length ≤ 130 := by cases k <;> exact h
    exact ⟨rfl, rfl, Nat.zero_le _, Nat.le_trans h' (tmB_ge k)⟩
  | 0, .list _, h => h.elim
  | 0, .tuple _, h => h.elim
  | k + 1, .list ds, h => by
    have ih : ∀ d ∈ ds, d.showable = true ∧ d.hasDict = false ∧ d.depth ≤ k ∧ d.shown.length ≤ tmB k := fun d hd => Tm.ok (h.2 d hd)
    refine ⟨?_, ?_, ?_, ?_⟩
    · show PyData.showableAll ds = true
      rw [showableAll_eq, List.all_eq_true]
      exact fun d hd => (ih d hd).1
    · show PyData.hasDictAll ds = false
      rw [hasDictAll_eq, List.any_eq_false]
      exact fun d hd => by rw [(ih d hd).2.1]; decide
    · show PyData.depthAll ds + 1 ≤ k + 1
      exact Nat.succ_le_succ (depthAll_le ds fun d hd => (ih d hd).2.2.1)
    · show (listText (PyData.shownAll ds)).length ≤ 8 * (tmB k + 2) + 3
      have z := listText_len_le (PyData.shownAll ds)
      rw [shownAll_eq, List.map_map, List.length_map] at z
      have s := sum_le (B := tmB k) (ds.map ((fun x => x.length) ∘ PyData.shown)) (by
        intro x hx
        obtain ⟨d, hd, rfl⟩ := List.mem_map.mp hx
        exact (ih d hd).2.2.2)
      rw [List.length_map] at s
      have s2 := Nat.mul_le_mul_right (tmB k) h.1
      have hl8 := h.1
      rw [shownAll_eq]
      omega
  | k + 1, .tuple ds, h => by
    have ih : ∀ d ∈ ds, d.showable = true ∧ d.hasDict = false ∧ d.depth ≤ k ∧ d.shown.length ≤ tmB k := fun d hd => Tm.ok (h.2 d hd)
    refine ⟨?_, ?_, ?_, ?_⟩
    · show PyData.showableAll ds = true
      rw [showableAll_eq, List.all_eq_true]
      exact fun d hd => (ih d hd).1
    · show PyData.hasDictAll ds = false
      rw [hasDictAll_eq, List.any_eq_false]
      exact fun d hd => by rw [(ih d hd).2.1]; decide
    · show PyData.depthAll ds + 1 ≤ k + 1
      exact Nat.succ_le_succ (depthAll_le ds fun d hd => (ih d hd).2.2.1)
    · show (tupleText (PyData.shownAll ds)).length ≤ 8 * (tmB k + 2) + 3
      have z := tupleText_len_le (PyData.shownAll ds)
      rw [shownAll_eq, List.map_map, List.length_map] at z
      have s := sum_le (B := tmB k) (ds.map ((fun x => x.length) ∘ PyData.shown)) (by
        intro x hx
        obtain ⟨d, hd, rfl⟩ := List.mem_map.mp hx
        exact (ih d hd).2.2.2)
      rw [List.length_map] at s
      have s2 := Nat.mul_le_mul_right (tmB k) h.1
      have hl8 := h.1
      rw [shownAll_eq]
      omega
  | 0, .dict _, h => h.elim
  | k + 1, .dict _, h => h.elim
theorem tmB5 : tmB 5 ≤ sizeLine := by decide
/-- repr of moderate data -/
theorem repr_tm {K : PySem.W.Frag} {H : Hp} {av : Addr} {v : V} {d : PyData} {Q : VK} (h : Da K H av v d) (t : Tm 5 d) (q : Q (.str d.shown) H) : rReprD K [v] H Q := by
  obtain ⟨h1, h2, h3, h4⟩ := t.ok
  exact ⟨v, d, rfl, h.dp, h1, h2, by omega, Nat.le_trans h4 tmB5, q⟩
theorem tm_row {row : List Int} {p : Int} (hl : row.length ≤ 8) (hp : p ≤ 97) (h : ∀ x ∈ row, 0 ≤ x ∧ x < p) : Tm 1 (rowD row) := by
  refine ⟨by rw [List.length_map]; exact hl, ?_⟩
  intro d hd
  obtain ⟨x, hx, rfl⟩ := List.mem_map.mp hd
  obtain ⟨h1, h2⟩ := h x hx
  show x.natAbs.log2 < 120
  by_cases z : x.natAbs = 0
  · rw [z]
    decide
  · exact (Nat.log2_lt z).mpr (Nat.lt_of_lt_of_le (show x.natAbs < 97 by omega) (by decide))
theorem log_small {x : Int} (h : x.natAbs < 10 ^ 30) : x.natAbs.log2 < 120 := by
  by_cases z : x.natAbs = 0
  · rw [z]
    decide
  · exact (Nat.log2_lt z).mpr (Nat.lt_of_lt_of_le h (by decide))
end XA
namespace XA
open PySem PySem.Spec PyProof.Rows L2
/-! ### parts of data -/
def cutD (ds : List PyData) (lo hi : Option Int) : List PyData := (ds.drop (HT.sIx ds.length 0 lo)).take (HT.sIx ds.length ds.length hi - HT.sIx ds.length 0 lo)
theorem cutD_mem {ds : List PyData} {lo hi : Option Int} {d : PyData} (h : d ∈ cutD ds lo hi) : d ∈ ds := List.mem_of_mem_drop (List.mem_of_mem_take h)
theorem cutD_len (ds : List PyData) (lo hi : Option Int) : (cutD ds lo hi).length ≤ ds.length := by
  unfold cutD
  rw [List.length_take, List.length_drop]
  omega
theorem DaAll.cut {K : PySem.W.Frag} {H : Hp} {av : Addr} {vs : List V} {ds : List PyData} (h : DaAll K H av vs ds) (lo hi : Option Int) : DaAll K H av (cutV vs lo hi) (cutD ds lo hi) := by
  unfold cutV cutD
  rw [h.length]
  exact (h.drop _).take _
theorem noLs_all : ∀ ds : List PyData, (∀ d ∈ ds, noL d = true) → noLs ds = true
  | [], _ => rfl
  | d :: r, h => by
    simp only [noLs, h d List.mem_cons_self, noLs_all r fun x hx => h x (List.mem_cons_of_mem _ hx), Bool.and_self]
theorem noLs_mem : ∀ {ds : List PyData}, noLs ds = true → ∀ d ∈ ds, noL d = true
  | d :: r, h, x, hx => by
    simp only [noLs, Bool.and_eq_true] at h
    rcases List.mem_cons.mp hx with e | hx
    · rw [e]
      exact h.1
    · exact noLs_mem h.2 x hx
/-- a list of moderate data at S -/
structure LD (K : PySem.W.Frag) (F : Hp) (pen S : Addr) (vs : List V) (ds : List PyData) : Prop where
  at_ : F S = some (.lst vs)
  da : DaAll K F pen vs ds
  tm : ∀ d ∈ ds, Tm 4 d
  ne : S ≠ pen
theorem LD.same {K : PySem.W.Frag} {F F' : Hp} {pen S : Addr} {vs : List V} {ds : List PyData} (h : LD K F pen S vs ds) (s : Same F F') : LD K F' pen S vs ds :=
  ⟨s _ _ h.at_, h.da.same s, h.tm, h.ne⟩
theorem LD.oth {K : PySem.W.Frag} {F F' : Hp} {pen c S : Addr} {n : Int} {vs : List V} {ds : List PyData} (h : LD K F pen S vs ds) (P : PenC F pen c n) (s : Oth F F' pen) : LD K F' pen S vs ds :=
  ⟨s _ _ h.ne h.at_, h.da.othP P s, h.tm, h.ne⟩
/-- a longer list, new at S' -/
theorem LD.ext {K : PySem.W.Frag} {F : Hp} {pen S S' : Addr} {vs us : List V} {ds es : List PyData} (h : LD K F pen S vs ds) (ha : DaAll K F pen us es) (ht : ∀ d ∈ es, Tm 4 d)
    (n : F S' = none) (ne : S' ≠ pen) : LD K (upd F S' (.lst (vs ++ us))) pen S' (vs ++ us) (ds ++ es) := by
  refine ⟨upd_same, (h.da.append ha).same (same_upd n), ?_, ne⟩
  intro d hd
  rcases List.mem_append.mp hd with hd | hd
  · exact h.tm d hd
  · exact ht d hd
theorem LD.pick {K : PySem.W.Frag} {F : Hp} {pen S : Addr} {vs : List V} {ds : List PyData} (h : LD K F pen S vs ds) {x : V} (hx : x ∈ vs) : ∃ d, Da K F pen x d ∧ Tm 4 d := by
  obtain ⟨i, hi, e⟩ := List.mem_iff_getElem.mp hx
  obtain ⟨d, hd, hda⟩ := h.da.get (i := i) (v := x) (by rw [List.getElem?_eq_getElem hi, e])
  exact ⟨d, hda, h.tm d (List.mem_of_getElem? hd)⟩
theorem tmT {k : Nat} {ds : List PyData} (hl : ds.length ≤ 8) (h : ∀ d ∈ ds, Tm k d) : Tm (k + 1) (.tuple ds) := ⟨hl, h⟩
theorem tmL {k : Nat} {ds : List PyData} (hl : ds.length ≤ 8) (h : ∀ d ∈ ds, Tm k d) : Tm (k + 1) (.list ds) := ⟨hl, h⟩
theorem all1 {α : Type} {P : α → Prop} {a : α} (h : P a) : ∀ x ∈ [a], P x := by
  intro x hx
  rw [List.mem_singleton.mp hx]
  exact h
theorem all2 {α : Type} {P : α → Prop} {a b : α} (h1 : P a) (h2 : P b) : ∀ x ∈ [a, b], P x := by
  intro x hx
  rcases List.mem_cons.mp hx with e | hx
  · rw [e]
    exact h1
  · exact all1 h2 x hx
theorem all3 {α : Type} {P : α → Prop} {a b c : α} (h1 : P a) (h2 : P b) (h3 : P c) : ∀ x ∈ [a, b, c], P x := by
  intro x hx
  rcases List.mem_cons.mp hx with e | hx
  · rw [e]
    exact h1
  · exact all2 h2 h3 x hx
theorem all4 {α : Type} {P : α → Prop} {a b c d : α} (h1 : P a) (h2 : P b) (h3 : P c) (h4 : P d) : ∀ x ∈ [a, b, c, d], P x := by
  intro x hx
  rcases List.mem_cons.mp hx with e | hx
  · rw [e]
    exact h1
  · exact all3 h2 h3 h4 x hx
theorem tmI (k : Nat) {i : Int} (h : i.natAbs < 10 ^ 30) : Tm k (.int i) := by
  cases k <;> exact log_small h
theorem tmB' (k : Nat) (b : Bool) : Tm k (.bool b) := by cases k <;> trivial
theorem tmN (k : Nat) : Tm k .none := by cases k <;> trivial
theorem tmS (k : Nat) {x : Str} (h : (reprText x).length ≤ 130) : Tm k (.str x) := by cases k <;> exact h
theorem sz_le {n : Nat} (h : n ≤ 1000) : n ≤ sizeLine := Nat.le_trans h (by decide)
end XA

set_option Elab.async false
set_option linter.all false
set_option maxRecDepth 100000
set_option maxHeartbeats 4000000
/-! XL: a list of moderate data in the making. -/
namespace XA
open PySem PySem.Spec PyProof.Rows L2
theorem DaAll.hd {K : PySem.W.Frag} {H : Hp} {av : Addr} {v : V} {vs : List V} {d : PyData} {ds : List PyData} (h : DaAll K H av (v :: vs) (d :: ds)) : Da K H av v d := by
  cases h with
  | cons h1 _ => exact h1
theorem DaAll.tl {K : PySem.W.Frag} {H : Hp} {av : Addr} {v : V} {vs : List V} {d : PyData} {ds : List PyData} (h : DaAll K H av (v :: vs) (d :: ds)) : DaAll K H av vs ds := by
  cases h with
  | cons _ h1 => exact h1
/-- a list of moderate data at S -/
structure Ls (j : Nat) (K : PySem.W.Frag) (F : Hp) (pen S : Addr) (vs : List V) (ds : List PyData) : Prop where
  at_ : F S = some (.lst vs)
  da : DaAll K F pen vs ds
  tm : ∀ d ∈ ds, Tm j d
  ne : S ≠ pen
theorem Ls.same {j : Nat} {K : PySem.W.Frag} {F F' : Hp} {pen S : Addr} {vs : List V} {ds : List PyData} (h : Ls j K F pen S vs ds) (s : Same F F') : Ls j K F' pen S vs ds :=
  ⟨s _ _ h.at_, h.da.same s, h.tm, h.ne⟩
theorem Ls.oth {j : Nat} {K : PySem.W.Frag} {F F' : Hp} {pen c S : Addr} {n : Int} {vs : List V} {ds : List PyData} (h : Ls j K F pen S vs ds) (P : PenC F pen c n) (s : Oth F F' pen) : Ls j K F' pen S vs ds :=
  ⟨s _ _ h.ne h.at_, h.da.othP P s, h.tm, h.ne⟩
/-- a longer list, new at S' -/
theorem Ls.ext {j : Nat} {K : PySem.W.Frag} {F : Hp} {pen S S' : Addr} {vs us : List V} {ds es : List PyData} (h : Ls j K F pen S vs ds) (ha : DaAll K F pen us es) (ht : ∀ d ∈ es, Tm j d)
    (n : F S' = Option.none) (ne : S' ≠ pen) : Ls j K (L2.upd F S' (.lst (vs ++ us))) pen S' (vs ++ us) (ds ++ es) := by
  refine ⟨upd_same, (h.da.append ha).same (same_upd n), ?_, ne⟩
  intro d hd
  rcases List.mem_append.mp hd with hd | hd
  · exact h.tm d hd
  · exact ht d hd
theorem Ls.pick {j : Nat} {K : PySem.W.Frag} {F : Hp} {pen S : Addr} {vs : List V} {ds : List PyData} (h : Ls j K F pen S vs ds) {x : V} (hx : x ∈ vs) : ∃ d, Da K F pen x d ∧ Tm j d := by
  obtain ⟨i, hi, e⟩ := List.mem_iff_getElem.mp hx
  obtain ⟨d, hd, hda⟩ := h.da.get (i := i) (v := x) (by rw [List.getElem?_eq_getElem hi, e])
  exact ⟨d, hda, h.tm d (List.mem_of_getElem? hd)⟩
theorem Tm.cut {k : Nat} {ds : List PyData} (lo hi : Option Int) (h : Tm (k + 1) (.tuple ds)) : Tm (k + 1) (.tuple (cutD ds lo hi)) :=
  ⟨Nat.le_trans (cutD_len ds lo hi) h.1, fun d hd => h.2 d (cutD_mem hd)⟩
theorem Tm.snoc {k : Nat} {ds : List PyData} {d : PyData} (h : Tm (k + 1) (.tuple ds)) (hl : ds.length ≤ 7) (hd : Tm k d) : Tm (k + 1) (.tuple (ds ++ [d])) := by
  refine ⟨by rw [List.length_append]; exact Nat.succ_le_succ hl, fun e he => ?_⟩
  rcases List.mem_append.mp he with he | he
  · exact h.2 e he
  · rw [List.mem_singleton.mp he]
    exact hd
theorem Tm.app {k : Nat} {ds es : List PyData} (h : ∀ d ∈ ds, Tm k d) (h' : ∀ d ∈ es, Tm k d) (hl : ds.length + es.length ≤ 8) : Tm (k + 1) (.tuple (ds ++ es)) := by
  refine ⟨by rw [List.length_append]; exact hl, fun e he => ?_⟩
  rcases List.mem_append.mp he with he | he
  · exact h e he
  · exact h' e he
theorem Tm.mid {k : Nat} {ds es : List PyData} {d : PyData} (h1 : ∀ x ∈ ds, Tm k x) (h2 : Tm k d) (h3 : ∀ x ∈ es, Tm k x) (hl : ds.length + 1 + es.length ≤ 8) : Tm (k + 1) (.tuple (ds ++ [d] ++ es)) := by
  refine Tm.app (fun x hx => ?_) h3 (by rw [List.length_append]; exact hl)
  rcases List.mem_append.mp hx with hx | hx
  · exact h1 x hx
  · rw [List.mem_singleton.mp hx]
    exact h2
theorem cutD_pre (ds : List PyData) {i : Int} (h0 : 0 ≤ i) : (cutD ds none (some i)).length ≤ i.toNat := by
  unfold cutD
  rw [List.length_take, HT.sIx_none]
  have e : HT.sIx ds.length ds.length (some i) = min i.toNat ds.length := by
    show (if i < 0 then _ else _) = _
    rw [if_neg (by omega)]
  rw [e]
  omega
theorem cutD_suf (ds : List PyData) {i : Int} (h0 : 0 ≤ i) : (cutD ds (some i) none).length ≤ ds.length - i.toNat := by
  unfold cutD
  rw [List.length_take, List.length_drop, HT.sIx_none]
  have e : HT.sIx ds.length 0 (some i) = min i.toNat ds.length := by
    show (if i < 0 then _ else _) = _
    rw [if_neg (by omega)]
  rw [e]
  omega
/-- the row at a place -/
theorem rowAt {K : PySem.W.Frag} {F : Hp} {av : Addr} {ys : List V} {rows : List (List Int)} {i : Nat} (h : DaAll K F av ys (rows.map rowD)) (hi : i < rows.length) :
    ∃ (b : Addr) (us : List V) (row : List Int), atI ys (i : Int) = some (.ref b) ∧ row ∈ rows ∧ SqT K F b us ∧ DaAll K F av us (row.map .int) ∧ us.length = row.length := by
  obtain ⟨v, hv, hd⟩ := h.getD (i := i) (d := rowD rows[i]) (by rw [List.getElem?_map, List.getElem?_eq_getElem hi]; rfl)
  obtain ⟨b, us, rfl, hS, hA⟩ := (show Da K F av v (.tuple (rows[i].map .int)) from hd).isTup
  have hl := (List.getElem?_eq_some_iff.mp hv).1
  refine ⟨b, us, rows[i], ?_, List.getElem_mem hi, hS, hA, by rw [hA.length, List.length_map]⟩
  exact atI_nat hv
theorem rowAtI {K : PySem.W.Frag} {F : Hp} {av : Addr} {ys : List V} {rows : List (List Int)} {i : Int} (h : DaAll K F av ys (rows.map rowD)) (h0 : 0 ≤ i) (hi : i < rows.length) :
    ∃ (b : Addr) (us : List V) (row : List Int), atI ys i = some (.ref b) ∧ row ∈ rows ∧ SqT K F b us ∧ DaAll K F av us (row.map .int) ∧ us.length = row.length := by
  obtain ⟨b, us, row, z⟩ := rowAt (i := i.toNat) h (by omega)
  rw [Int.toNat_of_nonneg h0] at z
  exact ⟨b, us, row, z⟩
theorem lay_rows : ∀ rows : List (List Int), PyData.canLayAll0 (rows.map rowD) = true
  | [] => rfl
  | n :: r => by
    rw [List.map_cons]
    simp only [PyData.canLayAll0, rowD, PyData.canLay0, lay_ints, lay_rows r, Bool.and_self]
theorem shaped_rows {k : Nat} {rows : List (List Int)} (h : Tm k (.tuple (rows.map rowD))) (hk : k ≤ 64) : SeqAt.shaped (.tuple (rows.map rowD)) = true := by
  unfold SeqAt.shaped
  have d := h.ok.2.2.1
  simp only [PyData.canLay0, lay_rows, Bool.true_and]
  exact decide_eq_true (by omega)
theorem shaped_nilT : SeqAt.shaped (.tuple []) = true := by decide
theorem eqv_rows (rows : List (List Int)) : PyData.eqv (.tuple (rows.map rowD)) (.tuple []) = rows.isEmpty := by
  cases rows with
  | nil => rfl
  | cons n r => rfl
theorem Tm.row {rows : List (List Int)} {row : List Int} (h : Tm 2 (.tuple (rows.map rowD))) (hr : row ∈ rows) : Tm 1 (.tuple (row.map .int)) :=
  h.2 (rowD row) (List.mem_map.mpr ⟨row, hr, rfl⟩)
structure Ds (j : Nat) (K : PySem.W.Frag) (F : Hp) (pen c : Addr) (m : Int) (xv : List V) (xd : List PyData) (us : List V) (es : List PyData) : Prop where
  P : PenC F pen c m
  X : DaAll K F pen xv xd
  I : DaAll K F pen us es
  T : ∀ d ∈ es, Tm j d
section
variable {K : PySem.W.Frag} {F F' : Hp} {pen c S : Addr} {m : Int} {j : Nat} {xv vs us ws : List V} {xd ds es zs : List PyData}
theorem Ds.same (h : Ds j K F pen c m xv xd us es) (s : Same F F') : Ds j K F' pen c m xv xd us es := ⟨h.P.same s, h.X.same s, h.I.same s, h.T⟩
theorem Ds.newT (h : Ds j K F pen c m xv xd us es) {t : Addr} (n : F t = none) (hd : DaAll K F pen ws zs) (ht : Tm j (.tuple zs)) :
    Ds j K (upd F t (.tup ws)) pen c m xv xd (us ++ [.ref t]) (es ++ [.tuple zs]) := by
  refine ⟨h.P.same (same_upd n), h.X.same (same_upd n), (h.I.same (same_upd n)).append (.cons (Da.newT hd n) .nil), ?_⟩
  intro d hd
  rcases List.mem_append.mp hd with hd | hd
  · exact h.T d hd
  · rw [List.mem_singleton.mp hd]
    exact ht
theorem Ds.add (h : Ds j K F pen c m xv xd us es) {v : V} {d : PyData} (hv : Da K F pen v d) (ht : Tm j d) :
    Ds j K F pen c m xv xd (us ++ [v]) (es ++ [d]) := by
  refine ⟨h.P, h.X, h.I.append (.cons hv .nil), ?_⟩
  intro e hd
  rcases List.mem_append.mp hd with hd | hd
  · exact h.T e hd
  · rw [List.mem_singleton.mp hd]
    exact ht
theorem Ds.newL (h : Ds j K F pen c m xv xd us es) {t : Addr} (n : F t = none) (hd : DaAll K F pen ws zs) (ht : Tm j (.list zs)) :
    Ds j K (upd F t (.lst ws)) pen c m xv xd (us ++ [.ref t]) (es ++ [.list zs]) := by
  refine ⟨h.P.same (same_upd n), h.X.same (same_upd n), (h.I.same (same_upd n)).append (.cons (.lst (h.P.new_ne n).1 (.inl (.inl upd_same)) (hd.same (same_upd n))) .nil), ?_⟩
  intro d hd
  rcases List.mem_append.mp hd with hd | hd
  · exact h.T d hd
  · rw [List.mem_singleton.mp hd]
    exact ht
theorem Ds.addX (h : Ds j K F pen c m xv xd us es) {v : V} {d : PyData} (hv : Da K F pen v d) : Ds j K F pen c m (xv ++ [v]) (xd ++ [d]) us es := ⟨h.P, h.X.append (.cons hv .nil), h.I, h.T⟩
theorem Ds.setX (h : Ds j K F pen c m xv xd us es) (hv : DaAll K F pen vs ds) : Ds j K F pen c m vs ds us es := ⟨h.P, hv, h.I, h.T⟩
theorem Ds.lev (h : Ds j K F pen c m xv xd us es) (i : Nat) : Ds i K F pen c m xv xd [] [] := ⟨h.P, h.X, .nil, fun d hd => by cases hd⟩
theorem Ds.oth (h : Ds j K F pen c m xv xd us es) {m' : Int} (s : Oth F F' pen) (P : PenC F' pen c m') : Ds j K F' pen c m' xv xd us es := ⟨P, h.X.othP h.P s, h.I.othP h.P s, h.T⟩
theorem Ds.nix (h : Ds j K F pen c m xv xd us es) : Ds j K F pen c m xv xd [] [] := ⟨h.P, h.X, .nil, fun d hd => by cases hd⟩
theorem Ds.keep (h : Ds j K F pen c m xv xd us es) : Ds j K F pen c m (xv ++ us) (xd ++ es) [] [] := ⟨h.P, h.X.append h.I, .nil, fun d hd => by cases hd⟩
/-- the list itself -/
theorem Ds.list (h : Ds j K F pen c m xv xd us es) (n : F S = Option.none) : Ls j K (upd F S (.lst us)) pen S us es :=
  ⟨upd_same, h.I.same (same_upd n), h.T, (h.P.new_ne n).1⟩
/-- glued behind another -/
theorem Ds.glue (h : Ds j K F pen c m xv xd us es) (hL : Ls j K F pen S vs ds) {N : Addr} (n : F N = Option.none) : Ls j K (upd F N (.lst (vs ++ us))) pen N (vs ++ us) (ds ++ es) :=
  hL.ext h.I h.T n (h.P.new_ne n).1
theorem Da.put {v : V} {d : PyData} {ps : List V} {o : HO} (h : Da K F pen v d) (n : noL d = true) (hS : F S = some (.lst ps)) : Da K (upd F S o) pen v d :=
  Da.any (av := S) d v n ((Da.any (av := pen) d v n h).grow hS)
theorem DaAll.put {ps : List V} {o : HO} : ∀ {us : List V} {es : List PyData}, DaAll K F pen us es → noLs es = true → F S = some (.lst ps) → DaAll K (upd F S o) pen us es
  | _, _, .nil, _, _ => .nil
  | _, _, .cons a b, n, hS => by
    simp only [noLs, Bool.and_eq_true] at n
    exact .cons (a.put n.1 hS) (b.put n.2 hS)
theorem Oth.putS {H G : Hp} {o : HO} (s : Same H G) (n : H S = Option.none) : Oth H (L2.upd G S o) pen := by
  intro b u nb e
  rw [upd_ne (ne_of_none e n)]
  exact s b u e
theorem tmK (j : Nat) : ∀ {k : Nat}, k ≤ 6 → Tm j (.str (Str.ofString (toString (k : Int))))
  | 0, _ => tmS j (by decide +kernel)
  | 1, _ => tmS j (by decide +kernel)
  | 2, _ => tmS j (by decide +kernel)
  | 3, _ => tmS j (by decide +kernel)
  | 4, _ => tmS j (by decide +kernel)
  | 5, _ => tmS j (by decide +kernel)
  | 6, _ => tmS j (by decide +kernel)
  | n + 7, h => absurd h (by omega)
theorem tm20 (k : Nat) {p : Int} (h2 : 2 ≤ p) (h : p ≤ 97) : Tm k (.int (p + 10 ^ (20 : Int).toNat)) := by
  refine tmI _ ?_
  have e20 : (10 : Int) ^ (20 : Int).toNat = 100000000000000000000 := by decide
  rw [e20]
  omega
theorem Tm.rep {k : Nat} {d : PyData} (h : Tm k d) (n : Nat) : ∀ x ∈ (List.replicate n [d]).flatten, Tm k x := by
  intro x hx
  obtain ⟨l, hl, hx⟩ := List.mem_flatten.mp hx
  rw [List.eq_of_mem_replicate hl] at hx
  rw [List.mem_singleton.mp hx]
  exact h
theorem DaAll.repF {v : V} {d : PyData} {H : Hp} {av : Addr} (h : Da K H av v d) : ∀ n : Nat, DaAll K H av (List.replicate n [v]).flatten (List.replicate n [d]).flatten
  | 0 => .nil
  | n + 1 => by
    rw [List.replicate_succ, List.replicate_succ]
    exact .cons h (DaAll.repF h n)
theorem Ds.rep {v : V} {d : PyData} (h : Ds j K F pen c m xv xd [v] [d]) (n : Nat) : Ds j K F pen c m xv xd (List.replicate n [v]).flatten (List.replicate n [d]).flatten :=
  ⟨h.P, h.X, DaAll.repF h.I.hd n, Tm.rep (h.T d (List.mem_singleton.mpr rfl)) n⟩
end
end XA

set_option Elab.async false
set_option linter.all false
set_option maxRecDepth 100000
set_option maxHeartbeats 8000000
local macro_rules | `(tactic| walk_at "rd") => `(tactic| dsimp only [L2.tRet, L2.tAndV, L2.tOrV, L2.tNotV, L2.tCB, L2.tCons, L2.tC, L2.tNil, L2.tOp, L2.tIf, L2.tIfS, L2.tSeq, L2.tAsg, L2.tTest, L2.tNot, L2.tAnd, L2.tOr, L2.tB, L2.tChain, L2.tDrop, L2.gName, L2.tCall, L2.tNext, L2.tRetN, L2.tTup, L2.tLst])
namespace K02
open PySem PySem.Spec PyProof.Rows L2 XA
def topS (i : Nat) : Stmt := PySem.Challenge.pw_rootrooms_k02_what_is_a_matrix.main.body.getD i (.Pass ⟨0, 0, 0, 0⟩)
abbrev s_is_whole : Stmt := topS 6
abbrev N_is_whole : List Str := ["thing"]
abbrev P_is_whole : List Str := ["thing"]
theorem sc_is_whole : FnScope N_is_whole P_is_whole (defScope s_is_whole) := ⟨rfl, rfl, rfl, by decide +kernel, rfl, by decide +kernel, by decide +kernel⟩
abbrev s_is_whole_to : Stmt := topS 7
abbrev N_is_whole_to : List Str := ["thing", "most"]
abbrev P_is_whole_to : List Str := ["thing", "most"]
theorem sc_is_whole_to : FnScope N_is_whole_to P_is_whole_to (defScope s_is_whole_to) := ⟨rfl, rfl, rfl, by decide +kernel, rfl, by decide +kernel, by decide +kernel⟩
abbrev s_is_prime : Stmt := topS 10
abbrev N_is_prime : List Str := ["thing", "number"]
abbrev P_is_prime : List Str := ["thing"]
theorem sc_is_prime : FnScope N_is_prime P_is_prime (defScope s_is_prime) := ⟨rfl, rfl, rfl, by decide +kernel, rfl, by decide +kernel, by decide +kernel⟩
abbrev s_need_prime : Stmt := topS 11
abbrev N_need_prime : List Str := ["prime"]
abbrev P_need_prime : List Str := ["prime"]
theorem sc_need_prime : FnScope N_need_prime P_need_prime (defScope s_need_prime) := ⟨rfl, rfl, rfl, by decide +kernel, rfl, by decide +kernel, by decide +kernel⟩
abbrev s_is_matrix : Stmt := topS 14
abbrev N_is_matrix : List Str := ["thing", "prime"]
abbrev P_is_matrix : List Str := ["thing", "prime"]
theorem sc_is_matrix : FnScope N_is_matrix P_is_matrix (defScope s_is_matrix) := ⟨rfl, rfl, rfl, by decide +kernel, rfl, by decide +kernel, by decide +kernel⟩
abbrev s_ones : Stmt := topS 15
abbrev N_ones : List Str := ["many", "lines", "row", "k"]
abbrev P_ones : List Str := ["many"]
theorem sc_ones : FnScope N_ones P_ones (defScope s_ones) := ⟨rfl, rfl, rfl, by decide +kernel, rfl, by decide +kernel, by decide +kernel⟩
abbrev s_noughts : Stmt := topS 16
abbrev N_noughts : List Str := ["rows", "columns"]
abbrev P_noughts : List Str := ["rows", "columns"]
theorem sc_noughts : FnScope N_noughts P_noughts (defScope s_noughts) := ⟨rfl, rfl, rfl, by decide +kernel, rfl, by decide +kernel, by decide +kernel⟩
abbrev s__is_made : Stmt := topS 17
abbrev N__is_made : List Str := ["thing", "prime", "rows", "columns", "numbers", "row"]
abbrev P__is_made : List Str := ["thing", "prime"]
theorem sc__is_made : FnScope N__is_made P__is_made (defScope s__is_made) := ⟨rfl, rfl, rfl, by decide +kernel, rfl, by decide +kernel, by decide +kernel⟩
abbrev s__is_row : Stmt := topS 18
abbrev N__is_row : List Str := ["thing", "columns", "prime", "x"]
abbrev P__is_row : List Str := ["thing", "columns", "prime"]
theorem sc__is_row : FnScope N__is_row P__is_row (defScope s__is_row) := ⟨rfl, rfl, rfl, by decide +kernel, rfl, by decide +kernel, by decide +kernel⟩
abbrev s__need_size : Stmt := topS 19
abbrev N__need_size : List Str := ["thing"]
abbrev P__need_size : List Str := ["thing"]
theorem sc__need_size : FnScope N__need_size P__need_size (defScope s__need_size) := ⟨rfl, rfl, rfl, by decide +kernel, rfl, by decide +kernel, by decide +kernel⟩
abbrev s__law_spread : Stmt := topS 21
abbrev N__law_spread : List Str := ["cell", "at", "primes", "mixed", "one", "two", "three"]
abbrev P__law_spread : List Str := ["cell", "at"]
theorem sc__law_spread : FnScope N__law_spread P__law_spread (defScope s__law_spread) := ⟨rfl, rfl, rfl, by decide +kernel, rfl, by decide +kernel, by decide +kernel⟩
abbrev s__law_open : Stmt := topS 22
abbrev N__law_open : List Str := ["script", "cells", "k", "cell"]
abbrev P__law_open : List Str := ["script"]
theorem sc__law_open : FnScope N__law_open P__law_open (defScope s__law_open) := ⟨rfl, rfl, rfl, by decide +kernel, rfl, by decide +kernel, by decide +kernel⟩
abbrev s__law_anew : Stmt := topS 23
abbrev N__law_anew : List Str := ["pen"]
abbrev P__law_anew : List Str := ["pen"]
theorem sc__law_anew : FnScope N__law_anew P__law_anew (defScope s__law_anew) := ⟨rfl, rfl, rfl, by decide +kernel, rfl, by decide +kernel, by decide +kernel⟩
abbrev s__law_take : Stmt := topS 24
abbrev N__law_take : List Str := ["pen", "many", "at", "cell", "found"]
abbrev P__law_take : List Str := ["pen", "many"]
theorem sc__law_take : FnScope N__law_take P__law_take (defScope s__law_take) := ⟨rfl, rfl, rfl, by decide +kernel, rfl, by decide +kernel, by decide +kernel⟩
abbrev s__law_one : Stmt := topS 25
abbrev N__law_one : List Str := ["pen", "some"]
abbrev P__law_one : List Str := ["pen", "some"]
theorem sc__law_one : FnScope N__law_one P__law_one (defScope s__law_one) := ⟨rfl, rfl, rfl, by decide +kernel, rfl, by decide +kernel, by decide +kernel⟩
abbrev s__law_prime : Stmt := topS 26
abbrev N__law_prime : List Str := ["pen", "every", "p", "k"]
abbrev P__law_prime : List Str := ["pen"]
theorem sc__law_prime : FnScope N__law_prime P__law_prime (defScope s__law_prime) := ⟨rfl, rfl, rfl, by decide +kernel, rfl, by decide +kernel, by decide +kernel⟩
abbrev s__law_matrix : Stmt := topS 27
abbrev N__law_matrix : List Str := ["pen", "high", "wide", "p", "numbers", "thin", "at", "line", "k"]
abbrev P__law_matrix : List Str := ["pen", "high", "wide", "p"]
theorem sc__law_matrix : FnScope N__law_matrix P__law_matrix (defScope s__law_matrix) := ⟨rfl, rfl, rfl, by decide +kernel, rfl, by decide +kernel, by decide +kernel⟩
abbrev s__law_is_matrix : Stmt := topS 28
abbrev N__law_is_matrix : List Str := ["thing", "p", "size", "row", "k"]
abbrev P__law_is_matrix : List Str := ["thing", "p"]
theorem sc__law_is_matrix : FnScope N__law_is_matrix P__law_is_matrix (defScope s__law_is_matrix) := ⟨rfl, rfl, rfl, by decide +kernel, rfl, by decide +kernel, by decide +kernel⟩
abbrev s__law_bent : Stmt := topS 29
abbrev N__law_bent : List Str := ["pen", "one", "p", "rows", "columns", "numbers", "some", "at", "row", "odd", "k"]
abbrev P__law_bent : List Str := ["pen", "one", "p"]
theorem sc__law_bent : FnScope N__law_bent P__law_bent (defScope s__law_bent) := ⟨rfl, rfl, rfl, by decide +kernel, rfl, by decide +kernel, by decide +kernel⟩
abbrev s__law_refused : Stmt := topS 30
abbrev N__law_refused : List Str := ["way", "thing", "other", "caught", "e"]
abbrev P__law_refused : List Str := ["way", "thing", "other"]
theorem sc__law_refused : FnScope N__law_refused P__law_refused (defScope s__law_refused) := ⟨rfl, rfl, rfl, by decide +kernel, rfl, by decide +kernel, by decide +kernel⟩
abbrev s_law : Stmt := topS 31
abbrev N_law : List Str := ["script", "pen", "turn", "p", "one", "k", "thing", "handed", "bad", "high", "wide", "due", "odd", "some", "size", "i"]
abbrev P_law : List Str := ["script"]
theorem sc_law : FnScope N_law P_law (defScope s_law) := ⟨rfl, rfl, rfl, by decide +kernel, rfl, by decide +kernel, by decide +kernel⟩
def excNames : List Str := ["RoomError", "NoPrime", "NoMatrix", "NoFit"]
structure Txt (K : PySem.W.Frag) (mg : Str → Option Value) : Prop where
  g_RoomError : mg "RoomError" = some (.ref (He.ga K "RoomError"))
  g_NoPrime : mg "NoPrime" = some (.ref (He.ga K "NoPrime"))
  g_NoMatrix : mg "NoMatrix" = some (.ref (He.ga K "NoMatrix"))
  g_NoFit : mg "NoFit" = some (.ref (He.ga K "NoFit"))
  g_is_whole : mg "is_whole" = some (.ref (He.ga K "is_whole"))
  g_is_whole_to : mg "is_whole_to" = some (.ref (He.ga K "is_whole_to"))
  g_is_prime : mg "is_prime" = some (.ref (He.ga K "is_prime"))
  g_need_prime : mg "need_prime" = some (.ref (He.ga K "need_prime"))
  g_is_matrix : mg "is_matrix" = some (.ref (He.ga K "is_matrix"))
  g_ones : mg "ones" = some (.ref (He.ga K "ones"))
  g_noughts : mg "noughts" = some (.ref (He.ga K "noughts"))
  g__is_made : mg "_is_made" = some (.ref (He.ga K "_is_made"))
  g__is_row : mg "_is_row" = some (.ref (He.ga K "_is_row"))
  g__need_size : mg "_need_size" = some (.ref (He.ga K "_need_size"))
  g__law_spread : mg "_law_spread" = some (.ref (He.ga K "_law_spread"))
  g__law_open : mg "_law_open" = some (.ref (He.ga K "_law_open"))
  g__law_anew : mg "_law_anew" = some (.ref (He.ga K "_law_anew"))
  g__law_take : mg "_law_take" = some (.ref (He.ga K "_law_take"))
  g__law_one : mg "_law_one" = some (.ref (He.ga K "_law_one"))
  g__law_prime : mg "_law_prime" = some (.ref (He.ga K "_law_prime"))
  g__law_matrix : mg "_law_matrix" = some (.ref (He.ga K "_law_matrix"))
  g__law_is_matrix : mg "_law_is_matrix" = some (.ref (He.ga K "_law_is_matrix"))
  g__law_bent : mg "_law_bent" = some (.ref (He.ga K "_law_bent"))
  g__law_refused : mg "_law_refused" = some (.ref (He.ga K "_law_refused"))
  g_law : mg "law" = some (.ref (He.ga K "law"))
  f_all : mg "all" = none
  f_bool : mg "bool" = none
  f_enumerate : mg "enumerate" = none
  f_int : mg "int" = none
  f_isinstance : mg "isinstance" = none
  f_len : mg "len" = none
  f_list : mg "list" = none
  f_range : mg "range" = none
  f_repr : mg "repr" = none
  f_str : mg "str" = none
  f_tuple : mg "tuple" = none
  c_GREATEST_PRIME : ∃ t, mg "GREATEST_PRIME" = some (.int 97 t)
  c_MOST_ROWS : ∃ t, mg "MOST_ROWS" = some (.int 2000 t)
  x_RoomError : PySem.W.excIn K (He.ga K "RoomError") He.veBase "ValueError.__new__" = true
  k_RoomError : PySem.W.keepIn K (.ref (He.ga K "RoomError")) = true
  b_RoomError : PySem.W.subIn K (.ref (He.ga K "RoomError")) (.type "BaseException") = some true
  t_RoomError : PySem.W.typeIn K (.ref (He.ga K "RoomError")) = some (.type "type")
  e_RoomError : ExcC K (He.ga K "RoomError")
  x_NoPrime : PySem.W.excIn K (He.ga K "NoPrime") He.veBase "ValueError.__new__" = true
  k_NoPrime : PySem.W.keepIn K (.ref (He.ga K "NoPrime")) = true
  b_NoPrime : PySem.W.subIn K (.ref (He.ga K "NoPrime")) (.type "BaseException") = some true
  t_NoPrime : PySem.W.typeIn K (.ref (He.ga K "NoPrime")) = some (.type "type")
  e_NoPrime : ExcC K (He.ga K "NoPrime")
  x_NoMatrix : PySem.W.excIn K (He.ga K "NoMatrix") He.veBase "ValueError.__new__" = true
  k_NoMatrix : PySem.W.keepIn K (.ref (He.ga K "NoMatrix")) = true
  b_NoMatrix : PySem.W.subIn K (.ref (He.ga K "NoMatrix")) (.type "BaseException") = some true
  t_NoMatrix : PySem.W.typeIn K (.ref (He.ga K "NoMatrix")) = some (.type "type")
  e_NoMatrix : ExcC K (He.ga K "NoMatrix")
  x_NoFit : PySem.W.excIn K (He.ga K "NoFit") He.veBase "ValueError.__new__" = true
  k_NoFit : PySem.W.keepIn K (.ref (He.ga K "NoFit")) = true
  b_NoFit : PySem.W.subIn K (.ref (He.ga K "NoFit")) (.type "BaseException") = some true
  t_NoFit : PySem.W.typeIn K (.ref (He.ga K "NoFit")) = some (.type "type")
  e_NoFit : ExcC K (He.ga K "NoFit")
  exm : ∀ x ∈ excNames, PySem.W.exmOne K (.ref (He.ga K x)) (.ref (He.ga K "RoomError")) = some true
  kit : ∀ x ∈ excNames, ∀ y ∈ excNames, PySem.W.kitOne K (.ref (He.ga K x)) (.ref (He.ga K y)) = some (decide (x = y) || decide (y = "RoomError"))
  kitN : ∀ y ∈ excNames, PySem.W.kitOne K (.type "NoneType") (.ref (He.ga K y)) = some false
end K02

set_option Elab.async false
set_option linter.all false
set_option maxRecDepth 100000
set_option maxHeartbeats 8000000
namespace K02
open PySem PySem.Spec PyProof.Rows L2 XA

/-! ### the program's promises -/
def sp_is_whole (K : PySem.W.Frag) : Sp := fun vs H Q _ => ∃ x d av, vs = [x] ∧ Da K H av x d ∧ Q (.bl (whole d)) H
def sp_is_whole_to (K : PySem.W.Frag) : Sp := fun vs H Q _ => ∃ x d av m, vs = [x, .int m] ∧ Da K H av x d ∧ Q (.bl (wholeTo d m)) H
def sp_is_prime (K : PySem.W.Frag) : Sp := fun vs H Q _ => ∃ x d av, vs = [x] ∧ Da K H av x d ∧ ∀ H', Same H H' → Q (.bl (primeD d)) H'
def sp_need_prime (K : PySem.W.Frag) : Sp := fun vs H Q E => ∃ x d av, vs = [x] ∧ Da K H av x d ∧ ∀ H', Same H H' →
  if primeD d = true then Q .non H' else E (.ref (He.ga K "NoPrime")) none H'
def sp__need_size (K : PySem.W.Frag) : Sp := fun vs H Q E => ∃ x d av, vs = [x] ∧ Da K H av x d ∧
  if wholeTo d 2000 = true then Q .non H else E (.ref (He.ga K "NoFit")) none H
def sp__is_row (K : PySem.W.Frag) : Sp := fun vs H Q _ => ∃ x d av c p, vs = [x, .int c, .int p] ∧ Da K H av x d ∧ c ≤ 2000 ∧ ∀ H', Same H H' → Q (.bl (isRowD d c p)) H'
def sp__is_made (K : PySem.W.Frag) : Sp := fun vs H Q _ => ∃ x d av p, vs = [x, .int p] ∧ Da K H av x d ∧ ∀ H', Same H H' → Q (.bl (isMatD d p)) H'
def sp_is_matrix (K : PySem.W.Frag) : Sp := fun vs H Q E => ∃ x d y e av, vs = [x, y] ∧ Da K H av x d ∧ Da K H av y e ∧ ∀ H', Same H H' →
  (primeD e = false → E (.ref (He.ga K "NoPrime")) none H') ∧ ∀ p, e = .int p → primeN p = true → Q (.bl (isMatD d p)) H'
def sp_ones (K : PySem.W.Frag) : Sp := fun vs H Q E => ∃ x d av, vs = [x] ∧ Da K H av x d ∧ (wholeTo d 2000 = false → E (.ref (He.ga K "NoFit")) none H) ∧
  ∀ m : Nat, d = .int m → m ≤ 2000 → ∀ v H', Same H H' → (∀ av, Da K H' av v (matD m m (onesR m))) → Q v H'
def sp_noughts (K : PySem.W.Frag) : Sp := fun vs H Q E => ∃ x d y e av, vs = [x, y] ∧ Da K H av x d ∧ Da K H av y e ∧
  (wholeTo d 2000 = false → E (.ref (He.ga K "NoFit")) none H) ∧ (wholeTo d 2000 = true → wholeTo e 2000 = false → E (.ref (He.ga K "NoFit")) none H) ∧
  ∀ r c : Nat, d = .int r → e = .int c → r ≤ 2000 → c ≤ 2000 → ∀ v H', Same H H' → (∀ av, Da K H' av v (matD r c (noughtsR r c))) → Q v H'

/-! ### the pen's promises -/
def sp__law_spread : Sp := fun vs H Q _ => ∃ cell a : Int, vs = [.int cell, .int a] ∧ 0 ≤ a ∧ a ≤ 20000 ∧ ∀ (H' : Hp) (r : Int), Same H H' → Q (.int r) H'
def sp__law_open (K : PySem.W.Frag) : Sp := fun vs H Q _ => ∃ (a : Addr) (ns : List Int), vs = [.ref a] ∧ SqL K H a (ns.map V.int) ∧ ns.length ≤ 63 ∧
  ∀ (H' : Hp) (pen c : Addr), H pen = none → Same H H' → PenC H' pen c 0 → Q (.ref pen) H'
def sp__law_anew : Sp := fun vs H Q _ => ∃ (pen c : Addr) (n : Int), vs = [.ref pen] ∧ PenC H pen c n ∧ ∀ H', Oth H H' pen → PenC H' pen c n → Q (.ref pen) H'
def sp__law_take : Sp := fun vs H Q _ => ∃ (pen c : Addr) (m n : Int), vs = [.ref pen, .int m] ∧ PenC H pen c n ∧ n ≤ 10000 ∧ 0 < m ∧ m < 1073741824 ∧
  ∀ (r : Int) (H' : Hp), 0 ≤ r → r < m → Oth H H' pen → PenC H' pen c (n + 1) → Q (.int r) H'
def sp__law_one (K : PySem.W.Frag) : Sp := fun vs H Q _ => ∃ (pen c b : Addr) (xs : List V) (n : Int), vs = [.ref pen, .ref b] ∧ PenC H pen c n ∧ n ≤ 10000 ∧ b ≠ pen ∧ SqL K H b xs ∧ 0 < xs.length ∧
  xs.length ≤ 1000000 ∧ ∀ x ∈ xs, ∀ H', Oth H H' pen → PenC H' pen c (n + 1) → Q x H'
section
variable {P : Program} {w : World} {K : PySem.W.Frag} {mg : Str → Option Value} {base : Heap}
theorem ok_is_whole (T : Txt K mg) {fd : FuncData} (F : FnP K "is_whole" s_is_whole fd) :
    Has P w K mg base CX0 1 "is_whole" P_is_whole (sp_is_whole K) := by
  have G : FnOk P w K mg base CX0 1 (He.ga K "is_whole") fd P_is_whole (sp_is_whole K) := by
    refine F.ok (k := 0) sc_is_whole (fun vs H Q E h => ?_) (fun cdv A outer s H vs Q E hr h => ?_)
    · obtain ⟨x, d, av, rfl, hx, q⟩ := h
      rfl
    · obtain ⟨x, d, av, rfl, hx, q⟩ := h
      refine ⟨_, (PSs.nox (pss_one (ps_ret (pe_and (pe_callB (id := "isinstance") call_isZ (by rfl) T.f_isinstance (by decide +kernel) (pa_cons (pv 0) (pa_cons (pe_bltn (v := .ty "int") (by rfl) T.f_int (by decide +kernel) rfl) pa_nil))) (pe_one (pe_not (pe_callB (id := "isinstance") call_isZ (by rfl) T.f_isinstance (by decide +kernel) (pa_cons (pv 0) (pa_cons (pe_bltn (v := .ty "bool") (by rfl) T.f_bool (by decide +kernel) rfl) pa_nil))))))))), ?_⟩
      refine ⟨x, rfl, ?_⟩
      walk_at "rd"
      refine isz_d hx (Or.inl rfl) ⟨_, rfl, ?_⟩
      refine ite2 (fun c => ?_) (fun c => ?_)
      · refine ⟨x, rfl, ?_⟩
        walk_at "rd"
        refine isz_d hx (Or.inr (Or.inl rfl)) ⟨_, rfl, ?_⟩
        have e : (!isD d "bool") = whole d := by
          cases d <;> first | rfl | (simp [isD, tyD, whole, primeD, wholeTo] at c)
        show Q (.bl (!isD d "bool")) H
        rw [e]
        exact q
      · have e : whole d = false := by
          cases d <;> first | rfl | (simp [isD, tyD, whole, primeD, wholeTo] at c)
        rw [e] at q
        exact q
  exact has_of F G T.g_is_whole (fun _ _ _ _ _ _ us hl => match us, hl with | [_], _ => rfl)
theorem ok_is_whole_to (T : Txt K mg) {fd : FuncData} (F : FnP K "is_whole_to" s_is_whole_to fd)
    (H_is_whole : Has P w K mg base CX0 1 "is_whole" P_is_whole (sp_is_whole K)) :
    Has P w K mg base CX0 2 "is_whole_to" P_is_whole_to (sp_is_whole_to K) := by
  have G : FnOk P w K mg base CX0 2 (He.ga K "is_whole_to") fd P_is_whole_to (sp_is_whole_to K) := by
    refine F.ok (k := 1) sc_is_whole_to (fun vs H Q E h => ?_) (fun cdv A outer s H vs Q E hr h => ?_)
    · obtain ⟨x, d, av, m, rfl, hx, q⟩ := h
      rfl
    · obtain ⟨x, d, av, m, rfl, hx, q⟩ := h
      refine ⟨_, (PSs.nox (pss_one (ps_ret (pe_and (pe_has H_is_whole (hr.mono (by decide)) pass0 (pa_cons (pv 0) pa_nil)) (pe_one (pe_chain op_le op_le pe_int (pv 0) (pv 1))))))), ?_⟩
      refine ⟨x, rfl, x, d, av, rfl, hx, _, rfl, ?_⟩
      cases hw : whole d with
      | false =>
        have e : wholeTo d m = false := by
          cases d <;> first | rfl | (simp [isD, tyD, whole, primeD, wholeTo] at hw)
        rw [e] at q
        exact (if_neg Bool.false_ne_true).mpr q
      | true =>
        obtain ⟨n, rfl⟩ : ∃ n, d = .int n := by
          cases d <;> first | exact ⟨_, rfl⟩ | (simp [isD, tyD, whole, primeD, wholeTo] at hw)
        cases hx
        refine (if_pos rfl).mpr ?_
        refine ⟨_, rfl, 0, n, rfl, rfl, _, rfl, ?_⟩
        refine ite2 (fun c1 => ?_) (fun c1 => ?_)
        · refine ⟨_, rfl, n, m, rfl, rfl, ?_⟩
          have e : wholeTo (.int n) m = decide (n ≤ m) := by
            show decide (0 ≤ n ∧ n ≤ m) = decide (n ≤ m)
            have c1' : 0 ≤ n := of_decide_eq_true c1
            by_cases c2 : n ≤ m
            · rw [decide_eq_true c2, decide_eq_true ⟨c1', c2⟩]
            · rw [decide_eq_false c2, decide_eq_false (fun z => c2 z.2)]
          rw [e] at q
          exact q
        · have e : wholeTo (.int n) m = false := decide_eq_false fun z => c1 (decide_eq_true z.1)
          rw [e] at q
          exact q
  exact has_of F G T.g_is_whole_to (fun _ _ _ _ _ _ us hl => match us, hl with | [_, _], _ => rfl)
theorem ok_is_prime (T : Txt K mg) {fd : FuncData} (F : FnP K "is_prime" s_is_prime fd)
    (H_is_whole : Has P w K mg base CX0 1 "is_whole" P_is_whole (sp_is_whole K)) :
    Has P w K mg base CX0 2 "is_prime" P_is_prime (sp_is_prime K) := by
  have G : FnOk P w K mg base CX0 2 (He.ga K "is_prime") fd P_is_prime (sp_is_prime K) := by
    refine F.ok (k := 1) sc_is_prime (fun vs H Q E h => ?_) (fun cdv A outer s H vs Q E hr h => ?_)
    · obtain ⟨x, d, av, rfl, hx, q⟩ := h
      rfl
    · obtain ⟨x, d, av, rfl, hx, q⟩ := h
      refine ⟨_, (PSs.nox (pss_cons (ps_if (PW.pt (pw_or (pt_not (pt_val (pe_has H_is_whole (hr.mono (by decide)) pass0 (pa_cons (pv 0) pa_nil)))) (pw_or1 (pt_not (pt_chain op_le op_le pe_int (pv 0) (pe_glob (v := .int 97) (by rfl) (T.c_GREATEST_PRIME).choose_spec ⟨_, rfl⟩))))))
   (pss_one (ps_ret pe_bl)) pss_nil)
  (pss_one (ps_ret (pe_callB (id := "all") (cr_allI rfl) (by rfl) T.f_all (by decide +kernel) (pa_cons (pe_lc (own := [("number", 1)]) rfl sc_is_prime.nd (pi_range2 (by rfl) T.f_range (pa_cons pe_int (pa_cons (pv 0) pa_nil))) (blkOk_by (N := N_is_prime) (sc := defScope s_is_prime) (by decide +kernel)) (fun _ _ _ _ _ => pg_name (i := 1) (sc_is_prime.nd) rfl (by first | exact Or.inl rfl | exact Or.inr rfl)) (fun _ _ _ _ _ => pts_nil) (fun _ _ _ _ _ => (pe_op op_modP (pv 0) (pv 1)))) pa_nil)))))), ?_⟩
      have hP : ∀ b : Bool, primeD d = b → ∀ H', Same H H' → Q (.bl b) H' := by
        intro b e H' s
        rw [← e]
        exact q H' s
      refine ⟨_, rfl, x, d, av, rfl, hx, _, rfl, ?_⟩
      cases hi : whole d with
      | false =>
        refine iteT ?_
        refine iteT ?_
        refine hP false ?_ H (Same.refl H)
        cases d <;> first | rfl | (simp [isD, tyD, whole, primeD, wholeTo] at hi)
      | true =>
        obtain ⟨n, rfl⟩ : ∃ n, d = .int n := by
          cases d <;> first | exact ⟨_, rfl⟩ | (simp [isD, tyD, whole, primeD, wholeTo] at hi)
        cases hx
        refine iteF ?_
        refine ⟨_, rfl, 2, n, rfl, rfl, _, rfl, ?_⟩
        refine ite2 (fun c1 => ?_) (fun c1 => ?_)
        · refine ⟨n, 97, rfl, rfl, _, rfl, ?_⟩
          have c1' : 2 ≤ n := of_decide_eq_true c1
          by_cases c2 : n ≤ 97
          · rw [decide_eq_true c2]
            refine iteF ?_
            refine ⟨_, rfl, 2, n, rfl, ⟨by decide, by decide, by omega, by omega⟩, ?_⟩
            intro D hD
            refine lc_range (lo := 2) (n := (n - 2).toNat) (fun i G => Same H G ∧ G D = some (.lst (((List.range i).map fun (i : Nat) => n % (2 + (i : Int))).map V.int))) ⟨same_upd hD, upd_same⟩ ?_ ?_
            · rintro i G hi ⟨sG, hG⟩
              refine ⟨rfl, ?_⟩
              refine ⟨_, rfl, _, rfl, n, 2 + (i : Int), rfl, rfl, by omega, ?_⟩
              refine ⟨_, (Same.refl G) _ _ hG, lt10 (by rw [List.length_map, List.length_map, List.length_range]; omega), acc_same hD sG (Same.refl G), ?_⟩
              rw [upd_same, List.range_succ, List.map_append, List.map_append]
              rfl
            · rintro G ⟨sG, hG⟩
              refine ⟨D, (List.range (n - 2).toNat).map (fun (i : Nat) => n % (2 + (i : Int))), rfl, .inl (.inl hG), ?_⟩
              refine hP _ ?_ _ sG
              show (decide (2 ≤ n ∧ n ≤ 97) && _) = _
              rw [decide_eq_true (⟨c1', c2⟩ : 2 ≤ n ∧ n ≤ 97), Bool.true_and]
          · rw [decide_eq_false c2]
            refine iteT ?_
            refine hP false (primeN_out fun z => c2 z.2) H (Same.refl H)
        · refine ⟨false, rfl, ?_⟩
          refine iteT ?_
          refine hP false (primeN_out fun z => c1 (decide_eq_true z.1)) H (Same.refl H)
  exact has_of F G T.g_is_prime (fun _ _ _ _ _ _ us hl => match us, hl with | [_], _ => rfl)
theorem ok_need_prime (T : Txt K mg) {fd : FuncData} (F : FnP K "need_prime" s_need_prime fd)
    (H_is_prime : Has P w K mg base CX0 2 "is_prime" P_is_prime (sp_is_prime K)) :
    Has P w K mg base (L2.CX P w) 3 "need_prime" P_need_prime (sp_need_prime K) := by
  have G : FnOk P w K mg base (L2.CX P w) 3 (He.ga K "need_prime") fd P_need_prime (sp_need_prime K) := by
    refine F.ok (k := 2) sc_need_prime (fun vs H Q E h => ?_) (fun cdv A outer s H vs Q E hr h => ?_)
    · obtain ⟨x, d, av, rfl, hx, q⟩ := h
      rfl
    · obtain ⟨x, d, av, rfl, hx, q⟩ := h
      refine ⟨_, (pss_one (ps_if (pt_not (pt_val (pe_has H_is_prime (hr.mono (by decide)) pass0 (pa_cons (pv 0) pa_nil))))
   (pss_one (ps_raise rfl (takes_of rfl rfl rfl rfl) (pmk_own PySem.F.excBase_ValueError T.x_NoPrime T.g_NoPrime T.k_NoPrime (raises_own T.b_NoPrime T.t_NoPrime) rfl))) pss_nil)), ?_⟩
      refine ⟨x, rfl, x, d, av, rfl, hx, fun H' s => ⟨_, rfl, ?_⟩⟩
      have q' := q H' s
      by_cases c : primeD d = true
      · rw [if_pos c] at q'
        rw [c]
        exact iteF q'
      · rw [if_neg c] at q'
        rw [Bool.not_eq_true _ |>.mp c]
        exact iteT q'
  exact has_of F G T.g_need_prime (fun _ _ _ _ _ _ us hl => match us, hl with | [_], _ => rfl)
theorem ok__need_size (T : Txt K mg) {fd : FuncData} (F : FnP K "_need_size" s__need_size fd)
    (H_is_whole_to : Has P w K mg base CX0 2 "is_whole_to" P_is_whole_to (sp_is_whole_to K)) :
    Has P w K mg base (L2.CX P w) 3 "_need_size" P__need_size (sp__need_size K) := by
  have G : FnOk P w K mg base (L2.CX P w) 3 (He.ga K "_need_size") fd P__need_size (sp__need_size K) := by
    refine F.ok (k := 2) sc__need_size (fun vs H Q E h => ?_) (fun cdv A outer s H vs Q E hr h => ?_)
    · obtain ⟨x, d, av, rfl, hx, q⟩ := h
      rfl
    · obtain ⟨x, d, av, rfl, hx, q⟩ := h
      refine ⟨_, (pss_one (ps_if (pt_not (pt_val (pe_has H_is_whole_to (hr.mono (by decide)) pass0 (pa_cons (pv 0) (pa_cons (pe_glob (v := .int 2000) (by rfl) (T.c_MOST_ROWS).choose_spec ⟨_, rfl⟩) pa_nil)))))
   (pss_one (ps_raise rfl (takes_of rfl rfl rfl rfl) (pmk_own PySem.F.excBase_ValueError T.x_NoFit T.g_NoFit T.k_NoFit (raises_own T.b_NoFit T.t_NoFit) rfl))) pss_nil)), ?_⟩
      refine ⟨x, rfl, x, d, av, 2000, rfl, hx, _, rfl, ?_⟩
      by_cases c : wholeTo d 2000 = true
      · rw [if_pos c] at q
        rw [c]
        exact iteF q
      · rw [if_neg c] at q
        rw [Bool.not_eq_true _ |>.mp c]
        exact iteT q
  exact has_of F G T.g__need_size (fun _ _ _ _ _ _ us hl => match us, hl with | [_], _ => rfl)
theorem ok__is_row (T : Txt K mg) {fd : FuncData} (F : FnP K "_is_row" s__is_row fd)
    (H_is_whole_to : Has P w K mg base CX0 2 "is_whole_to" P_is_whole_to (sp_is_whole_to K)) :
    Has P w K mg base CX0 3 "_is_row" P__is_row (sp__is_row K) := by
  have G : FnOk P w K mg base CX0 3 (He.ga K "_is_row") fd P__is_row (sp__is_row K) := by
    refine F.ok (k := 2) sc__is_row (fun vs H Q E h => ?_) (fun cdv A outer s H vs Q E hr h => ?_)
    · obtain ⟨x, d, av, c, p, rfl, hx, hc, q⟩ := h
      rfl
    · obtain ⟨x, d, av, c, p, rfl, hx, hc, q⟩ := h
      refine ⟨_, (PSs.nox (pss_cons (ps_if (PW.pt (pw_or (pt_not (pt_val (pe_callB (id := "isinstance") call_isZ (by rfl) T.f_isinstance (by decide +kernel) (pa_cons (pv 0) (pa_cons (pe_bltn (v := .ty "tuple") (by rfl) T.f_tuple (by decide +kernel) rfl) pa_nil))))) (pw_or1 (pt_cmpR op_ne (pe_callB (id := "len") call_len (by rfl) T.f_len (by decide +kernel) (pa_cons (pv 0) pa_nil)) (pv 1) (nomark _)))))
   (pss_one (ps_ret pe_bl)) pss_nil)
  (pss_one (ps_ret (pe_callB (id := "all") (cr_all rfl) (by rfl) T.f_all (by decide +kernel) (pa_cons (pe_lc (own := [("x", 3)]) rfl sc__is_row.nd (pi_tup (pv 0)) (blkOk_by (N := N__is_row) (sc := defScope s__is_row) (by decide +kernel)) (fun _ _ _ _ _ => pg_name (i := 3) (sc__is_row.nd) rfl (by first | exact Or.inl rfl | exact Or.inr rfl)) (fun _ _ _ _ _ => pts_nil) (fun _ _ _ _ _ => (pe_has H_is_whole_to (hr.mono (by decide)) pass0 (pa_cons (pv 3) (pa_cons (pe_op op_sub (pv 2) pe_int) pa_nil))))) pa_nil)))))), ?_⟩
      have hP : ∀ b : Bool, isRowD d c p = b → ∀ H', Same H H' → Q (.bl b) H' := by
        intro b e H' s
        rw [← e]
        exact q H' s
      refine ⟨x, rfl, ?_⟩
      walk_at "rd"
      refine isz_d hx (Or.inr (Or.inr (Or.inl rfl))) ⟨_, rfl, ?_⟩
      cases ht : isD d "tuple" with
      | false =>
        refine iteT ?_
        refine iteT ?_
        refine hP false ?_ H (Same.refl H)
        cases d <;> first | rfl | (simp [isD, tyD, whole, primeD, wholeTo] at ht)
      | true =>
        obtain ⟨ds, rfl⟩ : ∃ ds, d = .tuple ds := by
          cases d <;> first | exact ⟨_, rfl⟩ | (simp [isD, tyD, whole, primeD, wholeTo] at ht)
        refine iteF ?_
        obtain ⟨a, xs, rfl, hS, hA⟩ := hx.isTup
        have hl := hA.length
        refine ⟨_, rfl, .ref a, xs.length, rfl, .inr ⟨_, hS, rfl⟩, _, rfl, rfl, _, rfl, ?_⟩
        by_cases e : ((xs.length : Nat) : Int) = c
        · rw [decide_eq_true (show V.int ((xs.length : Nat) : Int) = V.int c by rw [e])]
          refine iteF ?_
          refine ⟨_, rfl, a, rfl, ⟨_, hS⟩, fun D nD => ?_⟩
          refine lc_tup (K := K) (a := a) (xs := xs) (fun i G => Same H G ∧ G D = some (.lst (((ds.take i).map fun z => wholeTo z (p - 1)).map V.bl))) ⟨same_upd nD, upd_same⟩ (fun i G _ z => Same.seqT z.1 hS) ?_ ?_
          · rintro i v G hi ⟨sG, hG⟩
            obtain ⟨z, hz, hv⟩ := hA.get hi
            have hlt := (List.getElem?_eq_some_iff.mp hi).1
            refine ⟨rfl, ?_⟩
            refine ⟨_, rfl, _, rfl, p, 1, rfl, rfl, v, z, av, _, rfl, hv.same sG, ?_⟩
            refine ⟨_, (Same.refl G) _ _ hG, lt10 (by rw [List.length_map, List.length_map, List.length_take]; omega), acc_same nD sG (Same.refl G), ?_⟩
            rw [upd_same, List.take_add_one, hz, List.map_append, List.map_append]
            rfl
          · rintro G ⟨sG, hG⟩
            refine ⟨D, ds.map fun z => wholeTo z (p - 1), rfl, .inl (.inl (by rw [hG, hl, List.take_length])), ?_⟩
            refine hP _ ?_ _ sG
            show (decide ((ds.length : Int) = c) && _) = _
            rw [decide_eq_true (by omega), Bool.true_and, List.all_map]
            rfl
        · rw [decide_eq_false (show ¬ V.int ((xs.length : Nat) : Int) = V.int c from fun z => e (by injection z))]
          refine iteT ?_
          refine hP false ?_ H (Same.refl H)
          show (decide ((ds.length : Int) = c) && _) = _
          rw [decide_eq_false (by omega), Bool.false_and]
  exact has_of F G T.g__is_row (fun _ _ _ _ _ _ us hl => match us, hl with | [_, _, _], _ => rfl)
theorem ok__is_made (T : Txt K mg) {fd : FuncData} (F : FnP K "_is_made" s__is_made fd)
    (H_is_whole_to : Has P w K mg base CX0 2 "is_whole_to" P_is_whole_to (sp_is_whole_to K))
    (H__is_row : Has P w K mg base CX0 3 "_is_row" P__is_row (sp__is_row K)) :
    Has P w K mg base CX0 4 "_is_made" P__is_made (sp__is_made K) := by
  have G : FnOk P w K mg base CX0 4 (He.ga K "_is_made") fd P__is_made (sp__is_made K) := by
    refine F.ok (k := 3) sc__is_made (fun vs H Q E h => ?_) (fun cdv A outer s H vs Q E hr h => ?_)
    · obtain ⟨x, d, av, p, rfl, hx, q⟩ := h
      rfl
    · obtain ⟨x, d, av, p, rfl, hx, q⟩ := h
      refine ⟨_, (PSs.nox (pss_cons (ps_if (PW.pt (pw_or (pt_not (pt_val (pe_callB (id := "isinstance") call_isZ (by rfl) T.f_isinstance (by decide +kernel) (pa_cons (pv 0) (pa_cons (pe_bltn (v := .ty "tuple") (by rfl) T.f_tuple (by decide +kernel) rfl) pa_nil))))) (pw_or1 (pt_cmpR op_ne (pe_callB (id := "len") call_len (by rfl) T.f_len (by decide +kernel) (pa_cons (pv 0) pa_nil)) pe_int (nomark _)))))
   (pss_one (ps_ret pe_bl)) pss_nil)
  (pss_cons (ps_asg (pv 0) (pg_tup rfl (pgs_cons (pg_name (i := 2) sc__is_made.nd rfl (by first | exact Or.inl rfl | exact Or.inr rfl)) (pgs_cons (pg_name (i := 3) sc__is_made.nd rfl (by first | exact Or.inl rfl | exact Or.inr rfl)) (pgs_cons (pg_name (i := 4) sc__is_made.nd rfl (by first | exact Or.inl rfl | exact Or.inr rfl)) pgs_nil)))))
  (pss_cons (ps_if (PW.pt (pw_or (pt_not (pt_val (pe_has H_is_whole_to (hr.mono (by decide)) pass0 (pa_cons (pv 2) (pa_cons (pe_glob (v := .int 2000) (by rfl) (T.c_MOST_ROWS).choose_spec ⟨_, rfl⟩) pa_nil))))) (pw_or1 (pt_not (pt_val (pe_has H_is_whole_to (hr.mono (by decide)) pass0 (pa_cons (pv 3) (pa_cons (pe_glob (v := .int 2000) (by rfl) (T.c_MOST_ROWS).choose_spec ⟨_, rfl⟩) pa_nil))))))))
   (pss_one (ps_ret pe_bl)) pss_nil)
  (pss_cons (ps_if (PW.pt (pw_or (pt_not (pt_val (pe_callB (id := "isinstance") call_isZ (by rfl) T.f_isinstance (by decide +kernel) (pa_cons (pv 4) (pa_cons (pe_bltn (v := .ty "tuple") (by rfl) T.f_tuple (by decide +kernel) rfl) pa_nil))))) (pw_or1 (pt_cmpR op_ne (pe_callB (id := "len") call_len (by rfl) T.f_len (by decide +kernel) (pa_cons (pv 4) pa_nil)) (pv 2) (nomark _)))))
   (pss_one (ps_ret pe_bl)) pss_nil)
  (pss_one (ps_ret (pe_callB (id := "all") (cr_all rfl) (by rfl) T.f_all (by decide +kernel) (pa_cons (pe_lc (own := [("row", 5)]) rfl sc__is_made.nd (pi_tup (pv 4)) (blkOk_by (N := N__is_made) (sc := defScope s__is_made) (by decide +kernel)) (fun _ _ _ _ _ => pg_name (i := 5) (sc__is_made.nd) rfl (by first | exact Or.inl rfl | exact Or.inr rfl)) (fun _ _ _ _ _ => pts_nil) (fun _ _ _ _ _ => (pe_has H__is_row (hr.mono (by decide)) pass0 (pa_cons (pv 5) (pa_cons (pv 3) (pa_cons (pv 1) pa_nil)))))) pa_nil))))))))), ?_⟩
      have hP : ∀ b : Bool, isMatD d p = b → ∀ H', Same H H' → Q (.bl b) H' := by
        intro b e H' s
        rw [← e]
        exact q H' s
      refine ⟨x, rfl, ?_⟩
      walk_at "rd"
      refine isz_d hx (Or.inr (Or.inr (Or.inl rfl))) ⟨_, rfl, ?_⟩
      cases ht : isD d "tuple" with
      | false =>
        refine iteT ?_
        refine iteT ?_
        refine hP false ?_ H (Same.refl H)
        cases d <;> first | rfl | (simp [isD, tyD, whole, primeD, wholeTo] at ht)
      | true =>
        obtain ⟨ds, rfl⟩ : ∃ ds, d = .tuple ds := by
          cases d <;> first | exact ⟨_, rfl⟩ | (simp [isD, tyD, whole, primeD, wholeTo] at ht)
        refine iteF ?_
        obtain ⟨a, xs, rfl, hS, hA⟩ := hx.isTup
        have hl := hA.length
        refine ⟨_, rfl, .ref a, xs.length, rfl, .inr ⟨_, hS, rfl⟩, rfl, _, rfl, ?_⟩
        by_cases e : xs.length = 3
        · rw [decide_eq_true (show V.int ((xs.length : Nat) : Int) = V.int 3 by rw [e]; rfl)]
          refine iteF ?_
          obtain ⟨x1, x2, x3, rfl⟩ := len3 e
          obtain ⟨d1, d2, d3, rfl⟩ := len3 (show ds.length = 3 by omega)
          cases hA with
          | cons h1 hA =>
            cases hA with
            | cons h2 hA =>
              cases hA with
              | cons h3 hA =>
                refine ⟨_, rfl, a, _, rfl, hS, rfl, _, _, rfl, _, _, rfl, _, _, rfl, rfl, ?_⟩
                refine ⟨_, rfl, x1, d1, av, 2000, rfl, h1, _, rfl, ?_⟩
                cases w1 : wholeTo d1 2000 with
                | false =>
                  refine iteT ?_
                  refine iteT ?_
                  refine hP false ?_ H (Same.refl H)
                  cases d1 with
                  | int i =>
                    cases d3 with
                    | tuple rows =>
                      cases d2 with
                      | int j =>
                        show (decide (0 ≤ i ∧ i ≤ 2000) && _) = false
                        rw [show decide (0 ≤ i ∧ i ≤ 2000) = false from w1, Bool.false_and]
                      | _ => rfl
                    | _ => rfl
                  | _ => cases d3 <;> rfl
                | true =>
                  refine iteF ?_
                  refine ⟨_, rfl, x2, d2, av, 2000, rfl, h2, _, rfl, ?_⟩
                  obtain ⟨i, rfl⟩ : ∃ i, d1 = .int i := by
                    cases d1 <;> first | exact ⟨_, rfl⟩ | (simp [isD, tyD, whole, primeD, wholeTo] at w1)
                  cases w2 : wholeTo d2 2000 with
                  | false =>
                    refine iteT ?_
                    refine hP false ?_ H (Same.refl H)
                    cases d3 with
                    | tuple rows =>
                      cases d2 with
                      | int j =>
                        show (decide (0 ≤ i ∧ i ≤ 2000) && (decide (0 ≤ j ∧ j ≤ 2000) && _)) = false
                        rw [show decide (0 ≤ j ∧ j ≤ 2000) = false from w2, Bool.false_and, Bool.and_false]
                      | _ => rfl
                    | _ => rfl
                  | true =>
                    refine iteF ?_
                    obtain ⟨j, rfl⟩ : ∃ j, d2 = .int j := by
                      cases d2 <;> first | exact ⟨_, rfl⟩ | (simp [isD, tyD, whole, primeD, wholeTo] at w2)
                    cases h1
                    cases h2
                    have w1' : 0 ≤ i ∧ i ≤ 2000 := of_decide_eq_true w1
                    have w2' : 0 ≤ j ∧ j ≤ 2000 := of_decide_eq_true w2
                    refine ⟨_, rfl, ?_⟩
                    walk_at "rd"
                    refine isz_d h3 (Or.inr (Or.inr (Or.inl rfl))) ⟨_, rfl, ?_⟩
                    cases ht3 : isD d3 "tuple" with
                    | false =>
                      refine iteT ?_
                      refine iteT ?_
                      refine hP false ?_ H (Same.refl H)
                      cases d3 <;> first | rfl | (simp [isD, tyD, whole, primeD, wholeTo] at ht3)
                    | true =>
                      obtain ⟨rows, rfl⟩ : ∃ rows, d3 = .tuple rows := by
                        cases d3 <;> first | exact ⟨_, rfl⟩ | (simp [isD, tyD, whole, primeD, wholeTo] at ht3)
                      refine iteF ?_
                      obtain ⟨b, ys, rfl, hS3, hA3⟩ := h3.isTup
                      have hl3 := hA3.length
                      refine ⟨_, rfl, .ref b, ys.length, rfl, .inr ⟨_, hS3, rfl⟩, _, rfl, rfl, _, rfl, ?_⟩
                      by_cases e3 : ((ys.length : Nat) : Int) = i
                      · rw [decide_eq_true (show V.int ((ys.length : Nat) : Int) = V.int i by rw [e3])]
                        refine iteF ?_
                        refine ⟨_, rfl, b, rfl, ⟨_, hS3⟩, fun D nD => ?_⟩
                        refine lc_tup (K := K) (a := b) (xs := ys) (fun i G => Same H G ∧ G D = some (.lst (((rows.take i).map fun z => isRowD z j p).map V.bl))) ⟨same_upd nD, upd_same⟩ (fun i G _ z => Same.seqT z.1 hS3) ?_ ?_
                        · rintro i2 v G hi ⟨sG, hG⟩
                          obtain ⟨z, hz, hv⟩ := hA3.get hi
                          have hlt := (List.getElem?_eq_some_iff.mp hi).1
                          refine ⟨rfl, ?_⟩
                          refine ⟨_, rfl, _, rfl, _, rfl, v, z, av, j, p, rfl, hv.same sG, w2'.2, fun G4 s4 => ?_⟩
                          refine ⟨_, s4 _ _ hG, lt10 (by rw [List.length_map, List.length_map, List.length_take]; omega), acc_same nD sG s4, ?_⟩
                          rw [upd_same, List.take_add_one, hz, List.map_append, List.map_append]
                          rfl
                        · rintro G ⟨sG, hG⟩
                          refine ⟨D, rows.map fun z => isRowD z j p, rfl, .inl (.inl (by rw [hG, hl3, List.take_length])), ?_⟩
                          refine hP _ ?_ _ sG
                          show (decide (0 ≤ i ∧ i ≤ 2000) && (decide (0 ≤ j ∧ j ≤ 2000) && (decide ((rows.length : Int) = i) && _))) = _
                          rw [decide_eq_true w1', decide_eq_true w2', decide_eq_true (by omega : (rows.length : Int) = i), Bool.true_and, Bool.true_and, Bool.true_and, List.all_map]
                          rfl
                      · rw [decide_eq_false (show ¬ V.int ((ys.length : Nat) : Int) = V.int i from fun z => e3 (by injection z))]
                        refine iteT ?_
                        refine hP false ?_ H (Same.refl H)
                        show (decide (0 ≤ i ∧ i ≤ 2000) && (decide (0 ≤ j ∧ j ≤ 2000) && (decide ((rows.length : Int) = i) && _))) = false
                        rw [decide_eq_false (by omega : ¬ (rows.length : Int) = i), Bool.false_and, Bool.and_false, Bool.and_false]
        · rw [decide_eq_false (show ¬ V.int ((xs.length : Nat) : Int) = V.int 3 from fun z => e (by injection z with z; omega))]
          refine iteT ?_
          refine hP false ?_ H (Same.refl H)
          exact isMatD_len p (by omega)
  exact has_of F G T.g__is_made (fun _ _ _ _ _ _ us hl => match us, hl with | [_, _], _ => rfl)
theorem ok_is_matrix (T : Txt K mg) {fd : FuncData} (F : FnP K "is_matrix" s_is_matrix fd)
    (H_need_prime : Has P w K mg base (L2.CX P w) 3 "need_prime" P_need_prime (sp_need_prime K))
    (H__is_made : Has P w K mg base CX0 4 "_is_made" P__is_made (sp__is_made K)) :
    HasK P w K mg base (L2.CX P w) 5 "is_matrix" P_is_matrix 1 ["prime"] (sp_is_matrix K) := by
  have G : FnOk P w K mg base (L2.CX P w) 5 (He.ga K "is_matrix") fd P_is_matrix (sp_is_matrix K) := by
    refine F.ok (k := 4) sc_is_matrix (fun vs H Q E h => ?_) (fun cdv A outer s H vs Q E hr h => ?_)
    · obtain ⟨x, d, y, e, av, rfl, hx, hy, q⟩ := h
      rfl
    · obtain ⟨x, d, y, e, av, rfl, hx, hy, q⟩ := h
      refine ⟨_, (pss_cons (ps_expr (pe_has H_need_prime (hr.mono (by decide)) (passes_call (takes_of rfl rfl rfl rfl) (fun _ _ _ _ h => h)) (pa_cons (pv 1) pa_nil)))
  (pss_one (ps_ret (pe_has H__is_made (hr.mono (by decide)) pass0 (pa_cons (pv 0) (pa_cons (pv 1) pa_nil)))))), ?_⟩
      refine ⟨_, rfl, y, e, av, rfl, hy, fun H1 s1 => ?_⟩
      refine ite2 (fun c => ?_) (fun c => ?_)
      · obtain ⟨p, rfl⟩ : ∃ p, e = .int p := by
          cases e <;> first | exact ⟨_, rfl⟩ | (simp [isD, tyD, whole, primeD, wholeTo] at c)
        cases hy
        refine ⟨_, rfl, _, rfl, x, d, av, p, rfl, hx.same s1, fun H2 s2 => ?_⟩
        exact (q H2 (s1.trans s2)).2 p rfl c
      · exact (q H1 s1).1 (Bool.not_eq_true _ |>.mp c)
  exact hasK_of (n := 1) F G T.g_is_matrix (fun _ _ _ _ _ _ us ws hl hm => match us, ws, hl, hm with | [_], [_], _, _ => rfl)
theorem ok__law_spread (T : Txt K mg) {fd : FuncData} (F : FnP K "_law_spread" s__law_spread fd) :
    Has P w K mg base CX0 1 "_law_spread" P__law_spread sp__law_spread := by
  have G : FnOk P w K mg base CX0 1 (He.ga K "_law_spread") fd P__law_spread sp__law_spread := by
    refine F.ok (k := 0) sc__law_spread (fun vs H Q E h => ?_) (fun cdv A outer s H vs Q E hr h => ?_)
    · obtain ⟨cell, a, rfl, ha0, ha1, q⟩ := h
      rfl
    · obtain ⟨cell, a, rfl, ha0, ha1, q⟩ := h
      refine ⟨_, (PSs.nox (pss_cons (ps_if (pt_cmpR op_ge (pv 0) (pe_op op_pow pe_int pe_int) (nomark _))
   (pss_one (ps_ret (pv 0))) pss_nil)
  (pss_cons (ps_set (i := 2) sc__law_spread.nd rfl (by first | exact Or.inl rfl | exact Or.inr rfl) (pe_lst (pa_cons pe_int (pa_cons pe_int (pa_cons pe_int (pa_cons pe_int (pa_cons pe_int (pa_cons pe_int (pa_cons pe_int pa_nil)))))))))
  (pss_cons (ps_set (i := 2) sc__law_spread.nd rfl (by first | exact Or.inl rfl | exact Or.inr rfl) (pe_op op_cat (pv 2) (pe_lst (pa_cons pe_int (pa_cons pe_int (pa_cons pe_int (pa_cons pe_int (pa_cons pe_int (pa_cons pe_int pa_nil)))))))))
  (pss_cons (ps_set (i := 3) sc__law_spread.nd rfl (by first | exact Or.inl rfl | exact Or.inr rfl) (pe_op op_add (pe_op op_add (pe_op op_mul (pe_op op_modP (pv 0) pe_int) (pe_op op_add (pe_op op_mul pe_int (pv 1)) pe_int)) (pe_op op_mul (pv 1) pe_int)) pe_int))
  (pss_cons (ps_set (i := 4) sc__law_spread.nd rfl (by first | exact Or.inl rfl | exact Or.inr rfl) (pe_op op_modP (pe_op op_pow (pv 3) pe_int) (pe_ix ix_list (pv 2) (pe_op op_modP (pv 1) pe_int) (fun _ _ => rfl))))
  (pss_cons (ps_set (i := 5) sc__law_spread.nd rfl (by first | exact Or.inl rfl | exact Or.inr rfl) (pe_op op_modP (pe_op op_pow (pe_op op_add (pe_op op_add (pe_op op_mul (pv 4) (pe_op op_add (pv 1) pe_int)) (pe_op op_modP (pv 0) pe_int)) pe_int) pe_int) (pe_ix ix_list (pv 2) (pe_op op_modP (pe_op op_add (pv 1) pe_int) pe_int) (fun _ _ => rfl))))
  (pss_cons (ps_set (i := 6) sc__law_spread.nd rfl (by first | exact Or.inl rfl | exact Or.inr rfl) (pe_op op_modP (pe_op op_pow (pe_op op_add (pe_op op_add (pv 5) (pe_op op_modP (pv 4) pe_int)) (pv 1)) pe_int) (pe_ix ix_list (pv 2) (pe_op op_modP (pe_op op_add (pv 1) pe_int) pe_int) (fun _ _ => rfl))))
  (pss_one (ps_ret (pe_op op_add (pe_op op_mul (pe_op op_add (pe_op op_mul (pv 4) pe_int) (pv 5)) pe_int) (pv 6)))))))))))), ?_⟩
      refine ⟨_, rfl, _, _, rfl, rfl, ⟨by decide, by decide, by decide⟩, ?_⟩
      refine ⟨_, _, rfl, rfl, _, rfl, ?_⟩
      refine ite2 (fun _ => ?_) (fun _ => ?_)
      · exact ⟨_, rfl, q H cell (Same.refl H)⟩
      refine ⟨by show 7 ≤ sizeLine; decide, fun p1 n1 => ?_⟩
      refine ⟨_, rfl, by show 6 ≤ sizeLine; decide, fun p2 n2 => ?_⟩
      have ne12 : p1 ≠ p2 := ne_of_none upd_same n2
      refine ⟨p1, p2, _, _, rfl, rfl, by rw [upd_ne ne12]; exact upd_same, upd_same, by show 7 + 6 ≤ sizeLine; decide, fun p3 n3 => ?_⟩
      generalize hG : upd (upd (upd H p1 _) p2 _) p3 _ = G
      have sG : Same H G := by
        rw [← hG]
        exact (same_upd n1).trans ((same_upd n2).trans (same_upd n3))
      have hp3 : SqL K G p3 (spreads.map V.int) := by
        rw [← hG]
        exact .inl (.inl upd_same)
      -- mixed
      refine ⟨_, rfl, cell, 1000000007, rfl, rfl, by decide, ?_⟩
      refine ⟨_, rfl, 2, a, rfl, rfl, .inl ⟨by decide, by decide⟩, 2 * a, 69069, rfl, rfl, ?_⟩
      refine ⟨cell % 1000000007, 2 * a + 69069, rfl, rfl, .inl ⟨by omega, by omega⟩, ?_⟩
      refine ⟨_, rfl, a, 40503, rfl, rfl, .inl ⟨by omega, by omega⟩, ?_⟩
      refine ⟨_, _, rfl, rfl, _, _, rfl, rfl, ?_⟩
      have hm : 0 ≤ cell % 1000000007 * (2 * a + 69069) + a * 40503 + 977 ∧ cell % 1000000007 * (2 * a + 69069) + a * 40503 + 977 ≤ 200000000000000 := by
        have z := mul_in (a := cell % 1000000007) (b := 2 * a + 69069) (A := 1000000007) (B := 109069) (by omega) (by omega) (by omega) (by omega)
        omega
      try dsimp only
      generalize cell % 1000000007 * (2 * a + 69069) + a * 40503 + 977 = mixed at hm ⊢
      -- one
      refine ⟨_, rfl, mixed, 3, rfl, rfl, ⟨by decide, by decide, by omega⟩, ?_⟩
      obtain ⟨v1, hv1, hp1, hl1⟩ := spread_at a
      refine ⟨_, rfl, _, rfl, a, 13, rfl, rfl, by decide, p3, _, _, _, rfl, rfl, hp3, hv1, ?_⟩
      refine ⟨_, v1, rfl, rfl, hp1, ?_⟩
      have ho : 0 ≤ mixed ^ (3 : Int).toNat % v1 ∧ mixed ^ (3 : Int).toNat % v1 < 2147483647 := ⟨Int.emod_nonneg _ (by omega), Int.lt_trans (Int.emod_lt_of_pos _ hp1) hl1⟩
      try dsimp only
      generalize mixed ^ (3 : Int).toNat % v1 = one at ho ⊢
      -- two
      refine ⟨_, rfl, _, rfl, a, 3, rfl, rfl, ?_⟩
      refine ⟨one, a + 3, rfl, rfl, .inl ⟨by omega, by omega⟩, ?_⟩
      refine ⟨_, rfl, cell, 65537, rfl, rfl, by decide, ?_⟩
      refine ⟨_, _, rfl, rfl, _, _, rfl, rfl, ?_⟩
      have h2 : 0 ≤ one * (a + 3) + cell % 65537 + 5 ∧ one * (a + 3) + cell % 65537 + 5 < 100000000000000 := by
        have z := mul_in (a := one) (b := a + 3) (A := 2147483647) (B := 20003) (by omega) (by omega) (by omega) (by omega)
        omega
      try dsimp only
      generalize one * (a + 3) + cell % 65537 + 5 = t2 at h2 ⊢
      refine ⟨t2, 5, rfl, rfl, ⟨by decide, by decide, by omega⟩, ?_⟩
      obtain ⟨v2, hv2, hp2, hl2⟩ := spread_at (a + 5)
      refine ⟨_, rfl, _, rfl, a, 5, rfl, rfl, a + 5, 13, rfl, rfl, by decide, p3, _, _, _, rfl, rfl, hp3, hv2, ?_⟩
      refine ⟨_, v2, rfl, rfl, hp2, ?_⟩
      have hw : 0 ≤ t2 ^ (5 : Int).toNat % v2 ∧ t2 ^ (5 : Int).toNat % v2 < 2147483647 := ⟨Int.emod_nonneg _ (by omega), Int.lt_trans (Int.emod_lt_of_pos _ hp2) hl2⟩
      try dsimp only
      generalize t2 ^ (5 : Int).toNat % v2 = two at hw ⊢
      -- three
      refine ⟨_, rfl, _, rfl, one, 1009, rfl, rfl, by decide, two, one % 1009, rfl, rfl, ?_⟩
      refine ⟨_, rfl, _, a, rfl, rfl, _, 3, rfl, rfl, ⟨by decide, by decide, by omega⟩, ?_⟩
      obtain ⟨v3, hv3, hp3', hl3⟩ := spread_at (a + 7)
      refine ⟨_, rfl, _, rfl, a, 7, rfl, rfl, a + 7, 13, rfl, rfl, by decide, p3, _, _, _, rfl, rfl, hp3, hv3, ?_⟩
      refine ⟨_, v3, rfl, rfl, hp3', ?_⟩
      try dsimp only
      generalize (two + one % 1009 + a) ^ (3 : Int).toNat % v3 = three
      -- the end
      refine ⟨_, rfl, one, 2147483647, rfl, rfl, .inl ⟨by omega, by omega⟩, ?_⟩
      refine ⟨_, rfl, _, two, rfl, rfl, _, 2147483647, rfl, rfl, .inr ⟨by decide, by decide⟩, ?_⟩
      refine ⟨_, rfl, _, three, rfl, rfl, ?_⟩
      exact q _ _ sG
  exact has_of F G T.g__law_spread (fun _ _ _ _ _ _ us hl => match us, hl with | [_, _], _ => rfl)
theorem ok__law_open (T : Txt K mg) {fd : FuncData} (F : FnP K "_law_open" s__law_open fd) :
    Has P w K mg base CX0 1 "_law_open" P__law_open (sp__law_open K) := by
  have G : FnOk P w K mg base CX0 1 (He.ga K "_law_open") fd P__law_open (sp__law_open K) := by
    refine F.ok (k := 0) sc__law_open (fun vs H Q E h => ?_) (fun cdv A outer s H vs Q E hr h => ?_)
    · obtain ⟨a, ns, rfl, hS, hlen, q⟩ := h
      rfl
    · obtain ⟨a, ns, rfl, hS, hlen, q⟩ := h
      refine ⟨_, (PSs.nox (pss_cons (ps_set (i := 1) sc__law_open.nd rfl (by first | exact Or.inl rfl | exact Or.inr rfl) (pe_callTy (T := "list") call_list_of (by rfl) T.f_list (by decide +kernel) (pa_cons (pe_slice sl_list (pv 0) po_none (po_some pe_int)) pa_nil)))
  (pss_cons (ps_for PassesOwn.never rfl (pi_enum (by rfl) T.f_enumerate (pa_cons (pe_slice sl_list (pv 0) (po_some pe_int) (po_some pe_int)) pa_nil)) (pg_tup rfl (pgs_cons (pg_name (i := 2) sc__law_open.nd rfl (by first | exact Or.inl rfl | exact Or.inr rfl)) (pgs_cons (pg_name (i := 3) sc__law_open.nd rfl (by first | exact Or.inl rfl | exact Or.inr rfl)) pgs_nil)))
   (pss_one (ps_asg (pe_op op_add (pe_ix ix_list (pv 1) (pe_op op_modP (pv 2) pe_int) (fun _ _ => rfl)) (pv 3)) (pg_sub (pv 1) (pe_op op_modP (pv 2) pe_int) set_list))))
  (pss_one (ps_ret (pe_lst (pa_cons (pv 1) (pa_cons pe_int (pa_cons pe_int pa_nil))))))))), ?_⟩
      refine ⟨_, rfl, 12, rfl, a, ns.map V.int, rfl, hS, fun p1 n1 => ?_⟩
      have s1 := same_upd (o := .lst (cutV (ns.map V.int) none (some 12))) n1
      refine ⟨p1, _, rfl, .inl (.inl (.inl upd_same)), fun p2 n2 => ?_⟩
      have s2 := same_upd (o := .lst (cutV (ns.map V.int) none (some 12))) n2
      generalize hG : upd (upd H p1 _) p2 _ = G
      have sG : Same H G := by
        rw [← hG]
        exact s1.trans s2
      have hc : G p2 = some (.lst ((ns.take 12).map V.int)) := by
        rw [← hG, upd_same, show (12 : Int) = ((12 : Nat) : Int) from rfl, cut_take, List.map_take]
      have n2' : H p2 = none := Same.free s1 n2
      -- the rest of the script
      refine ⟨_, rfl, 12, rfl, 63, rfl, a, ns.map V.int, rfl, sG.seq hS, fun p3 n3 => ?_⟩
      have s3 := same_upd (o := .lst (cutV (ns.map V.int) (some 12) (some 63))) n3
      have h3 : (upd G p3 (.lst (cutV (ns.map V.int) (some 12) (some 63)))) p3 = some (.lst (((ns.drop 12).take 51).map V.int)) := by
        rw [upd_same, show (12 : Int) = ((12 : Nat) : Int) from rfl, show (63 : Int) = ((63 : Nat) : Int) from rfl, cut_mid, List.map_take, List.map_drop]
      have hc3 : (upd G p3 (.lst (cutV (ns.map V.int) (some 12) (some 63)))) p2 = some (.lst ((ns.take 12).map V.int)) := s3 _ _ hc
      have ne32 : p3 ≠ p2 := fun z => by rw [z, hc] at n3; cases n3
      refine ⟨p3, _, rfl, .inl (.inl h3), ?_⟩
      refine for_enumL (xs := ((ns.drop 12).take 51).map V.int)
        (fun i σ F => ∃ (k x : Option V) (cs : List Int), σ = [some (.ref a), some (.ref p2), k, x] ∧ Same H F ∧ F p3 = some (.lst (((ns.drop 12).take 51).map V.int)) ∧
          F p2 = some (.lst (cs.map V.int)) ∧ cs.length = (ns.take 12).length)
        ⟨none, none, ns.take 12, rfl, sG.trans s3, h3, hc3, rfl⟩ (fun i σ F ⟨_, _, _, _, _, h, _⟩ => .inl (.inl h)) ?_ ?_
      · rintro i x T σ F hx ⟨k, x', cs, rfl, sF, hF3, hF2, hl⟩ nT
        obtain ⟨z, hz, rfl⟩ : ∃ z, ((ns.drop 12).take 51)[i]? = some z ∧ V.int z = x := by
          rw [List.getElem?_map] at hx
          cases e : ((ns.drop 12).take 51)[i]? with
          | none => rw [e] at hx; cases hx
          | some z =>
            rw [e] at hx
            exact ⟨z, rfl, Option.some.inj hx⟩
        have hlen : (ns.take 12).length = 12 := by
          have h1 := (List.getElem?_eq_some_iff.mp hz).1
          rw [List.length_take, List.length_drop] at h1
          rw [List.length_take]
          omega
        have nT2 : p2 ≠ T := ne_of_none hF2 nT
        have nT3 : p3 ≠ T := ne_of_none hF3 nT
        have sT := same_upd (o := .tup [.int (i : Nat), .int z]) nT
        -- k, cell = the pair
        refine ⟨T, _, rfl, .inl (.inl upd_same), rfl, _, _, rfl, _, _, rfl, rfl, ?_⟩
        have hF2' : (upd F T (.tup [.int (i : Nat), .int z])) p2 = some (.lst (cs.map V.int)) := sT _ _ hF2
        obtain ⟨y, hk, _⟩ := atI_int (ns := cs) (i := (i : Int) % 12) (by omega) (by omega)
        refine ⟨_, rfl, _, rfl, i, 12, rfl, rfl, by decide, p2, _, _, _, rfl, rfl, .inl (.inl hF2'), hk, ?_⟩
        refine ⟨_, rfl, _, z, rfl, rfl, ?_⟩
        refine ⟨_, rfl, _, rfl, i, 12, rfl, rfl, by decide, ?_⟩
        have hix : ixN (cs.map V.int).length ((i : Int) % 12) = some ((i : Int) % 12).toNat := ixN_in (by omega) (by rw [List.length_map]; omega)
        refine ⟨p2, cs.map V.int, (i : Int) % 12, _, rfl, rfl, hF2', hix, ?_⟩
        refine ⟨_, _, cs.set ((i : Int) % 12).toNat (y + z), rfl, ?_, ?_, ?_, ?_⟩
        · intro b o e
          have nb : b ≠ p2 := ne_of_none e n2'
          rw [upd_ne nb]
          exact sT _ _ (sF _ _ e)
        · rw [upd_ne ne32]
          exact sT _ _ hF3
        · rw [upd_same, List.map_set]
        · rw [List.length_set]
          exact hl
      · rintro σ F ⟨k, x', cs, rfl, sF, hF3, hF2, hl⟩
        refine ⟨_, rfl, by show 3 ≤ sizeLine; decide, fun pen np => ?_⟩
        have sp := same_upd (o := .lst [.ref p2, .int 0, .int 0]) np
        refine q _ pen p2 (Same.free sF np) (sF.trans sp) ⟨cs, 0, 0, upd_same, sp _ _ hF2, ?_, by decide, by decide⟩
        rw [hl, List.length_take]
        omega
  exact has_of F G T.g__law_open (fun _ _ _ _ _ _ us hl => match us, hl with | [_], _ => rfl)
theorem ok__law_anew (T : Txt K mg) {fd : FuncData} (F : FnP K "_law_anew" s__law_anew fd) :
    Has P w K mg base CX0 1 "_law_anew" P__law_anew sp__law_anew := by
  have G : FnOk P w K mg base CX0 1 (He.ga K "_law_anew") fd P__law_anew sp__law_anew := by
    refine F.ok (k := 0) sc__law_anew (fun vs H Q E h => ?_) (fun cdv A outer s H vs Q E hr h => ?_)
    · obtain ⟨pen, c, n, rfl, hp, q⟩ := h
      rfl
    · obtain ⟨pen, c, n, rfl, hp, q⟩ := h
      refine ⟨_, (PSs.nox (pss_cons (ps_asg pe_int (pg_sub (pv 0) pe_int set_list))
  (pss_one (ps_ret (pv 0))))), ?_⟩
      obtain ⟨cells, at0, l, h1, h2, h3, h4, h5⟩ := hp
      refine ⟨_, rfl, ?_⟩
      refine ⟨pen, _, 2, 2, rfl, rfl, h1, rfl, ?_⟩
      refine ⟨_, rfl, q _ (Oth.refl H pen).upd (penC_put h1 h2 h3 (Oth.refl H pen) h4 h5)⟩
  exact has_of F G T.g__law_anew (fun _ _ _ _ _ _ us hl => match us, hl with | [_], _ => rfl)
theorem ok__law_take (T : Txt K mg) {fd : FuncData} (F : FnP K "_law_take" s__law_take fd)
    (H__law_spread : Has P w K mg base CX0 1 "_law_spread" P__law_spread sp__law_spread) :
    Has P w K mg base CX0 2 "_law_take" P__law_take sp__law_take := by
  have G : FnOk P w K mg base CX0 2 (He.ga K "_law_take") fd P__law_take sp__law_take := by
    refine F.ok (k := 1) sc__law_take (fun vs H Q E h => ?_) (fun cdv A outer s H vs Q E hr h => ?_)
    · obtain ⟨pen, c, m, n, rfl, hp, hn, hm0, hm1, q⟩ := h
      rfl
    · obtain ⟨pen, c, m, n, rfl, hp, hn, hm0, hm1, q⟩ := h
      refine ⟨_, (PSs.nox (C8.pss_cut (ps_if (pt_cmpR op_lt (pe_ix ix_list (pv 0) pe_int (fun _ _ => rfl)) (pv 1) (nomark _))
   (pss_cons (ps_set (i := 2) sc__law_take.nd rfl (by first | exact Or.inl rfl | exact Or.inr rfl) (pe_ix ix_list (pv 0) pe_int (fun _ _ => rfl)))
  (pss_cons (ps_set (i := 3) sc__law_take.nd rfl (by first | exact Or.inl rfl | exact Or.inr rfl) pe_int)
  (C8.pss_cut (ps_if (pt_cmpR op_lt (pv 2) (pe_callB (id := "len") call_len (by rfl) T.f_len (by decide +kernel) (pa_cons (pe_ix ix_list (pv 0) pe_int (fun _ _ => rfl)) pa_nil)) (nomark _))
   (pss_one (ps_set (i := 3) sc__law_take.nd rfl (by first | exact Or.inl rfl | exact Or.inr rfl) (pe_ix ix_list (pe_ix ix_list (pv 0) pe_int (fun _ _ => rfl)) (pv 2) (fun _ _ => rfl)))) (pss_one (ps_if (pt_cmpR op_gt (pe_callB (id := "len") call_len (by rfl) T.f_len (by decide +kernel) (pa_cons (pe_ix ix_list (pv 0) pe_int (fun _ _ => rfl)) pa_nil)) pe_int (nomark _))
   (pss_one (ps_set (i := 3) sc__law_take.nd rfl (by first | exact Or.inl rfl | exact Or.inr rfl) (pe_op op_modP (pe_ix ix_list (pe_ix ix_list (pv 0) pe_int (fun _ _ => rfl)) (pe_op op_modP (pe_op op_add (pe_op op_mul (pv 2) pe_int) pe_int) (pe_callB (id := "len") call_len (by rfl) T.f_len (by decide +kernel) (pa_cons (pe_ix ix_list (pv 0) pe_int (fun _ _ => rfl)) pa_nil))) (fun _ _ => rfl)) (pe_op op_add (pe_op op_pow pe_int pe_int) (pv 2))))) pss_nil)))
  (pss_cons (ps_asg (pe_op op_add (pv 2) pe_int) (pg_sub (pv 0) pe_int set_list))
  (pss_one (ps_asg (pe_has H__law_spread (hr.mono (by decide)) pass0 (pa_cons (pv 3) (pa_cons (pv 2) pa_nil))) (pg_sub (pv 0) pe_int set_list))))))) pss_nil)
  (pss_cons (ps_set (i := 4) sc__law_take.nd rfl (by first | exact Or.inl rfl | exact Or.inr rfl) (pe_op op_modP (pe_ix ix_list (pv 0) pe_int (fun _ _ => rfl)) (pv 1)))
  (pss_cons (ps_asg (pe_op op_divP (pe_ix ix_list (pv 0) pe_int (fun _ _ => rfl)) (pv 1)) (pg_sub (pv 0) pe_int set_list))
  (pss_one (ps_ret (pv 4))))))), ?_⟩
      obtain ⟨cells, a, l, h1, h2, h3, h4, h5⟩ := hp
      refine ⟨fun σ F => ∃ (x y : Option V) (a' l' : Int), σ = [some (.ref pen), some (.int m), x, y, none] ∧ Oth H F pen ∧ F pen = some (.lst [.ref c, .int a', .int l']) ∧ 0 ≤ a' ∧ a' ≤ n + 1, ?_, ?_⟩
      · refine ⟨_, rfl, pen, _, 2, .int l, rfl, rfl, .inl (.inl h1), rfl, _, rfl, l, m, rfl, rfl, _, rfl, ?_⟩
        refine ite2 (fun _ => ?_) (fun _ => ?_)
        · refine ⟨_, rfl, pen, _, 1, .int a, rfl, rfl, .inl (.inl h1), rfl, ?_⟩
          refine ⟨fun σ F => ∃ x : Int, σ = [some (.ref pen), some (.int m), some (.int a), some (.int x), none] ∧ F = H, ?_, ?_⟩
          · refine ⟨_, rfl, _, rfl, pen, _, 0, .ref c, rfl, rfl, .inl (.inl h1), rfl, .ref c, cells.length, rfl, .inl ⟨_, .inl (.inl h2), by rw [List.length_map]⟩, ?_⟩
            refine ⟨a, _, rfl, rfl, _, rfl, ?_⟩
            refine ite2 (fun c1 => ?_) (fun c1 => ?_)
            · have c1' : a < cells.length := of_decide_eq_true c1
              obtain ⟨y, hk, _⟩ := atI_int h4 c1'
              refine ⟨_, rfl, pen, _, 0, .ref c, rfl, rfl, .inl (.inl h1), rfl, _, rfl, c, _, a, _, rfl, rfl, .inl (.inl h2), hk, ?_⟩
              exact ⟨_, rfl, rfl⟩
            · refine ⟨_, rfl, pen, _, 0, .ref c, rfl, rfl, .inl (.inl h1), rfl, .ref c, cells.length, rfl, .inl ⟨_, .inl (.inl h2), by rw [List.length_map]⟩, ?_⟩
              refine ⟨(cells.length : Nat), 0, rfl, rfl, _, rfl, ?_⟩
              refine ite2 (fun c2 => ?_) (fun c2 => ?_)
              · have c2' : (0 : Int) < cells.length := of_decide_eq_true c2
                refine ⟨_, rfl, pen, _, 0, .ref c, rfl, rfl, .inl (.inl h1), rfl, ?_⟩
                refine ⟨_, rfl, a, 5, rfl, rfl, .inr ⟨by decide, by decide⟩, a * 5, 3, rfl, rfl, ?_⟩
                refine ⟨_, rfl, pen, _, 0, .ref c, rfl, rfl, .inl (.inl h1), rfl, .ref c, cells.length, rfl, .inl ⟨_, .inl (.inl h2), by rw [List.length_map]⟩, ?_⟩
                refine ⟨a * 5 + 3, (cells.length : Nat), rfl, rfl, c2', ?_⟩
                have b1 := Int.emod_nonneg (a * 5 + 3) (show (cells.length : Int) ≠ 0 by omega)
                have b2 := Int.emod_lt_of_pos (a * 5 + 3) c2'
                try dsimp only
                generalize hi : (a * 5 + 3) % (cells.length : Int) = i at b1 b2 ⊢
                obtain ⟨y, hk, _⟩ := atI_int b1 b2
                refine ⟨c, _, i, _, rfl, rfl, .inl (.inl h2), hk, ?_⟩
                refine ⟨10, 17, rfl, rfl, ⟨by decide, by decide, by decide⟩, _, rfl, _, a, rfl, rfl, ?_⟩
                refine ⟨_, _, rfl, rfl, ?_, ⟨_, rfl, rfl⟩⟩
                have e17 : (10 : Int) ^ (17 : Int).toNat = 100000000000000000 := by decide
                rw [e17]
                omega
              · exact ⟨0, rfl, rfl⟩
          · rintro σ F ⟨x, rfl, rfl⟩
            refine ⟨_, rfl, a, 1, rfl, rfl, _, rfl, pen, _, 1, 1, rfl, rfl, h1, rfl, ?_⟩
            refine ⟨_, rfl, _, rfl, x, a, rfl, h4, by omega, fun G r sG => ?_⟩
            have nc := pen_ne h1 h2
            have hpG : G pen = some (.lst [.ref c, .int (a + 1), .int l]) := sG _ _ upd_same
            refine ⟨_, rfl, pen, _, 2, 2, rfl, rfl, hpG, rfl, ?_⟩
            refine ⟨_, _, a + 1, r, rfl, ?_, upd_same, by omega, by omega⟩
            intro b o nb e
            rw [upd_ne nb]
            exact sG _ _ (by rw [upd_ne nb]; exact e)
        · exact ⟨_, _, a, l, rfl, Oth.refl H pen, h1, h4, by omega⟩
      · rintro σ F ⟨x, y, a', l', rfl, oF, hF, g1, g2⟩
        refine ⟨_, rfl, pen, _, 2, .int l', rfl, rfl, .inl (.inl hF), rfl, _, rfl, l', m, rfl, rfl, hm0, ?_⟩
        refine ⟨_, rfl, pen, _, 2, .int l', rfl, rfl, .inl (.inl hF), rfl, _, rfl, l', m, rfl, rfl, ⟨hm0, hm1⟩, ?_⟩
        refine ⟨_, rfl, pen, _, 2, 2, rfl, rfl, hF, rfl, ?_⟩
        refine ⟨_, rfl, q _ _ (Int.emod_nonneg _ (by omega)) (Int.emod_lt_of_pos _ hm0) oF.upd ?_⟩
        exact penC_put h1 h2 h3 oF g1 g2
  exact has_of F G T.g__law_take (fun _ _ _ _ _ _ us hl => match us, hl with | [_, _], _ => rfl)
theorem ok__law_one (T : Txt K mg) {fd : FuncData} (F : FnP K "_law_one" s__law_one fd)
    (H__law_take : Has P w K mg base CX0 2 "_law_take" P__law_take sp__law_take) :
    Has P w K mg base CX0 3 "_law_one" P__law_one (sp__law_one K) := by
  have G : FnOk P w K mg base CX0 3 (He.ga K "_law_one") fd P__law_one (sp__law_one K) := by
    refine F.ok (k := 2) sc__law_one (fun vs H Q E h => ?_) (fun cdv A outer s H vs Q E hr h => ?_)
    · obtain ⟨pen, c, b, xs, n, rfl, hp, hn, nb, hS, hl0, hl1, q⟩ := h
      rfl
    · obtain ⟨pen, c, b, xs, n, rfl, hp, hn, nb, hS, hl0, hl1, q⟩ := h
      refine ⟨_, (PSs.nox (pss_one (ps_ret (pe_ix ix_list (pv 1) (pe_has H__law_take (hr.mono (by decide)) pass0 (pa_cons (pv 0) (pa_cons (pe_callB (id := "len") call_len (by rfl) T.f_len (by decide +kernel) (pa_cons (pv 1) pa_nil)) pa_nil))) (fun _ _ => rfl))))), ?_⟩
      refine ⟨_, rfl, _, rfl, _, rfl, .ref b, xs.length, rfl, .inl ⟨_, hS, rfl⟩, ?_⟩
      refine ⟨pen, c, (xs.length : Nat), n, rfl, hp, hn, by omega, by omega, fun r H' r0 r1 oH hP => ?_⟩
      obtain ⟨x, hx, hk, _⟩ := atI_in r0 r1
      exact ⟨b, xs, r, x, rfl, rfl, oH.seq nb hS, hk, q x hx H' oH hP⟩
  exact has_of F G T.g__law_one (fun _ _ _ _ _ _ us hl => match us, hl with | [_, _], _ => rfl)
end
end K02

set_option Elab.async false
set_option linter.all false
set_option maxRecDepth 100000
set_option maxHeartbeats 8000000
namespace K02
open PySem PySem.Spec PyProof.Rows L2 XA
section
variable {P : Program} {w : World} {K : PySem.W.Frag} {mg : Str → Option Value} {base : Heap}
theorem ok_ones (T : Txt K mg) {fd : FuncData} (F : FnP K "ones" s_ones fd)
    (H__need_size : Has P w K mg base (L2.CX P w) 3 "_need_size" P__need_size (sp__need_size K)) :
    Has P w K mg base (L2.CX P w) 4 "ones" P_ones (sp_ones K) := by
  have G : FnOk P w K mg base (L2.CX P w) 4 (He.ga K "ones") fd P_ones (sp_ones K) := by
    refine F.ok (k := 3) sc_ones (fun vs H Q E h => ?_) (fun cdv A outer s H vs Q E hr h => ?_)
    · obtain ⟨x, d, av, rfl, hx, q⟩ := h
      rfl
    · obtain ⟨x, d, av, rfl, hx, q⟩ := h
      refine ⟨_, (pss_cons (ps_expr (pe_has H__need_size (hr.mono (by decide)) (passes_call (takes_of rfl rfl rfl rfl) (fun _ _ _ _ h => h)) (pa_cons (pv 0) pa_nil)))
  (pss_cons (ps_setLc (i := 1) (own := [("row", 2)]) rfl sc_ones.nd rfl rfl (sw_true rfl rfl rfl (by decide +kernel)) (pi_range1 (by rfl) T.f_range (pa_cons (pv 0) pa_nil)) (blkOk_by (N := N_ones) (sc := defScope s_ones) (by decide +kernel)) (fun _ _ _ _ _ => pg_name (i := 2) (sc_ones.nd) rfl (by first | exact Or.inl rfl | exact Or.inr rfl)) (fun _ _ _ _ _ => pts_nil) (fun _ _ _ _ _ => (pe_callTy (T := "tuple") (call_tupOfK K) (by rfl) T.f_tuple (by decide +kernel) (pa_cons (pe_lc (own := [("k", 3)]) rfl sc_ones.nd (pi_range1 (by rfl) T.f_range (pa_cons (pv 0) pa_nil)) (blkOk_by (by show blkC N_ones (relS _ (defScope s_ones)) _ _ = true; decide +kernel)) (fun _ _ _ _ _ => pg_name (i := 3) (sc_ones.nd) rfl (by first | exact Or.inl rfl | exact Or.inr rfl)) (fun _ _ _ _ _ => pts_nil) (fun _ _ _ _ _ => (pe_ifExp (pt_cmpR op_eq (pv 3) (pv 2) (nomark _)) pe_int pe_int))) pa_nil))))
  (pss_one (ps_ret (pe_tup (pa_cons (pv 0) (pa_cons (pv 0) (pa_cons (pe_callTy (T := "tuple") call_tuple_of (by rfl) T.f_tuple (by decide +kernel) (pa_cons (pv 1) pa_nil)) pa_nil)))))))), ?_⟩
      refine ⟨x, rfl, x, d, av, rfl, hx, ?_⟩
      refine ite2 (fun c => ?_) (fun c => ?_)
      · obtain ⟨m, rfl⟩ : ∃ m, d = .int m := by
          cases d <;> first | exact ⟨_, rfl⟩ | (simp [isD, tyD, whole, primeD, wholeTo] at c)
        cases hx
        have c' : 0 ≤ m ∧ m ≤ 2000 := of_decide_eq_true c
        obtain ⟨k, rfl⟩ : ∃ k : Nat, m = k := ⟨m.toNat, by omega⟩
        have hk : k ≤ 2000 := by omega
        refine ⟨_, rfl, k, rfl, by omega, by omega, fun D nD => ?_⟩
        refine lc_range (lo := 0) (n := ((k : Nat) : Int).toNat) (fun i G => Same H G ∧ ∃ vs, G D = some (.lst vs) ∧ DaAll K G D vs (((onesR k).take i).map rowD)) ⟨same_upd nD, [], upd_same, .nil⟩ ?_ ?_
        · rintro i G hi ⟨sG, vs, hG, hA⟩
          have hi' : i < k := by omega
          refine ⟨rfl, ?_⟩
          refine ⟨_, rfl, k, rfl, by omega, by omega, fun E nE => ?_⟩
          refine lc_range (lo := 0) (n := ((k : Nat) : Int).toNat) (fun j F => Same G F ∧ F E = some (.lst (((List.range j).map fun t => if t = i then (1 : Int) else 0).map V.int))) ⟨same_upd nE, upd_same⟩ ?_ ?_
          · rintro j F hj ⟨sF, hF⟩
            refine ⟨rfl, ?_⟩
            have last : ∀ z : Int, z = (if j = i then (1 : Int) else 0) → ∃ acc, F E = some (.lst acc) ∧ acc.length < sizeLine ∧ Same G (upd F E (.lst (acc ++ [.int z]))) ∧
                (upd F E (.lst (acc ++ [.int z]))) E = some (.lst (((List.range (j + 1)).map fun t => if t = i then (1 : Int) else 0).map V.int)) := by
              rintro z rfl
              refine ⟨_, hF, lt10 (by rw [List.length_map, List.length_map, List.length_range]; omega), acc_same nE sF (Same.refl F), ?_⟩
              rw [upd_same, List.range_succ, List.map_append, List.map_append]
              rfl
            refine ⟨_, rfl, _, rfl, rfl, _, rfl, ?_⟩
            by_cases e : j = i
            · rw [decide_eq_true (show V.int (0 + (j : Int)) = V.int (0 + (i : Int)) by rw [e])]
              refine (if_pos rfl).mpr ?_
              exact last 1 (by rw [if_pos e])
            · rw [decide_eq_false (show ¬ V.int (0 + (j : Int)) = V.int (0 + (i : Int)) from fun z => e (by injection z with z; omega))]
              refine (if_neg Bool.false_ne_true).mpr ?_
              exact last 0 (by rw [if_neg e])
          · rintro F ⟨sF, hF⟩
            rw [Int.toNat_natCast] at hF
            have hrow : (onesR k)[i]? = some ((List.range k).map fun t => if t = i then (1 : Int) else 0) := by
              unfold onesR
              rw [List.getElem?_map, List.getElem?_range hi']
              rfl
            refine ⟨E, _, rfl, .inl ⟨.inl (.inl hF), fun t nt => ?_⟩⟩
            have st := same_upd (o := .tup (((List.range k).map fun t => if t = i then (1 : Int) else 0).map V.int)) nt
            have sGt := sF.trans st
            have lenV := hA.length
            rw [List.length_map, List.length_take] at lenV
            have gD := sGt _ _ hG
            refine ⟨vs, gD, lt10 (by omega), acc_same nD (sG.trans sF) st, vs ++ [.ref t], upd_same, ?_⟩
            rw [List.take_add_one, hrow, List.map_append]
            refine DaAll.append ((hA.same sGt).grow gD) (.cons (Da.grow (ps := vs) ?_ gD) .nil)
            exact Da.newT (DaAll.ints _) nt
        · rintro G ⟨sG, vs, hG, hA⟩
          rw [Int.toNat_natCast] at hA
          rw [List.take_of_length_le (by unfold onesR; rw [List.length_map, List.length_range]; exact Nat.le_refl _)] at hA
          refine ⟨_, rfl, _, rfl, _, rfl, D, vs, rfl, .inl ⟨.inl (.inl hG), fun t nt => ?_⟩⟩
          refine ⟨by show 3 ≤ sizeLine; decide, fun t2 nt2 => ?_⟩
          refine q.2 k rfl hk _ _ ((sG.trans (same_upd nt)).trans (same_upd nt2)) fun av => ?_
          refine Da.any (av := D) _ _ (noL_mat _ _ _) ?_
          exact Da.newT (.cons (.int _) (.cons (.int _) (.cons (Da.newT hA nt) .nil))) nt2
      · exact q.1 (Bool.not_eq_true _ |>.mp c)
  exact has_of F G T.g_ones (fun _ _ _ _ _ _ us hl => match us, hl with | [_], _ => rfl)
theorem ok_noughts (T : Txt K mg) {fd : FuncData} (F : FnP K "noughts" s_noughts fd)
    (H__need_size : Has P w K mg base (L2.CX P w) 3 "_need_size" P__need_size (sp__need_size K)) :
    Has P w K mg base (L2.CX P w) 4 "noughts" P_noughts (sp_noughts K) := by
  have G : FnOk P w K mg base (L2.CX P w) 4 (He.ga K "noughts") fd P_noughts (sp_noughts K) := by
    refine F.ok (k := 3) sc_noughts (fun vs H Q E h => ?_) (fun cdv A outer s H vs Q E hr h => ?_)
    · obtain ⟨x, d, y, e, av, rfl, hx, hy, q⟩ := h
      rfl
    · obtain ⟨x, d, y, e, av, rfl, hx, hy, q⟩ := h
      refine ⟨_, (pss_cons (ps_expr (pe_has H__need_size (hr.mono (by decide)) (passes_call (takes_of rfl rfl rfl rfl) (fun _ _ _ _ h => h)) (pa_cons (pv 0) pa_nil)))
  (pss_cons (ps_expr (pe_has H__need_size (hr.mono (by decide)) (passes_call (takes_of rfl rfl rfl rfl) (fun _ _ _ _ h => h)) (pa_cons (pv 1) pa_nil)))
  (pss_one (ps_ret (pe_tup (pa_cons (pv 0) (pa_cons (pv 1) (pa_cons (pe_op op_repD (pe_tup (pa_cons (pe_op op_repD (pe_tup (pa_cons pe_int pa_nil)) (pv 1)) pa_nil)) (pv 0)) pa_nil)))))))), ?_⟩
      refine ⟨x, rfl, x, d, av, rfl, hx, ?_⟩
      refine ite2 (fun c => ?_) (fun c => ?_)
      · refine ⟨y, rfl, y, e, av, rfl, hy, ?_⟩
        refine ite2 (fun c2 => ?_) (fun c2 => ?_)
        · obtain ⟨m, rfl⟩ : ∃ m, d = .int m := by
            cases d <;> first | exact ⟨_, rfl⟩ | (simp [isD, tyD, whole, primeD, wholeTo] at c)
          obtain ⟨m2, rfl⟩ : ∃ m, e = .int m := by
            cases e <;> first | exact ⟨_, rfl⟩ | (simp [isD, tyD, whole, primeD, wholeTo] at c2)
          cases hx
          cases hy
          have c' : 0 ≤ m ∧ m ≤ 2000 := of_decide_eq_true c
          have c2' : 0 ≤ m2 ∧ m2 ≤ 2000 := of_decide_eq_true c2
          obtain ⟨r, rfl⟩ : ∃ k : Nat, m = k := ⟨m.toNat, by omega⟩
          obtain ⟨k, rfl⟩ : ∃ k : Nat, m2 = k := ⟨m2.toNat, by omega⟩
          refine ⟨_, rfl, _, rfl, by show 1 ≤ sizeLine; decide, fun t nt => ?_⟩
          refine ⟨_, rfl, t, k, [.int 0], rfl, rfl, .inl (.inl upd_same), by decide, by omega, by show (1 : Int) * (k : Int) ≤ 1000000; omega, fun p1 H1 s1 hp1 => ?_⟩
          refine ⟨by show 1 ≤ sizeLine; decide, fun t2 nt2 => ?_⟩
          refine ⟨_, rfl, t2, r, [.ref p1], rfl, rfl, .inl (.inl upd_same), by simp, by omega, by show (1 : Int) * (r : Int) ≤ 1000000; omega, fun p2 H2 s2 hp2 => ?_⟩
          refine ⟨by show 3 ≤ sizeLine; decide, fun t3 nt3 => ?_⟩
          have sA := ((same_upd (o := .tup [.int 0]) nt).trans s1).trans (same_upd (o := .tup [.ref p1]) nt2)
          refine q.2.2 r k rfl rfl (by omega) (by omega) _ _ ((sA.trans s2).trans (same_upd nt3)) fun av' => ?_
          have rep1 : ∀ {α : Type} (a : α) (n : Nat), (List.replicate n [a]).flatten = List.replicate n a := by
            intro α a n
            induction n with
            | zero => rfl
            | succ n ih => rw [List.replicate_succ, List.replicate_succ, List.flatten_cons, ih]; rfl
          rw [Int.toNat_natCast, rep1] at hp1 hp2
          have row : Da K H2 av' (.ref p1) (rowD (List.replicate k 0)) := by
            refine .tup (Same.seqT (Same.trans (same_upd nt2) s2) hp1) ?_
            have z := DaAll.ints (K := K) (H := H2) (av := av') (List.replicate k 0)
            rw [List.map_replicate] at z
            exact z
          have rows : DaAll K H2 av' (List.replicate r (.ref p1)) ((noughtsR r k).map rowD) := by
            unfold noughtsR
            rw [List.map_replicate]
            exact DaAll.rep row r
          exact Da.newT (.cons (.int _) (.cons (.int _) (.cons (.tup hp2 rows) .nil))) nt3
        · exact q.2.1 c (Bool.not_eq_true _ |>.mp c2)
      · exact q.1 (Bool.not_eq_true _ |>.mp c)
  exact has_of F G T.g_noughts (fun _ _ _ _ _ _ us hl => match us, hl with | [_, _], _ => rfl)
end
end K02

set_option Elab.async false
set_option linter.all false
set_option maxRecDepth 100000
set_option maxHeartbeats 8000000
namespace K02
open PySem PySem.Spec PyProof.Rows L2 XA

def divs (n : Int) (m : Nat) : List Int := ((List.range m).map fun (i : Nat) => 2 + (i : Int)).filter fun k => n % k == 0
theorem divs_succ (n : Int) (m : Nat) : divs n (m + 1) = divs n m ++ (if (n % (2 + (m : Int)) == 0) = true then [2 + (m : Int)] else []) := by
  unfold divs
  rw [List.range_succ, List.map_append, List.filter_append]
  congr 1
  simp only [List.map_cons, List.map_nil, List.filter_cons, List.filter_nil]
theorem divs_len (n : Int) : ∀ m, (divs n m).length ≤ m
  | 0 => Nat.le_refl _
  | m + 1 => by
    have h := divs_len n m
    rw [divs_succ, List.length_append]
    split <;> simp <;> omega
theorem divs_prime {n : Int} (h2 : 2 ≤ n) (h97 : n ≤ 97) : (divs n (n - 2).toNat).isEmpty = primeN n := by
  have e : (divs n (n - 2).toNat).isEmpty = ((List.range (n - 2).toNat).map fun (i : Nat) => n % (2 + (i : Int))).all (fun r => r != 0) := by
    unfold divs
    rw [List.all_map, Bool.eq_iff_iff, List.isEmpty_iff, List.filter_eq_nil_iff, List.all_eq_true]
    constructor
    · intro h i hi
      have := h _ (List.mem_map.mpr ⟨i, hi, rfl⟩)
      simpa using this
    · intro h k hk
      obtain ⟨i, hi, rfl⟩ := List.mem_map.mp hk
      have := h i hi
      simpa using this
  rw [e]
  unfold primeN
  rw [decide_eq_true ⟨h2, h97⟩, Bool.true_and]
def plist (m : Nat) : List Int := ((List.range m).map fun (i : Nat) => 2 + (i : Int)).filter primeN
theorem plist_succ (m : Nat) : plist (m + 1) = plist m ++ (if primeN (2 + (m : Int)) = true then [2 + (m : Int)] else []) := by
  unfold plist
  rw [List.range_succ, List.map_append, List.filter_append]
  congr 1
  simp only [List.map_cons, List.map_nil, List.filter_cons, List.filter_nil]
theorem plist_len (m : Nat) : (plist m).length ≤ m := by
  unfold plist
  refine Nat.le_trans (List.length_filter_le _ _) ?_
  rw [List.length_map, List.length_range]
  exact Nat.le_refl _
theorem plist_in {m : Nat} {p : Int} (h : p ∈ plist m) : primeN p = true := (List.mem_filter.mp h).2
/-- rows of w numbers by p -/
def Good (rows : List (List Int)) (w : Nat) (p : Int) : Prop := ∀ row ∈ rows, row.length = w ∧ ∀ x ∈ row, 0 ≤ x ∧ x < p
def sp__law_prime (K : PySem.W.Frag) : Sp := fun vs H Q _ => ∃ (pen c : Addr) (n : Int), vs = [.ref pen] ∧ PenC H pen c n ∧ n ≤ 9000 ∧
  ∀ (p : Int) (H' : Hp), primeN p = true → Oth H H' pen → PenC H' pen c (n + 3) → Q (.int p) H'
def sp__law_matrix (K : PySem.W.Frag) : Sp := fun vs H Q _ => ∃ (pen c : Addr) (h w : Nat) (p n : Int), vs = [.ref pen, .int h, .int w, .int p] ∧ PenC H pen c n ∧ n ≤ 9000 ∧ h ≤ 8 ∧ w ≤ 8 ∧
  2 ≤ p ∧ p ≤ 97 ∧ ∀ (v : V) (rows : List (List Int)) (H' : Hp), rows.length = h → Good rows w p → Da K H' pen v (matD h w rows) → Oth H H' pen → PenC H' pen c (n + 200) → Q v H'
section
variable {P : Program} {w : World} {K : PySem.W.Frag} {mg : Str → Option Value} {base : Heap}
theorem ok__law_prime (T : Txt K mg) {fd : FuncData} (F : FnP K "_law_prime" s__law_prime fd)
    (H__law_one : Has P w K mg base CX0 3 "_law_one" P__law_one (sp__law_one K)) :
    Has P w K mg base CX0 4 "_law_prime" P__law_prime (sp__law_prime K) := by
  have G : FnOk P w K mg base CX0 4 (He.ga K "_law_prime") fd P__law_prime (sp__law_prime K) := by
    refine F.ok (k := 3) sc__law_prime (fun vs H Q E h => ?_) (fun cdv A outer s H vs Q E hr h => ?_)
    · obtain ⟨pen, c, n, rfl, hp, hn, q⟩ := h
      rfl
    · obtain ⟨pen, c, n, rfl, hp, hn, q⟩ := h
      refine ⟨_, (PSs.nox (pss_cons (ps_setLc (i := 1) (own := [("p", 2)]) rfl sc__law_prime.nd rfl rfl (sw_true rfl rfl rfl (by decide +kernel)) (pi_range2 (by rfl) T.f_range (pa_cons pe_int (pa_cons pe_int pa_nil))) (blkOk_by (N := N__law_prime) (sc := defScope s__law_prime) (by decide +kernel)) (fun _ _ _ _ _ => pg_name (i := 2) (sc__law_prime.nd) rfl (by first | exact Or.inl rfl | exact Or.inr rfl)) (fun _ _ _ _ _ => (pts_one (pt_cmpR (op_eqDK K (hu := hr.units)) (pe_lc (own := [("k", 3)]) rfl sc__law_prime.nd (pi_range2 (by rfl) T.f_range (pa_cons pe_int (pa_cons (pv 2) pa_nil))) (blkOk_by (by show blkC N__law_prime (relS _ (defScope s__law_prime)) _ _ = true; decide +kernel)) (fun _ _ _ _ _ => pg_name (i := 3) (sc__law_prime.nd) rfl (by first | exact Or.inl rfl | exact Or.inr rfl)) (fun _ _ _ _ _ => (pts_one (pt_cmpR op_eq (pe_op op_modP (pv 2) (pv 3)) pe_int (nomark _)))) (fun _ _ _ _ _ => (pv 3))) (pe_lst pa_nil) (nomark _)))) (fun _ _ _ _ _ => (pv 2)))
  (pss_one (ps_ret (pe_has H__law_one (hr.mono (by decide)) pass0 (pa_cons (pv 0) (pa_cons (pe_lst (pa_cons pe_int (pa_cons pe_int (pa_cons pe_int (pa_cons pe_int (pa_cons pe_int (pa_cons (pe_has H__law_one (hr.mono (by decide)) pass0 (pa_cons (pv 0) (pa_cons (pv 1) pa_nil))) (pa_cons (pe_has H__law_one (hr.mono (by decide)) pass0 (pa_cons (pv 0) (pa_cons (pv 1) pa_nil))) pa_nil)))))))) pa_nil))))))), ?_⟩
      refine ⟨2, 98, rfl, ⟨by decide, by decide, by decide, by decide⟩, fun D nD => ?_⟩
      have eD := hp.new_ne nD
      refine lc_range (lo := 2) (n := 96) (fun i G => Same H G ∧ G D = some (.lst ((plist i).map V.int))) ⟨same_upd nD, upd_same⟩ ?_ ?_
      · rintro i G hi ⟨sG, hG⟩
        refine ⟨rfl, ?_⟩
        have b2 : (2 : Int) ≤ 2 + (i : Int) := by omega
        have b97 : 2 + (i : Int) ≤ 97 := by omega
        refine ⟨_, rfl, 2, 2 + (i : Int), rfl, ⟨by decide, by decide, by omega, by omega⟩, fun E nE => ?_⟩
        refine lc_range (lo := 2) (n := (2 + (i : Int) - 2).toNat) (fun j F => Same G F ∧ F E = some (.lst ((divs (2 + (i : Int)) j).map V.int))) ⟨same_upd nE, upd_same⟩ ?_ ?_
        · rintro j F hj ⟨sF, hF⟩
          refine ⟨rfl, ?_⟩
          refine ⟨_, rfl, _, rfl, 2 + (i : Int), 2 + (j : Int), rfl, rfl, by omega, rfl, _, rfl, ?_⟩
          refine ite2 (fun c3 => ?_) (fun c3 => ?_)
          · have c3' : (2 + (i : Int)) % (2 + (j : Int)) = 0 := by
              have z := of_decide_eq_true c3
              injection z
            refine ⟨_, rfl, _, hF, lt10 (by rw [List.length_map]; have := divs_len (2 + (i : Int)) j; omega), acc_same nE sF (Same.refl F), ?_⟩
            rw [upd_same, divs_succ, if_pos (by rw [c3']; rfl), List.map_append]
            rfl
          · have c4 : ¬ ((2 + (i : Int)) % (2 + (j : Int)) == 0) = true := fun z => c3 (by
              have z' : (2 + (i : Int)) % (2 + (j : Int)) = 0 := by simpa using z
              exact decide_eq_true (by rw [z']))
            refine ⟨sF, ?_⟩
            rw [divs_succ, if_neg c4, List.append_nil]
            exact hF
        · rintro F ⟨sF, hF⟩
          refine ⟨Nat.zero_le _, fun q nq => ?_⟩
          have sq := same_upd (o := .lst []) nq
          refine ⟨.list ((divs (2 + (i : Int)) (2 + (i : Int) - 2).toNat).map PyData.int), .list [], .lst (.inl (.inl (sq _ _ hF))) (dpAll_ints _), .lst (.inl (.inl upd_same)) .nil, shaped_ints _, shaped_ints [], ?_⟩
          rw [eqv_nil, divs_prime b2 b97]
          have sA := sF.trans sq
          refine ⟨_, rfl, ?_⟩
          refine ite2 (fun c => ?_) (fun c => ?_)
          · refine ⟨_, rfl, _, sA _ _ hG, lt10 (by rw [List.length_map]; have := plist_len i; omega), acc_same nD sG sA, ?_⟩
            rw [upd_same, plist_succ, if_pos c, List.map_append]
            rfl
          · refine ⟨sG.trans sA, ?_⟩
            rw [plist_succ, if_neg c, List.append_nil]
            exact sA _ _ hG
      rintro G ⟨sG, hG⟩
      have PG := hp.same sG
      have lens : 0 < ((plist 96).map V.int).length ∧ ((plist 96).map V.int).length ≤ 1000000 := by
        rw [List.length_map]
        exact ⟨by decide +kernel, by have := plist_len 96; omega⟩
      refine ⟨_, rfl, _, rfl, _, rfl, pen, c, D, _, n, rfl, PG, by omega, eD.1, .inl (.inl hG), lens.1, lens.2, fun x1 hx1 G1 o1 P1 => ?_⟩
      refine ⟨_, rfl, _, rfl, pen, c, D, _, n + 1, rfl, P1, by omega, eD.1, .inl (.inl (o1 _ _ eD.1 hG)), lens.1, lens.2, fun x2 hx2 G2 o2 P2 => ?_⟩
      obtain ⟨p1, m1, rfl⟩ := List.mem_map.mp hx1
      obtain ⟨p2, m2, rfl⟩ := List.mem_map.mp hx2
      refine ⟨by show 7 ≤ sizeLine; decide, fun L nL => ?_⟩
      have eL := P2.new_ne nL
      have sL := same_upd (o := .lst [.int 2, .int 3, .int 2, .int 5, .int 3, .int p1, .int p2]) nL
      refine ⟨pen, c, L, _, n + 2, rfl, (P2.same sL).mono (by omega), by omega, eL.1, .inl (.inl upd_same), by show 0 < 7; decide, by show 7 ≤ 1000000; decide, fun x hx G3 o3 P3 => ?_⟩
      have o := (((Oth.of_same sG).trans o1).trans o2).trans ((Oth.of_same sL).trans o3)
      have fin : ∀ z, primeN z = true → x = .int z → Q x G3 := by
        rintro z hz rfl
        exact q z G3 hz o (P3.mono (by omega))
      simp only [List.mem_cons, List.not_mem_nil, or_false] at hx
      rcases hx with e | e | e | e | e | e | e
      · exact fin 2 (by decide +kernel) e
      · exact fin 3 (by decide +kernel) e
      · exact fin 2 (by decide +kernel) e
      · exact fin 5 (by decide +kernel) e
      · exact fin 3 (by decide +kernel) e
      · exact fin p1 (plist_in m1) e
      · exact fin p2 (plist_in m2) e
  exact has_of F G T.g__law_prime (fun _ _ _ _ _ _ us hl => match us, hl with | [_], _ => rfl)
theorem ok__law_matrix (T : Txt K mg) {fd : FuncData} (F : FnP K "_law_matrix" s__law_matrix fd)
    (H__law_take : Has P w K mg base CX0 2 "_law_take" P__law_take sp__law_take) :
    Has P w K mg base CX0 3 "_law_matrix" P__law_matrix (sp__law_matrix K) := by
  have G : FnOk P w K mg base CX0 3 (He.ga K "_law_matrix") fd P__law_matrix (sp__law_matrix K) := by
    refine F.ok (k := 2) sc__law_matrix (fun vs H Q E h => ?_) (fun cdv A outer s H vs Q E hr h => ?_)
    · obtain ⟨pen, c, h, w, p, n, rfl, hp, hn, hh, hw, hp2, hp97, q⟩ := h
      rfl
    · obtain ⟨pen, c, h, w, p, n, rfl, hp, hn, hh, hw, hp2, hp97, q⟩ := h
      refine ⟨_, (PSs.nox (pss_cons (ps_set (i := 4) sc__law_matrix.nd rfl (by first | exact Or.inl rfl | exact Or.inr rfl) (pe_lst pa_nil))
  (pss_cons (ps_set (i := 5) sc__law_matrix.nd rfl (by first | exact Or.inl rfl | exact Or.inr rfl) (pe_has H__law_take (hr.mono (by decide)) pass0 (pa_cons (pv 0) (pa_cons pe_int pa_nil))))
  (pss_cons (ps_for PassesOwn.never rfl (pi_range1 (by rfl) T.f_range (pa_cons (pv 1) pa_nil)) (pg_name (i := 6) sc__law_matrix.nd rfl (by first | exact Or.inl rfl | exact Or.inr rfl))
   (pss_cons (ps_setLc (i := 7) (own := [("k", 8)]) rfl sc__law_matrix.nd rfl rfl (sw_true rfl rfl rfl (by decide +kernel)) (pi_range1 (by rfl) T.f_range (pa_cons (pv 2) pa_nil)) (blkOk_by (N := N__law_matrix) (sc := defScope s__law_matrix) (by decide +kernel)) (fun _ _ _ _ _ => pg_name (i := 8) (sc__law_matrix.nd) rfl (by first | exact Or.inl rfl | exact Or.inr rfl)) (fun _ _ _ _ _ => pts_nil) (fun _ _ _ _ _ => (pe_op op_mul (pe_has H__law_take (hr.mono (by decide)) pass0 (pa_cons (pv 0) (pa_cons (pv 3) pa_nil))) (pe_callTy (T := "int") call_int1 (by rfl) T.f_int (by decide +kernel) (pa_cons (pe_or (pe_cmpR op_gt (pv 5) pe_int (nomark _)) (pe_one (pe_cmpR op_eq (pe_has H__law_take (hr.mono (by decide)) pass0 (pa_cons (pv 0) (pa_cons pe_int pa_nil))) pe_int (nomark _)))) pa_nil)))))
  (C8.pss_cut (ps_if (PW.pt (pw_and (pt_cmpR op_gt (pv 6) pe_int (nomark _)) (pw_and1 (pt_cmpR op_eq (pe_has H__law_take (hr.mono (by decide)) pass0 (pa_cons (pv 0) (pa_cons pe_int pa_nil))) pe_int (nomark _)))))
   (pss_one (ps_set (i := 7) sc__law_matrix.nd rfl (by first | exact Or.inl rfl | exact Or.inr rfl) (pe_ix ix_list (pv 4) (pe_un un_neg pe_int) (fun _ _ => rfl)))) pss_nil)
  (pss_one (ps_expr (pe_bm PySem.F.plainAttrs_list PySem.F.slot_list_append PySem.F.type_list_append mt_append (pv 4) (pa_cons (pe_callTy (T := "tuple") call_tuple_of (by rfl) T.f_tuple (by decide +kernel) (pa_cons (pv 7) pa_nil)) pa_nil)))))))
  (pss_one (ps_ret (pe_tup (pa_cons (pv 1) (pa_cons (pv 2) (pa_cons (pe_callTy (T := "tuple") call_tuple_of (by rfl) T.f_tuple (by decide +kernel) (pa_cons (pv 4) pa_nil)) pa_nil)))))))))), ?_⟩
      refine ⟨Nat.zero_le _, fun L nL => ?_⟩
      have eL := hp.new_ne nL
      have sL := same_upd (o := .lst []) nL
      refine ⟨_, rfl, pen, c, 3, n, rfl, hp.same sL, by omega, by decide, by decide, fun thin G0 t0 t1 o0 P0 => ?_⟩
      have oH0 : Oth H G0 pen := (Oth.of_same sL).trans o0
      have hL0 : G0 L = some (.lst []) := o0 _ _ eL.1 upd_same
      refine ⟨_, rfl, h, rfl, by omega, by omega, ?_⟩
      refine for_range (lo := 0) (n := ((h : Nat) : Int).toNat) (fun i σ F => ∃ atv lv, σ = [some (.ref pen), some (.int h), some (.int w), some (.int p), some (.ref L), some (.int thin), atv, lv, none] ∧
        Oth H F pen ∧ PenC F pen c (n + 1 + 17 * i) ∧ ∃ vs rows, F L = some (.lst vs) ∧ DaAll K F pen vs (rows.map rowD) ∧ rows.length = i ∧ Good rows w p)
        ⟨none, none, rfl, oH0, P0.mono (by omega), [], [], hL0, .nil, rfl, fun r hr => by cases hr⟩ ?_ ?_
      · rintro i σ F hi ⟨atv, lv, rfl, oF, PF, vs, rows, hL, hA, hlen, hgood⟩
        have hi' : i < h := by omega
        -- the line
        refine ⟨_, rfl, w, rfl, by omega, by omega, fun D nD => ?_⟩
        have eD := PF.new_ne nD
        have nDL : L ≠ D := ne_of_none hL nD
        refine lc_range (lo := 0) (n := ((w : Nat) : Int).toNat) (fun j G => Oth F G pen ∧ PenC G pen c (n + 1 + 17 * i + 2 * j) ∧ ∃ xs : List Int, G D = some (.lst (xs.map V.int)) ∧ xs.length = j ∧ ∀ x ∈ xs, 0 ≤ x ∧ x < p)
          ⟨Oth.of_same (same_upd nD), (PF.same (same_upd nD)).mono (by omega), [], upd_same, rfl, fun x hx => by cases hx⟩ ?_ ?_
        · rintro j G hj ⟨oG, PG, xs, hG, hxl, hxs⟩
          refine ⟨rfl, ?_⟩
          refine ⟨_, rfl, _, rfl, pen, c, p, _, rfl, PG, by omega, by omega, by omega, fun r G1 r0 r1 o1 P1 => ?_⟩
          have last : ∀ (z : Int) (G2 : Hp), 0 ≤ z → z < p → Oth G G2 pen → PenC G2 pen c (n + 1 + 17 * i + 2 * j + 2) → ∃ acc, G2 D = some (.lst acc) ∧ acc.length < sizeLine ∧
              (Oth F (upd G2 D (.lst (acc ++ [.int z]))) pen ∧ PenC (upd G2 D (.lst (acc ++ [.int z]))) pen c (n + 1 + 17 * i + 2 * ((j + 1 : Nat) : Int)) ∧
                ∃ xs : List Int, (upd G2 D (.lst (acc ++ [.int z]))) D = some (.lst (xs.map V.int)) ∧ xs.length = j + 1 ∧ ∀ x ∈ xs, 0 ≤ x ∧ x < p) := by
            intro z G2 z0 z1 o2 P2
            refine ⟨_, o2 _ _ eD.1 hG, lt10 (by rw [List.length_map]; omega), Oth.put nD (oG.trans o2), (P2.upd eD.1 eD.2).mono (by omega), xs ++ [z], ?_, ?_, ?_⟩
            · rw [upd_same, List.map_append]
              rfl
            · rw [List.length_append, hxl]
              rfl
            · intro x hx
              rcases List.mem_append.mp hx with hx | hx
              · exact hxs x hx
              · rw [List.mem_singleton] at hx
                rw [hx]
                exact ⟨z0, z1⟩
          refine ⟨_, rfl, thin, 0, rfl, rfl, _, rfl, ?_⟩
          refine ite2 (fun _ => ?_) (fun _ => ?_)
          · refine .inr ⟨true, rfl, r, 1, rfl, rfl, .inl ⟨by omega, by omega⟩, ?_⟩
            exact last (r * 1) G1 (by omega) (by omega) o1 (P1.mono (by omega))
          · refine ⟨_, rfl, pen, c, 2, _, rfl, P1, by omega, by decide, by decide, fun r2 G2 _ _ o2 P2 => ?_⟩
            refine ⟨rfl, .inr ⟨_, rfl, r, _, rfl, rfl, .inl ⟨by omega, by omega⟩, ?_⟩⟩
            cases decide (V.int r2 = V.int 0) with
            | true => exact last (r * 1) G2 (by omega) (by omega) (o1.trans o2) (P2.mono (by omega))
            | false => exact last (r * 0) G2 (by omega) (by omega) (o1.trans o2) (P2.mono (by omega))
        · rintro G ⟨oG, PG, xs, hG, hxl, hxs⟩
          rw [Int.toNat_natCast] at PG hxl
          have hLG := oG _ _ eL.1 hL
          have hAG := hA.othP PF oG
          -- a row now and then twice
          refine ⟨fun σ F2 => ∃ (lv2 : V) (row : List Int), σ = [some (.ref pen), some (.int h), some (.int w), some (.int p), some (.ref L), some (.int thin), some (.int (0 + (i : Int))), some lv2, none] ∧
            Oth G F2 pen ∧ PenC F2 pen c (n + 1 + 17 * i + 2 * w + 1) ∧ row.length = w ∧ (∀ x ∈ row, 0 ≤ x ∧ x < p) ∧
            ((∃ b, lv2 = .ref b ∧ b ≠ L ∧ SqL K F2 b (row.map V.int)) ∨ Da K F2 pen lv2 (rowD row)), ?_, ?_⟩
          · refine ⟨_, rfl, 0 + (i : Int), 0, rfl, rfl, _, rfl, ?_⟩
            refine ite2 (fun c1 => ?_) (fun c1 => ?_)
            · have c1' : 0 < 0 + (i : Int) := of_decide_eq_true c1
              refine ⟨_, rfl, pen, c, 4, _, rfl, PG, by omega, by decide, by decide, fun r G1 r0 r1 o1 P1 => ?_⟩
              refine ⟨rfl, _, rfl, ?_⟩
              refine ite2 (fun c2 => ?_) (fun c2 => ?_)
              · have hv := hAG.length
                rw [List.length_map] at hv
                obtain ⟨last, hlast⟩ : ∃ v, vs[vs.length - 1]? = some v := ⟨_, List.getElem?_eq_getElem (by omega)⟩
                obtain ⟨d, hd, hda⟩ := hAG.get hlast
                rw [List.getElem?_map] at hd
                cases e : rows[vs.length - 1]? with
                | none =>
                  rw [e] at hd
                  cases hd
                | some row =>
                  rw [e] at hd
                  obtain rfl : rowD row = d := Option.some.inj hd
                  obtain ⟨g1, g2⟩ := hgood row (List.mem_of_getElem? e)
                  have hat : atI vs (-1) = some last := by
                    have z := hlast
                    unfold atI ixN
                    rw [if_neg (by omega), if_pos (by omega)]
                    show vs[(-1 + (vs.length : Int)).toNat]? = some last
                    rw [show (-1 + (vs.length : Int)).toNat = vs.length - 1 by omega]
                    exact z
                  refine ⟨_, rfl, 1, rfl, L, vs, -1, last, rfl, rfl, .inl (.inl (o1 _ _ eL.1 hLG)), hat, ?_⟩
                  exact ⟨last, row, rfl, o1, P1.mono (by omega), g1, g2, .inr (hda.othP PG o1)⟩
              · exact ⟨.ref D, xs, rfl, o1, P1.mono (by omega), hxl, hxs, .inl ⟨D, rfl, nDL.symm, .inl (.inl (o1 _ _ eD.1 hG))⟩⟩
            · exact ⟨.ref D, xs, rfl, Oth.refl G pen, PG.mono (by omega), hxl, hxs, .inl ⟨D, rfl, nDL.symm, .inl (.inl hG)⟩⟩
          · rintro σ F2 ⟨lv2, row, rfl, o2, P2, hrl, hrx, hrow⟩
            have hL2 := o2 _ _ eL.1 hLG
            have hA2 := hAG.othP PG o2
            have hv := hA2.length
            rw [List.length_map] at hv
            have fin : ∀ (tv : V) (F3 : Hp), Same F2 F3 → Da K F3 pen tv (rowD row) → ∃ atv lv, ([some (.ref pen), some (.int h), some (.int w), some (.int p), some (.ref L), some (.int thin), some (.int (0 + (i : Int))), some lv2, none] : L2.St) =
                  [some (.ref pen), some (.int h), some (.int w), some (.int p), some (.ref L), some (.int thin), atv, lv, none] ∧
                Oth H (upd F3 L (.lst (vs ++ [tv]))) pen ∧ PenC (upd F3 L (.lst (vs ++ [tv]))) pen c (n + 1 + 17 * ((i + 1 : Nat) : Int)) ∧
                ∃ vs' rows', (upd F3 L (.lst (vs ++ [tv]))) L = some (.lst vs') ∧ DaAll K (upd F3 L (.lst (vs ++ [tv]))) pen vs' (rows'.map rowD) ∧ rows'.length = i + 1 ∧ Good rows' w p := by
              intro tv F3 s3 hd3
              have hL3 := s3 _ _ hL2
              refine ⟨_, _, rfl, ?_, ?_, vs ++ [tv], rows ++ [row], upd_same, ?_, ?_, ?_⟩
              · exact Oth.put nL (((oF.trans oG).trans o2).trans (Oth.of_same s3))
              · exact ((P2.same s3).upd eL.1 eL.2).mono (by omega)
              · rw [List.map_append]
                have a1 : DaAll K F3 L (vs ++ [tv]) (rows.map rowD ++ [row].map rowD) := by
                  refine DaAll.append (DaAll.any _ _ (noLs_rows _) (hA2.same s3)) (.cons (Da.any _ _ ?_ hd3) .nil)
                  exact (by simp only [rowD, noL, noLs_ints] : noL (rowD row) = true)
                refine DaAll.any (av := L) _ _ ?_ (a1.grow hL3)
                rw [← List.map_append]
                exact noLs_rows _
              · rw [List.length_append, hlen]
                rfl
              · intro r hr
                rcases List.mem_append.mp hr with hr | hr
                · exact hgood r hr
                · rw [List.mem_singleton] at hr
                  rw [hr]
                  exact ⟨hrl, hrx⟩
            rcases hrow with ⟨b, rfl, hb, hS⟩ | hd
            · refine ⟨_, rfl, .inl ⟨rfl, _, .inl (.inl hL2)⟩, _, rfl, b, _, rfl, .inl ⟨hS, fun t nt => ?_⟩⟩
              have st := same_upd (o := .tup (row.map V.int)) nt
              refine ⟨L, vs, .ref t, rfl, rfl, st _ _ hL2, lt10 (by omega), ?_⟩
              exact fin (.ref t) _ st (Da.newT (DaAll.ints row) nt)
            · obtain ⟨b, ys, rfl, hS, hAl⟩ := (show Da K F2 pen lv2 (.tuple (row.map .int)) from hd).isTup
              refine ⟨_, rfl, .inl ⟨rfl, _, .inl (.inl hL2)⟩, _, rfl, b, _, rfl, .inr ⟨hS, ?_⟩⟩
              refine ⟨L, vs, .ref b, rfl, rfl, hL2, lt10 (by omega), ?_⟩
              exact fin (.ref b) _ (Same.refl F2) hd
      · rintro σ F ⟨atv, lv, rfl, oF, PF, vs, rows, hL, hA, hlen, hgood⟩
        rw [Int.toNat_natCast] at PF hlen
        refine ⟨_, rfl, _, rfl, _, rfl, L, vs, rfl, .inl ⟨.inl (.inl hL), fun t nt => ?_⟩⟩
        refine ⟨by show 3 ≤ sizeLine; decide, fun t2 nt2 => ?_⟩
        have s1 := same_upd (o := .tup vs) nt
        have s2 := same_upd (o := .tup [.int h, .int w, .ref t]) nt2
        refine q _ rows _ hlen hgood ?_ ((oF.trans (Oth.of_same s1)).trans (Oth.of_same s2)) (((PF.same s1).same s2).mono (by omega))
        exact Da.newT (.cons (.int _) (.cons (.int _) (.cons (Da.newT hA nt) .nil))) nt2
  exact has_of F G T.g__law_matrix (fun _ _ _ _ _ _ us hl => match us, hl with | [_, _, _, _], _ => rfl)
end
end K02

set_option Elab.async false
set_option linter.all false
set_option maxRecDepth 100000
set_option maxHeartbeats 8000000
namespace K02
open PySem PySem.Spec PyProof.Rows L2 XA

def sp__law_is_matrix (K : PySem.W.Frag) : Sp := fun vs H Q _ => ∃ x d av p, vs = [x, .int p] ∧ Da K H av x d ∧ ∀ H', Same H H' → Q (.bl (isMatD d p)) H'
section
variable {P : Program} {w : World} {K : PySem.W.Frag} {mg : Str → Option Value} {base : Heap}
theorem ok__law_is_matrix (T : Txt K mg) {fd : FuncData} (F : FnP K "_law_is_matrix" s__law_is_matrix fd) :
    Has P w K mg base CX0 1 "_law_is_matrix" P__law_is_matrix (sp__law_is_matrix K) := by
  have G : FnOk P w K mg base CX0 1 (He.ga K "_law_is_matrix") fd P__law_is_matrix (sp__law_is_matrix K) := by
    refine F.ok (k := 0) sc__law_is_matrix (fun vs H Q E h => ?_) (fun cdv A outer s H vs Q E hr h => ?_)
    · obtain ⟨x, d, av, p, rfl, hx, q⟩ := h
      rfl
    · obtain ⟨x, d, av, p, rfl, hx, q⟩ := h
      refine ⟨_, (PSs.nox (pss_cons (ps_if (PW.pt (pw_or (pt_not (pt_val (pe_callB (id := "isinstance") call_isZ (by rfl) T.f_isinstance (by decide +kernel) (pa_cons (pv 0) (pa_cons (pe_bltn (v := .ty "tuple") (by rfl) T.f_tuple (by decide +kernel) rfl) pa_nil))))) (pw_or1 (pt_cmpR op_ne (pe_callB (id := "len") call_len (by rfl) T.f_len (by decide +kernel) (pa_cons (pv 0) pa_nil)) pe_int (nomark _)))))
   (pss_one (ps_ret pe_bl)) pss_nil)
  (pss_cons (ps_for PassesOwn.never rfl (pi_tup (pe_slice sl_tupD (pv 0) po_none (po_some pe_int))) (pg_name (i := 2) sc__law_is_matrix.nd rfl (by first | exact Or.inl rfl | exact Or.inr rfl))
   (pss_one (ps_if (PW.pt (pw_or (pt_val (pe_callB (id := "isinstance") call_isZ (by rfl) T.f_isinstance (by decide +kernel) (pa_cons (pv 2) (pa_cons (pe_bltn (v := .ty "bool") (by rfl) T.f_bool (by decide +kernel) rfl) pa_nil)))) (pw_or (pt_not (pt_val (pe_callB (id := "isinstance") call_isZ (by rfl) T.f_isinstance (by decide +kernel) (pa_cons (pv 2) (pa_cons (pe_bltn (v := .ty "int") (by rfl) T.f_int (by decide +kernel) rfl) pa_nil))))) (pw_or1 (pt_not (pt_chain op_le op_le pe_int (pv 2) pe_int))))))
   (pss_one (ps_ret pe_bl)) pss_nil)))
  (pss_cons (ps_if (PW.pt (pw_or (pt_not (pt_val (pe_callB (id := "isinstance") call_isZ (by rfl) T.f_isinstance (by decide +kernel) (pa_cons (pe_ix ix_tup (pv 0) pe_int (fun _ _ => rfl)) (pa_cons (pe_bltn (v := .ty "tuple") (by rfl) T.f_tuple (by decide +kernel) rfl) pa_nil))))) (pw_or1 (pt_cmpR op_ne (pe_callB (id := "len") call_len (by rfl) T.f_len (by decide +kernel) (pa_cons (pe_ix ix_tup (pv 0) pe_int (fun _ _ => rfl)) pa_nil)) (pe_ix ix_tup (pv 0) pe_int (fun _ _ => rfl)) (nomark _)))))
   (pss_one (ps_ret pe_bl)) pss_nil)
  (pss_cons (ps_for PassesOwn.never rfl (pi_tup (pe_ix ix_tup (pv 0) pe_int (fun _ _ => rfl))) (pg_name (i := 3) sc__law_is_matrix.nd rfl (by first | exact Or.inl rfl | exact Or.inr rfl))
   (pss_cons (ps_if (PW.pt (pw_or (pt_not (pt_val (pe_callB (id := "isinstance") call_isZ (by rfl) T.f_isinstance (by decide +kernel) (pa_cons (pv 3) (pa_cons (pe_bltn (v := .ty "tuple") (by rfl) T.f_tuple (by decide +kernel) rfl) pa_nil))))) (pw_or1 (pt_cmpR op_ne (pe_callB (id := "len") call_len (by rfl) T.f_len (by decide +kernel) (pa_cons (pv 3) pa_nil)) (pe_ix ix_tup (pv 0) pe_int (fun _ _ => rfl)) (nomark _)))))
   (pss_one (ps_ret pe_bl)) pss_nil)
  (pss_one (ps_if (pt_cmpR op_in_seq pe_bl (pe_lc (own := [("k", 4)]) rfl sc__law_is_matrix.nd (pi_tup (pv 3)) (blkOk_by (N := N__law_is_matrix) (sc := defScope s__law_is_matrix) (by decide +kernel)) (fun _ _ _ _ _ => pg_name (i := 4) (sc__law_is_matrix.nd) rfl (by first | exact Or.inl rfl | exact Or.inr rfl)) (fun _ _ _ _ _ => pts_nil) (fun _ _ _ _ _ => (pe_and (pe_callB (id := "isinstance") (call_isZK K) (by rfl) T.f_isinstance (by decide +kernel) (pa_cons (pv 4) (pa_cons (pe_bltn (v := .ty "int") (by rfl) T.f_int (by decide +kernel) rfl) pa_nil))) (pe_and (pe_not (pe_callB (id := "isinstance") (call_isZK K) (by rfl) T.f_isinstance (by decide +kernel) (pa_cons (pv 4) (pa_cons (pe_bltn (v := .ty "bool") (by rfl) T.f_bool (by decide +kernel) rfl) pa_nil)))) (pe_one (pe_chain op_le op_lt pe_int (pv 4) (pv 1))))))) (by rfl))
   (pss_one (ps_ret pe_bl)) pss_nil))))
  (pss_one (ps_ret pe_bl))))))), ?_⟩
      have hP : ∀ b : Bool, isMatD d p = b → ∀ H', Same H H' → Q (.bl b) H' := by
        intro b e H' s
        rw [← e]
        exact q H' s
      refine ⟨x, rfl, ?_⟩
      walk_at "rd"
      refine isz_d hx (Or.inr (Or.inr (Or.inl rfl))) ⟨_, rfl, ?_⟩
      cases ht : isD d "tuple" with
      | false =>
        refine iteT ?_
        refine iteT ?_
        exact hP false (isMatD_no ht) H (Same.refl H)
      | true =>
        obtain ⟨ds, rfl⟩ := tup_of ht
        refine iteF ?_
        obtain ⟨a, xs, rfl, hS, hA⟩ := hx.isTup
        have hl := hA.length
        refine ⟨_, rfl, .ref a, xs.length, rfl, .inr ⟨_, hS, rfl⟩, rfl, _, rfl, ?_⟩
        by_cases e : xs.length = 3
        · rw [decide_eq_true (show V.int ((xs.length : Nat) : Int) = V.int 3 by rw [e]; rfl)]
          refine iteF ?_
          obtain ⟨x1, x2, x3, rfl⟩ := len3 e
          obtain ⟨d1, d2, d3, rfl⟩ := len3 (show ds.length = 3 by omega)
          cases hA with
          | cons h1 hA =>
            cases hA with
            | cons h2 hA =>
              cases hA with
              | cons h3 hA =>
                -- the sizes
                refine ⟨_, rfl, 2, rfl, a, _, rfl, hS, fun b H1 s1 hb => ?_⟩
                have hb2 : SqT K H1 b [x1, x2] := hb
                refine ⟨b, rfl, ⟨_, hb2⟩, ?_⟩
                refine for_tup (K := K) (a := b) (xs := [x1, x2]) (fun i σ F => ∃ sv, σ = [some (.ref a), some (.int p), sv, none, none] ∧ F = H1 ∧ (1 ≤ i → wholeTo d1 2000 = true) ∧ (2 ≤ i → wholeTo d2 2000 = true))
                  ⟨none, rfl, rfl, fun z => absurd z (by decide), fun z => absurd z (by decide)⟩ (fun i σ F _ ⟨_, _, e, _⟩ => e ▸ hb2) ?_ ?_
                · rintro i y σ F hi ⟨sv, rfl, rfl, w1, w2⟩
                  obtain ⟨dy, hy, hno, hyes⟩ : ∃ dy, Da K F av y dy ∧ (wholeTo dy 2000 = false → isMatD (.tuple [d1, d2, d3]) p = false) ∧
                      (wholeTo dy 2000 = true → (1 ≤ i + 1 → wholeTo d1 2000 = true) ∧ (2 ≤ i + 1 → wholeTo d2 2000 = true)) := by
                    match i, hi with
                    | 0, hi =>
                      obtain rfl : x1 = y := Option.some.inj hi
                      exact ⟨d1, h1.same s1, isMatD_1, fun z => ⟨fun _ => z, fun h => absurd h (by decide)⟩⟩
                    | 1, hi =>
                      obtain rfl : x2 = y := Option.some.inj hi
                      exact ⟨d2, h2.same s1, isMatD_2, fun z => ⟨fun _ => w1 (by decide), fun _ => z⟩⟩
                    | n + 2, hi => simp at hi
                  refine ⟨_, rfl, ?_⟩
                  walk_at "rd"
                  refine isz_d hy (Or.inr (Or.inl rfl)) ⟨_, rfl, ?_⟩
                  cases b1 : isD dy "bool" with
                  | true =>
                    refine (if_pos rfl).mpr ?_
                    refine (if_pos rfl).mpr ?_
                    exact hP false (hno (wholeTo_no (Or.inl b1))) _ s1
                  | false =>
                    refine (if_neg Bool.false_ne_true).mpr ?_
                    refine ⟨_, rfl, ?_⟩
                    walk_at "rd"
                    refine isz_d hy (Or.inl rfl) ⟨_, rfl, ?_⟩
                    cases b2 : isD dy "int" with
                    | false =>
                      refine (if_pos rfl).mpr ?_
                      refine (if_pos rfl).mpr ?_
                      exact hP false (hno (wholeTo_no (Or.inr b2))) _ s1
                    | true =>
                      refine (if_neg (by decide)).mpr ?_
                      obtain ⟨n, rfl⟩ := int_of b2 b1
                      cases hy
                      refine ⟨_, rfl, 0, n, rfl, rfl, _, rfl, ?_⟩
                      refine ite2 (fun c1 => ?_) (fun c1 => ?_)
                      · refine ⟨n, 2000, rfl, rfl, _, rfl, ?_⟩
                        refine ite2 (fun c2 => ?_) (fun c2 => ?_)
                        · have c2' : ¬ n ≤ 2000 := by simpa using c2
                          exact hP false (hno (decide_eq_false fun z => c2' z.2)) _ s1
                        · have c2' : n ≤ 2000 := by simpa using c2
                          have c1' : 0 ≤ n := of_decide_eq_true c1
                          exact ⟨_, rfl, rfl, hyes (decide_eq_true ⟨c1', c2'⟩)⟩
                      · refine ⟨false, rfl, ?_⟩
                        refine (if_pos rfl).mpr ?_
                        exact hP false (hno (decide_eq_false fun z => c1 (decide_eq_true z.1))) _ s1
                · rintro σ F ⟨sv, rfl, rfl, w1, w2⟩
                  obtain ⟨i, rfl, i0, i1⟩ := wholeTo_int (w1 (by simp))
                  obtain ⟨j, rfl, j0, j1⟩ := wholeTo_int (w2 (by simp))
                  cases h1
                  cases h2
                  have hS1 : SqT K F a [.int i, .int j, x3] := Same.seqT s1 hS
                  have h3' := h3.same s1
                  have val : isMatD (.tuple [.int i, .int j, d3]) p = false ∨ ∃ rows, d3 = .tuple rows ∧ isMatD (.tuple [.int i, .int j, d3]) p = (decide ((rows.length : Int) = i) && rows.all (fun row => isRowD row j p)) := by
                    cases hd : isD d3 "tuple" with
                    | false => exact Or.inl (isMatD_3 fun rows z => by rw [z] at hd; simp [isD, tyD] at hd)
                    | true =>
                      obtain ⟨rows, rfl⟩ := tup_of hd
                      exact Or.inr ⟨rows, rfl, isMatD_in ⟨i0, i1⟩ ⟨j0, j1⟩⟩
                  refine ⟨_, rfl, a, _, 2, x3, rfl, rfl, hS1, rfl, ?_⟩
                  walk_at "rd"
                  refine isz_d h3' (Or.inr (Or.inr (Or.inl rfl))) ⟨_, rfl, ?_⟩
                  cases ht3 : isD d3 "tuple" with
                  | false =>
                    refine (if_pos rfl).mpr ?_
                    refine (if_pos rfl).mpr ?_
                    exact hP false (isMatD_3 fun rows z => by rw [z] at ht3; simp [isD, tyD] at ht3) _ s1
                  | true =>
                    obtain ⟨rows, rfl⟩ := tup_of ht3
                    refine (if_neg (by decide)).mpr ?_
                    obtain ⟨b3, ys, rfl, hS3, hA3⟩ := h3'.isTup
                    have hl3 := hA3.length
                    have mval := isMatD_in (p := p) (rows := rows) ⟨i0, i1⟩ ⟨j0, j1⟩
                    refine ⟨_, rfl, a, _, 2, .ref b3, rfl, rfl, hS1, rfl, .ref b3, ys.length, rfl, .inr ⟨_, hS3, rfl⟩, _, rfl, a, _, 0, .int i, rfl, rfl, hS1, rfl, rfl, _, rfl, ?_⟩
                    by_cases e3 : ((ys.length : Nat) : Int) = i
                    · rw [decide_eq_true (show V.int ((ys.length : Nat) : Int) = V.int i by rw [e3])]
                      refine iteF ?_
                      refine ⟨_, rfl, a, _, 2, .ref b3, rfl, rfl, hS1, rfl, b3, rfl, ⟨_, hS3⟩, ?_⟩
                      refine for_tup (K := K) (a := b3) (xs := ys) (fun t σ G => ∃ sv rv, σ = [some (.ref a), some (.int p), sv, rv, none] ∧ Same F G ∧ (rows.take t).all (fun row => isRowD row j p) = true)
                        ⟨_, none, rfl, Same.refl F, rfl⟩ (fun t σ G _ ⟨_, _, _, s, _⟩ => Same.seqT s hS3) ?_ ?_
                      · rintro t y σ G ht' ⟨sv, rv, rfl, sG, hall⟩
                        obtain ⟨z, hz, hv⟩ := hA3.get ht'
                        have hv := hv.same sG
                        have hSG := Same.seqT sG hS1
                        have bad : isRowD z j p = false → isMatD (.tuple [.int i, .int j, .tuple rows]) p = false := by
                          intro hb
                          rw [mval, Bool.and_eq_false_iff]
                          refine Or.inr ?_
                          rw [List.all_eq_false]
                          exact ⟨z, List.mem_of_getElem? hz, by rw [hb]; decide⟩
                        refine ⟨_, rfl, ?_⟩
                        walk_at "rd"
                        refine isz_d hv (Or.inr (Or.inr (Or.inl rfl))) ⟨_, rfl, ?_⟩
                        cases tz : isD z "tuple" with
                        | false =>
                          refine (if_pos rfl).mpr ?_
                          refine (if_pos rfl).mpr ?_
                          refine hP false (bad ?_) _ (s1.trans sG)
                          cases z <;> first | rfl | (simp [isD, tyD] at tz)
                        | true =>
                          obtain ⟨zs, rfl⟩ := tup_of tz
                          refine (if_neg (by decide)).mpr ?_
                          obtain ⟨bz, us, rfl, hSz, hAz⟩ := hv.isTup
                          have hlz := hAz.length
                          refine ⟨_, rfl, .ref bz, us.length, rfl, .inr ⟨_, hSz, rfl⟩, _, rfl, a, _, 1, .int j, rfl, rfl, hSG, rfl, rfl, _, rfl, ?_⟩
                          by_cases ez : ((us.length : Nat) : Int) = j
                          · rw [decide_eq_true (show V.int ((us.length : Nat) : Int) = V.int j by rw [ez])]
                            refine iteF ?_
                            refine ⟨_, rfl, bz, rfl, ⟨_, hSz⟩, fun D nD => ?_⟩
                            refine lc_tup (K := K) (a := bz) (xs := us) (fun n F2 => Same G F2 ∧ F2 D = some (.lst (((zs.take n).map fun u => wholeTo u (p - 1)).map V.bl))) ⟨same_upd nD, upd_same⟩ (fun n F2 _ w => Same.seqT w.1 hSz) ?_ ?_
                            · rintro n u F2 hu ⟨s2, hF2⟩
                              obtain ⟨du, hdu, hvu⟩ := hAz.get hu
                              have hvu := hvu.same s2
                              have hlt := (List.getElem?_eq_some_iff.mp hu).1
                              have last : ∀ b : Bool, wholeTo du (p - 1) = b → ∃ acc, F2 D = some (.lst acc) ∧ acc.length < sizeLine ∧ Same G (upd F2 D (.lst (acc ++ [.bl b]))) ∧
                                  (upd F2 D (.lst (acc ++ [.bl b]))) D = some (.lst (((zs.take (n + 1)).map fun u => wholeTo u (p - 1)).map V.bl)) := by
                                rintro b rfl
                                refine ⟨_, hF2, lt10 (by rw [List.length_map, List.length_map, List.length_take]; omega), acc_same nD s2 (Same.refl F2), ?_⟩
                                rw [upd_same, List.take_add_one, hdu, List.map_append, List.map_append]
                                rfl
                              refine ⟨rfl, ?_⟩
                              refine ⟨_, rfl, ?_⟩
                              walk_at "rd"
                              refine isz_d hvu (Or.inl rfl) ⟨_, rfl, ?_⟩
                              cases c1 : isD du "int" with
                              | false =>
                                refine (if_neg Bool.false_ne_true).mpr ?_
                                exact last false (wholeTo_no (Or.inr c1))
                              | true =>
                                refine (if_pos rfl).mpr ?_
                                refine ⟨_, rfl, ?_⟩
                                walk_at "rd"
                                refine isz_d hvu (Or.inr (Or.inl rfl)) ⟨_, rfl, _, rfl, ?_⟩
                                cases c2 : isD du "bool" with
                                | true =>
                                  refine (if_neg (by decide)).mpr ?_
                                  exact last false (wholeTo_no (Or.inl c2))
                                | false =>
                                  refine (if_pos (by decide)).mpr ?_
                                  obtain ⟨m, rfl⟩ := int_of c1 c2
                                  cases hvu
                                  refine ⟨_, rfl, 0, m, rfl, rfl, _, rfl, ?_⟩
                                  refine ite2 (fun c3 => ?_) (fun c3 => ?_)
                                  · refine ⟨_, rfl, m, p, rfl, rfl, ?_⟩
                                    refine last _ ?_
                                    have c3' : 0 ≤ m := of_decide_eq_true c3
                                    show decide (0 ≤ m ∧ m ≤ p - 1) = decide (m < p)
                                    by_cases c4 : m < p
                                    · rw [decide_eq_true c4, decide_eq_true (by omega)]
                                    · rw [decide_eq_false c4, decide_eq_false (by omega)]
                                  · exact last false (decide_eq_false fun w => c3 (decide_eq_true w.1))
                            · rintro F2 ⟨s2, hF2⟩
                              rw [hlz, List.take_length] at hF2
                              refine ⟨D, _, rfl, .inl (.inl (.inl hF2)), rfl, flat_bls _, _, rfl, ?_⟩
                              show (if (if (false : Bool) = true then _ else inV (.bl false) ((zs.map fun u => wholeTo u (p - 1)).map V.bl)) = true then _ else _)
                              rw [if_neg Bool.false_ne_true, inV_false, List.all_map]
                              have rowV : isRowD (.tuple zs) j p = zs.all (fun u => wholeTo u (p - 1)) := by
                                show (decide ((zs.length : Int) = j) && _) = _
                                rw [decide_eq_true (by omega), Bool.true_and]
                              cases c5 : zs.all (id ∘ fun u => wholeTo u (p - 1)) with
                              | false =>
                                refine (if_pos rfl).mpr ?_
                                exact hP false (bad (by rw [rowV]; exact c5)) _ ((s1.trans sG).trans s2)
                              | true =>
                                refine (if_neg (by decide)).mpr ?_
                                refine ⟨_, _, rfl, sG.trans s2, ?_⟩
                                rw [List.take_add_one, hz, List.all_append, hall, Bool.true_and]
                                show (isRowD (.tuple zs) j p && true) = true
                                rw [rowV, Bool.and_true]
                                exact c5
                          · rw [decide_eq_false (show ¬ V.int ((us.length : Nat) : Int) = V.int j from fun w => ez (by injection w))]
                            refine iteT ?_
                            refine hP false (bad ?_) _ (s1.trans sG)
                            show (decide ((zs.length : Int) = j) && _) = false
                            rw [decide_eq_false (by omega), Bool.false_and]
                      · rintro σ G ⟨sv, rv, rfl, sG, hall⟩
                        rw [hl3, List.take_length] at hall
                        refine hP true ?_ _ (s1.trans sG)
                        rw [mval, decide_eq_true (by omega : (rows.length : Int) = i), hall]
                        rfl
                    · rw [decide_eq_false (show ¬ V.int ((ys.length : Nat) : Int) = V.int i from fun w => e3 (by injection w))]
                      refine iteT ?_
                      refine hP false ?_ _ s1
                      rw [mval, decide_eq_false (by omega : ¬ (rows.length : Int) = i), Bool.false_and]
        · rw [decide_eq_false (show ¬ V.int ((xs.length : Nat) : Int) = V.int 3 from fun z => e (by injection z with z; omega))]
          refine iteT ?_
          exact hP false (isMatD_len p (by omega)) H (Same.refl H)
  exact has_of F G T.g__law_is_matrix (fun _ _ _ _ _ _ us hl => match us, hl with | [_, _], _ => rfl)
end
end K02

set_option Elab.async false
set_option linter.all false
set_option maxRecDepth 100000
set_option maxHeartbeats 8000000
namespace K02
open PySem PySem.Spec PyProof.Rows L2 XA

def sp__law_bent (K : PySem.W.Frag) : Sp := fun vs H Q _ => ∃ (pen c : Addr) (x : V) (r k : Nat) (rows : List (List Int)) (p n : Int), vs = [.ref pen, x, .int p] ∧ PenC H pen c n ∧ n ≤ 9000 ∧
  Da K H pen x (matD r k rows) ∧ rows.length = r ∧ r ≤ 6 ∧ k ≤ 6 ∧ Good rows k p ∧ 2 ≤ p ∧ p ≤ 97 ∧
  ∀ v d H', Tm 5 d → Da K H' pen v d → Oth H H' pen → PenC H' pen c (n + 5) → Q v H'
section
variable {P : Program} {w : World} {K : PySem.W.Frag} {mg : Str → Option Value} {base : Heap}
theorem ok__law_bent (T : Txt K mg) {fd : FuncData} (F : FnP K "_law_bent" s__law_bent fd)
    (H__law_take : Has P w K mg base CX0 2 "_law_take" P__law_take sp__law_take)
    (H__law_one : Has P w K mg base CX0 3 "_law_one" P__law_one (sp__law_one K)) :
    Has P w K mg base CX0 4 "_law_bent" P__law_bent (sp__law_bent K) := by
  have G : FnOk P w K mg base CX0 4 (He.ga K "_law_bent") fd P__law_bent (sp__law_bent K) := by
    refine F.ok (k := 3) sc__law_bent (fun vs H Q E h => ?_) (fun cdv A outer s H vs Q E hr h => ?_)
    · obtain ⟨pen, c, x, r, k, rows, p, n, rfl, hp, hn, hx, hlen, hr6, hk6, hgood, hp2, hp97, q⟩ := h
      rfl
    · obtain ⟨pen, c, x, r, k, rows, p, n, rfl, hp, hn, hx, hlen, hr6, hk6, hgood, hp2, hp97, q⟩ := h
      refine ⟨_, (PSs.nox (pss_cons (ps_asg (pv 1) (pg_tup rfl (pgs_cons (pg_name (i := 3) sc__law_bent.nd rfl (by first | exact Or.inl rfl | exact Or.inr rfl)) (pgs_cons (pg_name (i := 4) sc__law_bent.nd rfl (by first | exact Or.inl rfl | exact Or.inr rfl)) (pgs_cons (pg_name (i := 5) sc__law_bent.nd rfl (by first | exact Or.inl rfl | exact Or.inr rfl)) pgs_nil)))))
  (pss_cons (ps_set (i := 6) sc__law_bent.nd rfl (by first | exact Or.inl rfl | exact Or.inr rfl) (pe_lst (pa_cons pe_non (pa_cons pe_int (pa_cons pe_str (pa_cons (pe_tup pa_nil) (pa_cons (pe_lst (pa_cons (pv 3) (pa_cons (pv 4) (pa_cons (pv 5) pa_nil)))) (pa_cons (pe_tup (pa_cons (pv 3) (pa_cons (pv 4) pa_nil))) (pa_cons (pe_tup (pa_cons (pv 3) (pa_cons (pv 4) (pa_cons (pv 5) (pa_cons pe_int pa_nil))))) pa_nil)))))))))
  (pss_cons (ps_expr (pe_bm PySem.F.plainAttrs_list PySem.F.slot_list_append PySem.F.type_list_append mt_append (pv 6) (pa_cons (pe_tup (pa_cons (pv 5) (pa_cons (pv 3) (pa_cons (pv 4) pa_nil)))) pa_nil)))
  (pss_cons (ps_set (i := 6) sc__law_bent.nd rfl (by first | exact Or.inl rfl | exact Or.inr rfl) (pe_op op_cat (pv 6) (pe_lst (pa_cons (pe_tup (pa_cons (pe_op op_add (pv 3) pe_int) (pa_cons (pv 4) (pa_cons (pv 5) pa_nil)))) (pa_cons (pe_tup (pa_cons (pv 3) (pa_cons (pe_op op_add (pv 4) pe_int) (pa_cons (pv 5) pa_nil)))) (pa_cons (pe_tup (pa_cons (pe_op op_sub (pv 3) pe_int) (pa_cons (pv 4) (pa_cons (pv 5) pa_nil)))) pa_nil))))))
  (pss_cons (ps_set (i := 6) sc__law_bent.nd rfl (by first | exact Or.inl rfl | exact Or.inr rfl) (pe_op op_cat (pv 6) (pe_lst (pa_cons (pe_tup (pa_cons (pv 3) (pa_cons (pv 4) (pa_cons (pe_callTy (T := "list") call_list_of (by rfl) T.f_list (by decide +kernel) (pa_cons (pv 5) pa_nil)) pa_nil)))) (pa_cons (pe_tup (pa_cons (pv 4) (pa_cons (pv 3) (pa_cons (pv 5) pa_nil)))) (pa_cons (pe_tup (pa_cons (pv 3) (pa_cons (pv 4) (pa_cons (pe_revT (pv 5)) pa_nil)))) pa_nil))))))
  (pss_cons (ps_set (i := 6) sc__law_bent.nd rfl (by first | exact Or.inl rfl | exact Or.inr rfl) (pe_op op_cat (pv 6) (pe_lst (pa_cons (pe_tup (pa_cons (pe_cmpR op_eq (pv 3) pe_int (nomark _)) (pa_cons (pv 4) (pa_cons (pv 5) pa_nil)))) (pa_cons (pe_tup (pa_cons (pv 3) (pa_cons (pe_callTy (T := "str") call_str_int (by rfl) T.f_str (by decide +kernel) (pa_cons (pv 4) pa_nil)) (pa_cons (pv 5) pa_nil)))) (pa_cons (pe_tup (pa_cons (pv 3) (pa_cons pe_non (pa_cons (pv 5) pa_nil)))) pa_nil))))))
  (pss_cons (ps_set (i := 6) sc__law_bent.nd rfl (by first | exact Or.inl rfl | exact Or.inr rfl) (pe_op op_cat (pv 6) (pe_op op_rep (pe_lst (pa_cons (pe_tup (pa_cons (pv 3) (pa_cons (pe_cmpR op_eq (pv 4) pe_int (nomark _)) (pa_cons (pv 5) pa_nil)))) pa_nil)) pe_int)))
  (C8.pss_cut (ps_if (PW.pt (pw_and (pt_cmpR op_gt (pv 3) pe_int (nomark _)) (pw_and1 (pt_cmpR op_gt (pv 4) pe_int (nomark _)))))
   (pss_one (ps_set (i := 6) sc__law_bent.nd rfl (by first | exact Or.inl rfl | exact Or.inr rfl) (pe_op op_cat (pv 6) (pe_op op_rep (pe_lst (pa_cons (pe_tup (pa_cons (pv 3) (pa_cons (pv 4) (pa_cons (pe_op op_catD (pe_tup (pa_cons (pe_slice sl_tupD (pe_ix ix_tup (pv 5) pe_int (fun _ _ => rfl)) (po_some pe_int) po_none) (pa_cons (pe_op op_catD (pe_ix ix_tup (pv 5) pe_int (fun _ _ => rfl)) (pe_tup (pa_cons pe_int pa_nil))) pa_nil))) (pe_slice sl_tupD (pv 5) (po_some pe_int) po_none)) pa_nil)))) pa_nil)) pe_int)))) pss_nil)
  (pss_cons (ps_if (PW.pt (pw_or (pt_cmpR (op_eqD hr.units) (pv 5) (pe_tup pa_nil) (nomark _)) (pw_or1 (pt_cmpR op_eq (pe_has H__law_take (hr.mono (by decide)) pass0 (pa_cons (pv 0) (pa_cons pe_int pa_nil))) pe_int (nomark _)))))
   (pss_one (ps_ret (pe_has H__law_one (hr.mono (by decide)) pass0 (pa_cons (pv 0) (pa_cons (pv 6) pa_nil))))) pss_nil)
  (pss_cons (ps_set (i := 7) sc__law_bent.nd rfl (by first | exact Or.inl rfl | exact Or.inr rfl) (pe_has H__law_take (hr.mono (by decide)) pass0 (pa_cons (pv 0) (pa_cons (pv 3) pa_nil))))
  (pss_cons (ps_set (i := 8) sc__law_bent.nd rfl (by first | exact Or.inl rfl | exact Or.inr rfl) (pe_ix ix_tup (pv 5) (pv 7) (fun _ _ => rfl)))
  (pss_cons (ps_set (i := 9) sc__law_bent.nd rfl (by first | exact Or.inl rfl | exact Or.inr rfl) (pe_lst (pa_cons (pe_op op_catD (pv 8) (pe_tup (pa_cons pe_int pa_nil))) (pa_cons (pe_slice sl_tupD (pv 8) (po_some pe_int) po_none) (pa_cons (pe_callTy (T := "list") call_list_of (by rfl) T.f_list (by decide +kernel) (pa_cons (pv 8) pa_nil)) (pa_cons pe_non pa_nil))))))
  (C8.pss_cut (ps_if (pt_cmpR op_gt (pv 4) pe_int (nomark _))
   (pss_cons (ps_set (i := 10) sc__law_bent.nd rfl (by first | exact Or.inl rfl | exact Or.inr rfl) (pe_has H__law_take (hr.mono (by decide)) pass0 (pa_cons (pv 0) (pa_cons (pv 4) pa_nil))))
  (pss_cons (ps_set (i := 6) sc__law_bent.nd rfl (by first | exact Or.inl rfl | exact Or.inr rfl) (pe_lst (pa_cons (pv 2) (pa_cons (pe_op op_sub pe_int pe_int) (pa_cons pe_bl (pa_cons pe_str (pa_cons (pe_op op_sub (pv 2) pe_int) (pa_cons (pe_op op_add (pv 2) (pe_op op_pow pe_int pe_int)) (pa_cons pe_non (pa_cons (pe_tup (pa_cons pe_int pa_nil)) (pa_cons pe_bl pa_nil)))))))))))
  (pss_one (ps_set (i := 9) sc__law_bent.nd rfl (by first | exact Or.inl rfl | exact Or.inr rfl) (pe_op op_cat (pv 9) (pe_op op_rep (pe_lst (pa_cons (pe_op op_catD (pe_op op_catD (pe_slice sl_tupD (pv 8) po_none (po_some (pv 10))) (pe_tup (pa_cons (pe_has H__law_one (hr.mono (by decide)) pass0 (pa_cons (pv 0) (pa_cons (pv 6) pa_nil))) pa_nil))) (pe_slice sl_tupD (pv 8) (po_some (pe_op op_add (pv 10) pe_int)) po_none)) pa_nil)) pe_int)))))) pss_nil)
  (pss_cons (ps_set (i := 9) sc__law_bent.nd rfl (by first | exact Or.inl rfl | exact Or.inr rfl) (pe_op op_cat (pv 9) (pe_lst (pa_cons (pe_op op_catD (pe_slice sl_tupD (pv 8) po_none (po_some (pe_un un_neg pe_int))) (pe_tup (pa_cons pe_str pa_nil))) (pa_cons (pe_op op_catD (pe_slice sl_tupD (pv 8) po_none (po_some (pe_un un_neg pe_int))) (pe_tup (pa_cons (pe_op op_sub (pv 2) pe_int) pa_nil))) (pa_cons (pe_op op_catD (pe_slice sl_tupD (pv 8) po_none (po_some (pe_un un_neg pe_int))) (pe_tup (pa_cons (pe_op op_add (pv 2) (pe_op op_pow pe_int pe_int)) pa_nil))) (pa_cons (pe_op op_catD (pe_slice sl_tupD (pv 8) po_none (po_some (pe_un un_neg pe_int))) (pe_tup (pa_cons pe_non pa_nil))) pa_nil)))))))
  (pss_one (ps_ret (pe_tup (pa_cons (pv 3) (pa_cons (pv 4) (pa_cons (pe_op op_catD (pe_op op_catD (pe_slice sl_tupD (pv 5) po_none (po_some (pv 7))) (pe_tup (pa_cons (pe_has H__law_one (hr.mono (by decide)) pass0 (pa_cons (pv 0) (pa_cons (pv 9) pa_nil))) pa_nil))) (pe_slice sl_tupD (pv 5) (po_some (pe_op op_add (pv 7) pe_int)) po_none)) pa_nil))))))))))))))))))))), ?_⟩
      obtain ⟨a, xs, rfl, hS, hA⟩ := hx.isTup
      have st : Ds 4 K H pen c n xs [.int r, .int k, .tuple (rows.map rowD)] [] [] := ⟨hp, hA, .nil, fun d hd => by cases hd⟩
      cases hA with
      | cons h1 hA =>
      cases hA with
      | cons h2 hA =>
      cases hA with
      | cons hN hA =>
      rename_i vn _
      cases hA
      cases h1
      cases h2
      obtain ⟨an, ys0, rfl, _, _⟩ := hN.isTup
      have tN : Tm 2 (.tuple (rows.map rowD)) := tmT (by rw [List.length_map]; omega) (by
        intro d hd
        obtain ⟨row, hr, rfl⟩ := List.mem_map.mp hd
        obtain ⟨g1, g2⟩ := hgood row hr
        exact tm_row (by omega) hp97 g2)
      have ir : ∀ j, Tm j (.int (r : Int)) := fun j => tmI j (by omega)
      have ik : ∀ j, Tm j (.int (k : Int)) := fun j => tmI j (by omega)
      have sH := Same.refl H
      refine ⟨_, rfl, a, _, rfl, hS, rfl, _, _, rfl, _, _, rfl, _, _, rfl, rfl, ?_⟩
      refine ⟨sz_le (by simp), fun t1 nt1 => ?_⟩
      have st := st.newT (ws := []) (zs := []) nt1 .nil (tmT (by simp) (fun d hd => by cases hd))
      have s_ := same_upd (o := .tup []) nt1
      have sH := sH.trans s_
      clear s_
      generalize upd H t1 (.tup []) = F2 at st sH ⊢
      refine ⟨_, rfl, _, rfl, _, rfl, sz_le (by simp), fun t3 nt3 => ?_⟩
      have et3 := st.P.new_ne nt3
      have at3 : (upd F2 t3 (.lst [.int r, .int k, (.ref an)])) t3 = some (.lst [.int r, .int k, (.ref an)]) := upd_same
      have st := st.newL (ws := [.int r, .int k, (.ref an)]) (zs := [.int r, .int k, .tuple (rows.map rowD)]) nt3 (.cons (.int _) (.cons (.int _) (.cons st.X.tl.tl.hd .nil))) (tmL (by simp) (all3 (ir _) (ik _) (tN.le (by decide))))
      have s_ := same_upd (o := .lst [.int r, .int k, (.ref an)]) nt3
      have sH := sH.trans s_
      clear s_
      generalize upd F2 t3 (.lst [.int r, .int k, (.ref an)]) = F4 at st at3 sH ⊢
      refine ⟨_, rfl, _, rfl, sz_le (by simp), fun t5 nt5 => ?_⟩
      have st := st.newT (ws := [.int r, .int k]) (zs := [.int r, .int k]) nt5 (.cons (.int _) (.cons (.int _) .nil)) (tmT (by simp) (all2 (ir _) (ik _)))
      have s_ := same_upd (o := .tup [.int r, .int k]) nt5
      have sH := sH.trans s_
      have at3 := s_ _ _ at3
      clear s_
      generalize upd F4 t5 (.tup [.int r, .int k]) = F6 at st sH at3 ⊢
      refine ⟨_, rfl, _, rfl, _, rfl, sz_le (by simp), fun t7 nt7 => ?_⟩
      have st := st.newT (ws := [.int r, .int k, (.ref an), .int 0]) (zs := [.int r, .int k, .tuple (rows.map rowD), .int 0]) nt7 (.cons (.int _) (.cons (.int _) (.cons st.X.tl.tl.hd (.cons (.int _) .nil)))) (tmT (by simp) (all4 (ir _) (ik _) (tN.le (by decide)) (tmI _ (by decide))))
      have s_ := same_upd (o := .tup [.int r, .int k, (.ref an), .int 0]) nt7
      have sH := sH.trans s_
      have at3 := s_ _ _ at3
      clear s_
      generalize upd F6 t7 (.tup [.int r, .int k, (.ref an), .int 0]) = F8 at st sH at3 ⊢
      refine ⟨sz_le (by simp), fun S nS => ?_⟩
      have nS0 : H S = none := by
        cases e : H S with
        | none => rfl
        | some o => rw [sH _ _ e] at nS; cases nS
      have hL : Ls 4 K (upd F8 S (.lst [.non, .int 0, .str "m", .ref t1, .ref t3, .ref t5, .ref t7])) pen S [.non, .int 0, .str "m", .ref t1, .ref t3, .ref t5, .ref t7] [.none, .int 0, .str "m", .tuple [], .list [.int r, .int k, .tuple (rows.map rowD)], .tuple [.int r, .int k], .tuple [.int r, .int k, .tuple (rows.map rowD), .int 0]] := by
        refine ⟨upd_same, ?_, ?_, (st.P.new_ne nS).1⟩
        · exact .cons .non (.cons (.int _) (.cons (.str _) (st.I.same (same_upd nS))))
        · intro d hd
          rcases List.mem_cons.mp hd with rfl | hd
          · exact tmN _
          rcases List.mem_cons.mp hd with rfl | hd
          · exact tmI _ (by decide)
          rcases List.mem_cons.mp hd with rfl | hd
          · exact tmS _ (by decide +kernel)
          exact st.T d hd
      have eS := st.P.new_ne nS
      have neL : t3 ≠ S := ne_of_none at3 nS
      have st := st.nix.same (same_upd (o := .lst [.non, .int 0, .str "m", .ref t1, .ref t3, .ref t5, .ref t7]) nS)
      have s_ := same_upd (o := .lst [.non, .int 0, .str "m", .ref t1, .ref t3, .ref t5, .ref t7]) nS
      have sH := sH.trans s_
      have at3 := s_ _ _ at3
      clear s_
      generalize upd F8 S (.lst [.non, .int 0, .str "m", .ref t1, .ref t3, .ref t5, .ref t7]) = F9 at st hL sH at3 ⊢
      refine ⟨_, rfl, .inl ⟨rfl, _, .inl (.inl hL.at_)⟩, ?_⟩
      refine ⟨_, rfl, _, rfl, _, rfl, sz_le (by simp), fun t10 nt10 => ?_⟩
      have st := st.newT (ws := [(.ref an), .int r, .int k]) (zs := [.tuple (rows.map rowD), .int r, .int k]) nt10 (.cons st.X.tl.tl.hd (.cons (.int _) (.cons (.int _) .nil))) (tmT (by simp) (all3 (tN.le (by decide)) (ir _) (ik _)))
      have s_ := same_upd (o := .tup [(.ref an), .int r, .int k]) nt10
      have sH := sH.trans s_
      have hL := hL.same s_
      have at3 := s_ _ _ at3
      clear s_
      generalize upd F9 t10 (.tup [(.ref an), .int r, .int k]) = F11 at st sH hL at3 ⊢
      refine ⟨S, _, _, rfl, rfl, hL.at_, lt10 (by simp), ?_⟩
      have nX : noLs [.int r, .int k, .tuple (rows.map rowD)] = true := by simp only [noLs, noL, noLs_rows, Bool.and_self]
      have st' : Ds 4 K (upd F11 S (.lst ([.non, .int 0, .str "m", .ref t1, .ref t3, .ref t5, .ref t7] ++ [.ref t10]))) pen c n [.int r, .int k, (.ref an)] [.int r, .int k, .tuple (rows.map rowD)] [.ref t10] [.tuple [.tuple (rows.map rowD), .int r, .int k]] :=
        ⟨st.P.upd eS.1 eS.2, st.X.put nX hL.at_, st.I.put (by simp only [noLs, noL, noLs_rows, Bool.and_self, List.nil_append]) hL.at_, st.T⟩
      have hL : Ls 4 K (upd F11 S (.lst ([.non, .int 0, .str "m", .ref t1, .ref t3, .ref t5, .ref t7] ++ [.ref t10]))) pen S ([.non, .int 0, .str "m", .ref t1, .ref t3, .ref t5, .ref t7] ++ [.ref t10]) ([.none, .int 0, .str "m", .tuple [], .list [.int r, .int k, .tuple (rows.map rowD)], .tuple [.int r, .int k], .tuple [.int r, .int k, .tuple (rows.map rowD), .int 0]] ++ [.tuple [.tuple (rows.map rowD), .int r, .int k]]) := by
        refine ⟨upd_same, DaAll.append ?_ st'.I, ?_, eS.1⟩
        · have z := hL.da
          refine .cons (z.hd.put rfl hL.at_) (.cons (z.tl.hd.put rfl hL.at_) (.cons (z.tl.tl.hd.put rfl hL.at_) (.cons (z.tl.tl.tl.hd.put rfl hL.at_) (.cons ?_ (z.tl.tl.tl.tl.tl.put (by simp only [noLs, noL, noLs_rows, Bool.and_self]) hL.at_)))))
          exact .lst et3.1 (.inl (.inl (by rw [upd_ne neL]; exact at3))) st'.X
        · intro d hd
          rcases List.mem_append.mp hd with hd | hd
          · exact hL.tm d hd
          · exact st'.T d hd
      have oS : Oth H (upd F11 S (.lst ([.non, .int 0, .str "m", .ref t1, .ref t3, .ref t5, .ref t7] ++ [.ref t10]))) pen := Oth.putS sH nS0
      have st := st'.nix
      clear st'
      generalize upd F11 S (.lst ([.non, .int 0, .str "m", .ref t1, .ref t3, .ref t5, .ref t7] ++ [.ref t10])) = F12 at st hL oS ⊢
      have sH := Same.refl F12
      skip
      refine ⟨_, rfl, ?_⟩
      refine ⟨_, rfl, r, 1, rfl, rfl, _, rfl, _, rfl, sz_le (by simp), fun t13 nt13 => ?_⟩
      have st := st.newT (ws := [.int ((r : Int) + 1), .int k, (.ref an)]) (zs := [.int ((r : Int) + 1), .int k, .tuple (rows.map rowD)]) nt13 (.cons (.int _) (.cons (.int _) (.cons st.X.tl.tl.hd .nil))) (tmT (by simp) (all3 (tmI _ (by omega)) (ik _) (tN.le (by decide))))
      have s_ := same_upd (o := .tup [.int ((r : Int) + 1), .int k, (.ref an)]) nt13
      have sH := sH.trans s_
      have hL := hL.same s_
      clear s_
      generalize upd F12 t13 (.tup [.int ((r : Int) + 1), .int k, (.ref an)]) = F14 at st sH hL ⊢
      refine ⟨_, rfl, _, rfl, k, 1, rfl, rfl, _, rfl, sz_le (by simp), fun t15 nt15 => ?_⟩
      have st := st.newT (ws := [.int r, .int ((k : Int) + 1), (.ref an)]) (zs := [.int r, .int ((k : Int) + 1), .tuple (rows.map rowD)]) nt15 (.cons (.int _) (.cons (.int _) (.cons st.X.tl.tl.hd .nil))) (tmT (by simp) (all3 (ir _) (tmI _ (by omega)) (tN.le (by decide))))
      have s_ := same_upd (o := .tup [.int r, .int ((k : Int) + 1), (.ref an)]) nt15
      have sH := sH.trans s_
      have hL := hL.same s_
      clear s_
      generalize upd F14 t15 (.tup [.int r, .int ((k : Int) + 1), (.ref an)]) = F16 at st sH hL ⊢
      refine ⟨_, rfl, r, 1, rfl, rfl, _, rfl, _, rfl, sz_le (by simp), fun t17 nt17 => ?_⟩
      have st := st.newT (ws := [.int ((r : Int) - 1), .int k, (.ref an)]) (zs := [.int ((r : Int) - 1), .int k, .tuple (rows.map rowD)]) nt17 (.cons (.int _) (.cons (.int _) (.cons st.X.tl.tl.hd .nil))) (tmT (by simp) (all3 (tmI _ (by omega)) (ik _) (tN.le (by decide))))
      have s_ := same_upd (o := .tup [.int ((r : Int) - 1), .int k, (.ref an)]) nt17
      have sH := sH.trans s_
      have hL := hL.same s_
      clear s_
      generalize upd F16 t17 (.tup [.int ((r : Int) - 1), .int k, (.ref an)]) = F18 at st sH hL ⊢
      refine ⟨sz_le (by simp), fun L19 nL19 => ?_⟩
      have aL19 : (upd F18 L19 (.lst [.ref t13, .ref t15, .ref t17])) L19 = some (.lst [.ref t13, .ref t15, .ref t17]) := upd_same
      have st := st.same (same_upd (o := .lst [.ref t13, .ref t15, .ref t17]) nL19)
      have s_ := same_upd (o := .lst [.ref t13, .ref t15, .ref t17]) nL19
      have sH := sH.trans s_
      have hL := hL.same s_
      clear s_
      generalize upd F18 L19 (.lst [.ref t13, .ref t15, .ref t17]) = F20 at st aL19 sH hL ⊢
      refine ⟨S, L19, _, [.ref t13, .ref t15, .ref t17], rfl, rfl, hL.at_, aL19, sz_le (by simp <;> omega), fun S21 nS21 => ?_⟩
      have hL : Ls 4 K (upd F20 S21 (.lst (([.non, .int 0, .str "m", .ref t1, .ref t3, .ref t5, .ref t7] ++ [.ref t10]) ++ [.ref t13, .ref t15, .ref t17]))) pen S21 (([.non, .int 0, .str "m", .ref t1, .ref t3, .ref t5, .ref t7] ++ [.ref t10]) ++ [.ref t13, .ref t15, .ref t17]) _ := st.glue hL nS21
      have s_ := same_upd (o := .lst (([.non, .int 0, .str "m", .ref t1, .ref t3, .ref t5, .ref t7] ++ [.ref t10]) ++ [.ref t13, .ref t15, .ref t17])) nS21
      have st := st.nix.same s_
      have sH := sH.trans s_
      clear s_
      generalize upd F20 S21 (.lst (([.non, .int 0, .str "m", .ref t1, .ref t3, .ref t5, .ref t7] ++ [.ref t10]) ++ [.ref t13, .ref t15, .ref t17])) = F24 at st hL sH ⊢
      obtain ⟨vs25, ds_, hL, hl_, h0_⟩ : ∃ vs ds, Ls 4 K F24 pen S21 vs ds ∧ vs.length ≤ 11 ∧ 0 < vs.length := ⟨_, _, hL, by simp <;> omega, by simp⟩
      refine ⟨_, rfl, ?_⟩
      obtain ⟨_, ys, e_, hSn, hAn⟩ := st.X.tl.tl.hd.isTup
      cases e_
      refine ⟨_, rfl, _, rfl, _, rfl, an, ys, rfl, .inr hSn, fun l26 nl26 => ?_⟩
      have dl : Da K (upd F24 l26 (.lst ys)) pen (.ref l26) (.list (rows.map rowD)) := .lst (st.P.new_ne nl26).1 (.inl (.inl upd_same)) (hAn.same (same_upd nl26))
      have st := st.same (same_upd (o := .lst ys) nl26)
      have s_ := same_upd (o := .lst ys) nl26
      have sH := sH.trans s_
      have hL := hL.same s_
      clear s_
      generalize upd F24 l26 (.lst ys) = F27 at st dl sH hL ⊢
      clear hSn hAn
      refine ⟨sz_le (by simp), fun t28 nt28 => ?_⟩
      have st := st.newT (ws := [.int r, .int k, .ref l26]) (zs := [.int r, .int k, .list (rows.map rowD)]) nt28 (.cons (.int _) (.cons (.int _) (.cons dl .nil))) (tmT (by simp) (all3 (ir _) (ik _) (show Tm 3 (.list (rows.map rowD)) from (show Tm 2 (.list (rows.map rowD)) from tN).le (by decide))))
      have s_ := same_upd (o := .tup [.int r, .int k, .ref l26]) nt28
      have sH := sH.trans s_
      have hL := hL.same s_
      clear s_
      generalize upd F27 t28 (.tup [.int r, .int k, .ref l26]) = F29 at st sH hL ⊢
      clear dl
      refine ⟨_, rfl, _, rfl, _, rfl, sz_le (by simp), fun t30 nt30 => ?_⟩
      have st := st.newT (ws := [.int k, .int r, (.ref an)]) (zs := [.int k, .int r, .tuple (rows.map rowD)]) nt30 (.cons (.int _) (.cons (.int _) (.cons st.X.tl.tl.hd .nil))) (tmT (by simp) (all3 (ik _) (ir _) (tN.le (by decide))))
      have s_ := same_upd (o := .tup [.int k, .int r, (.ref an)]) nt30
      have sH := sH.trans s_
      have hL := hL.same s_
      clear s_
      generalize upd F29 t30 (.tup [.int k, .int r, (.ref an)]) = F31 at st sH hL ⊢
      obtain ⟨_, ys, e_, hSn, hAn⟩ := st.X.tl.tl.hd.isTup
      cases e_
      refine ⟨_, rfl, _, rfl, _, rfl, an, ys, rfl, hSn, fun b32 nb32 => ?_⟩
      have db : Da K (upd F31 b32 (.tup ys.reverse)) pen (.ref b32) (.tuple (rows.map rowD).reverse) := Da.newT hAn.reverse nb32
      have st := st.same (same_upd (o := .tup ys.reverse) nb32)
      have s_ := same_upd (o := .tup ys.reverse) nb32
      have sH := sH.trans s_
      have hL := hL.same s_
      clear s_
      generalize upd F31 b32 (.tup ys.reverse) = F33 at st db sH hL ⊢
      clear hSn hAn
      have tR : Tm 2 (.tuple (rows.map rowD).reverse) := tmT (by rw [List.length_reverse]; exact tN.1) (fun d hd => tN.2 d (List.mem_reverse.mp hd))
      refine ⟨sz_le (by simp), fun t34 nt34 => ?_⟩
      have st := st.newT (ws := [.int r, .int k, .ref b32]) (zs := [.int r, .int k, .tuple (rows.map rowD).reverse]) nt34 (.cons (.int _) (.cons (.int _) (.cons db .nil))) (tmT (by simp) (all3 (ir _) (ik _) (tR.le (by decide))))
      have s_ := same_upd (o := .tup [.int r, .int k, .ref b32]) nt34
      have sH := sH.trans s_
      have hL := hL.same s_
      clear s_
      generalize upd F33 t34 (.tup [.int r, .int k, .ref b32]) = F35 at st sH hL ⊢
      clear db
      refine ⟨sz_le (by simp), fun L36 nL36 => ?_⟩
      have aL36 : (upd F35 L36 (.lst [.ref t28, .ref t30, .ref t34])) L36 = some (.lst [.ref t28, .ref t30, .ref t34]) := upd_same
      have st := st.same (same_upd (o := .lst [.ref t28, .ref t30, .ref t34]) nL36)
      have s_ := same_upd (o := .lst [.ref t28, .ref t30, .ref t34]) nL36
      have sH := sH.trans s_
      have hL := hL.same s_
      clear s_
      generalize upd F35 L36 (.lst [.ref t28, .ref t30, .ref t34]) = F37 at st aL36 sH hL ⊢
      refine ⟨S21, L36, _, [.ref t28, .ref t30, .ref t34], rfl, rfl, hL.at_, aL36, sz_le (by simp <;> omega), fun S38 nS38 => ?_⟩
      have hL : Ls 4 K (upd F37 S38 (.lst (vs25 ++ [.ref t28, .ref t30, .ref t34]))) pen S38 (vs25 ++ [.ref t28, .ref t30, .ref t34]) _ := st.glue hL nS38
      have s_ := same_upd (o := .lst (vs25 ++ [.ref t28, .ref t30, .ref t34])) nS38
      have st := st.nix.same s_
      have sH := sH.trans s_
      clear s_
      generalize upd F37 S38 (.lst (vs25 ++ [.ref t28, .ref t30, .ref t34])) = F41 at st hL sH ⊢
      obtain ⟨vs42, ds_, hL, hl_, h0_⟩ : ∃ vs ds, Ls 4 K F41 pen S38 vs ds ∧ vs.length ≤ 14 ∧ 0 < vs.length := ⟨_, _, hL, by simp <;> omega, by simp⟩
      refine ⟨_, rfl, ?_⟩
      refine ⟨_, rfl, rfl, _, rfl, _, rfl, sz_le (by simp), fun t43 nt43 => ?_⟩
      have st := st.newT (ws := [.bl (decide (V.int (r : Int) = V.int 1)), .int k, (.ref an)]) (zs := [.bool (decide (V.int (r : Int) = V.int 1)), .int k, .tuple (rows.map rowD)]) nt43 (.cons (.bl _) (.cons (.int _) (.cons st.X.tl.tl.hd .nil))) (tmT (by simp) (all3 (tmB' _ _) (ik _) (tN.le (by decide))))
      have s_ := same_upd (o := .tup [.bl (decide (V.int (r : Int) = V.int 1)), .int k, (.ref an)]) nt43
      have sH := sH.trans s_
      have hL := hL.same s_
      clear s_
      generalize upd F41 t43 (.tup [.bl (decide (V.int (r : Int) = V.int 1)), .int k, (.ref an)]) = F44 at st sH hL ⊢
      refine ⟨_, rfl, ?_⟩
      refine ⟨_, rfl, (k : Int), rfl, (by have := log_small (x := (k : Int)) (by omega); omega), _, rfl, sz_le (by simp), fun t45 nt45 => ?_⟩
      have st := st.newT (ws := [.int r, .str (Str.ofString (toString (k : Int))), (.ref an)]) (zs := [.int r, .str (Str.ofString (toString (k : Int))), .tuple (rows.map rowD)]) nt45 (.cons (.int _) (.cons (.str _) (.cons st.X.tl.tl.hd .nil))) (tmT (by simp) (all3 (ir _) (tmK _ hk6) (tN.le (by decide))))
      have s_ := same_upd (o := .tup [.int r, .str (Str.ofString (toString (k : Int))), (.ref an)]) nt45
      have sH := sH.trans s_
      have hL := hL.same s_
      clear s_
      generalize upd F44 t45 (.tup [.int r, .str (Str.ofString (toString (k : Int))), (.ref an)]) = F46 at st sH hL ⊢
      refine ⟨_, rfl, _, rfl, sz_le (by simp), fun t47 nt47 => ?_⟩
      have st := st.newT (ws := [.int r, .non, (.ref an)]) (zs := [.int r, .none, .tuple (rows.map rowD)]) nt47 (.cons (.int _) (.cons .non (.cons st.X.tl.tl.hd .nil))) (tmT (by simp) (all3 (ir _) (tmN _) (tN.le (by decide))))
      have s_ := same_upd (o := .tup [.int r, .non, (.ref an)]) nt47
      have sH := sH.trans s_
      have hL := hL.same s_
      clear s_
      generalize upd F46 t47 (.tup [.int r, .non, (.ref an)]) = F48 at st sH hL ⊢
      refine ⟨sz_le (by simp), fun L49 nL49 => ?_⟩
      have aL49 : (upd F48 L49 (.lst [.ref t43, .ref t45, .ref t47])) L49 = some (.lst [.ref t43, .ref t45, .ref t47]) := upd_same
      have st := st.same (same_upd (o := .lst [.ref t43, .ref t45, .ref t47]) nL49)
      have s_ := same_upd (o := .lst [.ref t43, .ref t45, .ref t47]) nL49
      have sH := sH.trans s_
      have hL := hL.same s_
      clear s_
      generalize upd F48 L49 (.lst [.ref t43, .ref t45, .ref t47]) = F50 at st aL49 sH hL ⊢
      refine ⟨S38, L49, _, [.ref t43, .ref t45, .ref t47], rfl, rfl, hL.at_, aL49, sz_le (by simp <;> omega), fun S51 nS51 => ?_⟩
      have hL : Ls 4 K (upd F50 S51 (.lst (vs42 ++ [.ref t43, .ref t45, .ref t47]))) pen S51 (vs42 ++ [.ref t43, .ref t45, .ref t47]) _ := st.glue hL nS51
      have s_ := same_upd (o := .lst (vs42 ++ [.ref t43, .ref t45, .ref t47])) nS51
      have st := st.nix.same s_
      have sH := sH.trans s_
      clear s_
      generalize upd F50 S51 (.lst (vs42 ++ [.ref t43, .ref t45, .ref t47])) = F54 at st hL sH ⊢
      obtain ⟨vs55, ds_, hL, hl_, h0_⟩ : ∃ vs ds, Ls 4 K F54 pen S51 vs ds ∧ vs.length ≤ 17 ∧ 0 < vs.length := ⟨_, _, hL, by simp <;> omega, by simp⟩
      refine ⟨_, rfl, ?_⟩
      refine ⟨_, rfl, _, rfl, rfl, _, rfl, sz_le (by simp), fun t56 nt56 => ?_⟩
      have st := st.newT (ws := [.int r, .bl (decide (V.int (k : Int) = V.int 1)), (.ref an)]) (zs := [.int r, .bool (decide (V.int (k : Int) = V.int 1)), .tuple (rows.map rowD)]) nt56 (.cons (.int _) (.cons (.bl _) (.cons st.X.tl.tl.hd .nil))) (tmT (by simp) (all3 (ir _) (tmB' _ _) (tN.le (by decide))))
      have s_ := same_upd (o := .tup [.int r, .bl (decide (V.int (k : Int) = V.int 1)), (.ref an)]) nt56
      have sH := sH.trans s_
      have hL := hL.same s_
      clear s_
      generalize upd F54 t56 (.tup [.int r, .bl (decide (V.int (k : Int) = V.int 1)), (.ref an)]) = F57 at st sH hL ⊢
      refine ⟨sz_le (by simp), fun L58 nL58 => ?_⟩
      have aL58 : (upd F57 L58 (.lst [.ref t56])) L58 = some (.lst [.ref t56]) := upd_same
      have st := st.same (same_upd (o := .lst [.ref t56]) nL58)
      have s_ := same_upd (o := .lst [.ref t56]) nL58
      have sH := sH.trans s_
      have hL := hL.same s_
      clear s_
      generalize upd F57 L58 (.lst [.ref t56]) = F59 at st aL58 sH hL ⊢
      refine ⟨L58, 2, [.ref t56], rfl, rfl, aL58, by decide, by decide, sz_le (by simp), fun M60 nM60 => ?_⟩
      have aM60 : (upd F59 M60 (.lst (List.replicate (2 : Int).toNat [.ref t56]).flatten)) M60 = some (.lst (List.replicate (2 : Int).toNat [.ref t56]).flatten) := upd_same
      have st := (Ds.rep (show Ds 4 K F59 pen c n [.int r, .int k, .ref an] [.int r, .int k, .tuple (rows.map rowD)] [.ref t56] [.tuple [.int r, .bool (decide (V.int (k : Int) = V.int 1)), .tuple (rows.map rowD)]] from st) (2 : Int).toNat).same (same_upd (o := .lst (List.replicate (2 : Int).toNat [.ref t56]).flatten) nM60)
      have s_ := same_upd (o := .lst (List.replicate (2 : Int).toNat [.ref t56]).flatten) nM60
      have sH := sH.trans s_
      have hL := hL.same s_
      clear s_
      generalize upd F59 M60 (.lst (List.replicate (2 : Int).toNat [.ref t56]).flatten) = F61 at st aM60 sH hL ⊢
      refine ⟨S51, M60, _, (List.replicate (2 : Int).toNat [.ref t56]).flatten, rfl, rfl, hL.at_, aM60, sz_le (by simp <;> omega), fun S62 nS62 => ?_⟩
      have hL : Ls 4 K (upd F61 S62 (.lst (vs55 ++ (List.replicate (2 : Int).toNat [.ref t56]).flatten))) pen S62 (vs55 ++ (List.replicate (2 : Int).toNat [.ref t56]).flatten) _ := st.glue hL nS62
      have s_ := same_upd (o := .lst (vs55 ++ (List.replicate (2 : Int).toNat [.ref t56]).flatten)) nS62
      have st := st.nix.same s_
      have sH := sH.trans s_
      clear s_
      generalize upd F61 S62 (.lst (vs55 ++ (List.replicate (2 : Int).toNat [.ref t56]).flatten)) = F65 at st hL sH ⊢
      obtain ⟨vs66, ds_, hL, hl_, h0_⟩ : ∃ vs ds, Ls 4 K F65 pen S62 vs ds ∧ vs.length ≤ 19 ∧ 0 < vs.length := ⟨_, _, hL, by simp <;> omega, by simp⟩
      have oH := oS.trans (Oth.of_same sH)
      refine ⟨fun σ F => ∃ S vs ds, σ = [some (.ref pen), some (.ref a), some (.int p), some (.int r), some (.int k), some (.ref an), some (.ref S), none, none, none, none] ∧ Oth H F pen ∧ Ds 4 K F pen c n [.int r, .int k, .ref an] [.int r, .int k, .tuple (rows.map rowD)] [] [] ∧ Ls 4 K F pen S vs ds ∧ vs.length ≤ 25 ∧ 0 < vs.length, ?_, ?_⟩
      · refine ⟨_, rfl, r, 1, rfl, rfl, _, rfl, ?_⟩
        refine ite2 (fun c1 => ?_) (fun c1 => ?_)
        · refine ⟨_, rfl, k, 0, rfl, rfl, _, rfl, ?_⟩
          refine ite2 (fun c2 => ?_) (fun c2 => ?_)
          · have c1' : 1 < (r : Int) := of_decide_eq_true c1
            obtain ⟨_, ys, e_, hSn, hAn⟩ := st.X.tl.tl.hd.isTup
            cases e_
            obtain ⟨b0, us0, row0, at0, m0, hS0, hA0, hl0⟩ := rowAt (i := 0) hAn (by omega)
            obtain ⟨g00, g01⟩ := hgood row0 m0
            refine ⟨_, rfl, _, rfl, _, rfl, _, rfl, an, ys, 0, .ref b0, rfl, rfl, hSn, at0, 1, rfl, b0, us0, rfl, hS0, fun u67 F68 s_ h_ => ?_⟩
            have st := (st.same s_).addX (d := .tuple (cutD (row0.map .int) (some 1) Option.none)) (Da.tup h_ ((hA0.same s_).cut _ _))
            have sH := sH.trans s_
            have hL := hL.same s_
            clear s_
            clear hSn hAn
            obtain ⟨_, ys, e_, hSn, hAn⟩ := st.X.tl.tl.hd.isTup
            cases e_
            obtain ⟨b1, us1, row1, at1, m1, hS1, hA1, hl1⟩ := rowAt (i := 1) hAn (by omega)
            obtain ⟨g10, g11⟩ := hgood row1 m1
            refine ⟨_, rfl, an, ys, 1, .ref b1, rfl, rfl, hSn, at1, sz_le (by simp), fun z69 nz69 => ?_⟩
            have hS1 := Same.seqT (same_upd (o := .tup [.int 0]) nz69) hS1
            have hA1 := hA1.same (same_upd (o := .tup [.int 0]) nz69)
            have az69 : (upd F68 z69 (.tup [.int 0])) z69 = some (.tup [.int 0]) := upd_same
            have st := st.same (same_upd (o := .tup [.int 0]) nz69)
            clear hSn hAn
            have s_ := same_upd (o := .tup [.int 0]) nz69
            have sH := sH.trans s_
            have hL := hL.same s_
            clear s_
            generalize upd F68 z69 (.tup [.int 0]) = F70 at st az69 hS1 hA1 sH hL ⊢
            refine ⟨b1, z69, us1, [.int 0], rfl, rfl, hS1, .inl (.inl az69), sz_le (by rw [hl1, g10]; simp <;> omega), fun u71 F72 s_ h_ => ?_⟩
            have st := (st.same s_).addX (d := .tuple (row1.map .int ++ [.int 0])) (Da.tup h_ ((hA1.same s_).append (.cons (.int 0) .nil)))
            have sH := sH.trans s_
            have hL := hL.same s_
            clear s_
            have x3 := st.X.tl.tl.tl.hd
            have x4 := st.X.tl.tl.tl.tl.hd
            clear hS1 hA1 hS0 hA0
            skip
            refine ⟨sz_le (by simp), fun u73 nu73 => ?_⟩
            have d_ : Da K (upd F72 u73 (.tup [.ref u67, .ref u71])) pen (.ref u73) (.tuple [.tuple (cutD (row0.map .int) (some 1) Option.none), .tuple (row1.map .int ++ [.int 0])]) := Da.newT (.cons x3 (.cons x4 .nil)) nu73
            have au73 : (upd F72 u73 (.tup [.ref u67, .ref u71])) u73 = some (.tup [.ref u67, .ref u71]) := upd_same
            have st := (st.same (same_upd (o := .tup [.ref u67, .ref u71]) nu73)).addX d_
            clear d_
            have s_ := same_upd (o := .tup [.ref u67, .ref u71]) nu73
            have sH := sH.trans s_
            have hL := hL.same s_
            clear s_
            generalize upd F72 u73 (.tup [.ref u67, .ref u71]) = F74 at st au73 sH hL ⊢
            obtain ⟨_, ys, e_, hSn, hAn⟩ := st.X.tl.tl.hd.isTup
            cases e_
            refine ⟨_, rfl, 2, rfl, an, ys, rfl, hSn, fun u75 F76 s_ h_ => ?_⟩
            have st := (st.same s_).addX (d := .tuple (cutD (rows.map rowD) (some 2) Option.none)) (Da.tup h_ ((hAn.same s_).cut _ _))
            have sH := sH.trans s_
            have hL := hL.same s_
            have au73 := s_ _ _ au73
            clear s_
            clear hSn hAn x3 x4
            obtain ⟨_, ys3, e_, hS3, hA3⟩ := st.X.tl.tl.tl.tl.tl.tl.hd.isTup
            cases e_
            have l3 := hA3.length
            have l3' : (cutD (rows.map rowD) (some 2) Option.none).length ≤ 6 := Nat.le_trans (cutD_len _ _ _) (by rw [List.length_map]; omega)
            have x5 := st.X.tl.tl.tl.tl.tl.hd
            cases x5 with
            | tup hS5 hA5 =>
            have hS5 : SqT K F76 u73 [.ref u67, .ref u71] := .inl (.inl au73)
            have hA5 : DaAll K F76 pen [.ref u67, .ref u71] [.tuple (cutD (row0.map .int) (some 1) Option.none), .tuple (row1.map .int ++ [.int 0])] := .cons st.X.tl.tl.tl.hd (.cons st.X.tl.tl.tl.tl.hd .nil)
            refine ⟨u73, u75, [.ref u67, .ref u71], ys3, rfl, rfl, hS5, hS3, sz_le (by rw [l3]; simp <;> omega), fun u77 F78 s_ h_ => ?_⟩
            have st := (st.same s_).addX (d := .tuple ([.tuple (cutD (row0.map .int) (some 1) Option.none), .tuple (row1.map .int ++ [.int 0])] ++ cutD (rows.map rowD) (some 2) Option.none)) (Da.tup h_ ((hA5.append hA3).same s_))
            have sH := sH.trans s_
            have hL := hL.same s_
            have au73 := s_ _ _ au73
            clear s_
            have tX : Tm 3 (.tuple ([.tuple (cutD (row0.map .int) (some 1) Option.none), .tuple (row1.map .int ++ [.int 0])] ++ cutD (rows.map rowD) (some 2) Option.none)) := Tm.app (all2 ((tN.row m0).cut _ _ |>.le (by decide)) ((tN.row m1).le (by decide : 1 ≤ 2) |>.snoc (by rw [List.length_map]; omega) (tmI _ (by decide)))) (fun d hd => (tN.2 d (cutD_mem hd)).le (by decide)) (by simp only [List.length_cons, List.length_nil]; omega)
            have x7 := st.X.tl.tl.tl.tl.tl.tl.tl.hd
            have st := st.setX (.cons st.X.hd (.cons st.X.tl.hd (.cons st.X.tl.tl.hd .nil)))
            refine ⟨sz_le (by simp), fun t79 nt79 => ?_⟩
            have st := st.newT (ws := [.int r, .int k, .ref u77]) (zs := [.int r, .int k, .tuple ([.tuple (cutD (row0.map .int) (some 1) Option.none), .tuple (row1.map .int ++ [.int 0])] ++ cutD (rows.map rowD) (some 2) Option.none)]) nt79 (.cons (.int _) (.cons (.int _) (.cons x7 .nil))) (tmT (by simp) (all3 (ir _) (ik _) tX))
            have s_ := same_upd (o := .tup [.int r, .int k, .ref u77]) nt79
            have sH := sH.trans s_
            have hL := hL.same s_
            clear s_
            generalize upd F78 t79 (.tup [.int r, .int k, .ref u77]) = F80 at st sH hL ⊢
            clear x7
            refine ⟨sz_le (by simp), fun L81 nL81 => ?_⟩
            have aL81 : (upd F80 L81 (.lst [.ref t79])) L81 = some (.lst [.ref t79]) := upd_same
            have st := st.same (same_upd (o := .lst [.ref t79]) nL81)
            have s_ := same_upd (o := .lst [.ref t79]) nL81
            have sH := sH.trans s_
            have hL := hL.same s_
            clear s_
            generalize upd F80 L81 (.lst [.ref t79]) = F82 at st aL81 sH hL ⊢
            refine ⟨L81, 3, [.ref t79], rfl, rfl, aL81, by decide, by decide, sz_le (by simp), fun M83 nM83 => ?_⟩
            have aM83 : (upd F82 M83 (.lst (List.replicate (3 : Int).toNat [.ref t79]).flatten)) M83 = some (.lst (List.replicate (3 : Int).toNat [.ref t79]).flatten) := upd_same
            have st := (Ds.rep (show Ds 4 K F82 pen c n [.int r, .int k, .ref an] [.int r, .int k, .tuple (rows.map rowD)] [.ref t79] [.tuple [.int r, .int k, .tuple ([.tuple (cutD (row0.map .int) (some 1) Option.none), .tuple (row1.map .int ++ [.int 0])] ++ cutD (rows.map rowD) (some 2) Option.none)]] from st) (3 : Int).toNat).same (same_upd (o := .lst (List.replicate (3 : Int).toNat [.ref t79]).flatten) nM83)
            have s_ := same_upd (o := .lst (List.replicate (3 : Int).toNat [.ref t79]).flatten) nM83
            have sH := sH.trans s_
            have hL := hL.same s_
            clear s_
            generalize upd F82 M83 (.lst (List.replicate (3 : Int).toNat [.ref t79]).flatten) = F84 at st aM83 sH hL ⊢
            refine ⟨S62, M83, _, (List.replicate (3 : Int).toNat [.ref t79]).flatten, rfl, rfl, hL.at_, aM83, sz_le (by simp <;> omega), fun S85 nS85 => ?_⟩
            have hL : Ls 4 K (upd F84 S85 (.lst (vs66 ++ (List.replicate (3 : Int).toNat [.ref t79]).flatten))) pen S85 (vs66 ++ (List.replicate (3 : Int).toNat [.ref t79]).flatten) _ := st.glue hL nS85
            have s_ := same_upd (o := .lst (vs66 ++ (List.replicate (3 : Int).toNat [.ref t79]).flatten)) nS85
            have st := st.nix.same s_
            have sH := sH.trans s_
            clear s_
            generalize upd F84 S85 (.lst (vs66 ++ (List.replicate (3 : Int).toNat [.ref t79]).flatten)) = F88 at st hL sH ⊢
            obtain ⟨vs89, ds_, hL, hl_, h0_⟩ : ∃ vs ds, Ls 4 K F88 pen S85 vs ds ∧ vs.length ≤ 22 ∧ 0 < vs.length := ⟨_, _, hL, by simp <;> omega, by simp⟩
            exact ⟨S85, _, _, rfl, oS.trans (Oth.of_same sH), st, hL, by omega, h0_⟩
          · exact ⟨S62, _, _, rfl, oH, st, hL, by omega, h0_⟩
        · exact ⟨S62, _, _, rfl, oH, st, hL, by omega, h0_⟩
      · rintro σ F ⟨S, vs, ds, rfl, oH, st, hL, hl_, h0_⟩
        have lr : (rows.map rowD).length = r := by rw [List.length_map, hlen]
        refine ⟨_, rfl, sz_le (by simp), fun z nz => ?_⟩
        have hz : (upd F z (.tup [])) z = some (.tup []) := upd_same
        have s_ := same_upd (o := .tup []) nz
        have st := st.same s_
        have hL := hL.same s_
        have oH := oH.trans (Oth.of_same s_)
        clear s_
        generalize upd F z (.tup []) = F1 at st hL oH hz ⊢
        refine ⟨.tuple (rows.map rowD), .tuple [], (st.X.tl.tl.hd).dp, .tup (.inl (.inl hz)) .nil, shaped_rows tN (by decide), shaped_nilT, ?_⟩
        rw [eqv_rows]
        refine ⟨_, rfl, ?_⟩
        refine ite2 (fun ce => ?_) (fun ce => ?_)
        · refine ⟨_, rfl, _, rfl, pen, c, S, vs, _, rfl, st.P, by omega, hL.ne, .inl (.inl hL.at_), h0_, by omega, fun x hx G o P' => ?_⟩
          obtain ⟨d, hd, td⟩ := (hL.oth st.P o).pick hx
          exact q x d G (td.le (by decide)) hd (oH.trans o) (P'.mono (by omega))
        have r1 : 1 ≤ r := by
          cases rows with
          | nil => exact absurd rfl ce
          | cons y ys => rw [← hlen, List.length_cons]; omega
        refine ⟨_, rfl, pen, c, 2, _, rfl, st.P, by omega, by decide, by decide, fun r2 F2 _ _ o2 P2 => ?_⟩
        have hL := hL.oth st.P o2
        have st := st.oth o2 P2
        have oH := oH.trans o2
        refine ⟨rfl, _, rfl, ?_⟩
        refine ite2 (fun _ => ?_) (fun _ => ?_)
        · refine ⟨_, rfl, _, rfl, pen, c, S, vs, _, rfl, st.P, by omega, hL.ne, .inl (.inl hL.at_), h0_, by omega, fun x hx G o P' => ?_⟩
          obtain ⟨d, hd, td⟩ := (hL.oth st.P o).pick hx
          exact q x d G (td.le (by decide)) hd (oH.trans o) (P'.mono (by omega))
        refine ⟨_, rfl, _, rfl, pen, c, r, _, rfl, st.P, by omega, by omega, by omega, fun at_ F3 a0 a1 o3 P3 => ?_⟩
        have st := (st.oth o3 P3).lev 3
        have oH := oH.trans o3
        clear hL
        have sH := Same.refl F3
        obtain ⟨_, ys, e_, hSn, hAn⟩ := st.X.tl.tl.hd.isTup
        cases e_
        obtain ⟨b, us, row, hat, mr, hSb, hAb, hlb⟩ := rowAtI hAn a0 (by omega)
        obtain ⟨g0, g1⟩ := hgood row mr
        have tR := tN.row mr
        have lR : (row.map PyData.int).length = k := by rw [List.length_map, g0]
        refine ⟨_, rfl, _, rfl, an, ys, at_, .ref b, rfl, rfl, hSn, hat, ?_⟩
        have st := st.addX (Da.tup hSb hAb)
        clear hSb hAb hSn hAn hat hlb us ys
        obtain ⟨_, us, e_, hSb, hAb⟩ := st.X.tl.tl.tl.hd.isTup
        cases e_
        have hlb : us.length = k := by rw [hAb.length, lR]
        refine ⟨_, rfl, sz_le (by simp), fun z90 nz90 => ?_⟩
        have az90 : (upd F3 z90 (.tup [.int 0])) z90 = some (.tup [.int 0]) := upd_same
        have hSb := Same.seqT (same_upd (o := .tup [.int 0]) nz90) hSb
        have hAb := hAb.same (same_upd (o := .tup [.int 0]) nz90)
        have st := st.same (same_upd (o := .tup [.int 0]) nz90)
        have s_ := same_upd (o := .tup [.int 0]) nz90
        have sH := sH.trans s_
        clear s_
        generalize upd F3 z90 (.tup [.int 0]) = F91 at st az90 hSb hAb sH ⊢
        refine ⟨b, z90, us, [.int 0], rfl, rfl, hSb, .inl (.inl az90), sz_le (by rw [hlb]; simp <;> omega), fun u92 F93 s_ h_ => ?_⟩
        have st := (st.same s_).add (d := .tuple ((row.map .int) ++ [.int 0])) (Da.tup h_ ((hAb.same s_).append (.cons (.int 0) .nil))) ((tR.le (by decide : 1 ≤ 2)).le (by decide : 2 ≤ 3) |>.snoc (by omega) (tmI _ (by decide)))
        have sH := sH.trans s_
        clear s_ h_
        clear hSb hAb hlb
        obtain ⟨_, us, e_, hSb, hAb⟩ := st.X.tl.tl.tl.hd.isTup
        cases e_
        have hlb : us.length = k := by rw [hAb.length, lR]
        refine ⟨_, rfl, 1, rfl, b, us, rfl, hSb, fun u94 F95 s_ h_ => ?_⟩
        have st := (st.same s_).add (d := .tuple (cutD (row.map .int) (some 1) Option.none)) (Da.tup h_ ((hAb.same s_).cut _ _)) ((tR.cut _ _).le (by decide))
        have sH := sH.trans s_
        clear s_ h_
        clear hSb hAb hlb
        obtain ⟨_, us, e_, hSb, hAb⟩ := st.X.tl.tl.tl.hd.isTup
        cases e_
        have hlb : us.length = k := by rw [hAb.length, lR]
        refine ⟨_, rfl, b, us, rfl, .inr hSb, fun l96 nl96 => ?_⟩
        have st := st.newL nl96 hAb (show Tm 3 (.list (row.map .int)) from (show Tm 1 (.list (row.map .int)) from tR).le (by decide))
        have s_ := same_upd (o := .lst us) nl96
        have sH := sH.trans s_
        clear s_
        generalize upd F95 l96 (.lst us) = F97 at st sH ⊢
        clear hSb hAb hlb
        have st := st.add .non (tmN _)
        refine ⟨sz_le (by simp), fun O nO => ?_⟩
        obtain ⟨vs1, ds1, hL, hl_, h0_⟩ : ∃ vs ds, Ls 3 K (upd F97 O (.lst [.ref u92, .ref u94, .ref l96, .non])) pen O vs ds ∧ vs.length ≤ 4 ∧ 0 < vs.length := ⟨_, _, st.list nO, by simp, by simp⟩
        have st := st.nix.same (same_upd (o := .lst [.ref u92, .ref u94, .ref l96, .non]) nO)
        have sH := sH.trans (same_upd (o := .lst [.ref u92, .ref u94, .ref l96, .non]) nO)
        generalize upd F97 O (.lst [.ref u92, .ref u94, .ref l96, .non]) = F98 at st hL sH ⊢
        have oH := oH.trans (Oth.of_same sH)
        clear sH
        refine ⟨fun σ F => ∃ sv O vs ds kv, σ = [some (.ref pen), some (.ref a), some (.int p), some (.int r), some (.int k), some (.ref an), sv, some (.int at_), some (.ref b), some (.ref O), kv] ∧ Oth H F pen ∧ Ds 3 K F pen c (n + 4) [.int r, .int k, .ref an, .ref b] [.int r, .int k, .tuple (rows.map rowD), .tuple (row.map .int)] [] [] ∧ Ls 3 K F pen O vs ds ∧ vs.length ≤ 12 ∧ 0 < vs.length, ?_, ?_⟩
        · refine ⟨_, rfl, k, 0, rfl, rfl, _, rfl, ?_⟩
          refine ite2 (fun c1 => ?_) (fun c1 => ?_)
          · have c1' : 0 < (k : Int) := of_decide_eq_true c1
            refine ⟨_, rfl, _, rfl, pen, c, k, _, rfl, st.P, by omega, by omega, by omega, fun kk G0 k0 k1 o3 P3 => ?_⟩
            have hL := hL.oth st.P o3
            have oH := oH.trans o3
            have st := st.oth o3 P3
            have sH := Same.refl G0
            refine ⟨_, rfl, 0, 1, rfl, rfl, _, rfl, p, 1, rfl, rfl, _, rfl, 10, 20, rfl, rfl, ⟨by decide, by decide, by decide⟩, p, _, rfl, rfl, sz_le (by simp), fun z99 nz99 => ?_⟩
            have x5 : Da K (upd G0 z99 (.tup [.int 0])) pen (.ref z99) (.tuple [.int 0]) := Da.newT (.cons (.int 0) .nil) nz99
            have st := st.same (same_upd (o := .tup [.int 0]) nz99)
            have s_ := same_upd (o := .tup [.int 0]) nz99
            have sH := sH.trans s_
            have hL := hL.same s_
            clear s_
            generalize upd G0 z99 (.tup [.int 0]) = F100 at st x5 sH hL ⊢
            refine ⟨sz_le (by simp), fun L nL => ?_⟩
            have eL := st.P.new_ne nL
            have hM : Ls 1 K (upd F100 L (.lst [.int p, .int (0 - 1), .bl true, .str (Str.ofString "0"), .int (p - 1), .int (p + 10 ^ (20 : Int).toNat), .non, .ref z99, .bl false])) pen L [.int p, .int (0 - 1), .bl true, .str (Str.ofString "0"), .int (p - 1), .int (p + 10 ^ (20 : Int).toNat), .non, .ref z99, .bl false] [.int p, .int (0 - 1), .bool true, .str (Str.ofString "0"), .int (p - 1), .int (p + 10 ^ (20 : Int).toNat), .none, .tuple [.int 0], .bool false] := by
              refine ⟨upd_same, .cons (.int _) (.cons (.int _) (.cons (.bl _) (.cons (.str _) (.cons (.int _) (.cons (.int _) (.cons .non (.cons (x5.same (same_upd nL)) (.cons (.bl _) .nil)))))))), ?_, eL.1⟩
              intro d hd
              have e20 : (10 : Int) ^ (20 : Int).toNat = 100000000000000000000 := by decide
              simp only [List.mem_cons, List.not_mem_nil, or_false] at hd
              rcases hd with rfl | rfl | rfl | rfl | rfl | rfl | rfl | rfl | rfl
              · exact tmI _ (by omega)
              · exact tmI _ (by decide)
              · exact tmB' _ _
              · exact tmS _ (by decide +kernel)
              · exact tmI _ (by omega)
              · exact tmI _ (by rw [e20]; omega)
              · exact tmN _
              · exact tmT (by simp) (all1 (tmI _ (by decide)))
              · exact tmB' _ _
            obtain ⟨ls, ld, hM, hm_, hm0⟩ : ∃ vs ds, Ls 1 K (upd F100 L (.lst [.int p, .int (0 - 1), .bl true, .str (Str.ofString "0"), .int (p - 1), .int (p + 10 ^ (20 : Int).toNat), .non, .ref z99, .bl false])) pen L vs ds ∧ vs.length ≤ 9 ∧ 0 < vs.length := ⟨_, _, hM, by simp, by simp⟩
            have st := st.same (same_upd (o := .lst [.int p, .int (0 - 1), .bl true, .str (Str.ofString "0"), .int (p - 1), .int (p + 10 ^ (20 : Int).toNat), .non, .ref z99, .bl false]) nL)
            have s_ := same_upd (o := .lst [.int p, .int (0 - 1), .bl true, .str (Str.ofString "0"), .int (p - 1), .int (p + 10 ^ (20 : Int).toNat), .non, .ref z99, .bl false]) nL
            have sH := sH.trans s_
            have hL := hL.same s_
            clear s_
            generalize upd F100 L (.lst [.int p, .int (0 - 1), .bl true, .str (Str.ofString "0"), .int (p - 1), .int (p + 10 ^ (20 : Int).toNat), .non, .ref z99, .bl false]) = F101 at st hM sH hL ⊢
            obtain ⟨_, us, e_, hSb, hAb⟩ := st.X.tl.tl.tl.hd.isTup
            cases e_
            have hlb : us.length = k := by rw [hAb.length, lR]
            have lp := cutD_pre (row.map .int) k0
            have ls_ := cutD_suf (row.map .int) (i := kk + 1) (by omega)
            refine ⟨_, rfl, _, rfl, _, rfl, kk, rfl, b, us, rfl, hSb, fun u102 F103 s_ h_ => ?_⟩
            have st := (st.same s_).addX (d := .tuple (cutD (row.map .int) Option.none (some kk))) (Da.tup h_ ((hAb.same s_).cut _ _))
            have sH := sH.trans s_
            have hL := hL.same s_
            have hM := hM.same s_
            clear s_ h_
            clear hSb hAb hlb
            have oH := oH.trans (Oth.of_same sH)
            clear sH
            refine ⟨_, rfl, _, rfl, pen, c, L, ls, _, rfl, st.P, by omega, hM.ne, .inl (.inl hM.at_), hm0, by omega, fun x hx G1 o4 P4 => ?_⟩
            obtain ⟨dx, hdx, tdx⟩ := (hM.oth st.P o4).pick hx
            have hL := hL.oth st.P o4
            have oH := oH.trans o4
            have st := st.oth o4 P4
            have sH := Same.refl G1
            refine ⟨sz_le (by simp), fun z104 nz104 => ?_⟩
            have hS_ : SqT K (upd G1 z104 (.tup [x])) z104 [x] := .inl (.inl upd_same)
            have hdx := hdx.same (same_upd (o := .tup [x]) nz104)
            have st := st.same (same_upd (o := .tup [x]) nz104)
            have s_ := same_upd (o := .tup [x]) nz104
            have sH := sH.trans s_
            have hL := hL.same s_
            clear s_
            generalize upd G1 z104 (.tup [x]) = F105 at st hS_ hdx sH hL ⊢
            obtain ⟨_, us1, e_, hS1, hA1⟩ := st.X.tl.tl.tl.tl.hd.isTup
            cases e_
            have hl1 := hA1.length
            refine ⟨u102, z104, us1, [x], rfl, rfl, hS1, hS_, sz_le (by rw [hl1]; simp <;> omega), fun u106 F107 s_ h_ => ?_⟩
            have st := (st.same s_).addX (d := .tuple ((cutD (row.map .int) Option.none (some kk)) ++ [dx])) (Da.tup h_ ((hA1.same s_).append (.cons (hdx.same s_) .nil)))
            have sH := sH.trans s_
            have hL := hL.same s_
            clear s_ h_
            clear hS1 hA1 hS_ hdx hl1
            obtain ⟨_, us, e_, hSb, hAb⟩ := st.X.tl.tl.tl.hd.isTup
            cases e_
            have hlb : us.length = k := by rw [hAb.length, lR]
            refine ⟨_, rfl, _, rfl, kk, 1, rfl, rfl, kk + 1, rfl, b, us, rfl, hSb, fun u108 F109 s_ h_ => ?_⟩
            have st := (st.same s_).addX (d := .tuple (cutD (row.map .int) (some (kk + 1)) Option.none)) (Da.tup h_ ((hAb.same s_).cut _ _))
            have sH := sH.trans s_
            have hL := hL.same s_
            clear s_ h_
            clear hSb hAb hlb
            obtain ⟨_, us2, e_, hS2, hA2⟩ := st.X.tl.tl.tl.tl.tl.hd.isTup
            cases e_
            have hl2 := hA2.length
            obtain ⟨_, us3, e_, hS3, hA3⟩ := st.X.tl.tl.tl.tl.tl.tl.hd.isTup
            cases e_
            have hl3 := hA3.length
            refine ⟨u106, u108, us2, us3, rfl, rfl, hS2, hS3, sz_le (by rw [hl2, hl3]; simp <;> omega), fun u110 F111 s_ h_ => ?_⟩
            have st := (st.same s_).add (d := .tuple ((cutD (row.map .int) Option.none (some kk)) ++ [dx] ++ (cutD (row.map .int) (some (kk + 1)) Option.none))) (Da.tup h_ ((hA2.append hA3).same s_)) (Tm.mid (k := 2) (fun d hd => (tR.2 d (cutD_mem hd)).le (by decide)) (tdx.le (by decide)) (fun d hd => (tR.2 d (cutD_mem hd)).le (by decide)) (by omega))
            have sH := sH.trans s_
            have hL := hL.same s_
            clear s_ h_
            clear hS2 hS3 hA2 hA3 hl2 hl3
            have st := st.setX (.cons st.X.hd (.cons st.X.tl.hd (.cons st.X.tl.tl.hd (.cons st.X.tl.tl.tl.hd .nil))))
            refine ⟨sz_le (by simp), fun L112 nL112 => ?_⟩
            have aL112 : (upd F111 L112 (.lst [.ref u110])) L112 = some (.lst [.ref u110]) := upd_same
            have st := st.same (same_upd (o := .lst [.ref u110]) nL112)
            have s_ := same_upd (o := .lst [.ref u110]) nL112
            have sH := sH.trans s_
            have hL := hL.same s_
            clear s_
            generalize upd F111 L112 (.lst [.ref u110]) = F113 at st aL112 sH hL ⊢
            refine ⟨L112, 8, [.ref u110], rfl, rfl, aL112, by decide, by decide, sz_le (by simp), fun M114 nM114 => ?_⟩
            have aM114 : (upd F113 M114 (.lst (List.replicate (8 : Int).toNat [.ref u110]).flatten)) M114 = some (.lst (List.replicate (8 : Int).toNat [.ref u110]).flatten) := upd_same
            have st := (Ds.rep (show Ds 3 K F113 pen c (n + 1 + 1 + 1 + 1) [.int r, .int k, .ref an, .ref b] [.int r, .int k, .tuple (rows.map rowD), .tuple (row.map .int)] [.ref u110] [.tuple ((cutD (row.map .int) Option.none (some kk)) ++ [dx] ++ (cutD (row.map .int) (some (kk + 1)) Option.none))] from st) (8 : Int).toNat).same (same_upd (o := .lst (List.replicate (8 : Int).toNat [.ref u110]).flatten) nM114)
            have s_ := same_upd (o := .lst (List.replicate (8 : Int).toNat [.ref u110]).flatten) nM114
            have sH := sH.trans s_
            have hL := hL.same s_
            clear s_
            generalize upd F113 M114 (.lst (List.replicate (8 : Int).toNat [.ref u110]).flatten) = F115 at st aM114 sH hL ⊢
            refine ⟨O, M114, _, (List.replicate (8 : Int).toNat [.ref u110]).flatten, rfl, rfl, hL.at_, aM114, sz_le (by simp <;> omega), fun S116 nS116 => ?_⟩
            have hL : Ls 3 K (upd F115 S116 (.lst (vs1 ++ (List.replicate (8 : Int).toNat [.ref u110]).flatten))) pen S116 (vs1 ++ (List.replicate (8 : Int).toNat [.ref u110]).flatten) _ := st.glue hL nS116
            have s_ := same_upd (o := .lst (vs1 ++ (List.replicate (8 : Int).toNat [.ref u110]).flatten)) nS116
            have st := st.nix.same s_
            have sH := sH.trans s_
            clear s_
            generalize upd F115 S116 (.lst (vs1 ++ (List.replicate (8 : Int).toNat [.ref u110]).flatten)) = F119 at st hL sH ⊢
            obtain ⟨vs120, ds_, hL, hl_, h0_⟩ : ∃ vs ds, Ls 3 K F119 pen S116 vs ds ∧ vs.length ≤ 12 ∧ 0 < vs.length := ⟨_, _, hL, by simp <;> omega, by simp⟩
            exact ⟨_, S116, _, _, _, rfl, oH.trans (Oth.of_same sH), ⟨st.P.mono (by omega), st.X, st.I, st.T⟩, hL, by omega, h0_⟩
          · exact ⟨_, O, _, _, _, rfl, oH, ⟨st.P.mono (by omega), st.X, st.I, st.T⟩, hL, by omega, h0_⟩
        · rintro σ F ⟨sv, O, vs, ds, kv, rfl, oH, st, hL, hl_, h0_⟩
          have sH := Same.refl F
          have lc := cutD_len (row.map .int) Option.none (some (-1))
          refine ⟨_, rfl, ?_⟩
          obtain ⟨_, us, e_, hSb, hAb⟩ := st.X.tl.tl.tl.hd.isTup
          cases e_
          have hlb : us.length = k := by rw [hAb.length, lR]
          refine ⟨_, rfl, 1, rfl, -1, rfl, b, us, rfl, hSb, fun u121 F122 s_ h_ => ?_⟩
          have st := (st.same s_).addX (d := .tuple (cutD (row.map .int) Option.none (some (-1)))) (Da.tup h_ ((hAb.same s_).cut _ _))
          have sH := sH.trans s_
          have hL := hL.same s_
          clear s_ h_
          clear hSb hAb hlb
          refine ⟨sz_le (by simp), fun z123 nz123 => ?_⟩
          have hS_ : SqT K (upd F122 z123 (.tup [.str (Str.ofString "0")])) z123 [.str (Str.ofString "0")] := .inl (.inl upd_same)
          have st := st.same (same_upd (o := .tup [.str (Str.ofString "0")]) nz123)
          have s_ := same_upd (o := .tup [.str (Str.ofString "0")]) nz123
          have sH := sH.trans s_
          have hL := hL.same s_
          clear s_
          generalize upd F122 z123 (.tup [.str (Str.ofString "0")]) = F124 at st hS_ sH hL ⊢
          obtain ⟨_, us1, e_, hS1, hA1⟩ := st.X.tl.tl.tl.tl.hd.isTup
          cases e_
          have hl1 := hA1.length
          have tm_ : Tm 1 (.str (Str.ofString "0")) := (tmS _ (by decide +kernel))
          refine ⟨u121, z123, us1, [.str (Str.ofString "0")], rfl, rfl, hS1, hS_, sz_le (by rw [hl1]; simp <;> omega), fun u125 F126 s_ h_ => ?_⟩
          have st := (st.same s_).add (d := .tuple ((cutD (row.map .int) Option.none (some (-1))) ++ [.str (Str.ofString "0")])) (Da.tup h_ ((hA1.same s_).append (.cons (.str _) .nil))) ((tR.cut _ _).le (by decide : 1 ≤ 3) |>.snoc (by omega) (tm_.le (by decide)))
          have sH := sH.trans s_
          have hL := hL.same s_
          clear s_ h_
          clear hS1 hA1 hS_ hl1 tm_
          have st := st.setX (.cons st.X.hd (.cons st.X.tl.hd (.cons st.X.tl.tl.hd (.cons st.X.tl.tl.tl.hd .nil))))
          obtain ⟨_, us, e_, hSb, hAb⟩ := st.X.tl.tl.tl.hd.isTup
          cases e_
          have hlb : us.length = k := by rw [hAb.length, lR]
          refine ⟨_, rfl, 1, rfl, -1, rfl, b, us, rfl, hSb, fun u127 F128 s_ h_ => ?_⟩
          have st := (st.same s_).addX (d := .tuple (cutD (row.map .int) Option.none (some (-1)))) (Da.tup h_ ((hAb.same s_).cut _ _))
          have sH := sH.trans s_
          have hL := hL.same s_
          clear s_ h_
          clear hSb hAb hlb
          refine ⟨_, rfl, p, 1, rfl, rfl, sz_le (by simp), fun z129 nz129 => ?_⟩
          have hS_ : SqT K (upd F128 z129 (.tup [.int (p - 1)])) z129 [.int (p - 1)] := .inl (.inl upd_same)
          have st := st.same (same_upd (o := .tup [.int (p - 1)]) nz129)
          have s_ := same_upd (o := .tup [.int (p - 1)]) nz129
          have sH := sH.trans s_
          have hL := hL.same s_
          clear s_
          generalize upd F128 z129 (.tup [.int (p - 1)]) = F130 at st hS_ sH hL ⊢
          obtain ⟨_, us1, e_, hS1, hA1⟩ := st.X.tl.tl.tl.tl.hd.isTup
          cases e_
          have hl1 := hA1.length
          have tm_ : Tm 1 (.int (p - 1)) := (tmI _ (by omega))
          refine ⟨u127, z129, us1, [.int (p - 1)], rfl, rfl, hS1, hS_, sz_le (by rw [hl1]; simp <;> omega), fun u131 F132 s_ h_ => ?_⟩
          have st := (st.same s_).add (d := .tuple ((cutD (row.map .int) Option.none (some (-1))) ++ [.int (p - 1)])) (Da.tup h_ ((hA1.same s_).append (.cons (.int _) .nil))) ((tR.cut _ _).le (by decide : 1 ≤ 3) |>.snoc (by omega) (tm_.le (by decide)))
          have sH := sH.trans s_
          have hL := hL.same s_
          clear s_ h_
          clear hS1 hA1 hS_ hl1 tm_
          have st := st.setX (.cons st.X.hd (.cons st.X.tl.hd (.cons st.X.tl.tl.hd (.cons st.X.tl.tl.tl.hd .nil))))
          obtain ⟨_, us, e_, hSb, hAb⟩ := st.X.tl.tl.tl.hd.isTup
          cases e_
          have hlb : us.length = k := by rw [hAb.length, lR]
          refine ⟨_, rfl, 1, rfl, -1, rfl, b, us, rfl, hSb, fun u133 F134 s_ h_ => ?_⟩
          have st := (st.same s_).addX (d := .tuple (cutD (row.map .int) Option.none (some (-1)))) (Da.tup h_ ((hAb.same s_).cut _ _))
          have sH := sH.trans s_
          have hL := hL.same s_
          clear s_ h_
          clear hSb hAb hlb
          refine ⟨_, rfl, 10, 20, rfl, rfl, ⟨by decide, by decide, by decide⟩, p, _, rfl, rfl, sz_le (by simp), fun z135 nz135 => ?_⟩
          have hS_ : SqT K (upd F134 z135 (.tup [.int (p + 10 ^ (20 : Int).toNat)])) z135 [.int (p + 10 ^ (20 : Int).toNat)] := .inl (.inl upd_same)
          have st := st.same (same_upd (o := .tup [.int (p + 10 ^ (20 : Int).toNat)]) nz135)
          have s_ := same_upd (o := .tup [.int (p + 10 ^ (20 : Int).toNat)]) nz135
          have sH := sH.trans s_
          have hL := hL.same s_
          clear s_
          generalize upd F134 z135 (.tup [.int (p + 10 ^ (20 : Int).toNat)]) = F136 at st hS_ sH hL ⊢
          obtain ⟨_, us1, e_, hS1, hA1⟩ := st.X.tl.tl.tl.tl.hd.isTup
          cases e_
          have hl1 := hA1.length
          have tm_ : Tm 1 (.int (p + 10 ^ (20 : Int).toNat)) := (tm20 _ hp2 hp97)
          refine ⟨u133, z135, us1, [.int (p + 10 ^ (20 : Int).toNat)], rfl, rfl, hS1, hS_, sz_le (by rw [hl1]; simp <;> omega), fun u137 F138 s_ h_ => ?_⟩
          have st := (st.same s_).add (d := .tuple ((cutD (row.map .int) Option.none (some (-1))) ++ [.int (p + 10 ^ (20 : Int).toNat)])) (Da.tup h_ ((hA1.same s_).append (.cons (.int _) .nil))) ((tR.cut _ _).le (by decide : 1 ≤ 3) |>.snoc (by omega) (tm_.le (by decide)))
          have sH := sH.trans s_
          have hL := hL.same s_
          clear s_ h_
          clear hS1 hA1 hS_ hl1 tm_
          have st := st.setX (.cons st.X.hd (.cons st.X.tl.hd (.cons st.X.tl.tl.hd (.cons st.X.tl.tl.tl.hd .nil))))
          obtain ⟨_, us, e_, hSb, hAb⟩ := st.X.tl.tl.tl.hd.isTup
          cases e_
          have hlb : us.length = k := by rw [hAb.length, lR]
          refine ⟨_, rfl, 1, rfl, -1, rfl, b, us, rfl, hSb, fun u139 F140 s_ h_ => ?_⟩
          have st := (st.same s_).addX (d := .tuple (cutD (row.map .int) Option.none (some (-1)))) (Da.tup h_ ((hAb.same s_).cut _ _))
          have sH := sH.trans s_
          have hL := hL.same s_
          clear s_ h_
          clear hSb hAb hlb
          refine ⟨sz_le (by simp), fun z141 nz141 => ?_⟩
          have hS_ : SqT K (upd F140 z141 (.tup [.non])) z141 [.non] := .inl (.inl upd_same)
          have st := st.same (same_upd (o := .tup [.non]) nz141)
          have s_ := same_upd (o := .tup [.non]) nz141
          have sH := sH.trans s_
          have hL := hL.same s_
          clear s_
          generalize upd F140 z141 (.tup [.non]) = F142 at st hS_ sH hL ⊢
          obtain ⟨_, us1, e_, hS1, hA1⟩ := st.X.tl.tl.tl.tl.hd.isTup
          cases e_
          have hl1 := hA1.length
          have tm_ : Tm 1 (.none) := (tmN _)
          refine ⟨u139, z141, us1, [.non], rfl, rfl, hS1, hS_, sz_le (by rw [hl1]; simp <;> omega), fun u143 F144 s_ h_ => ?_⟩
          have st := (st.same s_).add (d := .tuple ((cutD (row.map .int) Option.none (some (-1))) ++ [.none])) (Da.tup h_ ((hA1.same s_).append (.cons .non .nil))) ((tR.cut _ _).le (by decide : 1 ≤ 3) |>.snoc (by omega) (tm_.le (by decide)))
          have sH := sH.trans s_
          have hL := hL.same s_
          clear s_ h_
          clear hS1 hA1 hS_ hl1 tm_
          have st := st.setX (.cons st.X.hd (.cons st.X.tl.hd (.cons st.X.tl.tl.hd (.cons st.X.tl.tl.tl.hd .nil))))
          refine ⟨sz_le (by simp), fun L145 nL145 => ?_⟩
          have aL145 : (upd F144 L145 (.lst [.ref u125, .ref u131, .ref u137, .ref u143])) L145 = some (.lst [.ref u125, .ref u131, .ref u137, .ref u143]) := upd_same
          have st := st.same (same_upd (o := .lst [.ref u125, .ref u131, .ref u137, .ref u143]) nL145)
          have s_ := same_upd (o := .lst [.ref u125, .ref u131, .ref u137, .ref u143]) nL145
          have sH := sH.trans s_
          have hL := hL.same s_
          clear s_
          generalize upd F144 L145 (.lst [.ref u125, .ref u131, .ref u137, .ref u143]) = F146 at st aL145 sH hL ⊢
          refine ⟨O, L145, _, [.ref u125, .ref u131, .ref u137, .ref u143], rfl, rfl, hL.at_, aL145, sz_le (by simp <;> omega), fun S147 nS147 => ?_⟩
          have hL : Ls 3 K (upd F146 S147 (.lst (vs ++ [.ref u125, .ref u131, .ref u137, .ref u143]))) pen S147 (vs ++ [.ref u125, .ref u131, .ref u137, .ref u143]) _ := st.glue hL nS147
          have s_ := same_upd (o := .lst (vs ++ [.ref u125, .ref u131, .ref u137, .ref u143])) nS147
          have st := st.nix.same s_
          have sH := sH.trans s_
          clear s_
          generalize upd F146 S147 (.lst (vs ++ [.ref u125, .ref u131, .ref u137, .ref u143])) = F150 at st hL sH ⊢
          obtain ⟨vs151, ds_, hL, hl_, h0_⟩ : ∃ vs ds, Ls 3 K F150 pen S147 vs ds ∧ vs.length ≤ 16 ∧ 0 < vs.length := ⟨_, _, hL, by simp <;> omega, by simp⟩
          have lp := cutD_pre (rows.map rowD) a0
          have ls_ := cutD_suf (rows.map rowD) (i := at_ + 1) (by omega)
          have lr2 : (rows.map rowD).length = r := lr
          obtain ⟨_, ys, e_, hSn, hAn⟩ := st.X.tl.tl.hd.isTup
          cases e_
          refine ⟨_, rfl, _, rfl, _, rfl, _, rfl, at_, rfl, an, ys, rfl, hSn, fun u152 F153 s_ h_ => ?_⟩
          have st := (st.same s_).addX (d := .tuple (cutD (rows.map rowD) Option.none (some at_))) (Da.tup h_ ((hAn.same s_).cut _ _))
          have sH := sH.trans s_
          have hL := hL.same s_
          clear s_ h_
          clear hSn hAn
          have oH := oH.trans (Oth.of_same sH)
          clear sH
          refine ⟨_, rfl, _, rfl, pen, c, S147, _, _, rfl, st.P, by omega, hL.ne, .inl (.inl hL.at_), h0_, by omega, fun x hx G1 o4 P4 => ?_⟩
          obtain ⟨dx, hdx, tdx⟩ := (hL.oth st.P o4).pick hx
          have hL := hL.oth st.P o4
          have oH := oH.trans o4
          have st := st.oth o4 P4
          have sH := Same.refl G1
          refine ⟨sz_le (by simp), fun z154 nz154 => ?_⟩
          have hS_ : SqT K (upd G1 z154 (.tup [x])) z154 [x] := .inl (.inl upd_same)
          have hdx := hdx.same (same_upd (o := .tup [x]) nz154)
          have st := st.same (same_upd (o := .tup [x]) nz154)
          have s_ := same_upd (o := .tup [x]) nz154
          have sH := sH.trans s_
          have hL := hL.same s_
          clear s_
          generalize upd G1 z154 (.tup [x]) = F155 at st hS_ hdx sH hL ⊢
          obtain ⟨_, us1, e_, hS1, hA1⟩ := st.X.tl.tl.tl.tl.hd.isTup
          cases e_
          have hl1 := hA1.length
          refine ⟨u152, z154, us1, [x], rfl, rfl, hS1, hS_, sz_le (by rw [hl1]; simp <;> omega), fun u156 F157 s_ h_ => ?_⟩
          have st := (st.same s_).addX (d := .tuple ((cutD (rows.map rowD) Option.none (some at_)) ++ [dx])) (Da.tup h_ ((hA1.same s_).append (.cons (hdx.same s_) .nil)))
          have sH := sH.trans s_
          have hL := hL.same s_
          clear s_ h_
          clear hS1 hA1 hS_ hdx hl1
          obtain ⟨_, ys, e_, hSn, hAn⟩ := st.X.tl.tl.hd.isTup
          cases e_
          refine ⟨_, rfl, _, rfl, at_, 1, rfl, rfl, at_ + 1, rfl, an, ys, rfl, hSn, fun u158 F159 s_ h_ => ?_⟩
          have st := (st.same s_).addX (d := .tuple (cutD (rows.map rowD) (some (at_ + 1)) Option.none)) (Da.tup h_ ((hAn.same s_).cut _ _))
          have sH := sH.trans s_
          have hL := hL.same s_
          clear s_ h_
          clear hSn hAn
          obtain ⟨_, us2, e_, hS2, hA2⟩ := st.X.tl.tl.tl.tl.tl.hd.isTup
          cases e_
          have hl2 := hA2.length
          obtain ⟨_, us3, e_, hS3, hA3⟩ := st.X.tl.tl.tl.tl.tl.tl.hd.isTup
          cases e_
          have hl3 := hA3.length
          refine ⟨u156, u158, us2, us3, rfl, rfl, hS2, hS3, sz_le (by rw [hl2, hl3]; simp <;> omega), fun u160 F161 s_ h_ => ?_⟩
          have st := (st.same s_).addX (d := .tuple ((cutD (rows.map rowD) Option.none (some at_)) ++ [dx] ++ (cutD (rows.map rowD) (some (at_ + 1)) Option.none))) (Da.tup h_ ((hA2.append hA3).same s_))
          have sH := sH.trans s_
          have hL := hL.same s_
          clear s_ h_
          have tX : Tm 4 (.tuple ((cutD (rows.map rowD) Option.none (some at_)) ++ [dx] ++ (cutD (rows.map rowD) (some (at_ + 1)) Option.none))) := Tm.mid (k := 3) (fun d hd => (tN.2 d (cutD_mem hd)).le (by decide)) tdx (fun d hd => (tN.2 d (cutD_mem hd)).le (by decide)) (by omega)
          have x7 := st.X.tl.tl.tl.tl.tl.tl.tl.hd
          refine ⟨sz_le (by simp), fun A_ nA => ?_⟩
          have s_ := same_upd (o := .tup [.int r, .int k, .ref u160]) nA
          exact q _ (.tuple [.int r, .int k, .tuple ((cutD (rows.map rowD) Option.none (some at_)) ++ [dx] ++ (cutD (rows.map rowD) (some (at_ + 1)) Option.none))]) _ (tmT (by simp) (all3 (ir _) (ik _) tX)) (Da.newT (.cons (.int _) (.cons (.int _) (.cons x7 .nil))) nA) ((oH.trans (Oth.of_same sH)).trans (Oth.of_same s_)) ((st.P.same s_).mono (by omega))
  exact has_of F G T.g__law_bent (fun _ _ _ _ _ _ us hl => match us, hl with | [_, _, _], _ => rfl)
end
end K02

set_option Elab.async false
set_option linter.all false
set_option maxRecDepth 100000
set_option maxHeartbeats 8000000
namespace K02
open PySem PySem.Spec PyProof.Rows L2 XA

/-- what is refused: way 0: no prime; way 1: no size; way 2: one of two is no size -/
def refu (way : Int) (d e : PyData) : Prop := (way = 0 ∧ primeD d = false) ∨ (way = 1 ∧ wholeTo d 2000 = false) ∨ (way = 2 ∧ (wholeTo d 2000 = false ∨ wholeTo e 2000 = false))
def sp__law_refused (K : PySem.W.Frag) : Sp := fun vs H Q _ => ∃ (way : Int) (x y : V) (d e : PyData) (av : Addr), vs = [.int way, x, y] ∧ Da K H av x d ∧ Da K H av y e ∧ refu way d e ∧
  ∀ F l, Same H F → F l = none → Q (.ref l) (upd F l (.lst [.bl (decide (way = 0)), .bl (decide (way ≠ 0)), .bl false]))
section
variable {P : Program} {w : World} {K : PySem.W.Frag} {mg : Str → Option Value} {base : Heap}
theorem ok__law_refused (T : Txt K mg) {fd : FuncData} (F : FnP K "_law_refused" s__law_refused fd)
    (H_is_matrix : HasK P w K mg base (L2.CX P w) 5 "is_matrix" P_is_matrix 1 ["prime"] (sp_is_matrix K))
    (H_ones : Has P w K mg base (L2.CX P w) 4 "ones" P_ones (sp_ones K))
    (H_noughts : Has P w K mg base (L2.CX P w) 4 "noughts" P_noughts (sp_noughts K)) :
    Has P w K mg base CX0 6 "_law_refused" P__law_refused (sp__law_refused K) := by
  have G : FnOk P w K mg base CX0 6 (He.ga K "_law_refused") fd P__law_refused (sp__law_refused K) := by
    refine F.ok (k := 5) sc__law_refused (fun vs H Q E h => ?_) (fun cdv A outer s H vs Q E hr h => ?_)
    · obtain ⟨way, x, y, d, e, av, rfl, hx, hy, hr_, q⟩ := h
      rfl
    · obtain ⟨way, x, y, d, e, av, rfl, hx, hy, hr_, q⟩ := h
      refine ⟨_, (PSs.nox (pss_cons (ps_set (i := 3) sc__law_refused.nd rfl (by first | exact Or.inl rfl | exact Or.inr rfl) pe_non)
  (C8.pss_cut (ps_try_asK (i := 4) (c := .ref (He.ga K "RoomError")) rfl rfl rfl sc__law_refused.nd rfl rfl ⟨rfl, by decide, Or.inl T.g_RoomError⟩ takes0
  (fun W pn xe tk _ => (pss_one (ps_if (pt_cmpR op_eq (pv 0) pe_int (nomark _))
   (pss_one (ps_expr (pe_hasKS H_is_matrix (hr.mono (by decide)) (fun σ => passAt tk σ) (pa_cons (pv 2) pa_nil) (pk_cons (pv 1) pk_nil)))) (pss_one (ps_if (pt_cmpR op_eq (pv 0) pe_int (nomark _))
   (pss_one (ps_expr (pe_hasS H_ones (hr.mono (by decide)) (fun σ => passAt tk σ) (pa_cons (pv 1) pa_nil)))) (pss_one (ps_expr (pe_hasS H_noughts (hr.mono (by decide)) (fun σ => passAt tk σ) (pa_cons (pv 1) (pa_cons (pv 2) pa_nil))))))))))
  (fun a oe cls d pn hz hf => (pss_one (ps_set (i := 3) sc__law_refused.nd rfl (by first | exact Or.inl rfl | exact Or.inr rfl) (pv 4)))))
  (pss_one (ps_ret (pe_lst (pa_cons (pe_callB (id := "isinstance") call_isZ (by rfl) T.f_isinstance (by decide +kernel) (pa_cons (pv 3) (pa_cons (pe_glob (v := .ref (He.ga K "NoPrime")) (by rfl) T.g_NoPrime rfl) pa_nil))) (pa_cons (pe_callB (id := "isinstance") call_isZ (by rfl) T.f_isinstance (by decide +kernel) (pa_cons (pv 3) (pa_cons (pe_glob (v := .ref (He.ga K "NoFit")) (by rfl) T.g_NoFit rfl) pa_nil))) (pa_cons (pe_callB (id := "isinstance") call_isZ (by rfl) T.f_isinstance (by decide +kernel) (pa_cons (pv 3) (pa_cons (pe_glob (v := .ref (He.ga K "NoMatrix")) (by rfl) T.g_NoMatrix rfl) pa_nil))) pa_nil))))))))), ?_⟩
      have wn : ∀ {z : PyData} {m : Nat}, wholeTo z 2000 = false → z = .int m → m ≤ 2000 → False := by
        rintro z m h rfl hm
        have h' : decide (0 ≤ (m : Int) ∧ (m : Int) ≤ 2000) = false := h
        rw [decide_eq_true (by omega)] at h'
        cases h'
      refine ⟨fun σ F => Same H F ∧ ∃ (cv : V) (ev : Option V), σ = [some (.int way), some x, some y, some cv, ev] ∧ ((way = 0 ∧ isExc K F cv "NoPrime") ∨ (way ≠ 0 ∧ isExc K F cv "NoFit")), ?_, ?_⟩
      · refine ⟨_, rfl, rfl, _, rfl, ?_⟩
        refine ite2 (fun c1 => ?_) (fun c1 => ?_)
        · have c1' : way = 0 := by
            have z := of_decide_eq_true c1
            injection z
          subst c1'
          have hd : primeD d = false := by
            rcases hr_ with h | h | h
            · exact h.2
            · exact absurd h.1 (by decide)
            · exact absurd h.1 (by decide)
          refine ⟨_, rfl, _, rfl, rfl, rfl, y, e, x, d, av, rfl, hy, hx, fun H1 s1 => ⟨fun c => ?_, fun p e' hp => ?_⟩⟩
          · refine ⟨true, T.exm "NoPrime" (by decide), fun z => (nomatch z), fun _ a ha => ?_⟩
            exact ⟨_, rfl, s1.trans (same_upd ha), .ref a, _, rfl, .inl ⟨rfl, a, rfl, upd_same⟩⟩
          · subst e'
            exact absurd (show primeN p = false from hd) (by rw [hp]; decide)
        · have c1' : way ≠ 0 := fun z => c1 (decide_eq_true (by rw [z]))
          refine ⟨_, rfl, rfl, _, rfl, ?_⟩
          refine ite2 (fun c2 => ?_) (fun c2 => ?_)
          · have c2' : way = 1 := by
              have z := of_decide_eq_true c2
              injection z
            have hd : wholeTo d 2000 = false := by
              rcases hr_ with h | h | h
              · exact absurd h.1 c1'
              · exact h.2
              · exact absurd h.1 (by omega)
            refine ⟨_, rfl, x, d, av, rfl, hx, fun c => ?_, fun m em hm => (wn hd em hm).elim⟩
            refine ⟨true, T.exm "NoFit" (by decide), fun z => (nomatch z), fun _ a ha => ?_⟩
            exact ⟨_, rfl, same_upd ha, .ref a, _, rfl, .inr ⟨c1', a, rfl, upd_same⟩⟩
          · have c2' : way ≠ 1 := fun z => c2 (decide_eq_true (by rw [z]))
            have hd : wholeTo d 2000 = false ∨ wholeTo e 2000 = false := by
              rcases hr_ with h | h | h
              · exact absurd h.1 c1'
              · exact absurd h.1 c2'
              · exact h.2
            refine ⟨_, rfl, _, rfl, x, d, y, e, av, rfl, hx, hy, fun c => ?_, fun _ c => ?_, fun r k er ek h1 h2 => (hd.elim (fun h => wn h er h1) (fun h => wn h ek h2)).elim⟩
            · refine ⟨true, T.exm "NoFit" (by decide), fun z => (nomatch z), fun _ a ha => ?_⟩
              exact ⟨_, rfl, same_upd ha, .ref a, _, rfl, .inr ⟨c1', a, rfl, upd_same⟩⟩
            · refine ⟨true, T.exm "NoFit" (by decide), fun z => (nomatch z), fun _ a ha => ?_⟩
              exact ⟨_, rfl, same_upd ha, .ref a, _, rfl, .inr ⟨c1', a, rfl, upd_same⟩⟩
      · rintro σ F ⟨sF, cv, ev, rfl, ⟨h0, he⟩ | ⟨h0, he⟩⟩
        · refine ⟨_, rfl, ?_⟩
          walk_at "rd"
          refine isz_exc T.e_NoPrime he (Same.refl F) ((T.kit "NoPrime" (by decide) "NoPrime" (by decide)).trans (by decide +kernel : _ = some true)) ⟨_, rfl, ?_⟩
          refine isz_exc T.e_NoPrime he (Same.refl F) ((T.kit "NoPrime" (by decide) "NoFit" (by decide)).trans (by decide +kernel : _ = some false)) ⟨_, rfl, ?_⟩
          refine isz_exc T.e_NoPrime he (Same.refl F) ((T.kit "NoPrime" (by decide) "NoMatrix" (by decide)).trans (by decide +kernel : _ = some false)) ⟨by show 3 ≤ sizeLine; decide, fun l nl => ?_⟩
          have z := q F l sF nl
          rw [decide_eq_true h0, decide_eq_false (show ¬ way ≠ 0 from fun w => w h0)] at z
          exact z
        · refine ⟨_, rfl, ?_⟩
          walk_at "rd"
          refine isz_exc T.e_NoFit he (Same.refl F) ((T.kit "NoFit" (by decide) "NoPrime" (by decide)).trans (by decide +kernel : _ = some false)) ⟨_, rfl, ?_⟩
          refine isz_exc T.e_NoFit he (Same.refl F) ((T.kit "NoFit" (by decide) "NoFit" (by decide)).trans (by decide +kernel : _ = some true)) ⟨_, rfl, ?_⟩
          refine isz_exc T.e_NoFit he (Same.refl F) ((T.kit "NoFit" (by decide) "NoMatrix" (by decide)).trans (by decide +kernel : _ = some false)) ⟨by show 3 ≤ sizeLine; decide, fun l nl => ?_⟩
          have z := q F l sF nl
          rw [decide_eq_false h0, decide_eq_true h0] at z
          exact z
  exact has_of F G T.g__law_refused (fun _ _ _ _ _ _ us hl => match us, hl with | [_, _, _], _ => rfl)
end
end K02

set_option Elab.async false
set_option linter.all false
set_option maxRecDepth 100000
set_option maxHeartbeats 8000000
namespace K02
open PySem PySem.Spec PyProof.Rows L2 XA

def sp_law (K : PySem.W.Frag) : Sp := fun vs H Q _ => ∃ (a : Addr) (ns : List Int), vs = [.ref a] ∧ SqL K H a (ns.map V.int) ∧ ns.length ≤ 63 ∧ ∀ H', Q (.bl true) H'

theorem word_is {x y : Str} {A B : Prop} (e : x = y) (h : B) : if (!decide (V.str x = V.str y)) = true then A else B := by
  subst e
  rw [decide_eq_true rfl]
  exact iteF h
theorem matOk {r k : Nat} {rows : List (List Int)} {p : Int} (hl : rows.length = r) (hg : Good rows k p) (hr : r ≤ 2000) (hk : k ≤ 2000) : isMatD (matD r k rows) p = true := by
  show isMatD (.tuple [.int r, .int k, .tuple (rows.map rowD)]) p = true
  rw [isMatD_in ⟨by omega, by omega⟩ ⟨by omega, by omega⟩, Bool.and_eq_true]
  refine ⟨decide_eq_true (by rw [List.length_map, hl]), ?_⟩
  rw [List.all_eq_true]
  intro d hd
  obtain ⟨row, hm, rfl⟩ := List.mem_map.mp hd
  obtain ⟨g0, g1⟩ := hg row hm
  show (decide (((row.map PyData.int).length : Int) = k) && (row.map PyData.int).all (fun x => wholeTo x (p - 1))) = true
  rw [Bool.and_eq_true]
  refine ⟨decide_eq_true (by rw [List.length_map, g0]), ?_⟩
  rw [List.all_eq_true]
  intro x hx
  obtain ⟨z, hz, rfl⟩ := List.mem_map.mp hx
  obtain ⟨z0, z1⟩ := g1 z hz
  exact decide_eq_true ⟨z0, by omega⟩
theorem good_noughts (r k : Nat) {p : Int} (hp : 2 ≤ p) : Good (noughtsR r k) k p := by
  intro row hr
  rw [List.eq_of_mem_replicate hr, List.length_replicate]
  refine ⟨rfl, fun x hx => ?_⟩
  rw [List.eq_of_mem_replicate hx]
  exact ⟨by decide, by omega⟩
theorem good_ones (m : Nat) {p : Int} (hp : 2 ≤ p) : Good (onesR m) m p := by
  intro row hr
  obtain ⟨i, _, rfl⟩ := List.mem_map.mp hr
  refine ⟨by rw [List.length_map, List.length_range], fun x hx => ?_⟩
  obtain ⟨j, _, rfl⟩ := List.mem_map.mp hx
  by_cases e : j = i
  · rw [if_pos e]
    exact ⟨by decide, by omega⟩
  · rw [if_neg e]
    exact ⟨by decide, by omega⟩
theorem tm_mat {r k : Nat} {rows : List (List Int)} {p : Int} (hl : rows.length = r) (hg : Good rows k p) (hr : r ≤ 8) (hk : k ≤ 8) (hp : p ≤ 97) : Tm 5 (matD r k rows) := by
  have t : Tm 2 (.tuple (rows.map rowD)) := tmT (by rw [List.length_map]; omega) (by
    intro d hd
    obtain ⟨row, hr', rfl⟩ := List.mem_map.mp hd
    obtain ⟨g1, g2⟩ := hg row hr'
    exact tm_row (by omega) hp g2)
  exact tmT (by simp) (all3 (tmI _ (by omega)) (tmI _ (by omega)) (t.le (by decide)))
theorem pickD {K : PySem.W.Frag} {H : Hp} {av : Addr} : ∀ {vs : List V} {ds : List PyData}, DaAll K H av vs ds → ∀ x ∈ vs, ∃ d ∈ ds, Da K H av x d
  | _, _, .nil, x, hx => by cases hx
  | _, _, .cons a b, x, hx => by
    rcases List.mem_cons.mp hx with e | hx
    · rw [e]
      exact ⟨_, List.mem_cons_self, a⟩
    · obtain ⟨d, h1, h2⟩ := pickD b x hx
      exact ⟨d, List.mem_cons_of_mem _ h1, h2⟩
section
variable {P : Program} {w : World} {K : PySem.W.Frag} {mg : Str → Option Value} {base : Heap}
theorem okF_law (T : Txt K mg) {fd : FuncData} (F : FnP K "law" s_law fd)
    (H_is_matrix : HasK P w K mg base (L2.CX P w) 5 "is_matrix" P_is_matrix 1 ["prime"] (sp_is_matrix K))
    (H_ones : Has P w K mg base (L2.CX P w) 4 "ones" P_ones (sp_ones K))
    (H_noughts : Has P w K mg base (L2.CX P w) 4 "noughts" P_noughts (sp_noughts K))
    (H__law_open : Has P w K mg base CX0 1 "_law_open" P__law_open (sp__law_open K))
    (H__law_anew : Has P w K mg base CX0 1 "_law_anew" P__law_anew sp__law_anew)
    (H__law_take : Has P w K mg base CX0 2 "_law_take" P__law_take sp__law_take)
    (H__law_one : Has P w K mg base CX0 3 "_law_one" P__law_one (sp__law_one K))
    (H__law_prime : Has P w K mg base CX0 4 "_law_prime" P__law_prime (sp__law_prime K))
    (H__law_matrix : Has P w K mg base CX0 3 "_law_matrix" P__law_matrix (sp__law_matrix K))
    (H__law_is_matrix : Has P w K mg base CX0 1 "_law_is_matrix" P__law_is_matrix (sp__law_is_matrix K))
    (H__law_bent : Has P w K mg base CX0 4 "_law_bent" P__law_bent (sp__law_bent K))
    (H__law_refused : Has P w K mg base CX0 6 "_law_refused" P__law_refused (sp__law_refused K)) :
    FnAt P w K mg base CX0 callerA (He.ga K "law") fd P_law (sp_law K) := by
  refine fnAt_of (k := 6) F sc_law (fun vs H Q E h => ?_) ⟨rfl, by decide, by decide⟩ (fun cdv outer s H vs Q E hr h => ?_)
  · obtain ⟨a, ns, rfl, hS, hlen, q⟩ := h
    rfl
  · obtain ⟨a, ns, rfl, hS, hlen, q⟩ := h
    refine ⟨_, (PSs.nox (pss_cons (ps_set (i := 1) sc_law.nd rfl (by first | exact Or.inl rfl | exact Or.inr rfl) (pe_has H__law_open (hr.mono (by decide)) pass0 (pa_cons (pv 0) pa_nil)))
  (pss_cons (ps_for PassesOwn.never rfl (pi_range1 (by rfl) T.f_range (pa_cons pe_int pa_nil)) (pg_name (i := 2) sc_law.nd rfl (by first | exact Or.inl rfl | exact Or.inr rfl))
   (pss_cons (ps_set (i := 3) sc_law.nd rfl (by first | exact Or.inl rfl | exact Or.inr rfl) (pe_has H__law_prime (hr.mono (by decide)) pass0 (pa_cons (pe_has H__law_anew (hr.mono (by decide)) pass0 (pa_cons (pv 1) pa_nil)) pa_nil)))
  (pss_cons (ps_set (i := 4) sc_law.nd rfl (by first | exact Or.inl rfl | exact Or.inr rfl) (pe_has H__law_matrix (hr.mono (by decide)) pass0 (pa_cons (pv 1) (pa_cons (pe_has H__law_take (hr.mono (by decide)) pass0 (pa_cons (pv 1) (pa_cons pe_int pa_nil))) (pa_cons (pe_has H__law_take (hr.mono (by decide)) pass0 (pa_cons (pv 1) (pa_cons pe_int pa_nil))) (pa_cons (pv 3) pa_nil))))))
  (pss_cons (ps_if (pt_cmpR op_notBl (pe_hasK H_is_matrix (hr.mono (by decide)) passL (pa_cons (pv 4) pa_nil) (pk_cons (pv 3) pk_nil)) pe_bl (nomark _))
   (pss_one (ps_ret pe_bl)) pss_nil)
  (pss_cons (ps_for PassesOwn.never rfl (pi_range1 (by rfl) T.f_range (pa_cons pe_int pa_nil)) (pg_name (i := 5) sc_law.nd rfl (by first | exact Or.inl rfl | exact Or.inr rfl))
   (pss_cons (ps_set (i := 6) sc_law.nd rfl (by first | exact Or.inl rfl | exact Or.inr rfl) (pe_has H__law_bent (hr.mono (by decide)) pass0 (pa_cons (pv 1) (pa_cons (pv 4) (pa_cons (pv 3) pa_nil)))))
  (pss_cons (ps_set (i := 7) sc_law.nd rfl (by first | exact Or.inl rfl | exact Or.inr rfl) (pe_callB (id := "repr") (call_reprD rfl (by show (callerA.deeper _).units + 150 < cLine; have := hr.un; omega)) (by rfl) T.f_repr (by decide +kernel) (pa_cons (pv 6) pa_nil)))
  (pss_one (ps_if (PW.pt (pw_or (pt_cmpR op_ne (pe_callB (id := "repr") (call_reprD rfl (by show (callerA.deeper _).units + 150 < cLine; have := hr.un; omega)) (by rfl) T.f_repr (by decide +kernel) (pa_cons (pe_hasK H_is_matrix (hr.mono (by decide)) passL (pa_cons (pv 6) pa_nil) (pk_cons (pv 3) pk_nil)) pa_nil)) (pe_callB (id := "repr") (call_reprD rfl (by show (callerA.deeper _).units + 150 < cLine; have := hr.un; omega)) (by rfl) T.f_repr (by decide +kernel) (pa_cons (pe_has H__law_is_matrix (hr.mono (by decide)) pass0 (pa_cons (pv 6) (pa_cons (pv 3) pa_nil))) pa_nil)) (nomark _)) (pw_or1 (pt_cmpR op_ne (pe_callB (id := "repr") (call_reprD rfl (by show (callerA.deeper _).units + 150 < cLine; have := hr.un; omega)) (by rfl) T.f_repr (by decide +kernel) (pa_cons (pv 6) pa_nil)) (pv 7) (nomark _)))))
   (pss_one (ps_ret pe_bl)) pss_nil)))))
  (pss_cons (ps_set (i := 8) sc_law.nd rfl (by first | exact Or.inl rfl | exact Or.inr rfl) (pe_has H__law_one (hr.mono (by decide)) pass0 (pa_cons (pv 1) (pa_cons (pe_lst (pa_cons pe_int (pa_cons pe_int (pa_cons pe_int (pa_cons pe_int (pa_cons pe_int (pa_cons pe_non (pa_cons pe_bl (pa_cons pe_str (pa_cons (pe_lst (pa_cons pe_int pa_nil)) (pa_cons (pe_op op_sub pe_int pe_int) pa_nil))))))))))) pa_nil))))
  (pss_cons (ps_for PassesOwn.never rfl (pi_list (pe_lst (pa_cons (pv 4) (pa_cons (pe_has H__law_bent (hr.mono (by decide)) pass0 (pa_cons (pv 1) (pa_cons (pv 4) (pa_cons (pv 3) pa_nil)))) pa_nil)))) (pg_name (i := 6) sc_law.nd rfl (by first | exact Or.inl rfl | exact Or.inr rfl))
   (pss_one (ps_if (pt_cmpR (op_neD hr.units) (pe_has H__law_refused (hr.mono (by decide)) pass0 (pa_cons pe_int (pa_cons (pv 8) (pa_cons (pv 6) pa_nil)))) (pe_lst (pa_cons pe_bl (pa_cons pe_bl (pa_cons pe_bl pa_nil)))) (nomark _))
   (pss_one (ps_ret pe_bl)) pss_nil)))
  (pss_cons (ps_asg (pe_tup (pa_cons (pe_has H__law_take (hr.mono (by decide)) pass0 (pa_cons (pv 1) (pa_cons pe_int pa_nil))) (pa_cons (pe_has H__law_take (hr.mono (by decide)) pass0 (pa_cons (pv 1) (pa_cons pe_int pa_nil))) pa_nil))) (pg_tup rfl (pgs_cons (pg_name (i := 9) sc_law.nd rfl (by first | exact Or.inl rfl | exact Or.inr rfl)) (pgs_cons (pg_name (i := 10) sc_law.nd rfl (by first | exact Or.inl rfl | exact Or.inr rfl)) pgs_nil))))
  (pss_cons (ps_set (i := 11) sc_law.nd rfl (by first | exact Or.inl rfl | exact Or.inr rfl) (pe_tup (pa_cons (pv 9) (pa_cons (pv 10) (pa_cons (pe_callTy (T := "tuple") call_tuple_of (by rfl) T.f_tuple (by decide +kernel) (pa_cons (pe_lc (own := [("k", 5)]) rfl sc_law.nd (pi_range1 (by rfl) T.f_range (pa_cons (pv 9) pa_nil)) (blkOk_by (N := N_law) (sc := defScope s_law) (by decide +kernel)) (fun _ _ _ _ _ => pg_name (i := 5) (sc_law.nd) rfl (by first | exact Or.inl rfl | exact Or.inr rfl)) (fun _ _ _ _ _ => pts_nil) (fun _ _ _ _ _ => (pe_op (op_repDK K) (pe_tup (pa_cons pe_int pa_nil)) (pv 10)))) pa_nil)) pa_nil)))))
  (pss_cons (ps_if (pt_cmpR op_ne (pe_callB (id := "repr") (call_reprD rfl (by show (callerA.deeper _).units + 150 < cLine; have := hr.un; omega)) (by rfl) T.f_repr (by decide +kernel) (pa_cons (pe_has H_noughts (hr.mono (by decide)) passL (pa_cons (pv 9) (pa_cons (pv 10) pa_nil))) pa_nil)) (pe_callB (id := "repr") (call_reprD rfl (by show (callerA.deeper _).units + 150 < cLine; have := hr.un; omega)) (by rfl) T.f_repr (by decide +kernel) (pa_cons (pv 11) pa_nil)) (nomark _))
   (pss_one (ps_ret pe_bl)) pss_nil)
  (pss_cons (ps_set (i := 11) sc_law.nd rfl (by first | exact Or.inl rfl | exact Or.inr rfl) (pe_tup (pa_cons (pv 10) (pa_cons (pv 10) (pa_cons (pe_callTy (T := "tuple") call_tuple_of (by rfl) T.f_tuple (by decide +kernel) (pa_cons (pe_lc (own := [("i", 15)]) rfl sc_law.nd (pi_range1 (by rfl) T.f_range (pa_cons (pv 10) pa_nil)) (blkOk_by (N := N_law) (sc := defScope s_law) (by decide +kernel)) (fun _ _ _ _ _ => pg_name (i := 15) (sc_law.nd) rfl (by first | exact Or.inl rfl | exact Or.inr rfl)) (fun _ _ _ _ _ => pts_nil) (fun _ _ _ _ _ => (pe_callTy (T := "tuple") (call_tupOfK K) (by rfl) T.f_tuple (by decide +kernel) (pa_cons (pe_lc (own := [("k", 5)]) rfl sc_law.nd (pi_range1 (by rfl) T.f_range (pa_cons (pv 10) pa_nil)) (blkOk_by (by show blkC N_law (relS _ (defScope s_law)) _ _ = true; decide +kernel)) (fun _ _ _ _ _ => pg_name (i := 5) (sc_law.nd) rfl (by first | exact Or.inl rfl | exact Or.inr rfl)) (fun _ _ _ _ _ => pts_nil) (fun _ _ _ _ _ => (pe_callTy (T := "int") call_int1 (by rfl) T.f_int (by decide +kernel) (pa_cons (pe_cmpR op_eq (pv 15) (pv 5) (nomark _)) pa_nil)))) pa_nil)))) pa_nil)) pa_nil)))))
  (pss_cons (ps_if (pt_cmpR op_ne (pe_callB (id := "repr") (call_reprD rfl (by show (callerA.deeper _).units + 150 < cLine; have := hr.un; omega)) (by rfl) T.f_repr (by decide +kernel) (pa_cons (pe_has H_ones (hr.mono (by decide)) passL (pa_cons (pv 10) pa_nil)) pa_nil)) (pe_callB (id := "repr") (call_reprD rfl (by show (callerA.deeper _).units + 150 < cLine; have := hr.un; omega)) (by rfl) T.f_repr (by decide +kernel) (pa_cons (pv 11) pa_nil)) (nomark _))
   (pss_one (ps_ret pe_bl)) pss_nil)
  (pss_cons (ps_set (i := 12) sc_law.nd rfl (by first | exact Or.inl rfl | exact Or.inr rfl) (pe_has H__law_one (hr.mono (by decide)) pass0 (pa_cons (pv 1) (pa_cons (pe_lst (pa_cons (pe_op op_sub pe_int pe_int) (pa_cons pe_int (pa_cons pe_non (pa_cons pe_bl (pa_cons pe_str (pa_cons (pe_tup (pa_cons pe_int pa_nil)) (pa_cons (pe_op op_pow pe_int pe_int) (pa_cons (pe_lst (pa_cons pe_int pa_nil)) (pa_cons pe_bl pa_nil)))))))))) pa_nil))))
  (pss_cons (ps_set (i := 13) sc_law.nd rfl (by first | exact Or.inl rfl | exact Or.inr rfl) (pe_lst (pa_cons (pe_has H__law_refused (hr.mono (by decide)) pass0 (pa_cons pe_int (pa_cons (pv 12) (pa_cons pe_int pa_nil)))) (pa_cons (pe_has H__law_refused (hr.mono (by decide)) pass0 (pa_cons pe_int (pa_cons (pv 12) (pa_cons (pv 10) pa_nil)))) (pa_cons (pe_has H__law_refused (hr.mono (by decide)) pass0 (pa_cons pe_int (pa_cons (pv 9) (pa_cons (pv 12) pa_nil)))) pa_nil)))))
  (pss_one (ps_if (pt_cmpR (op_neD hr.units) (pv 13) (pe_op op_rep (pe_lst (pa_cons (pe_lst (pa_cons pe_bl (pa_cons pe_bl (pa_cons pe_bl pa_nil)))) pa_nil)) pe_int) (nomark _))
   (pss_one (ps_ret pe_bl)) pss_nil))))))))))))))))
  (pss_cons (ps_for PassesOwn.never rfl (pi_list (pe_lst (pa_cons (pe_tup (pa_cons pe_int (pa_cons pe_int pa_nil))) (pa_cons (pe_tup (pa_cons pe_int (pa_cons pe_int pa_nil))) (pa_cons (pe_tup (pa_cons pe_int (pa_cons pe_int pa_nil))) pa_nil))))) (pg_name (i := 14) sc_law.nd rfl (by first | exact Or.inl rfl | exact Or.inr rfl))
   (pss_one (ps_if (pt_cmpR op_notBl (pe_hasK H_is_matrix (hr.mono (by decide)) passL (pa_cons (pe_has H_noughts (hr.mono (by decide)) passL (pa_cons (pe_ix ix_tup (pv 14) pe_int (fun _ _ => rfl)) (pa_cons (pe_ix ix_tup (pv 14) pe_int (fun _ _ => rfl)) pa_nil))) pa_nil) (pk_cons pe_int pk_nil)) pe_bl (nomark _))
   (pss_one (ps_ret pe_bl)) pss_nil)))
  (pss_one (ps_ret (pe_and (pe_cmpR op_isBl (pe_hasK H_is_matrix (hr.mono (by decide)) passL (pa_cons (pe_tup (pa_cons pe_int (pa_cons pe_int (pa_cons (pe_op op_repD (pe_tup (pa_cons (pe_tup pa_nil) pa_nil)) pe_int) pa_nil)))) pa_nil) (pk_cons pe_int pk_nil)) pe_bl (nomark _)) (pe_one (pe_cmpR op_isBl (pe_hasK H_is_matrix (hr.mono (by decide)) passL (pa_cons (pe_tup (pa_cons pe_int (pa_cons pe_int (pa_cons (pe_tup pa_nil) pa_nil)))) pa_nil) (pk_cons pe_int pk_nil)) pe_bl (nomark _)))))))))), ?_⟩
    refine ⟨_, rfl, a, ns, rfl, hS, hlen, fun H1 pen c npen s1 P1 => ?_⟩
    refine ⟨4, rfl, by decide, by decide, ?_⟩
    refine for_range (lo := 0) (n := 4) (fun i σ F => ∃ v2 v3 v4 v5 v6 v7 v8 v9 v10 v11 v12 v13, σ = [some (.ref a), some (.ref pen), v2, v3, v4, v5, v6, v7, v8, v9, v10, v11, v12, v13, none, none] ∧ PenC F pen c (300 * i))
      ⟨_, _, _, _, _, _, _, _, _, _, _, _, rfl, P1.mono (by decide)⟩ ?_ ?_
    · rintro i σ F hi ⟨v2, v3, v4, v5, v6, v7, v8, v9, v10, v11, v12, v13, rfl, P⟩
      -- p
      refine ⟨_, rfl, pen, c, _, rfl, P, fun Fa oa Pa => ?_⟩
      refine ⟨pen, c, _, rfl, Pa, by omega, fun p Fb hp ob Pb => ?_⟩
      have hp2 := primeN_in hp
      have noP : ∀ {A : Prop}, primeD (.int p) = false → A := fun ce => absurd (show primeN p = false from ce) (by rw [hp]; decide)
      -- one
      refine ⟨_, rfl, _, rfl, pen, c, 7, _, rfl, Pb, by omega, by decide, by decide, fun h Fc h0 h1 oc Pc => ?_⟩
      refine ⟨_, rfl, pen, c, 7, _, rfl, Pc, by omega, by decide, by decide, fun w_ Fd w0 w1 od Pd => ?_⟩
      obtain ⟨r, rfl⟩ : ∃ k : Nat, h = k := ⟨h.toNat, by omega⟩
      obtain ⟨k, rfl⟩ : ∃ k : Nat, w_ = k := ⟨w_.toNat, by omega⟩
      refine ⟨_, rfl, pen, c, r, k, p, _, rfl, Pd, by omega, by omega, by omega, hp2.1, hp2.2, fun one rows Fe hrl hgood hone oe Pe => ?_⟩
      refine ⟨_, rfl, _, rfl, rfl, rfl, one, _, .int p, .int p, pen, rfl, hone, .int _, fun Ff sf => ⟨fun ce => noP ce, fun p' e' hp' => ?_⟩⟩
      cases e'
      refine ⟨_, true, rfl, rfl, _, rfl, ?_⟩
      rw [matOk hrl hgood (by omega) (by omega)]
      refine iteF ?_
      have hone := hone.same sf
      have Pf := Pe.same sf
      -- five things
      refine ⟨5, rfl, by decide, by decide, ?_⟩
      refine for_range (lo := 0) (n := 5) (fun j σ G => ∃ v5 v6 v7, σ = [some (.ref a), some (.ref pen), some (.int (0 + (i : Int))), some (.int p), some one, v5, v6, v7, v8, v9, v10, v11, v12, v13, none, none] ∧ PenC G pen c (300 * i + 205 + 5 * j) ∧ Da K G pen one (matD r k rows))
        ⟨_, _, _, rfl, Pf.mono (by omega), hone⟩ ?_ ?_
      · rintro j σ G hj ⟨v5, v6, v7, rfl, P, hone⟩
        refine ⟨_, rfl, _, rfl, _, rfl, pen, c, one, r, k, rows, p, _, rfl, P, by omega, hone, hrl, by omega, by omega, hgood, hp2.1, hp2.2, fun th d G1 td hd o1 P1 => ?_⟩
        have hone := hone.othP P o1
        refine ⟨_, rfl, ?_⟩
        try walk_at "rd"
        refine repr_tm hd td ?_
        refine ⟨_, rfl, _, rfl, rfl, rfl, th, d, .int p, .int p, pen, rfl, hd, .int _, fun G2 s2 => ⟨fun ce => noP ce, fun p' e' hp' => ?_⟩⟩
        cases e'
        try walk_at "rd"
        refine repr_tm (av := pen) (.bl _) (tmB' _ _) ?_
        refine ⟨_, rfl, _, rfl, th, d, pen, p, rfl, hd.same s2, fun G3 s3 => ?_⟩
        try walk_at "rd"
        refine repr_tm (av := pen) (.bl _) (tmB' _ _) ?_
        refine ⟨rfl, _, rfl, ?_⟩
        refine word_is rfl ?_
        refine ⟨_, rfl, ?_⟩
        try walk_at "rd"
        refine repr_tm ((hd.same s2).same s3) td ?_
        refine ⟨_, rfl, rfl, _, rfl, ?_⟩
        refine word_is rfl ?_
        exact ⟨_, _, _, rfl, ((P1.same s2).same s3).mono (by omega), (hone.same s2).same s3⟩
      rintro σ F1 ⟨v5, v6, v7, rfl, P, hone⟩
      -- bad
      refine ⟨_, rfl, sz_le (by simp), fun l1 nl1 => ?_⟩
      refine ⟨0, 3, rfl, rfl, sz_le (by simp), fun b1 nb1 => ?_⟩
      have sl1 := same_upd (o := .lst [.int 2]) nl1
      have el1 := P.new_ne nl1
      have hl1 : Da K (upd F1 l1 (.lst [.int 2])) pen (.ref l1) (.list [.int 2]) := .lst el1.1 (.inl (.inl upd_same)) (.cons (.int 2) .nil)
      have P := P.same sl1
      have hone := hone.same sl1
      have eb1 := P.new_ne nb1
      generalize hX : ([.int 0, .int 1, .int 4, .int 99, .int 101, .non, .bl true, .str (Str.ofString "2"), .ref l1, .int (0 - 3)] : List V) = X at nb1 ⊢
      have lX : X.length = 10 := by rw [← hX]; rfl
      have sb1 := same_upd (o := .lst X) nb1
      have hb1 : (upd (upd F1 l1 (.lst [.int 2])) b1 (.lst X)) b1 = some (.lst X) := upd_same
      have hXD : DaAll K (upd (upd F1 l1 (.lst [.int 2])) b1 (.lst X)) pen X [.int 0, .int 1, .int 4, .int 99, .int 101, .none, .bool true, .str (Str.ofString "2"), .list [.int 2], .int (0 - 3)] := by
        rw [← hX]
        rw [← hX] at sb1
        exact .cons (.int _) (.cons (.int _) (.cons (.int _) (.cons (.int _) (.cons (.int _) (.cons .non (.cons (.bl _) (.cons (.str _) (.cons (hl1.same sb1) (.cons (.int _) .nil)))))))))
      have P := P.same sb1
      have hone := hone.same sb1
      generalize upd (upd F1 l1 (.lst [.int 2])) b1 (.lst X) = F2 at hb1 hXD P hone ⊢
      refine ⟨pen, c, b1, X, _, rfl, P, by omega, eb1.1, .inl (.inl hb1), by omega, by omega, fun bad hbad F3 o3 P3 => ?_⟩
      obtain ⟨db, hdb, hbd⟩ := pickD (hXD.othP P o3) bad hbad
      have hpb : primeD db = false := by
        simp only [List.mem_cons, List.not_mem_nil, or_false] at hdb
        rcases hdb with rfl | rfl | rfl | rfl | rfl | rfl | rfl | rfl | rfl | rfl
        · decide +kernel
        · decide +kernel
        · decide +kernel
        · decide +kernel
        · decide +kernel
        · rfl
        · rfl
        · rfl
        · rfl
        · decide +kernel
      have hone := hone.othP P o3
      clear hXD hb1 hdb hbad
      -- one, and a bent one
      refine ⟨_, rfl, _, rfl, _, rfl, _, rfl, pen, c, one, r, k, rows, p, _, rfl, P3, by omega, hone, hrl, by omega, by omega, hgood, hp2.1, hp2.2, fun th d F4 td hd o4 P4 => ?_⟩
      have hone := hone.othP P3 o4
      have hbd := hbd.othP P3 o4
      refine ⟨sz_le (by simp), fun L nL => ?_⟩
      have sL := same_upd (o := .lst [one, th]) nL
      have hL : (upd F4 L (.lst [one, th])) L = some (.lst [one, th]) := upd_same
      have hone := hone.same sL
      have hd := hd.same sL
      have hbd := hbd.same sL
      have P4 := P4.same sL
      generalize upd F4 L (.lst [one, th]) = F5 at hL hone hd hbd P4 ⊢
      have hTh : ∀ x ∈ [one, th], ∃ e, Da K F5 pen x e := by
        intro x hx
        rcases List.mem_cons.mp hx with e | hx
        · rw [e]
          exact ⟨_, hone⟩
        · rw [List.mem_singleton.mp hx]
          exact ⟨_, hd⟩
      refine ⟨L, rfl, ⟨_, .inl (.inl hL)⟩, ?_⟩
      refine for_list (K := K) (a := L) (xs := [one, th]) (fun j σ G => ∃ v6, σ = [some (.ref a), some (.ref pen), some (.int (0 + (i : Int))), some (.int p), some one, v5, v6, v7, some bad, v9, v10, v11, v12, v13, none, none] ∧ Same F5 G)
        ⟨_, rfl, Same.refl F5⟩ (fun j σ G _ ⟨_, _, s⟩ => .inl (.inl (s _ _ hL))) ?_ ?_
      · rintro j x σ G hj ⟨v6, rfl, sG⟩
        obtain ⟨e, he⟩ := hTh x (List.mem_of_getElem? hj)
        refine ⟨_, rfl, _, rfl, 0, bad, x, db, e, pen, rfl, hbd.same sG, he.same sG, .inl ⟨rfl, hpb⟩, fun G1 l sl nl => ?_⟩
        refine ⟨sz_le (by simp), fun l2 nl2 => ?_⟩
        have sA := same_upd (o := .lst [.bl (decide ((0 : Int) = 0)), .bl (decide ((0 : Int) ≠ 0)), .bl false]) nl
        have sB := same_upd (o := .lst [.bl true, .bl false, .bl false]) nl2
        refine ⟨.list [.bool true, .bool false, .bool false], .list [.bool true, .bool false, .bool false], .lst (.inl (.inl (sB _ _ upd_same))) (.cons (.bl true) (.cons (.bl false) (.cons (.bl false) .nil))),
          .lst (.inl (.inl upd_same)) (.cons (.bl true) (.cons (.bl false) (.cons (.bl false) .nil))), by decide, by decide, _, rfl, ?_⟩
        refine (if_neg (by decide)).mpr ?_
        exact ⟨_, rfl, ((sG.trans sl).trans sA).trans sB⟩
      rintro σ F6 ⟨v6, rfl, s6⟩
      have P := P4.same s6
      -- high, wide
      refine ⟨_, rfl, pen, c, 9, _, rfl, P, by omega, by decide, by decide, fun h G1 h0 h1 o1 Q1 => ?_⟩
      refine ⟨_, rfl, pen, c, 9, _, rfl, Q1, by omega, by decide, by decide, fun w_ G2 w0 w1 o2 Q2 => ?_⟩
      obtain ⟨hi_, rfl⟩ : ∃ k : Nat, h = k := ⟨h.toNat, by omega⟩
      obtain ⟨wi, rfl⟩ : ∃ k : Nat, w_ = k := ⟨w_.toNat, by omega⟩
      refine ⟨sz_le (by simp), fun t0 nt0 => ?_⟩
      have st0 := same_upd (o := .tup [.int hi_, .int wi]) nt0
      have Q2 := Q2.same st0
      have ht0 : (upd G2 t0 (.tup [.int hi_, .int wi])) t0 = some (.tup [.int hi_, .int wi]) := upd_same
      generalize upd G2 t0 (.tup [.int hi_, .int wi]) = G3 at Q2 ht0 ⊢
      refine ⟨t0, _, rfl, .inl (.inl ht0), rfl, _, _, rfl, _, _, rfl, rfl, ?_⟩
      -- due
      refine ⟨_, rfl, _, rfl, _, rfl, hi_, rfl, by omega, by omega, fun D nD => ?_⟩
      have eD := Q2.new_ne nD
      refine lc_range (lo := 0) (n := ((hi_ : Nat) : Int).toNat) (fun j G => Same G3 G ∧ ∃ vs, G D = some (.lst vs) ∧ DaAll K G D vs ((noughtsR j wi).map rowD)) ⟨same_upd nD, [], upd_same, .nil⟩ ?_ ?_
      · rintro j G hj ⟨sG, vs, hG, hA⟩
        refine ⟨rfl, ?_⟩
        refine ⟨sz_le (by simp), fun z nz => ?_⟩
        have sz := same_upd (o := .tup [.int 0]) nz
        refine ⟨_, rfl, z, wi, [.int 0], rfl, rfl, .inl (.inl upd_same), by simp, by omega, by show (1 : Int) * (wi : Int) ≤ 1000000; omega, fun p1 H1 s1 hp1 => ?_⟩
        have sGH := sz.trans s1
        have gD := sGH _ _ hG
        have lv := hA.length
        rw [List.length_map, noughtsR, List.length_replicate] at lv
        refine ⟨vs, gD, lt10 (by omega), acc_same nD sG sGH, vs ++ [.ref p1], upd_same, ?_⟩
        have e : (noughtsR (j + 1) wi).map rowD = (noughtsR j wi).map rowD ++ [rowD (List.replicate wi 0)] := by
          unfold noughtsR
          rw [List.replicate_succ', List.map_append]
          rfl
        rw [e]
        refine DaAll.append ((hA.same sGH).grow gD) (.cons (Da.grow (ps := vs) ?_ gD) .nil)
        have e2 : (List.replicate (wi : Int).toNat [V.int 0]).flatten = (List.replicate wi (0 : Int)).map V.int := by
          rw [Int.toNat_natCast, List.map_replicate]
          exact List.flatten_replicate_singleton
        rw [e2] at hp1
        exact .tup hp1 (DaAll.ints _)
      rintro G4 ⟨sG4, vs, hG4, hA⟩
      rw [Int.toNat_natCast] at hA
      refine ⟨D, vs, rfl, .inl ⟨.inl (.inl hG4), fun t1 nt1 => ?_⟩⟩
      refine ⟨sz_le (by simp), fun t2 nt2 => ?_⟩
      have hdue : Da K (upd (upd G4 t1 (.tup vs)) t2 (.tup [.int hi_, .int wi, .ref t1])) pen (.ref t2) (matD hi_ wi (noughtsR hi_ wi)) :=
        Da.any (av := D) _ _ (noL_mat _ _ _) (Da.newT (.cons (.int _) (.cons (.int _) (.cons (Da.newT hA nt1) .nil))) nt2)
      have Q5 := ((Q2.same sG4).same (same_upd (o := .tup vs) nt1)).same (same_upd (o := .tup [.int hi_, .int wi, .ref t1]) nt2)
      generalize upd (upd G4 t1 (.tup vs)) t2 (.tup [.int hi_, .int wi, .ref t1]) = G5 at hdue Q5 ⊢
      have sizeOk : ∀ {k : Nat} {A : Prop}, k < 9 → wholeTo (.int (k : Int)) 2000 = false → A := by
        intro k A hk h
        have h' : decide (0 ≤ (k : Int) ∧ (k : Int) ≤ 2000) = false := h
        rw [decide_eq_true (by omega)] at h'
        cases h'
      refine ⟨_, rfl, _, rfl, .int hi_, .int hi_, .int wi, .int wi, pen, rfl, .int _, .int _, fun ce => sizeOk (by omega) ce, fun _ ce => sizeOk (by omega) ce, fun r' k' er ek hr' hk' v G6 s6' hv => ?_⟩
      obtain rfl : hi_ = r' := by injection er with z; omega
      obtain rfl : wi = k' := by injection ek with z; omega
      have hdv := hv pen
      have hdue := hdue.same s6'
      have td : Tm 5 (matD hi_ wi (noughtsR hi_ wi)) := tm_mat (p := 97) (List.length_replicate) (good_noughts hi_ wi (by decide)) (by omega) (by omega) (by decide)
      clear hv
      generalize matD (hi_ : Int) wi (noughtsR hi_ wi) = dd at hdv hdue td
      try walk_at "rd"
      refine repr_tm hdv td ?_
      refine ⟨_, rfl, ?_⟩
      try walk_at "rd"
      refine repr_tm hdue td ?_
      refine ⟨rfl, _, rfl, ?_⟩
      refine word_is rfl ?_
      clear hdv hdue td dd
      have Q6 := Q5.same s6'
      -- due of ones
      refine ⟨_, rfl, _, rfl, _, rfl, wi, rfl, by omega, by omega, fun D2 nD => ?_⟩
      refine lc_range (lo := 0) (n := ((wi : Nat) : Int).toNat) (fun i G => Same G6 G ∧ ∃ vs, G D2 = some (.lst vs) ∧ DaAll K G D2 vs (((onesR wi).take i).map rowD)) ⟨same_upd nD, [], upd_same, .nil⟩ ?_ ?_
      · rintro i G hi ⟨sG, vs, hG, hA⟩
        have hi' : i < wi := by omega
        refine ⟨rfl, ?_⟩
        refine ⟨_, rfl, wi, rfl, by omega, by omega, fun E nE => ?_⟩
        refine lc_range (lo := 0) (n := ((wi : Nat) : Int).toNat) (fun j F => Same G F ∧ F E = some (.lst (((List.range j).map fun t => if t = i then (1 : Int) else 0).map V.int))) ⟨same_upd nE, upd_same⟩ ?_ ?_
        · rintro j F hj ⟨sF, hF⟩
          refine ⟨rfl, ?_⟩
          have last : ∀ z : Int, z = (if j = i then (1 : Int) else 0) → ∃ acc, F E = some (.lst acc) ∧ acc.length < sizeLine ∧ Same G (upd F E (.lst (acc ++ [.int z]))) ∧
              (upd F E (.lst (acc ++ [.int z]))) E = some (.lst (((List.range (j + 1)).map fun t => if t = i then (1 : Int) else 0).map V.int)) := by
            rintro z rfl
            refine ⟨_, hF, lt10 (by rw [List.length_map, List.length_map, List.length_range]; omega), acc_same nE sF (Same.refl F), ?_⟩
            rw [upd_same, List.range_succ, List.map_append, List.map_append]
            rfl
          refine ⟨_, rfl, _, rfl, rfl, .inr ⟨_, rfl, ?_⟩⟩
          by_cases e : j = i
          · rw [decide_eq_true (show V.int (0 + (i : Int)) = V.int (0 + (j : Int)) by rw [e])]
            exact last 1 (by rw [if_pos e])
          · rw [decide_eq_false (show ¬ V.int (0 + (i : Int)) = V.int (0 + (j : Int)) from fun z => e (by injection z with z; omega))]
            exact last 0 (by rw [if_neg e])
        · rintro F ⟨sF, hF⟩
          rw [Int.toNat_natCast] at hF
          have hrow : (onesR wi)[i]? = some ((List.range wi).map fun t => if t = i then (1 : Int) else 0) := by
            unfold onesR
            rw [List.getElem?_map, List.getElem?_range hi']
            rfl
          refine ⟨E, _, rfl, .inl ⟨.inl (.inl hF), fun t nt => ?_⟩⟩
          have st := same_upd (o := .tup (((List.range wi).map fun t => if t = i then (1 : Int) else 0).map V.int)) nt
          have sGt := sF.trans st
          have lenV := hA.length
          rw [List.length_map, List.length_take] at lenV
          have gD := sGt _ _ hG
          refine ⟨vs, gD, lt10 (by omega), acc_same nD (sG.trans sF) st, vs ++ [.ref t], upd_same, ?_⟩
          rw [List.take_add_one, hrow, List.map_append]
          refine DaAll.append ((hA.same sGt).grow gD) (.cons (Da.grow (ps := vs) ?_ gD) .nil)
          exact Da.newT (DaAll.ints _) nt
      rintro G7 ⟨sG7, vs2, hG7, hA2⟩
      rw [Int.toNat_natCast] at hA2
      rw [List.take_of_length_le (by unfold onesR; rw [List.length_map, List.length_range]; exact Nat.le_refl _)] at hA2
      refine ⟨D2, vs2, rfl, .inl ⟨.inl (.inl hG7), fun t3 nt3 => ?_⟩⟩
      refine ⟨sz_le (by simp), fun t4 nt4 => ?_⟩
      have hdue2 : Da K (upd (upd G7 t3 (.tup vs2)) t4 (.tup [.int wi, .int wi, .ref t3])) pen (.ref t4) (matD wi wi (onesR wi)) :=
        Da.any (av := D2) _ _ (noL_mat _ _ _) (Da.newT (.cons (.int _) (.cons (.int _) (.cons (Da.newT hA2 nt3) .nil))) nt4)
      have Q7 := ((Q6.same sG7).same (same_upd (o := .tup vs2) nt3)).same (same_upd (o := .tup [.int wi, .int wi, .ref t3]) nt4)
      generalize upd (upd G7 t3 (.tup vs2)) t4 (.tup [.int wi, .int wi, .ref t3]) = G8 at hdue2 Q7 ⊢
      refine ⟨_, rfl, .int wi, .int wi, pen, rfl, .int _, fun ce => sizeOk (by omega) ce, fun k' ek hk' v G9 s9 hv => ?_⟩
      obtain rfl : wi = k' := by injection ek with z; omega
      have hdv := hv pen
      have hdue2 := hdue2.same s9
      have td : Tm 5 (matD wi wi (onesR wi)) := tm_mat (p := 97) (by unfold onesR; rw [List.length_map, List.length_range]) (good_ones wi (by decide)) (by omega) (by omega) (by decide)
      clear hv
      generalize matD (wi : Int) wi (onesR wi) = dd at hdv hdue2 td
      try walk_at "rd"
      refine repr_tm hdv td ?_
      refine ⟨_, rfl, ?_⟩
      try walk_at "rd"
      refine repr_tm hdue2 td ?_
      refine ⟨rfl, _, rfl, ?_⟩
      refine word_is rfl ?_
      clear hdv hdue2 td dd
      have Q9 := Q7.same s9
      -- odd
      refine ⟨_, rfl, 0, 1, rfl, rfl, sz_le (by simp), fun t5 nt5 => ?_⟩
      refine ⟨10, 30, rfl, rfl, ⟨by decide, by decide, by decide⟩, sz_le (by simp), fun l5 nl5 => ?_⟩
      refine ⟨sz_le (by simp), fun b5 nb5 => ?_⟩
      have s5a := same_upd (o := .tup [.int 3]) nt5
      have s5b := same_upd (o := .lst [.int 0]) nl5
      have x5t : Da K (upd (upd G9 t5 (.tup [.int 3])) l5 (.lst [.int 0])) pen (.ref t5) (.tuple [.int 3]) := (Da.newT (.cons (.int 3) .nil) nt5).same s5b
      have Q9 := Q9.same s5a
      have e5 := Q9.new_ne nl5
      have x5l : Da K (upd (upd G9 t5 (.tup [.int 3])) l5 (.lst [.int 0])) pen (.ref l5) (.list [.int 0]) := .lst e5.1 (.inl (.inl upd_same)) (.cons (.int 0) .nil)
      have Q9 := Q9.same s5b
      have eb5 := Q9.new_ne nb5
      generalize upd (upd G9 t5 (.tup [.int 3])) l5 (.lst [.int 0]) = G10 at x5t x5l Q9 nb5 ⊢
      generalize hX5 : ([.int (0 - 1), .int 2001, .non, .bl true, .str (Str.ofString "3"), .ref t5, .int (10 ^ (30 : Int).toNat), .ref l5, .bl false] : List V) = X5 at nb5 ⊢
      have lX5 : X5.length = 9 := by rw [← hX5]; rfl
      have sb5 := same_upd (o := .lst X5) nb5
      have hb5 : (upd G10 b5 (.lst X5)) b5 = some (.lst X5) := upd_same
      have hXD5 : DaAll K (upd G10 b5 (.lst X5)) pen X5 [.int (0 - 1), .int 2001, .none, .bool true, .str (Str.ofString "3"), .tuple [.int 3], .int (10 ^ (30 : Int).toNat), .list [.int 0], .bool false] := by
        have z : DaAll K G10 pen X5 [.int (0 - 1), .int 2001, .none, .bool true, .str (Str.ofString "3"), .tuple [.int 3], .int (10 ^ (30 : Int).toNat), .list [.int 0], .bool false] := by
          rw [← hX5]
          exact .cons (.int _) (.cons (.int _) (.cons .non (.cons (.bl _) (.cons (.str _) (.cons x5t (.cons (.int _) (.cons x5l (.cons (.bl _) .nil))))))))
        exact z.same sb5
      have Q9 := Q9.same sb5
      generalize upd G10 b5 (.lst X5) = G11 at hb5 hXD5 Q9 ⊢
      refine ⟨pen, c, b5, X5, _, rfl, Q9, by omega, eb5.1, .inl (.inl hb5), by omega, by omega, fun odd hodd G12 o12 Q12 => ?_⟩
      obtain ⟨dx, hdx, hox⟩ := pickD (hXD5.othP Q9 o12) odd hodd
      have hwx : wholeTo dx 2000 = false := by
        simp only [List.mem_cons, List.not_mem_nil, or_false] at hdx
        rcases hdx with rfl | rfl | rfl | rfl | rfl | rfl | rfl | rfl | rfl
        · decide +kernel
        · decide +kernel
        · rfl
        · rfl
        · rfl
        · rfl
        · decide +kernel
        · rfl
        · rfl
      clear hXD5 hb5 hdx hodd
      -- three refusals
      refine ⟨_, rfl, 1, odd, .int 0, dx, .int 0, pen, rfl, hox, .int 0, .inr (.inl ⟨rfl, hwx⟩), fun G13 m1 s13 nm1 => ?_⟩
      have r1 : (upd G13 m1 (.lst [.bl (decide ((1 : Int) = 0)), .bl (decide ((1 : Int) ≠ 0)), .bl false])) m1 = some (.lst [.bl false, .bl true, .bl false]) := upd_same
      have sm1 := s13.trans (same_upd (o := .lst [.bl (decide ((1 : Int) = 0)), .bl (decide ((1 : Int) ≠ 0)), .bl false]) nm1)
      generalize upd G13 m1 (.lst [.bl (decide ((1 : Int) = 0)), .bl (decide ((1 : Int) ≠ 0)), .bl false]) = G14 at r1 sm1 ⊢
      have hox := hox.same sm1
      refine ⟨_, rfl, _, rfl, 2, odd, .int wi, dx, .int wi, pen, rfl, hox, .int _, .inr (.inr ⟨rfl, .inl hwx⟩), fun G15 m2 s15 nm2 => ?_⟩
      have r2 : (upd G15 m2 (.lst [.bl (decide ((2 : Int) = 0)), .bl (decide ((2 : Int) ≠ 0)), .bl false])) m2 = some (.lst [.bl false, .bl true, .bl false]) := upd_same
      have sm2 := s15.trans (same_upd (o := .lst [.bl (decide ((2 : Int) = 0)), .bl (decide ((2 : Int) ≠ 0)), .bl false]) nm2)
      generalize upd G15 m2 (.lst [.bl (decide ((2 : Int) = 0)), .bl (decide ((2 : Int) ≠ 0)), .bl false]) = G16 at r2 sm2 ⊢
      have hox := hox.same sm2
      have r1 := sm2 _ _ r1
      refine ⟨_, rfl, _, rfl, 2, .int hi_, odd, .int hi_, dx, pen, rfl, .int _, hox, .inr (.inr ⟨rfl, .inr hwx⟩), fun G17 m3 s17 nm3 => ?_⟩
      have r3 : (upd G17 m3 (.lst [.bl (decide ((2 : Int) = 0)), .bl (decide ((2 : Int) ≠ 0)), .bl false])) m3 = some (.lst [.bl false, .bl true, .bl false]) := upd_same
      have sm3 := s17.trans (same_upd (o := .lst [.bl (decide ((2 : Int) = 0)), .bl (decide ((2 : Int) ≠ 0)), .bl false]) nm3)
      generalize upd G17 m3 (.lst [.bl (decide ((2 : Int) = 0)), .bl (decide ((2 : Int) ≠ 0)), .bl false]) = G18 at r3 sm3 ⊢
      have r1 := sm3 _ _ r1
      have r2 := sm3 _ _ r2
      have Q18 := ((Q12.same sm1).same sm2).same sm3
      refine ⟨sz_le (by simp), fun S nS => ?_⟩
      have sS := same_upd (o := .lst [.ref m1, .ref m2, .ref m3]) nS
      have rS : (upd G18 S (.lst [.ref m1, .ref m2, .ref m3])) S = some (.lst [.ref m1, .ref m2, .ref m3]) := upd_same
      have r1 := sS _ _ r1
      have r2 := sS _ _ r2
      have r3 := sS _ _ r3
      have Q18 := Q18.same sS
      generalize upd G18 S (.lst [.ref m1, .ref m2, .ref m3]) = G19 at rS r1 r2 r3 Q18 ⊢
      refine ⟨_, rfl, sz_le (by simp), fun l6 nl6 => ?_⟩
      refine ⟨sz_le (by simp), fun l7 nl7 => ?_⟩
      refine ⟨l7, 3, [.ref l6], rfl, rfl, upd_same, by decide, by decide, sz_le (by simp), fun M nM => ?_⟩
      have sA := same_upd (o := .lst [.bl false, .bl true, .bl false]) nl6
      have sB := same_upd (o := .lst [.ref l6]) nl7
      have sC := same_upd (o := .lst (List.replicate (3 : Int).toNat [V.ref l6]).flatten) nM
      have sABC := (sA.trans sB).trans sC
      have r6 := sC _ _ (sB _ _ (show (upd G19 l6 (.lst [.bl false, .bl true, .bl false])) l6 = some (.lst [.bl false, .bl true, .bl false]) from upd_same))
      have r7 : (upd (upd (upd G19 l6 (.lst [.bl false, .bl true, .bl false])) l7 (.lst [.ref l6])) M (.lst (List.replicate (3 : Int).toNat [V.ref l6]).flatten)) M = some (.lst [.ref l6, .ref l6, .ref l6]) := upd_same
      have rS := sABC _ _ rS
      have r1 := sABC _ _ r1
      have r2 := sABC _ _ r2
      have r3 := sABC _ _ r3
      have Q20 := Q18.same sABC
      generalize upd (upd (upd G19 l6 (.lst [.bl false, .bl true, .bl false])) l7 (.lst [.ref l6])) M (.lst (List.replicate (3 : Int).toNat [V.ref l6]).flatten) = G20 at r6 r7 rS r1 r2 r3 Q20 ⊢
      have row3 : DpAll K G20 [.bl false, .bl true, .bl false] [.bool false, .bool true, .bool false] := .cons (.bl _) (.cons (.bl _) (.cons (.bl _) .nil))
      refine ⟨.list [.list [.bool false, .bool true, .bool false], .list [.bool false, .bool true, .bool false], .list [.bool false, .bool true, .bool false]],
        .list [.list [.bool false, .bool true, .bool false], .list [.bool false, .bool true, .bool false], .list [.bool false, .bool true, .bool false]],
        .lst (.inl (.inl rS)) (.cons (.lst (.inl (.inl r1)) row3) (.cons (.lst (.inl (.inl r2)) row3) (.cons (.lst (.inl (.inl r3)) row3) .nil))),
        .lst (.inl (.inl r7)) (.cons (.lst (.inl (.inl r6)) row3) (.cons (.lst (.inl (.inl r6)) row3) (.cons (.lst (.inl (.inl r6)) row3) .nil))), by decide, by decide, _, rfl, ?_⟩
      refine (if_neg (by decide)).mpr ?_
      exact ⟨_, _, _, _, _, _, _, _, _, _, _, _, rfl, Q20.mono (by omega)⟩
    rintro σ F ⟨v2, v3, v4, v5, v6, v7, v8, v9, v10, v11, v12, v13, rfl, P⟩
    have noP : ∀ {A : Prop}, primeD (.int 2) = false → A := fun ce => absurd (show primeN 2 = false from ce) (by decide +kernel)
    -- the great sizes
    refine ⟨sz_le (by simp), fun t1 nt1 => ?_⟩
    refine ⟨sz_le (by simp), fun t2 nt2 => ?_⟩
    refine ⟨sz_le (by simp), fun t3 nt3 => ?_⟩
    refine ⟨sz_le (by simp), fun L nL => ?_⟩
    have s1_ := same_upd (o := .tup [.int 2000, .int 0]) nt1
    have s2_ := same_upd (o := .tup [.int 0, .int 2000]) nt2
    have s3_ := same_upd (o := .tup [.int 2000, .int 1]) nt3
    have s4_ := same_upd (o := .lst [.ref t1, .ref t2, .ref t3]) nL
    have q1 := s4_ _ _ (s3_ _ _ (s2_ _ _ (show (upd F t1 (.tup [.int 2000, .int 0])) t1 = some (.tup [.int 2000, .int 0]) from upd_same)))
    have q2 := s4_ _ _ (s3_ _ _ (show (upd (upd F t1 (.tup [.int 2000, .int 0])) t2 (.tup [.int 0, .int 2000])) t2 = some (.tup [.int 0, .int 2000]) from upd_same))
    have q3 := s4_ _ _ (show (upd (upd (upd F t1 (.tup [.int 2000, .int 0])) t2 (.tup [.int 0, .int 2000])) t3 (.tup [.int 2000, .int 1])) t3 = some (.tup [.int 2000, .int 1]) from upd_same)
    have hL : (upd (upd (upd (upd F t1 (.tup [.int 2000, .int 0])) t2 (.tup [.int 0, .int 2000])) t3 (.tup [.int 2000, .int 1])) L (.lst [.ref t1, .ref t2, .ref t3])) L = some (.lst [.ref t1, .ref t2, .ref t3]) := upd_same
    generalize upd (upd (upd (upd F t1 (.tup [.int 2000, .int 0])) t2 (.tup [.int 0, .int 2000])) t3 (.tup [.int 2000, .int 1])) L (.lst [.ref t1, .ref t2, .ref t3]) = F0 at q1 q2 q3 hL ⊢
    have hT : ∀ x ∈ [V.ref t1, .ref t2, .ref t3], ∃ (t : Addr) (r k : Nat), x = .ref t ∧ F0 t = some (.tup [.int r, .int k]) ∧ r ≤ 2000 ∧ k ≤ 2000 := by
      intro x hx
      simp only [List.mem_cons, List.not_mem_nil, or_false] at hx
      rcases hx with rfl | rfl | rfl
      · exact ⟨t1, 2000, 0, rfl, q1, by decide, by decide⟩
      · exact ⟨t2, 0, 2000, rfl, q2, by decide, by decide⟩
      · exact ⟨t3, 2000, 1, rfl, q3, by decide, by decide⟩
    clear q1 q2 q3
    refine ⟨L, rfl, ⟨_, .inl (.inl hL)⟩, ?_⟩
    refine for_list (K := K) (a := L) (xs := [.ref t1, .ref t2, .ref t3]) (fun j σ G => ∃ v14, σ = [some (.ref a), some (.ref pen), v2, v3, v4, v5, v6, v7, v8, v9, v10, v11, v12, v13, v14, none] ∧ Same F0 G)
      ⟨_, rfl, Same.refl F0⟩ (fun j σ G _ ⟨_, _, s⟩ => .inl (.inl (s _ _ hL))) ?_ ?_
    · rintro j x σ G hj ⟨v14, rfl, sG⟩
      obtain ⟨t, r, k, rfl, ht, hr2, hk2⟩ := hT x (List.mem_of_getElem? hj)
      have ht := sG _ _ ht
      have bad : ∀ {m : Nat} {A : Prop}, m ≤ 2000 → wholeTo (.int (m : Int)) 2000 = false → A := by
        intro m A hm h
        have h' : decide (0 ≤ (m : Int) ∧ (m : Int) ≤ 2000) = false := h
        rw [decide_eq_true (by omega)] at h'
        cases h'
      refine ⟨_, rfl, t, _, 0, .int r, rfl, rfl, .inl (.inl ht), rfl, _, rfl, t, _, 1, .int k, rfl, rfl, .inl (.inl ht), rfl, ?_⟩
      refine ⟨.int r, .int r, .int k, .int k, pen, rfl, .int _, .int _, fun ce => bad hr2 ce, fun _ ce => bad hk2 ce, fun r' k' er ek hr' hk' v G6 s6' hv => ?_⟩
      obtain rfl : r = r' := by injection er with z; omega
      obtain rfl : k = k' := by injection ek with z; omega
      refine ⟨rfl, rfl, v, _, .int 2, .int 2, pen, rfl, hv pen, .int _, fun Ff sf => ⟨fun ce => noP ce, fun p' e' hp' => ?_⟩⟩
      cases e'
      refine ⟨_, true, rfl, rfl, _, rfl, ?_⟩
      rw [matOk (by unfold noughtsR; rw [List.length_replicate]) (good_noughts _ _ (by decide)) hr2 hk2]
      refine iteF ?_
      exact ⟨_, rfl, (sG.trans s6').trans sf⟩
    rintro σ F1 ⟨v14, rfl, s1_⟩
    refine ⟨sz_le (by simp), fun u1 nu1 => ?_⟩
    refine ⟨sz_le (by simp), fun u2 nu2 => ?_⟩
    have su1 := same_upd (o := .tup []) nu1
    have su2 := same_upd (o := .tup [.ref u1]) nu2
    have hu1 : Da K (upd (upd F1 u1 (.tup [])) u2 (.tup [.ref u1])) pen (.ref u1) (.tuple []) := (Da.newT .nil nu1).same su2
    refine ⟨u2, 2001, [.ref u1], rfl, rfl, .inl (.inl upd_same), by simp, by decide, by show (1 : Int) * 2001 ≤ 1000000; decide, fun p1 F2 sp1 hp1 => ?_⟩
    have hu1 := hu1.same sp1
    refine ⟨sz_le (by simp), fun u3 nu3 => ?_⟩
    have hbig : Da K (upd F2 u3 (.tup [.int 2001, .int 0, .ref p1])) pen (.ref u3) (.tuple [.int 2001, .int 0, .tuple (List.replicate (2001 : Int).toNat [.tuple []]).flatten]) :=
      Da.newT (.cons (.int _) (.cons (.int _) (.cons (.tup hp1 (DaAll.repF hu1 _)) .nil))) nu3
    refine ⟨rfl, rfl, .ref u3, _, .int 2, .int 2, pen, rfl, hbig, .int _, fun Ff sf => ⟨fun ce => noP ce, fun p' e' hp' => ?_⟩⟩
    cases e'
    rw [isMatD_1 (show wholeTo (.int 2001) 2000 = false by decide)]
    refine ⟨_, false, rfl, rfl, _, rfl, ?_⟩
    refine (if_pos (by decide)).mpr ?_
    refine ⟨sz_le (by simp), fun u4 nu4 => ?_⟩
    refine ⟨sz_le (by simp), fun u5 nu5 => ?_⟩
    have hsm : Da K (upd (upd Ff u4 (.tup [])) u5 (.tup [.int 0, .int 2001, .ref u4])) pen (.ref u5) (.tuple [.int 0, .int 2001, .tuple []]) :=
      Da.newT (.cons (.int _) (.cons (.int _) (.cons (Da.newT .nil nu4) .nil))) nu5
    refine ⟨rfl, rfl, .ref u5, _, .int 2, .int 2, pen, rfl, hsm, .int _, fun Fg sg => ⟨fun ce => noP ce, fun p' e' hp' => ?_⟩⟩
    cases e'
    rw [isMatD_2 (show wholeTo (.int 2001) 2000 = false by decide)]
    exact ⟨_, false, rfl, rfl, q _⟩
end
end K02


set_option Elab.async false
set_option linter.all false
set_option maxRecDepth 100000
set_option maxHeartbeats 8000000
namespace K02
open PySem PySem.Spec PyProof.Rows L2 XA
def d_is_whole : He.DefD := ⟨("is_whole", none), "is_whole", "is_whole", defArgs s_is_whole, defBody s_is_whole, defScope s_is_whole, [], []⟩
def d_is_whole_to : He.DefD := ⟨("is_whole_to", none), "is_whole_to", "is_whole_to", defArgs s_is_whole_to, defBody s_is_whole_to, defScope s_is_whole_to, [], []⟩
def d_is_prime : He.DefD := ⟨("is_prime", none), "is_prime", "is_prime", defArgs s_is_prime, defBody s_is_prime, defScope s_is_prime, [], []⟩
def d_need_prime : He.DefD := ⟨("need_prime", none), "need_prime", "need_prime", defArgs s_need_prime, defBody s_need_prime, defScope s_need_prime, [], []⟩
def d_is_matrix : He.DefD := ⟨("is_matrix", none), "is_matrix", "is_matrix", defArgs s_is_matrix, defBody s_is_matrix, defScope s_is_matrix, [], []⟩
def d_ones : He.DefD := ⟨("ones", none), "ones", "ones", defArgs s_ones, defBody s_ones, defScope s_ones, [], []⟩
def d_noughts : He.DefD := ⟨("noughts", none), "noughts", "noughts", defArgs s_noughts, defBody s_noughts, defScope s_noughts, [], []⟩
def d__is_made : He.DefD := ⟨("_is_made", none), "_is_made", "_is_made", defArgs s__is_made, defBody s__is_made, defScope s__is_made, [], []⟩
def d__is_row : He.DefD := ⟨("_is_row", none), "_is_row", "_is_row", defArgs s__is_row, defBody s__is_row, defScope s__is_row, [], []⟩
def d__need_size : He.DefD := ⟨("_need_size", none), "_need_size", "_need_size", defArgs s__need_size, defBody s__need_size, defScope s__need_size, [], []⟩
def d__law_spread : He.DefD := ⟨("_law_spread", none), "_law_spread", "_law_spread", defArgs s__law_spread, defBody s__law_spread, defScope s__law_spread, [], []⟩
def d__law_open : He.DefD := ⟨("_law_open", none), "_law_open", "_law_open", defArgs s__law_open, defBody s__law_open, defScope s__law_open, [], []⟩
def d__law_anew : He.DefD := ⟨("_law_anew", none), "_law_anew", "_law_anew", defArgs s__law_anew, defBody s__law_anew, defScope s__law_anew, [], []⟩
def d__law_take : He.DefD := ⟨("_law_take", none), "_law_take", "_law_take", defArgs s__law_take, defBody s__law_take, defScope s__law_take, [], []⟩
def d__law_one : He.DefD := ⟨("_law_one", none), "_law_one", "_law_one", defArgs s__law_one, defBody s__law_one, defScope s__law_one, [], []⟩
def d__law_prime : He.DefD := ⟨("_law_prime", none), "_law_prime", "_law_prime", defArgs s__law_prime, defBody s__law_prime, defScope s__law_prime, [], []⟩
def d__law_matrix : He.DefD := ⟨("_law_matrix", none), "_law_matrix", "_law_matrix", defArgs s__law_matrix, defBody s__law_matrix, defScope s__law_matrix, [], []⟩
def d__law_is_matrix : He.DefD := ⟨("_law_is_matrix", none), "_law_is_matrix", "_law_is_matrix", defArgs s__law_is_matrix, defBody s__law_is_matrix, defScope s__law_is_matrix, [], []⟩
def d__law_bent : He.DefD := ⟨("_law_bent", none), "_law_bent", "_law_bent", defArgs s__law_bent, defBody s__law_bent, defScope s__law_bent, [], []⟩
def d__law_refused : He.DefD := ⟨("_law_refused", none), "_law_refused", "_law_refused", defArgs s__law_refused, defBody s__law_refused, defScope s__law_refused, [], []⟩
def d_law : He.DefD := ⟨("law", none), "law", "law", defArgs s_law, defBody s_law, defScope s_law, [], []⟩
def dfs : List He.DefD := [d_is_whole, d_is_whole_to, d_is_prime, d_need_prime, d_is_matrix, d_ones, d_noughts, d__is_made, d__is_row, d__need_size, d__law_spread, d__law_open, d__law_anew, d__law_take, d__law_one, d__law_prime, d__law_matrix, d__law_is_matrix, d__law_bent, d__law_refused, d_law]
def fas : List He.Fa := [.glo "RoomError", .glo "NoPrime", .glo "NoMatrix", .glo "NoFit", .glo "is_whole", .glo "is_whole_to", .glo "is_prime", .glo "need_prime", .glo "is_matrix", .glo "ones", .glo "noughts", .glo "_is_made", .glo "_is_row", .glo "_need_size", .glo "_law_spread", .glo "_law_open", .glo "_law_anew", .glo "_law_take", .glo "_law_one", .glo "_law_prime", .glo "_law_matrix", .glo "_law_is_matrix", .glo "_law_bent", .glo "_law_refused", .glo "law", .free "all", .free "bool", .free "enumerate", .free "int", .free "isinstance", .free "len", .free "list", .free "range", .free "repr", .free "str", .free "tuple", .int "GREATEST_PRIME" 97, .int "MOST_ROWS" 2000, .exc "RoomError", .exc "NoPrime", .exc "NoMatrix", .exc "NoFit"]
def exB (K : PySem.W.Frag) : Bool :=
  (excNames.all fun x => decide (PySem.W.findIn K (.ref (He.ga K x)) "__getattribute__" = some (some (.builtin "BaseException.__getattribute__"))) &&
    decide (PySem.W.findIn K (.ref (He.ga K x)) "__getattr__" = some none) && decide (PySem.W.subIn K (.ref (He.ga K x)) (.type "BaseException") = some true) &&
    PySem.W.hasDictIn K (He.ga K x) && decide (PySem.W.findIn K (.ref (He.ga K x)) "__class__" = some (some (.builtin "object.__class__"))) &&
    decide (PySem.W.specialIn K (.builtin "object.__class__") "__get__" = some (some (.builtin "getset_descriptor.__get__"))) &&
    decide (PySem.W.takesIn K (.builtin "object.__class__") = some true) && decide (PySem.W.mroIn K (He.ga K x) (.type "object") = some true)) &&
  (excNames.all fun x => decide (PySem.W.exmOne K (.ref (He.ga K x)) (.ref (He.ga K "RoomError")) = some true)) &&
  (excNames.all fun x => excNames.all fun y => decide (PySem.W.kitOne K (.ref (He.ga K x)) (.ref (He.ga K y)) = some (decide (x = y) || decide (y = "RoomError")))) &&
  (excNames.all fun y => decide (PySem.W.kitOne K (.type "NoneType") (.ref (He.ga K y)) = some false)) 
abbrev R : PySem.W.OpenRow := PySem.W.OpenLaw.row PySem.Challenge.rw_rootrooms_k02_what_is_a_matrix
abbrev hk : PySem.W.Hook := He.hookX 5 fas dfs [] [] exB
def ob (s : PySem.W.SharedT) : He.AlX := He.obsX 5 fas dfs [] [] exB (HandSHeadRun.getT s)
theorem ob_eq (s : PySem.W.SharedT) : ob s = hk.obs s.abs := He.obsX_eq (HandSHeadRun.getT_eq s)
def looseNames : List Str := ["RoomError", "NoPrime", "NoMatrix", "NoFit", "is_whole", "is_whole_to", "GREATEST_PRIME", "is_prime", "need_prime", "MOST_ROWS", "is_matrix", "ones", "noughts", "_is_made", "_is_row", "_need_size", "_law_spread", "_law_open", "_law_anew", "_law_take", "_law_one", "_law_prime", "_law_matrix", "_law_is_matrix", "_law_bent", "_law_refused"]
theorem run (w : World) : HandSHeadRun.RunEq R (PySem.W.view R.prog [31]) hk ob 4000 looseNames w := by
  intro os
  kernel_rfl

theorem txt_of {w : World} {h : Heap} {K : PySem.W.Frag} {mg : Str → Option Value} (X : K.In h) (G : h.Ns mainGlobals mg) (c : He.SaysX fas dfs [] [] exB w h K) : Txt K mg := by
  have D : He.SaysD fas dfs K := c.t.d
  have m := c.more
  simp only [exB, Bool.and_eq_true, List.all_eq_true, decide_eq_true_eq] at m
  obtain ⟨⟨⟨m1, m2⟩, m3⟩, m4⟩ := m
  have ec : ∀ x ∈ excNames, ExcC K (He.ga K x) := by
    intro x hx
    obtain ⟨⟨⟨⟨⟨⟨⟨a1, a2⟩, a3⟩, a4⟩, a5⟩, a6⟩, a7⟩, a8⟩ := m1 x hx
    exact ⟨a1, a2, a3, a4, a5, a6, a7, a8⟩
  exact {
    g_RoomError := He.glo_ok X G (D.fact 0)
    g_NoPrime := He.glo_ok X G (D.fact 1)
    g_NoMatrix := He.glo_ok X G (D.fact 2)
    g_NoFit := He.glo_ok X G (D.fact 3)
    g_is_whole := He.glo_ok X G (D.fact 4)
    g_is_whole_to := He.glo_ok X G (D.fact 5)
    g_is_prime := He.glo_ok X G (D.fact 6)
    g_need_prime := He.glo_ok X G (D.fact 7)
    g_is_matrix := He.glo_ok X G (D.fact 8)
    g_ones := He.glo_ok X G (D.fact 9)
    g_noughts := He.glo_ok X G (D.fact 10)
    g__is_made := He.glo_ok X G (D.fact 11)
    g__is_row := He.glo_ok X G (D.fact 12)
    g__need_size := He.glo_ok X G (D.fact 13)
    g__law_spread := He.glo_ok X G (D.fact 14)
    g__law_open := He.glo_ok X G (D.fact 15)
    g__law_anew := He.glo_ok X G (D.fact 16)
    g__law_take := He.glo_ok X G (D.fact 17)
    g__law_one := He.glo_ok X G (D.fact 18)
    g__law_prime := He.glo_ok X G (D.fact 19)
    g__law_matrix := He.glo_ok X G (D.fact 20)
    g__law_is_matrix := He.glo_ok X G (D.fact 21)
    g__law_bent := He.glo_ok X G (D.fact 22)
    g__law_refused := He.glo_ok X G (D.fact 23)
    g_law := He.glo_ok X G (D.fact 24)
    f_all := He.free_ok X G (D.fact 25)
    f_bool := He.free_ok X G (D.fact 26)
    f_enumerate := He.free_ok X G (D.fact 27)
    f_int := He.free_ok X G (D.fact 28)
    f_isinstance := He.free_ok X G (D.fact 29)
    f_len := He.free_ok X G (D.fact 30)
    f_list := He.free_ok X G (D.fact 31)
    f_range := He.free_ok X G (D.fact 32)
    f_repr := He.free_ok X G (D.fact 33)
    f_str := He.free_ok X G (D.fact 34)
    f_tuple := He.free_ok X G (D.fact 35)
    c_GREATEST_PRIME := He.int_ok X G (D.fact 36)
    c_MOST_ROWS := He.int_ok X G (D.fact 37)
    x_RoomError := (He.exc_ok (D.fact 38)).1
    k_RoomError := (He.exc_ok (D.fact 38)).2.1
    b_RoomError := (He.exc_ok (D.fact 38)).2.2.1
    t_RoomError := (He.exc_ok (D.fact 38)).2.2.2
    e_RoomError := ec _ (by decide)
    x_NoPrime := (He.exc_ok (D.fact 39)).1
    k_NoPrime := (He.exc_ok (D.fact 39)).2.1
    b_NoPrime := (He.exc_ok (D.fact 39)).2.2.1
    t_NoPrime := (He.exc_ok (D.fact 39)).2.2.2
    e_NoPrime := ec _ (by decide)
    x_NoMatrix := (He.exc_ok (D.fact 40)).1
    k_NoMatrix := (He.exc_ok (D.fact 40)).2.1
    b_NoMatrix := (He.exc_ok (D.fact 40)).2.2.1
    t_NoMatrix := (He.exc_ok (D.fact 40)).2.2.2
    e_NoMatrix := ec _ (by decide)
    x_NoFit := (He.exc_ok (D.fact 41)).1
    k_NoFit := (He.exc_ok (D.fact 41)).2.1
    b_NoFit := (He.exc_ok (D.fact 41)).2.2.1
    t_NoFit := (He.exc_ok (D.fact 41)).2.2.2
    e_NoFit := ec _ (by decide)
    exm := m2
    kit := m3
    kitN := m4 }
theorem law_ok {P : Program} {w w' : World} {K : PySem.W.Frag} {h : Heap} {mg : Str → Option Value} {f : Addr} (X : K.In h) (G : h.Ns mainGlobals mg) (hfa : mg ("law" : Str) = some (.ref f)) (c : He.SaysX fas dfs [] [] exB w' h K) :
    ∃ fd : FuncData, (∀ (s : Shared) (v : Value), BindsTo s fd ⟨[v], []⟩ [("script", v)]) ∧
      ∀ base : Heap, K.In base → base.Ns mainGlobals mg → FnAt P w K mg base CX0 callerA f fd ["script"] (sp_law K) := by
  have T := txt_of X G c
  have D : He.SaysD fas dfs K := c.t.d
  obtain ⟨fd_is_whole, F_is_whole⟩ := D.def_ 0 (d := d_is_whole) rfl
  have F_is_whole : FnP K "is_whole" s_is_whole fd_is_whole := F_is_whole
  obtain ⟨fd_is_whole_to, F_is_whole_to⟩ := D.def_ 1 (d := d_is_whole_to) rfl
  have F_is_whole_to : FnP K "is_whole_to" s_is_whole_to fd_is_whole_to := F_is_whole_to
  obtain ⟨fd_is_prime, F_is_prime⟩ := D.def_ 2 (d := d_is_prime) rfl
  have F_is_prime : FnP K "is_prime" s_is_prime fd_is_prime := F_is_prime
  obtain ⟨fd_need_prime, F_need_prime⟩ := D.def_ 3 (d := d_need_prime) rfl
  have F_need_prime : FnP K "need_prime" s_need_prime fd_need_prime := F_need_prime
  obtain ⟨fd_is_matrix, F_is_matrix⟩ := D.def_ 4 (d := d_is_matrix) rfl
  have F_is_matrix : FnP K "is_matrix" s_is_matrix fd_is_matrix := F_is_matrix
  obtain ⟨fd_ones, F_ones⟩ := D.def_ 5 (d := d_ones) rfl
  have F_ones : FnP K "ones" s_ones fd_ones := F_ones
  obtain ⟨fd_noughts, F_noughts⟩ := D.def_ 6 (d := d_noughts) rfl
  have F_noughts : FnP K "noughts" s_noughts fd_noughts := F_noughts
  obtain ⟨fd__is_made, F__is_made⟩ := D.def_ 7 (d := d__is_made) rfl
  have F__is_made : FnP K "_is_made" s__is_made fd__is_made := F__is_made
  obtain ⟨fd__is_row, F__is_row⟩ := D.def_ 8 (d := d__is_row) rfl
  have F__is_row : FnP K "_is_row" s__is_row fd__is_row := F__is_row
  obtain ⟨fd__need_size, F__need_size⟩ := D.def_ 9 (d := d__need_size) rfl
  have F__need_size : FnP K "_need_size" s__need_size fd__need_size := F__need_size
  obtain ⟨fd__law_spread, F__law_spread⟩ := D.def_ 10 (d := d__law_spread) rfl
  have F__law_spread : FnP K "_law_spread" s__law_spread fd__law_spread := F__law_spread
  obtain ⟨fd__law_open, F__law_open⟩ := D.def_ 11 (d := d__law_open) rfl
  have F__law_open : FnP K "_law_open" s__law_open fd__law_open := F__law_open
  obtain ⟨fd__law_anew, F__law_anew⟩ := D.def_ 12 (d := d__law_anew) rfl
  have F__law_anew : FnP K "_law_anew" s__law_anew fd__law_anew := F__law_anew
  obtain ⟨fd__law_take, F__law_take⟩ := D.def_ 13 (d := d__law_take) rfl
  have F__law_take : FnP K "_law_take" s__law_take fd__law_take := F__law_take
  obtain ⟨fd__law_one, F__law_one⟩ := D.def_ 14 (d := d__law_one) rfl
  have F__law_one : FnP K "_law_one" s__law_one fd__law_one := F__law_one
  obtain ⟨fd__law_prime, F__law_prime⟩ := D.def_ 15 (d := d__law_prime) rfl
  have F__law_prime : FnP K "_law_prime" s__law_prime fd__law_prime := F__law_prime
  obtain ⟨fd__law_matrix, F__law_matrix⟩ := D.def_ 16 (d := d__law_matrix) rfl
  have F__law_matrix : FnP K "_law_matrix" s__law_matrix fd__law_matrix := F__law_matrix
  obtain ⟨fd__law_is_matrix, F__law_is_matrix⟩ := D.def_ 17 (d := d__law_is_matrix) rfl
  have F__law_is_matrix : FnP K "_law_is_matrix" s__law_is_matrix fd__law_is_matrix := F__law_is_matrix
  obtain ⟨fd__law_bent, F__law_bent⟩ := D.def_ 18 (d := d__law_bent) rfl
  have F__law_bent : FnP K "_law_bent" s__law_bent fd__law_bent := F__law_bent
  obtain ⟨fd__law_refused, F__law_refused⟩ := D.def_ 19 (d := d__law_refused) rfl
  have F__law_refused : FnP K "_law_refused" s__law_refused fd__law_refused := F__law_refused
  obtain ⟨fd_law, F_law⟩ := D.def_ 20 (d := d_law) rfl
  have F_law : FnP K "law" s_law fd_law := F_law
  have e := hfa.symm.trans T.g_law
  cases e
  have b := FunD.bindsA (ps := ["script"]) F_law fun _ _ _ _ _ _ us hl => match us, hl with | [_], _ => rfl
  refine ⟨fd_law, fun s v => b s [v] rfl, fun base _ _ => ?_⟩
  have H_is_whole := ok_is_whole (P := P) (w := w) (base := base) T F_is_whole
  have H__law_spread := ok__law_spread (P := P) (w := w) (base := base) T F__law_spread
  have H__law_open := ok__law_open (P := P) (w := w) (base := base) T F__law_open
  have H__law_anew := ok__law_anew (P := P) (w := w) (base := base) T F__law_anew
  have H__law_is_matrix := ok__law_is_matrix (P := P) (w := w) (base := base) T F__law_is_matrix
  have H_is_whole_to := ok_is_whole_to (P := P) (w := w) (base := base) T F_is_whole_to H_is_whole
  have H_is_prime := ok_is_prime (P := P) (w := w) (base := base) T F_is_prime H_is_whole
  have H__law_take := ok__law_take (P := P) (w := w) (base := base) T F__law_take H__law_spread
  have H_need_prime := ok_need_prime (P := P) (w := w) (base := base) T F_need_prime H_is_prime
  have H__is_row := ok__is_row (P := P) (w := w) (base := base) T F__is_row H_is_whole_to
  have H__need_size := ok__need_size (P := P) (w := w) (base := base) T F__need_size H_is_whole_to
  have H__law_one := ok__law_one (P := P) (w := w) (base := base) T F__law_one H__law_take
  have H__law_matrix := ok__law_matrix (P := P) (w := w) (base := base) T F__law_matrix H__law_take
  have H_ones := ok_ones (P := P) (w := w) (base := base) T F_ones H__need_size
  have H_noughts := ok_noughts (P := P) (w := w) (base := base) T F_noughts H__need_size
  have H__is_made := ok__is_made (P := P) (w := w) (base := base) T F__is_made H_is_whole_to H__is_row
  have H__law_prime := ok__law_prime (P := P) (w := w) (base := base) T F__law_prime H__law_one
  have H__law_bent := ok__law_bent (P := P) (w := w) (base := base) T F__law_bent H__law_take H__law_one
  have H_is_matrix := ok_is_matrix (P := P) (w := w) (base := base) T F_is_matrix H_need_prime H__is_made
  have H__law_refused := ok__law_refused (P := P) (w := w) (base := base) T F__law_refused H_is_matrix H_ones H_noughts
  exact okF_law (P := P) (w := w) (base := base) T F_law H_is_matrix H_ones H_noughts H__law_open H__law_anew H__law_take H__law_one H__law_prime H__law_matrix H__law_is_matrix H__law_bent H__law_refused
end K02
open PySem PySem.W PySem.Calls PyProof.Rows
set_option maxRecDepth 100000 in
set_option maxHeartbeats 0 in
theorem PySem.Challenge.cw_rootrooms_k02_what_is_a_matrix_holds : PySem.Challenge.rw_rootrooms_k02_what_is_a_matrix.Holds := by
  w_on; o_law
  refine HandSHeadRun.head_any (r := OpenLaw.row PySem.Challenge.rw_rootrooms_k02_what_is_a_matrix) (q := view (OpenLaw.row PySem.Challenge.rw_rootrooms_k02_what_is_a_matrix).prog [31]) (H := K02.hk) (ob := K02.ob) (M := 4000) (loose := K02.looseNames) (d := HandSHeadRun.topDef (OpenLaw.row PySem.Challenge.rw_rootrooms_k02_what_is_a_matrix).prog 31) (kwd := []) K02.ob_eq
    (by kernel_rfl) (fun s => by kernel_rfl) K02.run (by kernel_rfl) (by kernel_rfl) (by kernel_rfl) (by rfl) (by first | assumption | decide +kernel) (by decide +kernel) ⟨rfl, rfl, rfl, rfl, rfl, by decide +kernel⟩ ?hw ?hc
  case hw => w_witness2
  case hc =>
    refine XA.walk_at (l := PySem.Challenge.rw_rootrooms_k02_what_is_a_matrix) (n := 63) (x := "script") rfl (by decide) (by kernel_rfl) ?F
    intro w mg fa h Y G hmg0
    obtain ⟨K, KX, c⟩ := Y
    have hmg : mg ("law" : PySem.Str) = some (.ref fa) := by
      have e : (HandSHeadRun.topDef (OpenLaw.row PySem.Challenge.rw_rootrooms_k02_what_is_a_matrix).prog 31).name = ("law" : PySem.Str) := by kernel_rfl
      rw [← e]
      exact hmg0
    obtain ⟨fd, hb, hF⟩ := K02.law_ok (P := (PySem.Challenge.rw_rootrooms_k02_what_is_a_matrix).prog) (w := w) KX G hmg c
    exact ⟨K, fd, K02.sp_law K, KX, hb, fun H a ns hl _ hS => ⟨a, ns, rfl, hS, hl, fun _ => rfl⟩, hF⟩

