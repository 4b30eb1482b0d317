import PyProof.Rows.All
import Wide.All
import OpenK.AllK
import Wide.FinOn
import HandS.ForMost
import HandS.ForExc
import HandS.ExcInit
import HandS.ExcField
import HandS.TryMany
import HandS.IsInst
import HandS.Gcd
import HandS.Wide
import HandS.TupMul
import HandS.TupAny
import HandS.TupLe
import HandS.Deep
import HandS.Flow
import HandS.Defaults
import HandS.Evl
import HandS.More
import KE.KMathGC
import KE.KTupSum
import PySem.Challenge.RW_upforgood_k01_arrangements_and_even_part
set_option Elab.async false
set_option linter.all false
set_option maxRecDepth 100000
set_option maxHeartbeats 4000000
namespace L2.U
open PySem PySem.Spec PyProof.Rows Evl

/-! ## several except clauses, each with a name or without one -/
structure Clause where
  cls : Value
  slot : Option Nat
  rd : Addr → Value → Option Addr → TS
def afterC : Option Nat → Ends → Ends
  | none, D => D
  | some i, D => ⟨fun s h => D.nx (s.set i none) h, D.rt, fun s h => D.bk (s.set i none) h, fun s h => D.ct (s.set i none) h⟩
def holdC : Option Nat → Addr → St → St
  | none, _, s => s
  | some i, a, s => s.set i (some (.ref a))
def wishC (K : PySem.W.Frag) (Wo : WX) (D : Ends) : List Clause → WX
  | [] => Wo
  | c :: r => fun cls d s h => ∃ b, PySem.W.exmOne K cls c.cls = some b ∧
      (b = true → ∀ a, h a = none → c.rd a cls d (afterC c.slot D) (holdC c.slot a s) h) ∧ (b = false → wishC K Wo D r cls d s h)
abbrev SuiteOk (X : Cx) (body : List Stmt) (rd : Addr → Value → Option Addr → TS) : Prop :=
  ∀ (a : Addr) (o : Obj) (cls : Value) (d : Option Addr) (pn : List (Addr × Obj)), Zc cls d o → (∃ vs, o.data = .fields vs) → PSs (X.suite a ((a, o) :: pn)) body (rd a cls d)
inductive ClauseOk (X : Cx) : ExceptHandler → Clause → Prop
  | bare {x : Str} {c : Value} {rd} {b0 : Stmt} {su : List Stmt} {np p : Pos} (hc : Names X x c) (hs : SuiteOk X (b0 :: su) rd) :
      ClauseOk X (.ExceptHandler (some (.Name x np)) none (b0 :: su) p) ⟨c, none, rd⟩
  | named {x n : Str} {i : Nat} {c : Value} {rd} {b0 : Stmt} {su : List Stmt} {np p : Pos} (hN : X.N.Nodup) (hi : X.N[i]? = some n)
      (hl : X.env.kindOf n = some .local) (hc : Names X x c) (hs : SuiteOk X (b0 :: su) rd) :
      ClauseOk X (.ExceptHandler (some (.Name x np)) (some n) (b0 :: su) p) ⟨c, some i, rd⟩
inductive ClausesOk (X : Cx) : List ExceptHandler → List Clause → Prop
  | nil : ClausesOk X [] []
  | cons {h c hs cs} (a : ClauseOk X h c) (r : ClausesOk X hs cs) : ClausesOk X (h :: hs) (c :: cs)
section
variable {X : Cx} {body : List Stmt} {h0 : ExceptHandler} {hds : List ExceptHandler} {cs : List Clause} {pos : Pos} {tb : WX → TS} {Wo : WX}
theorem ps_tryC (hs : X.stack = X.env :: X.outer) (hf : X.env.frame = some X.env.locals) (tk : Takes X Wo)
    (hb : ∀ (W : WX) (pn : List (Addr × Obj)) (xe : Value → Shared → Prop), Takes (X.tr pn xe) W → PassesOwn (model X.prog X.w) X.A X.env xe → PSs (X.tr pn xe) body (tb W))
    (hh : ClausesOk X (h0 :: hds) cs) : PS X (.Try body (h0 :: hds) [] [] pos) (fun D s h => tb (wishC X.K Wo D cs) D s h) := by
  constructor
  intro pins s σ H D I h
  have ok := I.ok
  have frames : X.A.frames = some (X.env :: X.outer) := by rw [ok.frames, hs]
  refine wpAny_Try_except ?_
  let caught : Value → Shared → Prop := fun e s1 =>
    wpAny (model X.prog X.w) X.A (noteFrame e X.env) (fun _ s2 => wpAny (model X.prog X.w) X.A (setFlight e none)
      (fun _ s3 => wpAny (model X.prog X.w) X.A (handleBy e X.env (h0 :: hds)) (SP X pins D) X.xe s3) X.xe s2) X.xe s1
  have takesB : Takes (X.tr (X.pn ++ pins) caught) (wishC X.K Wo D cs) := by
    rintro u s' ⟨a, B, sI, pins', σ', H', cls, d, rfl, J0, nb, up, sky, na, os, ag, w⟩
    have J : Inv X pins σ' H' sI := J0.ofTry ok
    have sky1 : Sky B (X.env :: X.outer) a (Zc cls d) X.env.locals s'.heap := hs ▸ sky
    show wpAny _ X.A (noteFrame (.ref a) X.env) _ _ _
    refine Sky.land Zc.steady frames hf sky1 fun h3 fl up3 => ?_
    have J3 : Inv X pins σ' H' { s' with heap := h3 } := J.landed nb fl.1 (up.trans up3) os ag
    obtain ⟨o3, v3, g3, z3, d3⟩ := fl.there
    have out : a ∉ frs (X.env :: X.outer) := by
      intro hm
      obtain ⟨_, o', e', no⟩ := fl.2.2.1.mem hm
      rw [g3] at e'
      cases e'
      exact no _ d3
    have nL : a ≠ X.env.locals := by
      intro z
      exact out (List.mem_filterMap.mpr ⟨X.env, List.mem_cons_self, z ▸ hf⟩)
    have nF : a ∉ X.fs := by
      intro hm
      obtain ⟨e, he, q⟩ := List.mem_filterMap.mp hm
      exact out (List.mem_filterMap.mpr ⟨e, List.mem_cons_of_mem _ he, q⟩)
    have S3 := J3.suite g3 d3 na nL nF
    have ty : PySem.W.Looks (model X.prog X.w) h3 (typeOf (.ref a)) cls := fun A Q E t k q => wpAny_typeOf_ref (k _ _ g3) (by rw [z3.1]; exact q)
    have asked : ∀ {x : Str} {c : Value} {np : Pos} {Q E : Value → Shared → Prop}, Names X x c → Q c { s' with heap := h3 } →
        wpAny (model X.prog X.w) (X.A.mark (some (.ref a))) (eval (.Name x np) X.env) Q E { s' with heap := h3 } := by
      rintro x c np Q E ⟨hg, hd, hm | ⟨hm, hv, hn⟩⟩ q
      · exact ld_glob (X := X.suite a ((a, o3) :: (X.pn ++ pins))) S3 hg hm q hd
      · exact ld_blt (X := X.suite a ((a, o3) :: (X.pn ++ pins))) S3 hg hm hv q hn hd
    have run : ∀ {l : List ExceptHandler} {k : List Clause}, ClausesOk X l k → wishC X.K Wo D k cls d σ' H' →
        wpAny (model X.prog X.w) X.A (handleBy (.ref a) X.env l) (SP X pins D) X.xe { s' with heap := h3 } := by
      intro l k hk
      induction hk with
      | nil =>
        intro w
        refine wpAny_handleBy_nil ?_
        obtain ⟨_, _, _, oe, vs, T, oT, ts, he, _, hd, h1, _⟩ := id fl
        unfold PySem.passOn
        refine wpAny_bind (wpAny_field he hd h1 ?_)
        rw [if_neg (by simp : ¬ ((Value.ref T == Value.none) = true))]
        have up : wpAny (model X.prog X.w) X.A (setFlight (.ref a) X.env.frame)
            (fun _ t => wpAny (model X.prog X.w) X.A (throw (.ref a) : Sem Flow) (SP X pins D) X.xe t) X.xe { s' with heap := h3 } := by
          rw [hf]
          refine HandSPX.setFlight_upZ fl fun h4 hh4 up4 => wpAny_throw (tk _ _ ?_)
          refine ⟨a, B, sI, pins, σ', H', cls, d, rfl, J, nb, (up.trans up3).trans up4, .inr (.inr ?_), na, os, ag, w⟩
          rw [hs]
          exact hh4
        first
          | exact wpAny_bind (wpAny_pure (wpAny_bind up))
          | exact wpAny_bind up
      | @cons h1 c hs1 cs1 hc1 _ ih =>
        rintro ⟨b, mb, yes, no⟩
        have LM := PySem.W.exm_one (M := model X.prog X.w) J3.kIn ty mb
        cases hc1 with
        | @bare x c rd b0 su np p hc hsu =>
          refine wpAny_handleBy_cons (codeAny_handlers_test ?_) (by intro q; cases q)
          refine asked hc (LM.here ?_)
          cases b with
          | false => exact ih (no rfl)
          | true =>
            refine codeAny_handlers_suite (HandSPX.lands_againZ fl fun h4 fl4 up4 => ?_)
            have J4 : Inv X pins σ' H' { s' with heap := h4 } := J.landed nb fl4.1 ((up.trans up3).trans up4) os ag
            obtain ⟨o4, v4, g4, z4, d4⟩ := fl4.there
            refine wpAny_mono ((hsu a o4 cls d (X.pn ++ pins) z4 ⟨_, d4⟩).run [] _ _ H' _ (J4.suite g4 d4 na nL nF) (yes rfl a na)) ?_ (fun _ _ z => False.elim z)
            intro f s6 sp
            cases f with
            | ret u => obtain ⟨v6, σ6, H6, S6, r6, q6⟩ := sp; exact ⟨_, _, _, S6.unsuite ok, r6, q6⟩
            | next => obtain ⟨σ6, H6, S6, q6⟩ := sp; exact ⟨_, _, S6.unsuite ok, q6⟩
            | brk => obtain ⟨σ6, H6, S6, q6⟩ := sp; exact ⟨_, _, S6.unsuite ok, q6⟩
            | cont => obtain ⟨σ6, H6, S6, q6⟩ := sp; exact ⟨_, _, S6.unsuite ok, q6⟩
        | @named x n i c rd b0 su np p hN hi hl hc hsu =>
          refine wpAny_handleBy_cons (codeAny_handlers_test ?_) (by intro q; cases q)
          refine asked hc (LM.here ?_)
          cases b with
          | false => exact ih (no rfl)
          | true =>
            refine codeAny_handlers_suite_as (HandSPX.lands_againZ fl fun h4 fl4 up4 => ?_)
            have J4 : Inv X pins σ' H' { s' with heap := h4 } := J.landed nb fl4.1 ((up.trans up3).trans up4) os ag
            obtain ⟨o4, v4, g4, z4, d4⟩ := fl4.there
            refine store_ok (X := X.suite a ((a, o4) :: (X.pn ++ pins))) (v := .ref a) (J4.suite g4 d4 na nL nF) hN hi (.inl hl) rfl (fun s5 S5 => ?_) (.inr hl)
            refine wpAny_mono ((hsu a o4 cls d (X.pn ++ pins) z4 ⟨_, d4⟩).run [] s5 _ H' _ S5 (yes rfl a na)) ?_ (fun _ _ z => False.elim z)
            intro f s6 sp
            have gone : ∀ {σ6 : St} {H6 : Hp} {Q : Shared → Prop}, Inv (X.suite a ((a, o4) :: (X.pn ++ pins))) [] σ6 H6 s6 → (∀ t, Inv X pins (σ6.set i none) H6 t → Q t) →
                wpAny (model X.prog X.w) X.A (do bindName X.env n .none; unbindBehindTheSuite X.env n p) (fun _ t => Q t) X.xe s6 := fun S6 hq => gone_ok (S6.unsuite ok) hN hi hl hq
            cases f with
            | ret u => obtain ⟨v6, σ6, H6, S6, r6, q6⟩ := sp; exact gone S6 fun t J7 => ⟨_, _, _, J7, r6, q6⟩
            | next => obtain ⟨σ6, H6, S6, q6⟩ := sp; exact gone S6 fun t J7 => ⟨_, _, J7, q6⟩
            | brk => obtain ⟨σ6, H6, S6, q6⟩ := sp; exact gone S6 fun t J7 => ⟨_, _, J7, q6⟩
            | cont => obtain ⟨σ6, H6, S6, q6⟩ := sp; exact gone S6 fun t J7 => ⟨_, _, J7, q6⟩
    exact run hh w
  refine wpAny_mono ((hb (wishC X.K Wo D cs) (X.pn ++ pins) caught takesB PassesOwn.looking).run [] s σ H D (I.toTry _) h) ?_ (fun e s1 he => he)
  intro f s1 sp
  cases f with
  | ret u => obtain ⟨v, σ', H', J', r, q⟩ := sp; exact ⟨v, σ', H', J'.ofTry ok, r, q⟩
  | next => obtain ⟨σ', H', J', q⟩ := sp; exact wpAny_execs_nil ⟨σ', H', J'.ofTry ok, q⟩
  | brk => obtain ⟨σ', H', J', q⟩ := sp; exact ⟨σ', H', J'.ofTry ok, q⟩
  | cont => obtain ⟨σ', H', J', q⟩ := sp; exact ⟨σ', H', J'.ofTry ok, q⟩
end

/-! ## f(k = v, ..): keywords alone -/
def tCallKw (sp : Sp) (pm : List V → List V) (E : St → XK) (tk : TA) : TE := fun σ H Q => tk σ H fun zs H1 => sp (pm zs) H1 Q (E σ)
section
variable {X : Cx} {CX : CXT} {k : Nat} {f : Addr} {fd : FuncData} {ps ks : List Str} {sp : Sp} {E : St → XK} {x : Str} {p pos : Pos} {kws : List Keyword} {tk : TA}
  {g : List Value → List Value → List Value} {gV : List V → List V → List V}
theorem pe_callKw (F : FnOk X.prog X.w X.K X.mg X.base CX k f fd ps sp) (hr : Room k X.A) (hg : Gl X x) (hm : X.mg x = some (.ref f)) (hk : PySem.W.keepIn X.K (.ref f) = true)
    (hb : KBinds X.K fd ps ks g gV) (hx : ∀ σ, PassesAt CX X σ (E σ)) (hkw : PK X kws tk)
    (hall : (backToKw pos (keywordEach kws X.env)).all (·.1.isSome) = true := by rfl) (hks : (backToKw pos (keywordEach kws X.env)).filterMap (·.1) = ks := by rfl)
    (hdb : (x == ("__debug__" : Str)) = false := by decide)
    (hpl : ((backTo pos (starEach [] X.env)).any (·.1) || (backToKw pos (keywordEach kws X.env)).any (·.1.isNone)) = false := by rfl) :
    PE X (.Call (.Name x p) [] kws pos) (tCallKw sp (gV []) E tk) := by
  constructor
  intro pins s σ H Q I h
  refine wpAny_Call_Name_kw (ld_glob I hg hm ?_ hdb)
  refine PySem.W.callWith_KW0 (h₀ := X.base) I.ok.mod.kin hk hall (thn (hkw.run pos pins s σ H _ I h) ?_) hpl
  rintro ws s2 ⟨zs, H2, I2, rz, q2⟩
  refine ⟨I2.kIn, ?_⟩
  rw [hks]
  have r2 : Vals (gV [] zs) (g [] ws) := hb.rel .nil rz
  have hl : (g [] ws).length = ps.length := by rw [← r2.length]; exact F.len _ _ _ _ q2
  refine wpAny_call (codeAny_mono (F.run X.A X.stack s2 H2 ⟨[], ks.zip ws⟩ (g [] ws) (gV [] zs) Q (E σ) hr I2.env0 (hb.to s2 [] ws I2.kIn hl) r2 q2) ?_)
  intro r s' hq
  cases r with
  | error e => exact hx σ pins H2 s2 e s' I2 hq
  | ok fl => cases fl with
    | ret u => exact I2.after hq
    | next => exact False.elim hq
    | brk => exact False.elim hq
    | cont => exact False.elim hq
end

/-! ## math.comb, and tuple * int with few turns -/
section
variable {X : Cx}
def rComb : List V → Hp → VK → Prop := fun vs H Q => ∃ a b : Int, vs = [.int a, .int b] ∧ 0 ≤ a ∧ a ≤ 1000 ∧ 0 ≤ b ∧ b ≤ 1000 ∧ Q (.int (PySem.W.mcComb a b)) H
theorem cr_comb : CallR X (.builtin "math.comb") rComb := by
  intro pins s σ H vs us Q I r h
  obtain ⟨a, b, rfl, h1, h2, h3, h4, q⟩ := h
  obtain ⟨u1, u2, rfl, r1, r2⟩ := vals2 r
  obtain ⟨t, rfl⟩ := r1
  obtain ⟨u, rfl⟩ := r2
  exact PySem.W.mc_comb h1 h3 (by omega) (by omega) fun _ => ⟨.int _, H, I.tok _, ⟨_, rfl⟩, q⟩
end

/-! ## sum of a list or a tuple of ints; x *= y of great ints; a for over a list or a tuple -/
section
variable {X : Cx}
def rSumS (K : PySem.W.Frag) : List V → Hp → VK → Prop := fun vs H Q => ∃ (a : Addr) (ns : List Int), vs = [V.ref a] ∧ (SqL K H a (ns.map V.int) ∨ SqT K H a (ns.map V.int)) ∧ Q (.int ns.sum) H
theorem cr_sumS (hc : X.calm = true) : CallR X (.builtin "sum") (rSumS X.K) := by
  intro pins s σ H vs us Q I r h
  obtain ⟨a, ns, e, hs | hs, q⟩ := h
  · exact cr_sum hc pins s σ H vs us Q I r ⟨a, ns, e, hs, q⟩
  · subst e
    obtain ⟨its, rv, hl, _⟩ := I.tuple hs
    rw [Vals.ref1 r]
    have hi := rv.ints
    have hl2 : s.heap.IsTuple a its.toArray := hl
    obtain ⟨xs, ex⟩ := hi.allInts.items
    have hn : numsOf (intItems xs).toList = ns := by rw [← ex]; exact hi.numsOf
    rw [nums_intItems] at hn
    rw [ex] at hl2
    refine PySem.W.ktm_sumG (I.ok.hd hc) hl2 fun h' tk t' hk => ?_
    rw [preSum_eq, List.take_of_length_le (by simp), hn]
    exact ⟨.int _, H, I.kept hk, ⟨_, rfl⟩, q⟩
theorem ip_mulC : PIp X .Mult (fun x y H Q => ∃ i j, x = .int i ∧ y = .int j ∧ CMul i j ∧ Q (.int (i * j)) H) := by
  intro pins s σ H x y v u Q I r1 r2 h
  obtain ⟨i, j, rfl, rfl, hc, q⟩ := h
  obtain ⟨t, rfl⟩ := r1
  obtain ⟨t', rfl⟩ := r2
  exact imul_int ⟨.int _, H, I.tok _, ⟨_, rfl⟩, q⟩ hc.ok
def iSeq (K : PySem.W.Frag) (tl : TE) : TI := fun σ H R => iList K tl σ H R ∨ iTup K tl σ H R
theorem pi_seq {tg l : Expr} {tl : TE} (hl : PE X l tl) : PI X tg l (iSeq X.K tl) := by
  constructor
  intro pins s σ H R I h
  rcases h with h | h
  · exact (pi_list hl).run pins s σ H R I h
  · exact (pi_tup hl).run pins s σ H R I h
end

/-! ## how keywords bind -/
def kw1 {α : Type} : List α → List α → List α
  | [], [a] => [a]
  | _, _ => []
def kw12 {α : Type} : List α → List α → List α
  | [], [a, b] => [a, b]
  | _, _ => []
def kw21 {α : Type} : List α → List α → List α
  | [], [a, b] => [b, a]
  | _, _ => []
theorem kw1_rel {vs : List V} {us : List Value} {zs : List V} {ws : List Value} (r : Vals vs us) (t : Vals zs ws) : Vals (kw1 vs zs) (kw1 us ws) := by
  cases r with
  | cons _ _ => exact .nil
  | nil => cases t with
    | nil => exact .nil
    | cons a t => cases t with
      | nil => exact .cons a .nil
      | cons _ _ => exact .nil
theorem kw12_rel {vs : List V} {us : List Value} {zs : List V} {ws : List Value} (r : Vals vs us) (t : Vals zs ws) : Vals (kw12 vs zs) (kw12 us ws) := by
  cases r with
  | cons _ _ => exact .nil
  | nil => cases t with
    | nil => exact .nil
    | cons a t => cases t with
      | nil => exact .nil
      | cons b t => cases t with
        | nil => exact .cons a (.cons b .nil)
        | cons _ _ => exact .nil
theorem kw21_rel {vs : List V} {us : List Value} {zs : List V} {ws : List Value} (r : Vals vs us) (t : Vals zs ws) : Vals (kw21 vs zs) (kw21 us ws) := by
  cases r with
  | cons _ _ => exact .nil
  | nil => cases t with
    | nil => exact .nil
    | cons a t => cases t with
      | nil => exact .nil
      | cons b t => cases t with
        | nil => exact .cons b (.cons a .nil)
        | cons _ _ => exact .nil
theorem kb1 {K : PySem.W.Frag} {x qual : Str} {st : Stmt} {f : Addr} {fd : FuncData} {p k : Str} (F : Fun K x qual st f fd)
    (h : ∀ (kV doc pm : Value) (an : Option Addr) (cdv ct : Value) (u : Value), bindArgs (PySem.W.fnOf x qual (defArgs st) (defBody st) (defScope st) .none kV doc pm an cdv ct) ⟨[], [(k, u)]⟩ = pure [(p, u)]) : KBinds K fd [p] [k] kw1 kw1 := by
  obtain ⟨oc, od, kV, doc, pm, an, cdv, ct, osl, rfl, lk, hcd⟩ := F.ex
  refine ⟨fun s us ws _ hl => ?_, kw1_rel⟩
  match us, ws, hl with
  | [], [u], _ => exact .of_eq (h kV doc pm an cdv ct u)
theorem kb12 {K : PySem.W.Frag} {x qual : Str} {st : Stmt} {f : Addr} {fd : FuncData} {p q k l : Str} (F : Fun K x qual st f fd)
    (h : ∀ (kV doc pm : Value) (an : Option Addr) (cdv ct : Value) (u w : Value), bindArgs (PySem.W.fnOf x qual (defArgs st) (defBody st) (defScope st) .none kV doc pm an cdv ct) ⟨[], [(k, u), (l, w)]⟩ = pure [(p, u), (q, w)]) : KBinds K fd [p, q] [k, l] kw12 kw12 := by
  obtain ⟨oc, od, kV, doc, pm, an, cdv, ct, osl, rfl, lk, hcd⟩ := F.ex
  refine ⟨fun s us ws _ hl => ?_, kw12_rel⟩
  match us, ws, hl with
  | [], [u, w], _ => exact .of_eq (h kV doc pm an cdv ct u w)
theorem kb21 {K : PySem.W.Frag} {x qual : Str} {st : Stmt} {f : Addr} {fd : FuncData} {p q k l : Str} (F : Fun K x qual st f fd)
    (h : ∀ (kV doc pm : Value) (an : Option Addr) (cdv ct : Value) (u w : Value), bindArgs (PySem.W.fnOf x qual (defArgs st) (defBody st) (defScope st) .none kV doc pm an cdv ct) ⟨[], [(k, u), (l, w)]⟩ = pure [(p, w), (q, u)]) : KBinds K fd [p, q] [k, l] kw21 kw21 := by
  obtain ⟨oc, od, kV, doc, pm, an, cdv, ct, osl, rfl, lk, hcd⟩ := F.ex
  refine ⟨fun s us ws _ hl => ?_, kw21_rel⟩
  match us, ws, hl with
  | [], [u, w], _ => exact .of_eq (h kV doc pm an cdv ct u w)

/-! ## tuple * int -/
theorem tmul0 (l : Addr) (items : Array Value) (n : Nat) (dd : Option Addr) (sl : Array (Option Value)) (u : Tok) (hne : items.isEmpty = false) :
    Meets (Builtin.«tuple.__mul__» ⟨[.ref l, .int 0 u], []⟩) (fun _ R s => s.heap.get? l = some { cls := .type "tuple", dict := dd, data := .seq items n, slots := sl } ∧
      R (.ok (.ret (Value.ref s.heap.objs.size))) { s with heap := s.heap.push { cls := Value.type "tuple", data := Data.seq #[] } }) :=
  .of_wp fun prog w A R s h => by
    obtain ⟨hp, g, d, tk, os⟩ := s
    obtain ⟨hl, h⟩ := h
    have f1 := AutoSeq1.idx_int
    have c1 : (items.isEmpty || (0 : Int) == 1) = false := by rw [hne]; rfl
    wp_walk using wpAny_loadPart' hl
    exact ⟨_, rfl, h⟩
theorem tmul1 (l : Addr) (items : Array Value) (n : Nat) (dd : Option Addr) (sl : Array (Option Value)) (u : Tok) (hne : items.isEmpty = false) :
    Meets (Builtin.«tuple.__mul__» ⟨[.ref l, .int 1 u], []⟩) (fun _ R s => s.heap.get? l = some { cls := .type "tuple", dict := dd, data := .seq items n, slots := sl } ∧
      R (.ok (.ret (Value.ref l))) s) :=
  .of_wp fun prog w A R s h => by
    obtain ⟨hp, g, d, tk, os⟩ := s
    obtain ⟨hl, h⟩ := h
    have f1 := AutoSeq1.idx_int
    wp_walk using wpAny_loadPart' hl
    exact ⟨_, rfl, h⟩

def rRepA (K : PySem.W.Frag) : R2 := fun x y H Q => ∃ (l : Addr) (k : Int) (xs : List V), x = .ref l ∧ y = .int k ∧ SqT K H l xs ∧ xs ≠ [] ∧ 0 ≤ k ∧ k ≤ 1000 ∧ xs.length ≤ 1000 ∧
  ∀ p H', Ex H H' → SqT K H' p (List.replicate k.toNat xs).flatten → Q (.ref p) H'
theorem op_repA {X : Cx} : OpR X (binaryOp .Mult) (rRepA X.K) := by
  intro pins s σ H x y v u Q I rx ry h
  obtain ⟨l, k, xs, rfl, rfl, hT, hne, h0, h1, hz, q⟩ := h
  by_cases h2 : 2 ≤ k
  · exact op_repT pins s σ H (.ref l) (.int k) v u Q I rx ry ⟨l, k, xs, rfl, rfl, hT, hne, h2, h1, hz, fun p hp => q p _ (Ex.new hp) (st_of upd_same)⟩
  · cases rx
    obtain ⟨t, rfl⟩ := ry
    obtain ⟨its, r, ⟨⟨cls, dd, data, sl⟩, ho, hc, n, hd⟩, hs⟩ := I.tuple hT
    simp only at hc hd
    subst hc hd
    have hle : its.length = xs.length := r.length.symm
    have hi : its.toArray.isEmpty = false := by
      cases its with
      | nil => exact absurd (List.eq_nil_of_length_eq_zero hle.symm) hne
      | cons a b => rfl
    rcases (by omega : k = 0 ∨ k = 1) with rfl | rfl
    · refine wpAny_binaryOp_repeat_ref (T := "tuple") (U := "int") (by decide) ⟨_, ho, rfl⟩ (fun s' => typeIs_int s' 0 t) noFill_tuple_mul F.fills_int_mul F.slot_int_rmul repeat_tuple F.slot_int_index.lookup
        (call_meets F.slot_int_rmul (typeIs_int s 0 t) F.entry_int_rmul (F.args_int_rmul_2 _ _) (int_rmul_tuple 0 t l its.toArray n dd sl)
          ⟨ho, rfl, ⟨_, ho, rfl⟩, call_meets F.slot_tuple_mul ⟨_, ho, rfl⟩ F.entry_tuple_mul (F.args_tuple_mul_2 _ _) (tmul0 l its.toArray n dd sl t hi) ⟨ho, ?_⟩⟩)
      refine ⟨.ref s.heap.objs.size, _, I.laid (t' := s.toks) (o := .tup []) (fun b ob e => Heap.get?_push_of_some _ e) (Nat.le_refl _) ?_, rfl, q _ _ (Ex.new (I.hok.fresh (Nat.le_refl _))) (st_of upd_same)⟩
      exact ⟨Nat.zero_le _, [], .nil, IsTup.new _ _⟩
    · refine wpAny_binaryOp_repeat_ref (T := "tuple") (U := "int") (by decide) ⟨_, ho, rfl⟩ (fun s' => typeIs_int s' 1 t) noFill_tuple_mul F.fills_int_mul F.slot_int_rmul repeat_tuple F.slot_int_index.lookup
        (call_meets F.slot_int_rmul (typeIs_int s 1 t) F.entry_int_rmul (F.args_int_rmul_2 _ _) (int_rmul_tuple 1 t l its.toArray n dd sl)
          ⟨ho, rfl, ⟨_, ho, rfl⟩, call_meets F.slot_tuple_mul ⟨_, ho, rfl⟩ F.entry_tuple_mul (F.args_tuple_mul_2 _ _) (tmul1 l its.toArray n dd sl t hi) ⟨ho, ?_⟩⟩)
      refine ⟨.ref l, H, I, rfl, q _ _ (Ex.refl H) ?_⟩
      have e : (List.replicate (Int.toNat 1) xs).flatten = xs := by simp
      rw [e]
      exact hT

/-! ## a def of the text, in one bundle -/
structure DefAt (K : PySem.W.Frag) (mg : Str → Option Value) (x : Str) (st : Stmt) (ps : List Str) where
  a : Addr
  fd : FuncData
  F : Fun K x x st a fd
  m : mg x = some (.ref a)
  b : Binds K fd ps []
theorem pass0At {X : Cx} {σ : St} : PassesAt CX0 X σ E0 := fun _ _ _ _ _ _ h => h.elim

/-! ## heaps: all but one object stands -/
def But (b : Addr) (H H' : Hp) : Prop := ∀ a o, a ≠ b → H a = some o → H' a = some o
theorem But.of {b : Addr} {H H' : Hp} (e : Ex H H') : But b H H' := fun a o _ h => e a o h
theorem But.trans {b : Addr} {H H1 H2 : Hp} (x : But b H H1) (y : But b H1 H2) : But b H H2 := fun a o n h => y a o n (x a o n h)
theorem But.ex {b : Addr} {H H1 H2 : Hp} (x : But b H H1) (y : Ex H1 H2) : But b H H2 := fun a o n h => y a o (x a o n h)
theorem But.pre {b : Addr} {H H1 H2 : Hp} (x : Ex H H1) (y : But b H1 H2) : But b H H2 := fun a o n h => y a o n (x a o h)
theorem But.upd {b : Addr} {H : Hp} {o : HO} : But b H (upd H b o) := fun a u n h => by rw [upd_ne n]; exact h
theorem But.none {b p : Addr} {H H' : Hp} {o : HO} (x : But b H H') (hb : H b = some o) (h : H' p = none) : p ≠ b → H p = none := fun n => by
  cases e : H p with
  | none => rfl
  | some u => rw [x p u n e] at h; cases h
theorem ne_new {H : Hp} {p b : Addr} {o : HO} (h : H p = none) (hb : H b = some o) : p ≠ b := fun e => by rw [e, hb] at h; cases h
/-- what is frozen or written stands whatever happens to b; a tracked list that is no b, too -/
theorem But.sql {K : PySem.W.Frag} {b a : Addr} {H H' : Hp} {xs : List V} (x : But b H H') (n : a ≠ b) (h : SqL K H a xs) : SqL K H' a xs := by
  rcases h with (h | ⟨o, h⟩) | h
  · exact .inl (.inl (x _ _ n h))
  · exact .inl (.inr ⟨o, x _ _ n h⟩)
  · exact .inr h
theorem But.sqt {K : PySem.W.Frag} {b a : Addr} {H H' : Hp} {xs : List V} (x : But b H H') (n : a ≠ b) (h : SqT K H a xs) : SqT K H' a xs := by
  rcases h with (h | ⟨o, h⟩) | h
  · exact .inl (.inl (x _ _ n h))
  · exact .inl (.inr ⟨o, x _ _ n h⟩)
  · exact .inr h

/-! ## the box of draws: digits, flag, seed, count; n draws are left -/
def BoxAt (H : Hp) (b : Addr) (n : Nat) : Prop := ∃ (d m c : Int) (f : Bool), H b = some (.lst [.int d, .bl f, .int m, .int c]) ∧ 0 ≤ d ∧ 0 ≤ m ∧ m < 2147483648 ∧ 0 ≤ c ∧ c + n ≤ 1000000
theorem BoxAt.some {H : Hp} {b : Addr} {n : Nat} (h : BoxAt H b n) : ∃ o, H b = some o := by
  obtain ⟨d, m, c, f, h, _⟩ := h
  exact ⟨_, h⟩
theorem BoxAt.le {H : Hp} {b : Addr} {n k : Nat} (h : BoxAt H b n) (l : k ≤ n) : BoxAt H b k := by
  obtain ⟨d, m, c, f, h, h1, h2, h3, h4, h5⟩ := h
  exact ⟨d, m, c, f, h, h1, h2, h3, h4, by omega⟩
theorem BoxAt.ex {H H' : Hp} {b : Addr} {n : Nat} (h : BoxAt H b n) (e : Ex H H') : BoxAt H' b n := by
  obtain ⟨d, m, c, f, h, r⟩ := h
  exact ⟨d, m, c, f, e _ _ h, r⟩
theorem BoxAt.ne {H : Hp} {b p : Addr} {n : Nat} (h : BoxAt H b n) (hp : H p = none) : p ≠ b := by
  obtain ⟨d, m, c, f, h, _⟩ := h
  exact ne_new hp h
def spCell (K : PySem.W.Frag) : Sp := fun vs H Q _ => ∃ (a : Addr) (ns : List Int) (k : Int), vs = [.ref a, .int k] ∧ SqL K H a (ns.map V.int) ∧ 0 ≤ k ∧ k ≤ 1000 ∧ ∀ (v : Int) H', Ex H H' → Q (.int v) H'
def spBox : Sp := fun vs H Q _ => ∃ g : Int, vs = [.int g] ∧ ∀ p H', H p = none → Ex H H' → BoxAt H' p 1000000 → Q (.ref p) H'
def spTake : Sp := fun vs H Q _ => ∃ (b : Addr) (m : Int) (n : Nat), vs = [.ref b, .int m] ∧ 0 < m ∧ m < 1073741824 ∧ BoxAt H b (n + 1) ∧
  ∀ r H', 0 ≤ r → r < m → BoxAt H' b n → But b H H' → Q (.int r) H'

/-! ## types of data -/
theorem tyL {K : PySem.W.Frag} {H : Hp} {a : Addr} {xs : List V} (h : SqL K H a xs) : TyX K H (.ref a) (.type "list") := by
  rcases h with (h | ⟨o, h⟩) | ⟨o, its, n, hk, hc, _⟩
  · exact .base (.lst h)
  · exact .base (.frz h)
  · exact .kList hk hc
theorem tyT {K : PySem.W.Frag} {H : Hp} {a : Addr} {xs : List V} (h : SqT K H a xs) : TyX K H (.ref a) (.type "tuple") := by
  rcases h with (h | ⟨o, h⟩) | ⟨o, its, n, hk, hc, _⟩
  · exact .base (.tup h)
  · exact .fTuple h
  · exact .kTuple hk hc
/-- two values that hold the same, at most n lists and tuples within one another -/
inductive Sm (K : PySem.W.Frag) (H : Hp) : Nat → V → V → Prop
  | non {n} : Sm K H n .non .non
  | bl {n} (b : Bool) : Sm K H n (.bl b) (.bl b)
  | int {n} (i : Int) : Sm K H n (.int i) (.int i)
  | str {n} (z : Str) (h : z.length ≤ 1000) : Sm K H n (.str z) (.str z)
  | lst {n} {a b : Addr} {xs ys : List V} (h1 : SqL K H a xs) (h2 : SqL K H b ys) (hl : xs.length = ys.length) (hz : xs.length ≤ 1000)
      (all : ∀ (i : Nat) (x y : V), xs[i]? = some x → ys[i]? = some y → Sm K H n x y) : Sm K H (n + 1) (.ref a) (.ref b)
  | tup {n} {a b : Addr} {xs ys : List V} (h1 : SqT K H a xs) (h2 : SqT K H b ys) (hl : xs.length = ys.length) (hz : xs.length ≤ 1000)
      (all : ∀ (i : Nat) (x y : V), xs[i]? = some x → ys[i]? = some y → Sm K H n x y) : Sm K H (n + 1) (.ref a) (.ref b)
theorem Sm.ex {K : PySem.W.Frag} {H H' : Hp} (e : Ex H H') {n : Nat} {x y : V} (h : Sm K H n x y) : Sm K H' n x y := by
  induction h with
  | non => exact .non
  | bl b => exact .bl b
  | int i => exact .int i
  | str z h => exact .str z h
  | lst h1 h2 hl hz _ ih => exact .lst (ex_l e h1) (ex_l e h2) hl hz ih
  | tup h1 h2 hl hz _ ih => exact .tup (ex_t e h1) (ex_t e h2) hl hz ih
theorem Sm.succ {K : PySem.W.Frag} {H : Hp} {n : Nat} {x y : V} (h : Sm K H n x y) : Sm K H (n + 1) x y := by
  induction h with
  | non => exact .non
  | bl b => exact .bl b
  | int i => exact .int i
  | str z h => exact .str z h
  | lst h1 h2 hl hz _ ih => exact .lst h1 h2 hl hz ih
  | tup h1 h2 hl hz _ ih => exact .tup h1 h2 hl hz ih
theorem Sm.le {K : PySem.W.Frag} {H : Hp} {n m : Nat} {x y : V} (h : Sm K H n x y) (l : n ≤ m) : Sm K H m x y := by
  induction l with
  | refl => exact h
  | step _ ih => exact ih.succ
theorem Sm.ints {K : PySem.W.Frag} {H : Hp} {n : Nat} {ns : List Int} : ∀ (i : Nat) (x y : V), (ns.map V.int)[i]? = some x → (ns.map V.int)[i]? = some y → Sm K H n x y := by
  intro i x y h1 h2
  rw [h1] at h2
  cases h2
  rw [List.getElem?_map] at h1
  cases e : ns[i]? with
  | none => rw [e] at h1; cases h1
  | some z => rw [e] at h1; cases h1; exact .int z
def spSame (K : PySem.W.Frag) (n : Nat) : Sp := fun vs H Q _ => ∃ x y, vs = [x, y] ∧ Sm K H n x y ∧ ∀ H', Ex H H' → Q (.bl true) H'
theorem cut_one {z : Str} {k : Nat} {c : Nat} (h : z.cps.toList[k]? = some c) : cutS z (some (k : Int)) (some ((k : Int) + 1)) = ⟨#[c]⟩ := by
  have hk := (List.getElem?_eq_some_iff.mp h).1
  have hz : z.cps.toList.length = z.length := Array.length_toList
  unfold cutS
  have e : ((k : Int) + 1) = ((k + 1 : Nat) : Int) := by omega
  rw [e, HT.sIx_nat, HT.sIx_nat, Nat.min_eq_left (by omega), Nat.min_eq_left (by omega)]
  have e2 : k + 1 - k = 1 := by omega
  rw [e2, List.drop_eq_getElem_cons hk]
  have e3 := (List.getElem?_eq_some_iff.mp h).2
  simp [e3]

/-! ## the rules whose reading speaks of the written part, with it named (within a comprehension's block) -/
section
variable {X : Cx}
def rLen (K : PySem.W.Frag) : List V → Hp → VK → Prop := fun xs H Q => ∃ x n, xs = [x] ∧ LenV K x H n ∧ Q (.int (n : Nat)) H
def rListOf (K : PySem.W.Frag) : List V → Hp → VK → Prop := fun xs H Q => ∃ p ys, xs = [.ref p] ∧ (SqL K H p ys ∨ SqT K H p ys) ∧ ∀ l, H l = none → Q (.ref l) (upd H l (.lst ys))
def rTupOf (K : PySem.W.Frag) : List V → Hp → VK → Prop := fun xs H Q => ∃ p ys, xs = [.ref p] ∧ ((SqL K H p ys ∧ ∀ l, H l = none → Q (.ref l) (upd H l (.tup ys))) ∨ (SqT K H p ys ∧ Q (.ref p) H))
theorem kix (K : PySem.W.Frag) (h : X.K = K := by rfl) : IxR X (rIx K) := by subst h; exact ix_seq
theorem kixl (K : PySem.W.Frag) (h : X.K = K := by rfl) : IxR X (rIxL K) := by subst h; exact ix_list
theorem kixt (K : PySem.W.Frag) (h : X.K = K := by rfl) : IxR X (rIxT K) := by subst h; exact ix_tup
theorem klen (K : PySem.W.Frag) (h : X.K = K := by rfl) : CallR X (.builtin "len") (rLen K) := by subst h; exact call_len
theorem klist (K : PySem.W.Frag) (h : X.K = K := by rfl) : CallR X (.type "list") (rListOf K) := by subst h; exact call_list_of
theorem ktuple (K : PySem.W.Frag) (h : X.K = K := by rfl) : CallR X (.type "tuple") (rTupOf K) := by subst h; exact call_tuple_of
theorem kisi (K : PySem.W.Frag) (h : X.K = K := by rfl) : CallR X (.builtin "isinstance") (rIsi K) := by subst h; exact call_isi
theorem kisiT (K : PySem.W.Frag) (h : X.K = K := by rfl) : CallR X (.builtin "isinstance") (rIsiT K) := by subst h; exact call_isiT
theorem keqD (K : PySem.W.Frag) (hu : X.A.units + 64 < cLine) (h : X.K = K := by rfl) : OpR X (compareOp .Eq) (rEqD K) := by subst h; exact op_eqD hu
theorem kneD (K : PySem.W.Frag) (hu : X.A.units + 64 < cLine) (h : X.K = K := by rfl) : OpR X (compareOp .NotEq) (rNeD K) := by subst h; exact op_neD hu
theorem kin (K : PySem.W.Frag) (h : X.K = K := by rfl) : OpR X (compareOp .In) (rIn K false) := by subst h; exact op_in_seq
theorem knotin (K : PySem.W.Frag) (h : X.K = K := by rfl) : OpR X (compareOp .NotIn) (rIn K true) := by subst h; exact op_notIn_seq
theorem kcatA (K : PySem.W.Frag) (h : X.K = K := by rfl) : OpR X (binaryOp .Add) (rCatA K) := by subst h; exact op_catA
theorem krepA (K : PySem.W.Frag) (h : X.K = K := by rfl) : OpR X (binaryOp .Mult) (rRepA K) := by subst h; exact op_repA
theorem kslL (K : PySem.W.Frag) (h : X.K = K := by rfl) : SlR X (rSlL K) := by subst h; exact sl_list
theorem kslT (K : PySem.W.Frag) (h : X.K = K := by rfl) : SlR X (rSlA K) := by subst h; exact sl_tupA
theorem ksum (K : PySem.W.Frag) (hc : X.calm = true) (h : X.K = K := by rfl) : CallR X (.builtin "sum") (rSumS K) := by subst h; exact cr_sumS hc
theorem kall (K : PySem.W.Frag) (hc : X.calm = true) (h : X.K = K := by rfl) : CallR X (.builtin "all") (rAll K) := by subst h; exact cr_all hc
theorem kpil (K : PySem.W.Frag) {tg l : Expr} {tl : TE} (hl : PE X l tl) (h : X.K = K := by rfl) : PI X tg l (iList K tl) := by subst h; exact pi_list hl
theorem kpit (K : PySem.W.Frag) {tg l : Expr} {tl : TE} (hl : PE X l tl) (h : X.K = K := by rfl) : PI X tg l (iTup K tl) := by subst h; exact pi_tup hl
theorem kpis (K : PySem.W.Frag) {tg l : Expr} {tl : TE} (hl : PE X l tl) (h : X.K = K := by rfl) : PI X tg l (iSeq K tl) := by subst h; exact pi_seq hl
end

/-! ## own errors with one attribute -/
structure ErrAt (K : PySem.W.Frag) (mg : Str → Option Value) (x qi : Str) (st : Stmt) (f : Str) where
  C : Addr
  fI : Addr
  fd : FuncData
  F : Fun K "__init__" qi st fI fd
  b : Binds K fd ["self", f] []
  T : OexC K C
  iC : PySem.W.findIn K (.ref C) "__init__" = some (some (.ref fI))
  tI : PySem.W.typeIn K (.ref fI) = some (.type "function")
  gC : mg x = some (.ref C)
  nf : PySem.W.findIn K (.ref C) f = some none
  xf : XfC K C
def spInit (C : Addr) (f : Str) : Sp := fun vs H Q _ => ∃ (a : Addr) (y : V), vs = [.ref a, y] ∧ H a = some (exo a C none) ∧
  ∀ d, H d = none → d ≠ a → Q .non (upd (upd H d (exd d [(f, y)])) a (exo a C (some d)))
theorem raised {C a : Addr} {H : Hp} {f : Str} {y : V} {Q : XK} {E : XK} (ha : H a = none) (q : ∀ d H', Ex H H' → H' d = some (.xd [(f, y)]) → Q (.ref C) (some d) H') :
    spInit C f [.ref a, y] (upd H a (exo a C none)) (fun v H2 => v = .non ∧ ∃ (d : Addr) (fs : List (Str × V)), H2 a = some (exo a C (some d)) ∧ H2 d = some (exd d fs) ∧ H d = none ∧ Q (.ref C) (some d) (upd (del H2 a) d (.xd fs))) E := by
  refine ⟨a, y, rfl, upd_same, fun d hd nd => ⟨rfl, d, [(f, y)], upd_same, ?_, ?_, ?_⟩⟩
  · rw [upd_ne nd]; exact upd_same
  · rw [upd_ne nd] at hd; exact hd
  · rw [upd_ne nd] at hd
    refine q d _ (fun b o hb => ?_) upd_same
    have h1 : b ≠ a := ne_of_none hb ha
    have h2 : b ≠ d := ne_of_none hb hd
    rw [upd_ne h2, del_ne h1, upd_ne h1, upd_ne h2, upd_ne h1]
    exact hb
/-- a check: it lets what is right, else raises the error of C with the very value -/
def spChk (C : Addr) (ok : Int → Prop) : Sp := fun vs H Q E => ∃ i : Int, vs = [.int i] ∧ (ok i → ∀ H', Ex H H' → Q .non H') ∧
  (¬ ok i → ∀ d H', Ex H H' → H' d = some (.xd [("given", .int i)]) → E (.ref C) (some d) H')
end L2.U


set_option Elab.async false
set_option linter.all false
set_option maxRecDepth 100000
set_option maxHeartbeats 4000000
namespace L2.U
open PySem PySem.Spec PyProof.Rows Evl
def top (i : Nat) : Stmt := PySem.Challenge.pw_upforgood_k01_arrangements_and_even_part.main.body.getD i (.Pass ⟨0, 0, 0, 0⟩)
abbrev s_is_integer : Stmt := top 2
theorem sc_is_integer : FnScope ["value"] ["value"] (defScope s_is_integer) := ⟨rfl, rfl, rfl, by decide +kernel, rfl, by decide +kernel, by decide +kernel⟩
abbrev s_is_between : Stmt := top 3
theorem sc_is_between : FnScope ["value", "low", "high"] ["value", "low", "high"] (defScope s_is_between) := ⟨rfl, rfl, rfl, by decide +kernel, rfl, by decide +kernel, by decide +kernel⟩
abbrev s_is_from : Stmt := top 4
theorem sc_is_from : FnScope ["value", "low"] ["value", "low"] (defScope s_is_from) := ⟨rfl, rfl, rfl, by decide +kernel, rfl, by decide +kernel, by decide +kernel⟩
abbrev s_is_list : Stmt := top 5
theorem sc_is_list : FnScope ["value"] ["value"] (defScope s_is_list) := ⟨rfl, rfl, rfl, by decide +kernel, rfl, by decide +kernel, by decide +kernel⟩
abbrev s_are_from : Stmt := top 6
theorem sc_are_from : FnScope ["values", "low", "value"] ["values", "low"] (defScope s_are_from) := ⟨rfl, rfl, rfl, by decide +kernel, rfl, by decide +kernel, by decide +kernel⟩
abbrev s_law_cell : Stmt := top 21
theorem sc_law_cell : FnScope ["script", "k"] ["script", "k"] (defScope s_law_cell) := ⟨rfl, rfl, rfl, by decide +kernel, rfl, by decide +kernel, by decide +kernel⟩
abbrev s_law_box : Stmt := top 22
theorem sc_law_box : FnScope ["great"] ["great"] (defScope s_law_box) := ⟨rfl, rfl, rfl, by decide +kernel, rfl, by decide +kernel, by decide +kernel⟩
abbrev s_law_take : Stmt := top 23
theorem sc_law_take : FnScope ["box", "many", "digit", "mixed"] ["box", "many"] (defScope s_law_take) := ⟨rfl, rfl, rfl, by decide +kernel, rfl, by decide +kernel, by decide +kernel⟩
abbrev s_law_same : Stmt := top 24
theorem sc_law_same : FnScope ["told", "due", "k"] ["told", "due"] (defScope s_law_same) := ⟨rfl, rfl, rfl, by decide +kernel, rfl, by decide +kernel, by decide +kernel⟩
structure TA1 (K : PySem.W.Frag) (mg : Str → Option Value) where
  is_integer : DefAt K mg "is_integer" s_is_integer ["value"]
  is_between : DefAt K mg "is_between" s_is_between ["value", "low", "high"]
  is_from : DefAt K mg "is_from" s_is_from ["value", "low"]
  is_list : DefAt K mg "is_list" s_is_list ["value"]
  are_from : DefAt K mg "are_from" s_are_from ["values", "low"]
  law_cell : DefAt K mg "_law_cell" s_law_cell ["script", "k"]
  law_box : DefAt K mg "_law_box" s_law_box ["great"]
  law_take : DefAt K mg "_law_take" s_law_take ["box", "many"]
  law_same : DefAt K mg "_law_same" s_law_same ["told", "due"]
  z_int : mg "int" = none
  z_bool : mg "bool" = none
  z_str : mg "str" = none
  z_list : mg "list" = none
  z_tuple : mg "tuple" = none
  z_len : mg "len" = none
  z_sum : mg "sum" = none
  z_abs : mg "abs" = none
  z_all : mg "all" = none
  z_range : mg "range" = none
  z_isinstance : mg "isinstance" = none
section
variable {P : Program} {w : World} {K : PySem.W.Frag} {mg : Str → Option Value} {base : Heap}
def isI : V → Bool
  | .int _ => true
  | _ => false
/-- a value of one of the kinds of data -/
def Dat (K : PySem.W.Frag) (H : Hp) (x : V) : Prop := ∃ t, t ∈ ["NoneType", "bool", "int", "str", "list", "tuple", "dict"] ∧ TyX K H x (.type t) ∧ isI x = decide (t = "int")
theorem Dat.int {H : Hp} {i : Int} : Dat K H (.int i) := ⟨"int", by decide, .base (.int i), rfl⟩
theorem Dat.ex {H H' : Hp} {x : V} (e : Ex H H') (h : Dat K H x) : Dat K H' x := by
  obtain ⟨t, ht, ty, hi⟩ := h
  refine ⟨t, ht, ?_, hi⟩
  cases ty with
  | base b =>
    refine .base ?_
    cases b with
    | non => exact .non
    | bl x => exact .bl x
    | int i => exact .int i
    | str z => exact .str z
    | flt z => exact .flt z
    | lst h => exact .lst (e _ _ h)
    | frz h => exact .frz (e _ _ h)
    | tup h => exact .tup (e _ _ h)
    | dK h => exact .dK (e _ _ h)
    | dT h => exact .dT (e _ _ h)
  | byt b => exact .byt b
  | set h => exact .set (e _ _ h)
  | kList a b => exact .kList a b
  | kTuple a b => exact .kTuple a b
  | kDict a b => exact .kDict a b
  | fTuple h => exact .fTuple (e _ _ h)
  | fDict h => exact .fDict (e _ _ h)
def spIsInteger (K : PySem.W.Frag) : Sp := fun vs H Q _ => ∃ x, vs = [x] ∧ Dat K H x ∧ Q (.bl (isI x)) H
theorem ok_is_integer (T : TA1 K mg) : FnOk P w K mg base CX0 1 T.is_integer.a T.is_integer.fd ["value"] (spIsInteger K) := by
  refine T.is_integer.F.ok sc_is_integer (fun vs H Q E h => ?_) (fun cdv A outer s H vs Q E hr h => ?_)
  · obtain ⟨x, rfl, _⟩ := h; rfl
  obtain ⟨x, rfl, ⟨t, ht, ty, hi⟩, q⟩ := h
  refine ⟨_, (pss_one (ps_ret (pe_and (pe_callB (kisi K) (by rfl) T.z_isinstance (by decide +kernel) (pa_cons (pv 0) (pa_cons (pe_bltn (v := .ty "int") rfl T.z_int (by decide +kernel) rfl) pa_nil))) (pe_one (pe_not (pe_callB (kisi K) (by rfl) T.z_isinstance (by decide +kernel) (pa_cons (pv 0) (pa_cons (pe_bltn (v := .ty "bool") rfl T.z_bool (by decide +kernel) rfl) pa_nil)))))))), ?_⟩
  simp only [List.mem_cons, List.not_mem_nil, or_false] at ht
  rcases ht with rfl | rfl | rfl | rfl | rfl | rfl | rfl
  · refine ⟨_, rfl, _, _, _, _, _, rfl, .ty "int", ty, kit_ty (r := false) (by decide +kernel), false, rfl, iteF ?_⟩
    rw [hi] at q; exact q
  · refine ⟨_, rfl, _, _, _, _, _, rfl, .ty "int", ty, kit_ty (r := true) (by decide +kernel), true, rfl, iteT ?_⟩
    refine ⟨_, rfl, _, _, _, _, _, rfl, .ty "bool", ty, kit_ty (r := true) (by decide +kernel), true, rfl, ?_⟩
    rw [hi] at q; exact q
  · refine ⟨_, rfl, _, _, _, _, _, rfl, .ty "int", ty, kit_ty (r := true) (by decide +kernel), true, rfl, iteT ?_⟩
    refine ⟨_, rfl, _, _, _, _, _, rfl, .ty "bool", ty, kit_ty (r := false) (by decide +kernel), false, rfl, ?_⟩
    rw [hi] at q; exact q
  all_goals
    refine ⟨_, rfl, _, _, _, _, _, rfl, .ty "int", ty, kit_ty (r := false) (by decide +kernel), false, rfl, iteF ?_⟩
    rw [hi] at q; exact q
def spIsFrom (K : PySem.W.Frag) : Sp := fun vs H Q _ => ∃ (x : V) (lo : Int), vs = [x, .int lo] ∧ Dat K H x ∧ ∀ b, (∀ i, x = .int i → b = decide (lo ≤ i)) → (isI x = false → b = false) → Q (.bl b) H
theorem isI_int {x : V} (h : isI x = true) : ∃ i, x = .int i := by
  cases x <;> first | exact ⟨_, rfl⟩ | cases h
theorem ok_is_from (T : TA1 K mg) : FnOk P w K mg base CX0 2 T.is_from.a T.is_from.fd ["value", "low"] (spIsFrom K) := by
  refine T.is_from.F.ok sc_is_from (fun vs H Q E h => ?_) (fun cdv A outer s H vs Q E hr h => ?_)
  · obtain ⟨x, lo, rfl, _⟩ := h; rfl
  obtain ⟨x, lo, rfl, hd, q⟩ := h
  refine ⟨_, (pss_one (ps_ret (pe_and (pe_call (ok_is_integer T) (hr.mono (by decide)) rfl T.is_integer.m T.is_integer.F.kp T.is_integer.b .nil pass0 (pa_cons (pv 0) pa_nil)) (pe_one (pe_cmpR op_le (pv 1) (pv 0) (nomark _)))))), ?_⟩
  refine ⟨_, rfl, _, rfl, hd, isI x, rfl, ?_⟩
  cases hx : isI x with
  | false => exact q false (fun i e => by rw [e] at hx; cases hx) (fun _ => rfl)
  | true =>
    obtain ⟨i, rfl⟩ := isI_int hx
    refine ⟨_, rfl, _, rfl, _, _, rfl, rfl, q _ (fun j e => by cases e; rfl) (fun e => by cases e)⟩
def spIsBetween (K : PySem.W.Frag) : Sp := fun vs H Q _ => ∃ (x : V) (lo hi : Int), vs = [x, .int lo, .int hi] ∧ Dat K H x ∧ ∀ b, (∀ i, x = .int i → b = decide (lo ≤ i ∧ i ≤ hi)) → (isI x = false → b = false) → Q (.bl b) H
theorem ok_is_between (T : TA1 K mg) : FnOk P w K mg base CX0 2 T.is_between.a T.is_between.fd ["value", "low", "high"] (spIsBetween K) := by
  refine T.is_between.F.ok sc_is_between (fun vs H Q E h => ?_) (fun cdv A outer s H vs Q E hr h => ?_)
  · obtain ⟨x, lo, hi, rfl, _⟩ := h; rfl
  obtain ⟨x, lo, hi, rfl, hd, q⟩ := h
  refine ⟨_, (pss_one (ps_ret (pe_and (pe_call (ok_is_integer T) (hr.mono (by decide)) rfl T.is_integer.m T.is_integer.F.kp T.is_integer.b .nil pass0 (pa_cons (pv 0) pa_nil)) (pe_one (pe_chain op_le op_le (pv 1) (pv 0) (pv 2)))))), ?_⟩
  refine ⟨_, rfl, _, rfl, hd, isI x, rfl, ?_⟩
  cases hx : isI x with
  | false => exact q false (fun i e => by rw [e] at hx; cases hx) (fun _ => rfl)
  | true =>
    obtain ⟨i, rfl⟩ := isI_int hx
    refine ⟨_, rfl, _, rfl, _, _, rfl, rfl, _, rfl, ite2 (fun c => ?_) (fun c => ?_)⟩
    · refine ⟨_, rfl, _, _, rfl, rfl, q _ (fun j e => ?_) (fun e => by cases e)⟩
      cases e
      have c' := of_decide_eq_true c
      simp [c']
    · refine q _ (fun j e => ?_) (fun e => by cases e)
      cases e
      have c' := of_decide_eq_false (Bool.eq_false_iff.mpr c)
      simp [c']
def spIsList (K : PySem.W.Frag) : Sp := fun vs H Q _ => ∃ a xs, vs = [.ref a] ∧ (SqL K H a xs ∨ SqT K H a xs) ∧ ∀ H', Ex H H' → Q (.bl true) H'
theorem ok_is_list (T : TA1 K mg) : FnOk P w K mg base CX0 1 T.is_list.a T.is_list.fd ["value"] (spIsList K) := by
  refine T.is_list.F.ok sc_is_list (fun vs H Q E h => ?_) (fun cdv A outer s H vs Q E hr h => ?_)
  · obtain ⟨a, xs, rfl, _⟩ := h; rfl
  obtain ⟨a, xs, rfl, hs, q⟩ := h
  refine ⟨_, (pss_one (ps_ret (pe_callB (kisiT K) (by rfl) T.z_isinstance (by decide +kernel) (pa_cons (pv 0) (pa_cons (pe_tup (pa_cons (pe_bltn (v := .ty "list") rfl T.z_list (by decide +kernel) rfl) (pa_cons (pe_bltn (v := .ty "tuple") rfl T.z_tuple (by decide +kernel) rfl) pa_nil))) pa_nil))))), ?_⟩
  refine ⟨_, rfl, (by show 2 ≤ sizeLine; decide), fun p hp => ?_⟩
  rcases hs with hs | hs
  · exact ⟨_, p, [.ty "list", .ty "tuple"], _, [.type "list", .type "tuple"], true, rfl, upd_same, .cons (.ty _) (.cons (.ty _) .nil), tyL (ex_l (Ex.new hp) hs), rfl, q _ (Ex.new hp)⟩
  · exact ⟨_, p, [.ty "list", .ty "tuple"], _, [.type "list", .type "tuple"], true, rfl, upd_same, .cons (.ty _) (.cons (.ty _) .nil), tyT (ex_t (Ex.new hp) hs), rfl, q _ (Ex.new hp)⟩
theorem at_get {xs : List V} {k : Int} (h0 : 0 ≤ k) (h : k < (xs.length : Int)) : ∃ v, atI xs k = some v ∧ xs[k.toNat]? = some v := by
  have hk : k.toNat < xs.length := by omega
  refine ⟨xs[k.toNat], ?_, List.getElem?_eq_getElem hk⟩
  exact at_of (by omega) (List.getElem?_eq_getElem hk)
theorem ints_get {ns : List Int} {i : Nat} {v : V} (h : (ns.map V.int)[i]? = some v) : ∃ z, ns[i]? = some z ∧ v = .int z := by
  rw [List.getElem?_map] at h
  cases e : ns[i]? with
  | none => rw [e] at h; cases h
  | some z => rw [e] at h; exact ⟨z, rfl, (Option.some.inj h).symm⟩
theorem cutV_ints (ns : List Int) (lo hi : Option Int) : ∃ ms : List Int, cutV (ns.map V.int) lo hi = ms.map V.int := by
  refine ⟨(ns.drop (HT.sIx (ns.map V.int).length 0 lo)).take (HT.sIx (ns.map V.int).length (ns.map V.int).length hi - HT.sIx (ns.map V.int).length 0 lo), ?_⟩
  unfold cutV
  rw [List.map_take, List.map_drop]
theorem ok_law_cell (T : TA1 K mg) : FnOk P w K mg base CX0 1 T.law_cell.a T.law_cell.fd ["script", "k"] (spCell K) := by
  refine T.law_cell.F.ok sc_law_cell (fun vs H Q E h => ?_) (fun cdv A outer s H vs Q E hr h => ?_)
  · obtain ⟨a, ns, k, rfl, _⟩ := h; rfl
  obtain ⟨a, ns, k, rfl, hS, h0, h1, q⟩ := h
  refine ⟨_, (pss_one (ps_ret (pe_ifExp (pt_cmpR op_lt (pv 1) (pe_callB (klen K) (by rfl) T.z_len (by decide +kernel) (pa_cons (pv 0) pa_nil)) (nomark _)) (pe_ix (kixl K) (pv 0) (pv 1) (fun _ _ => rfl)) (pe_op op_add (pe_op op_mul pe_int (pv 1)) (pe_op op_mod (pe_callTy call_int1 (by rfl) T.z_int (by decide +kernel) (pa_cons (pe_callB (ksum K rfl) (by rfl) T.z_sum (by decide +kernel) (pa_cons (pe_slice (kslL K) (pv 0) po_none (po_some pe_int)) pa_nil)) pa_nil)) pe_int))))), ?_⟩
  refine ⟨_, rfl, _, rfl, _, _, rfl, .inl ⟨_, hS, rfl⟩, _, _, rfl, rfl, _, rfl, ite2 (fun c => ?_) (fun c => ?_)⟩
  · have c' := of_decide_eq_true c
    obtain ⟨v, hv, hg⟩ := at_get h0 c'
    obtain ⟨z, _, rfl⟩ := ints_get hg
    exact ⟨_, rfl, _, rfl, _, _, _, _, rfl, rfl, hS, hv, q _ _ (Ex.refl _)⟩
  · refine ⟨_, rfl, _, _, rfl, rfl, .inl ⟨by decide, by decide⟩, _, rfl, _, rfl, _, _, rfl, hS, fun p hp => ?_⟩
    obtain ⟨ms, em⟩ := cutV_ints ns none (some 1)
    rw [em]
    refine ⟨p, ms, rfl, .inl (SqL.of upd_same), .inl ⟨_, rfl, _, _, rfl, rfl, (show (0 : Int) < 1000033 by decide), _, _, rfl, rfl, q _ _ (Ex.new hp)⟩⟩
theorem ok_law_box (T : TA1 K mg) : FnOk P w K mg base CX0 1 T.law_box.a T.law_box.fd ["great"] spBox := by
  refine T.law_box.F.ok sc_law_box (fun vs H Q E h => ?_) (fun cdv A outer s H vs Q E hr h => ?_)
  · obtain ⟨g, rfl, _⟩ := h; rfl
  obtain ⟨g, rfl, q⟩ := h
  refine ⟨_, (pss_one (ps_ret (pe_lst (pa_cons (pe_callB call_abs (by rfl) T.z_abs (by decide +kernel) (pa_cons (pv 0) pa_nil)) (pa_cons (pe_cmpR op_ge (pe_callB call_abs (by rfl) T.z_abs (by decide +kernel) (pa_cons (pv 0) pa_nil)) (pe_op op_pow pe_int pe_int) (nomark _)) (pa_cons (pe_op op_mod (pe_callTy call_int1 (by rfl) T.z_int (by decide +kernel) (pa_cons (pe_callB call_abs (by rfl) T.z_abs (by decide +kernel) (pa_cons (pv 0) pa_nil)) pa_nil)) pe_int) (pa_cons pe_int pa_nil))))))), ?_⟩
  refine ⟨_, rfl, _, rfl, _, rfl, _, rfl, _, _, rfl, rfl, ⟨by decide, by decide, by decide⟩, _, _, rfl, rfl, _, rfl, _, rfl, .inl ⟨_, rfl, _, _, rfl, rfl, (show (0 : Int) < 2147483629 by decide), (by show 4 ≤ sizeLine; decide), fun p hp => ?_⟩⟩
  refine q p _ hp (Ex.new hp) ⟨_, _, _, _, upd_same, ?_, ?_, ?_, by decide, by decide⟩
  · split <;> omega
  · omega
  · omega
theorem fmod_in {a m : Int} (h : 0 < m) : 0 ≤ a % m ∧ a % m < m := by
  exact ⟨Int.emod_nonneg _ (by omega), Int.emod_lt_of_pos _ h⟩
theorem ok_law_take (T : TA1 K mg) : FnOk P w K mg base CX0 1 T.law_take.a T.law_take.fd ["box", "many"] spTake := by
  refine T.law_take.F.ok sc_law_take (fun vs H Q E h => ?_) (fun cdv A outer s H vs Q E hr h => ?_)
  · obtain ⟨b, m, n, rfl, _⟩ := h; rfl
  obtain ⟨b, m, n, rfl, m0, m1, ⟨d, sd, c, f, hb, d0, s0, s1, c0, c1⟩, q⟩ := h
  have hL := SqL.of (K := K) hb
  refine ⟨_, (pss_cut (ps_if (PW.pt (pw_and (pt_val (pe_ix (kixl K) (pv 0) pe_int (fun _ _ => rfl))) (pw_and1 (pt_cmpR op_gt (pe_ix (kixl K) (pv 0) pe_int (fun _ _ => rfl)) pe_int (nomark _))))) (pss_cons (ps_set (i := 2) sc_law_take.nd rfl (Or.inl rfl) (pe_op op_mod (pe_callTy call_int1 (by rfl) T.z_int (by decide +kernel) (pa_cons (pe_ix (kixl K) (pv 0) pe_int (fun _ _ => rfl)) pa_nil)) (pv 1)))
    (pss_cons (ps_asg (pe_op op_fdiv (pe_ix (kixl K) (pv 0) pe_int (fun _ _ => rfl)) (pv 1)) (pg_sub (pv 0) pe_int set_list))
    (pss_one (ps_ret (pv 2))))) pss_nil)
    (pss_cons (ps_asg (pe_op op_add (pe_ix (kixl K) (pv 0) pe_int (fun _ _ => rfl)) pe_int) (pg_sub (pv 0) pe_int set_list))
    (pss_cons (ps_set (i := 3) sc_law_take.nd rfl (Or.inl rfl) (pe_op op_mod (pe_callTy call_int1 (by rfl) T.z_int (by decide +kernel) (pa_cons (pe_op op_pow (pe_op op_add (pe_op op_add (pe_ix (kixl K) (pv 0) pe_int (fun _ _ => rfl)) (pe_op op_mul pe_int (pe_ix (kixl K) (pv 0) pe_int (fun _ _ => rfl)))) pe_int) pe_int) pa_nil)) pe_int))
    (pss_one (ps_ret (pe_op op_mod (pe_callTy call_int1 (by rfl) T.z_int (by decide +kernel) (pa_cons (pe_op op_fdiv (pe_op op_mod (pe_callTy call_int1 (by rfl) T.z_int (by decide +kernel) (pa_cons (pe_op op_pow (pe_op op_add (pe_op op_mul (pv 3) pe_int) (pe_op op_mul pe_int (pe_ix (kixl K) (pv 0) pe_int (fun _ _ => rfl)))) pe_int) pa_nil)) pe_int) pe_int) pa_nil)) (pv 1))))))), ?_⟩
  have mres : ∀ x : Int, 0 ≤ x % m ∧ x % m < m := fun x => fmod_in m0
  have fm : ∀ {a k : Int}, 0 ≤ a → 0 < k → 0 ≤ a % k ∧ a % k < k := fun _ h => fmod_in h
  refine ⟨fun σ' H' => σ' = [some (.ref b), some (.int m), none, none] ∧ H' = H, ?_, ?_⟩
  · refine ⟨_, rfl, _, _, _, _, rfl, rfl, hL, rfl, f, rfl, ?_⟩
    cases f with
    | false => exact ⟨rfl, rfl⟩
    | true =>
      refine ⟨_, rfl, _, _, _, _, rfl, rfl, hL, rfl, _, _, rfl, rfl, _, rfl, ite2 (fun c => ?_) (fun _ => ⟨rfl, rfl⟩)⟩
      refine ⟨_, rfl, _, _, _, _, rfl, rfl, hL, rfl, .inl ⟨_, rfl, _, rfl, _, _, rfl, rfl, m0, ?_⟩⟩
      refine ⟨_, rfl, _, _, _, _, rfl, rfl, hL, rfl, _, rfl, _, _, rfl, rfl, ⟨by omega, by omega⟩, ?_⟩
      refine ⟨_, rfl, b, _, 0, 0, rfl, rfl, hb, rfl, ?_⟩
      refine ⟨_, rfl, q _ _ (mres _).1 (mres _).2 ⟨_, _, _, _, upd_same, ?_, s0, s1, c0, by omega⟩ But.upd⟩
      exact Int.ediv_nonneg d0 (by omega)
  · rintro σ' H' ⟨rfl, rfl⟩
    refine ⟨_, rfl, _, _, _, _, rfl, rfl, hL, rfl, _, _, rfl, rfl, ?_⟩
    refine ⟨_, rfl, b, _, 3, 3, rfl, rfl, hb, rfl, ?_⟩
    have hb2 : upd H' b (.lst [.int d, .bl f, .int sd, .int (c + 1)]) b = some (.lst [.int d, .bl f, .int sd, .int (c + 1)]) := upd_same
    have hL2 := SqL.of (K := K) hb2
    have r1 := @fmod_in ((sd + 15485863 * (c + 1) + 179424673) ^ (5 : Int).toNat) 2147483647 (by decide)
    refine ⟨_, rfl, _, _, _, _, rfl, rfl, hL2, rfl, ?_⟩
    refine ⟨_, rfl, _, _, _, _, rfl, rfl, hL2, rfl, _, _, rfl, rfl, .inl ⟨by decide, by decide⟩, _, _, rfl, rfl, _, _, rfl, rfl, ?_⟩
    refine ⟨_, _, rfl, rfl, ⟨by decide, by decide, by omega⟩, .inl ⟨_, rfl, _, _, rfl, rfl, (show (0 : Int) < 2147483647 by decide), ?_⟩⟩
    refine ⟨_, rfl, _, _, rfl, rfl, .inr ⟨by decide, by decide⟩, ?_⟩
    refine ⟨_, rfl, _, _, _, _, rfl, rfl, hL2, rfl, _, _, rfl, rfl, .inl ⟨by decide, by decide⟩, _, _, rfl, rfl, ?_⟩
    refine ⟨_, _, rfl, rfl, ⟨by decide, by decide, by omega⟩, .inl ⟨_, rfl, _, _, rfl, rfl, (show (0 : Int) < 2147483587 by decide), ?_⟩⟩
    refine ⟨_, _, rfl, rfl, ⟨by decide, by decide⟩, .inl ⟨_, rfl, _, rfl, _, _, rfl, rfl, m0, ?_⟩⟩
    exact q _ _ (mres _).1 (mres _).2 ⟨_, _, _, _, hb2, d0, s0, s1, by omega, by omega⟩ But.upd
/-! ### the law's own sameness -/
theorem none_left {sp : Sp} {f : Addr} {fd : FuncData} {ps : List Str} (no : ∀ vs H Q E, ¬ sp vs H Q E) : FnOk P w K mg base CX0 0 f fd ps sp :=
  ⟨fun vs H Q E h => absurd h (no vs H Q E), fun A outer s H args us vs Q E _ _ _ _ h => absurd h (no vs H Q E)⟩
theorem isi_at {H : Hp} {x : V} {t u : String} {b : Bool} {Q : VK} (ty : TyX K H x (.type t)) (h : kitB t u = some b) (q : Q (.bl b) H) : rIsi K [x, .ty u] H Q :=
  ⟨x, .ty u, _, _, b, rfl, .ty u, ty, kit_ty h, q⟩
def spS (K : PySem.W.Frag) : Nat → Sp
  | 0 => fun _ _ _ _ => False
  | n + 1 => spSame K n
theorem no_given {n : Nat} {v : Nat → V} : given n (fun _ => false) v = [] := by
  unfold given
  rw [List.filter_eq_nil_iff.mpr (by intro a _; decide)]
  rfl
theorem eq_empty {ta : TE} {σ : L2.St} {H : Hp} {xs : List V} (hx : xs = []) (h : EvL ta σ H xs) : Ev (tOp (rEqD K) ta (tLst tNil)) σ H (.bl true) := by
  subst hx
  exact ev_opLL h (el_lst ea_nil (Nat.zero_le _)) fun p q H1 hp hq _ => rv_val fun H2 e2 Q k =>
    ⟨.list [], .list [], .lst (SqL.of (e2 _ _ hp)) .nil, .lst (SqL.of (e2 _ _ hq)) .nil, rfl, rfl, k⟩
theorem same_step (T : TA1 K mg) (n : Nat) (ih : FnOk P w K mg base CX0 n T.law_same.a T.law_same.fd ["told", "due"] (spS K n)) :
    FnOk P w K mg base CX0 (n + 1) T.law_same.a T.law_same.fd ["told", "due"] (spS K (n + 1)) := by
  refine T.law_same.F.ok sc_law_same (fun vs H Q E h => ?_) (fun cdv A outer s H vs Q E hr h => ?_)
  · obtain ⟨x, y, rfl, _⟩ := h; rfl
  obtain ⟨x, y, rfl, hS, q⟩ := h
  refine ⟨_, (pss_cons (ps_if (PW.pt (pw_or (pt_cmpR op_isN (pv 1) pe_non (nomark _)) (pw_or1 (pt_val (pe_callB (kisi K) (by rfl) T.z_isinstance (by decide +kernel) (pa_cons (pv 1) (pa_cons (pe_bltn (v := .ty "bool") rfl T.z_bool (by decide +kernel) rfl) pa_nil))))))) (pss_one (ps_ret (pe_ifExp (pt_cmpR op_isN (pv 1) pe_non (nomark _)) (pe_cmpR op_isN (pv 0) pe_non (nomark _)) (pe_and (pe_callB (kisi K) (by rfl) T.z_isinstance (by decide +kernel) (pa_cons (pv 0) (pa_cons (pe_bltn (v := .ty "bool") rfl T.z_bool (by decide +kernel) rfl) pa_nil))) (pe_one (pe_cmpR op_eq (pe_cmpR op_is_bl (pv 0) pe_bl (nomark _)) (pe_cmpR op_is_bl (pv 1) pe_bl (nomark _)) (nomark _))))))) pss_nil)
    (pss_cons (ps_if (pt_val (pe_callB (kisi K) (by rfl) T.z_isinstance (by decide +kernel) (pa_cons (pv 1) (pa_cons (pe_bltn (v := .ty "int") rfl T.z_int (by decide +kernel) rfl) pa_nil)))) (pss_one (ps_ret (pe_and (pe_callB (kisi K) (by rfl) T.z_isinstance (by decide +kernel) (pa_cons (pv 0) (pa_cons (pe_bltn (v := .ty "int") rfl T.z_int (by decide +kernel) rfl) pa_nil))) (pe_and (pe_not (pe_callB (kisi K) (by rfl) T.z_isinstance (by decide +kernel) (pa_cons (pv 0) (pa_cons (pe_bltn (v := .ty "bool") rfl T.z_bool (by decide +kernel) rfl) pa_nil)))) (pe_one (pe_cmpR op_eq (pe_op op_sub (pe_callTy call_int1 (by rfl) T.z_int (by decide +kernel) (pa_cons (pv 0) pa_nil)) (pv 1)) pe_int (nomark _))))))) pss_nil)
    (pss_cons (ps_if (pt_val (pe_callB (kisi K) (by rfl) T.z_isinstance (by decide +kernel) (pa_cons (pv 1) (pa_cons (pe_bltn (v := .ty "str") rfl T.z_str (by decide +kernel) rfl) pa_nil)))) (pss_one (ps_ret (pe_and (pe_callB (kisi K) (by rfl) T.z_isinstance (by decide +kernel) (pa_cons (pv 0) (pa_cons (pe_bltn (v := .ty "str") rfl T.z_str (by decide +kernel) rfl) pa_nil))) (pe_and (pe_cmpR op_eq (pe_callB (klen K) (by rfl) T.z_len (by decide +kernel) (pa_cons (pv 0) pa_nil)) (pe_callB (klen K) (by rfl) T.z_len (by decide +kernel) (pa_cons (pv 1) pa_nil)) (nomark _)) (pe_one (pe_cmpR (keqD K hr.units) (pe_lc (own := [("k", 2)]) (g := gName 2) (by rfl) sc_law_same.nd (pi_range1 rfl T.z_range (pa_cons (pe_callB (klen K) (by rfl) T.z_len (by decide +kernel) (pa_cons (pv 1) pa_nil)) pa_nil)) (blkOk_by (own := [("k", 2)]) (N := ["told", "due", "k"]) (sc := defScope s_law_same) (by decide +kernel)) (fun _ _ _ _ _ => (pg_name (i := 2) sc_law_same.nd rfl (Or.inl rfl))) (fun _ _ _ _ _ => (pts_one (pt_cmpR op_ne (pe_slice sl_str (pv 0) (po_some (pv 2)) (po_some (pe_op op_add (pv 2) pe_int))) (pe_ix (kix K) (pv 1) (pv 2) (fun _ _ => rfl)) (nomark _)))) (fun _ _ _ _ _ => (pv 2))) (pe_lst pa_nil) (nomark _))))))) pss_nil)
    (pss_cons (ps_if (PW.pt (pw_or (pt_cmpR op_ne (pe_callB (kisi K) (by rfl) T.z_isinstance (by decide +kernel) (pa_cons (pv 0) (pa_cons (pe_bltn (v := .ty "list") rfl T.z_list (by decide +kernel) rfl) pa_nil))) (pe_callB (kisi K) (by rfl) T.z_isinstance (by decide +kernel) (pa_cons (pv 1) (pa_cons (pe_bltn (v := .ty "list") rfl T.z_list (by decide +kernel) rfl) pa_nil))) (nomark _)) (pw_or1 (pt_cmpR op_ne (pe_callB (kisi K) (by rfl) T.z_isinstance (by decide +kernel) (pa_cons (pv 0) (pa_cons (pe_bltn (v := .ty "tuple") rfl T.z_tuple (by decide +kernel) rfl) pa_nil))) (pe_callB (kisi K) (by rfl) T.z_isinstance (by decide +kernel) (pa_cons (pv 1) (pa_cons (pe_bltn (v := .ty "tuple") rfl T.z_tuple (by decide +kernel) rfl) pa_nil))) (nomark _))))) (pss_one (ps_ret pe_bl)) pss_nil)
    (pss_one (ps_ret (pe_and (pe_cmpR op_eq (pe_callB (klen K) (by rfl) T.z_len (by decide +kernel) (pa_cons (pv 0) pa_nil)) (pe_callB (klen K) (by rfl) T.z_len (by decide +kernel) (pa_cons (pv 1) pa_nil)) (nomark _)) (pe_one (pe_cmpR (keqD K hr.units) (pe_lc (own := [("k", 2)]) (g := gName 2) (by rfl) sc_law_same.nd (pi_range1 rfl T.z_range (pa_cons (pe_callB (klen K) (by rfl) T.z_len (by decide +kernel) (pa_cons (pv 1) pa_nil)) pa_nil)) (blkOk_by (own := [("k", 2)]) (N := ["told", "due", "k"]) (sc := defScope s_law_same) (by decide +kernel)) (fun _ _ _ _ _ => (pg_name (i := 2) sc_law_same.nd rfl (Or.inl rfl))) (fun _ _ _ _ _ => (pts_one (pt_not (pt_val (pe_call (ih) hr rfl T.law_same.m T.law_same.F.kp T.law_same.b .nil pass0 (pa_cons (pe_ix (kix K) (pv 0) (pv 2) (fun _ _ => rfl)) (pa_cons (pe_ix (kix K) (pv 1) (pv 2) (fun _ _ => rfl)) pa_nil))))))) (fun _ _ _ _ _ => (pv 2))) (pe_lst pa_nil) (nomark _)))))))))), ?_⟩
  cases hS with
  | non => exact ⟨_, rfl, rfl, _, rfl, iteT (iteT ⟨_, rfl, rfl, _, rfl, iteT ⟨_, rfl, rfl, q _ (Ex.refl _)⟩⟩)⟩
  | bl b =>
    refine ⟨_, rfl, rfl, _, rfl, iteF ⟨_, rfl, _, _, _, _, true, rfl, .ty _, (.base (.bl b)), kit_ty (by decide +kernel), ⟨_, rfl, iteT ⟨_, rfl, rfl, _, rfl, iteF ?_⟩⟩⟩⟩
    refine ⟨_, rfl, _, _, _, _, true, rfl, .ty _, (.base (.bl b)), kit_ty (by decide +kernel), ⟨_, rfl, iteT ⟨_, rfl, _, _, rfl, rfl, _, rfl, _, _, rfl, rfl, rfl, ?_⟩⟩⟩
    rw [decide_eq_true (rfl : V.bl (decide (b = true)) = V.bl (decide (b = true)))]
    exact q _ (Ex.refl _)
  | int i =>
    refine ⟨_, rfl, rfl, _, rfl, iteF ⟨_, rfl, _, _, _, _, false, rfl, .ty _, (.base (.int i)), kit_ty (by decide +kernel), ⟨_, rfl, iteF ?_⟩⟩⟩
    refine ⟨_, rfl, _, _, _, _, true, rfl, .ty _, (.base (.int i)), kit_ty (by decide +kernel), ⟨_, rfl, iteT ?_⟩⟩
    refine ⟨_, rfl, _, _, _, _, true, rfl, .ty _, (.base (.int i)), kit_ty (by decide +kernel), ⟨_, rfl, iteT ?_⟩⟩
    refine ⟨_, rfl, _, _, _, _, false, rfl, .ty _, (.base (.int i)), kit_ty (by decide +kernel), ⟨_, rfl, _, rfl, iteT ?_⟩⟩
    refine ⟨_, rfl, .inl ⟨_, rfl, _, rfl, _, _, rfl, rfl, rfl, ?_⟩⟩
    show Q (V.bl (decide (V.int (i - i) = V.int 0))) H
    rw [Int.sub_self]
    exact q _ (Ex.refl _)
  | str z hz =>
    have hz' : z.length ≤ sizeLine := Nat.le_trans hz (by decide)
    refine ⟨_, rfl, rfl, _, rfl, iteF ⟨_, rfl, _, _, _, _, false, rfl, .ty _, (.base (.str z)), kit_ty (by decide +kernel), ⟨_, rfl, iteF ?_⟩⟩⟩
    refine ⟨_, rfl, _, _, _, _, false, rfl, .ty _, (.base (.str z)), kit_ty (by decide +kernel), ⟨_, rfl, iteF ?_⟩⟩
    refine ⟨_, rfl, _, _, _, _, true, rfl, .ty _, (.base (.str z)), kit_ty (by decide +kernel), ⟨_, rfl, iteT ?_⟩⟩
    refine ⟨_, rfl, _, _, _, _, true, rfl, .ty _, (.base (.str z)), kit_ty (by decide +kernel), ⟨_, rfl, iteT ?_⟩⟩
    refine ⟨_, rfl, _, z.length, rfl, ⟨hz', rfl⟩, _, rfl, _, z.length, rfl, ⟨hz', rfl⟩, rfl, _, rfl, ?_⟩
    rw [if_pos (decide_eq_true rfl)]
    refine eq_empty (no_given (n := (z.length : Int).toNat) (v := fun _ => V.non)) ?_ H (Ex.refl _) Q (fun H2 e2 => q H2 e2)
    refine el_lcR1 (fun _ => false) (fun _ => V.non) ?_ ⟨by omega, by omega⟩ (fun _ => rfl) ?_ (fun _ _ _ _ hf => nomatch hf)
    · exact fun H1 e Q' k => ⟨_, rfl, _, z.length, rfl, ⟨hz', rfl⟩, k H1 (Ex.refl _)⟩
    · intro i H1 e hi
      have hz2 : i < z.cps.toList.length := by
        have e2 : z.cps.toList.length = z.length := Array.length_toList
        omega
      have hat : atI z.cps.toList (i : Int) = some z.cps.toList[i] := atI_nat (List.getElem?_eq_getElem hz2)
      have hc := cut_one (List.getElem?_eq_getElem hz2)
      intro H2 e2 Q2 k2
      refine ⟨_, rfl, _, rfl, _, rfl, _, rfl, _, _, rfl, rfl, _, rfl, z, rfl, hz', _, rfl, _, rfl, .inr (.inr ⟨z, _, _, rfl, rfl, hz', hat, rfl, _, rfl, ?_⟩)⟩
      rw [hc, decide_eq_true rfl]
      exact k2 H2 (Ex.refl _)
  | @lst n a b xs ys h1 h2 hl hl1 all =>
    refine ⟨_, rfl, rfl, _, rfl, iteF ⟨_, rfl, _, _, _, _, false, rfl, .ty _, (tyL h2), kit_ty (by decide +kernel), ⟨_, rfl, iteF ?_⟩⟩⟩
    refine ⟨_, rfl, _, _, _, _, false, rfl, .ty _, (tyL h2), kit_ty (by decide +kernel), ⟨_, rfl, iteF ?_⟩⟩
    refine ⟨_, rfl, _, _, _, _, false, rfl, .ty _, (tyL h2), kit_ty (by decide +kernel), ⟨_, rfl, iteF ?_⟩⟩
    refine ⟨_, rfl, _, _, _, _, true, rfl, .ty _, (tyL h1), kit_ty (by decide +kernel), ⟨_, rfl, _, _, _, _, true, rfl, .ty _, (tyL h2), kit_ty (by decide +kernel), ⟨rfl, _, rfl, iteF ?_⟩⟩⟩
    refine ⟨_, rfl, _, _, _, _, false, rfl, .ty _, (tyL h1), kit_ty (by decide +kernel), ⟨_, rfl, _, _, _, _, false, rfl, .ty _, (tyL h2), kit_ty (by decide +kernel), ⟨rfl, _, rfl, iteF ?_⟩⟩⟩
    refine ⟨_, rfl, _, xs.length, rfl, .inl ⟨_, h1, rfl⟩, _, rfl, _, ys.length, rfl, .inl ⟨_, h2, rfl⟩, rfl, _, rfl, ?_⟩
    rw [if_pos (decide_eq_true (by rw [hl]))]
    refine eq_empty (no_given (n := (ys.length : Int).toNat) (v := fun _ => V.non)) ?_ H (Ex.refl _) Q (fun H2 e2 => q H2 e2)
    refine el_lcR1 (fun _ => false) (fun _ => V.non) ?_ ⟨by omega, by omega⟩ (fun _ => rfl) ?_ (fun _ _ _ _ hf => nomatch hf)
    · exact fun H1 e Q' k => ⟨_, rfl, _, ys.length, rfl, .inl ⟨_, ex_l e h2, rfl⟩, k H1 (Ex.refl _)⟩
    · intro i H1 e hi H2 e2 Q2 k2
      have hy : ys[i]? = some ys[i] := List.getElem?_eq_getElem (by omega)
      have hx : xs[i]? = some xs[i] := List.getElem?_eq_getElem (by omega)
      refine ⟨_, rfl, _, rfl, .inl ⟨_, _, _, _, rfl, rfl, ex_l (e.trans e2) h1, atI_nat hx, _, rfl, _, rfl, .inl ⟨_, _, _, _, rfl, rfl, ex_l (e.trans e2) h2, atI_nat hy, ?_⟩⟩⟩
      exact ⟨_, _, rfl, (all i _ _ hx hy).ex (e.trans e2), fun H3 e3 => ⟨true, rfl, k2 H3 e3⟩⟩
  | @tup n a b xs ys h1 h2 hl hl1 all =>
    refine ⟨_, rfl, rfl, _, rfl, iteF ⟨_, rfl, _, _, _, _, false, rfl, .ty _, (tyT h2), kit_ty (by decide +kernel), ⟨_, rfl, iteF ?_⟩⟩⟩
    refine ⟨_, rfl, _, _, _, _, false, rfl, .ty _, (tyT h2), kit_ty (by decide +kernel), ⟨_, rfl, iteF ?_⟩⟩
    refine ⟨_, rfl, _, _, _, _, false, rfl, .ty _, (tyT h2), kit_ty (by decide +kernel), ⟨_, rfl, iteF ?_⟩⟩
    refine ⟨_, rfl, _, _, _, _, false, rfl, .ty _, (tyT h1), kit_ty (by decide +kernel), ⟨_, rfl, _, _, _, _, false, rfl, .ty _, (tyT h2), kit_ty (by decide +kernel), ⟨rfl, _, rfl, iteF ?_⟩⟩⟩
    refine ⟨_, rfl, _, _, _, _, true, rfl, .ty _, (tyT h1), kit_ty (by decide +kernel), ⟨_, rfl, _, _, _, _, true, rfl, .ty _, (tyT h2), kit_ty (by decide +kernel), ⟨rfl, _, rfl, iteF ?_⟩⟩⟩
    refine ⟨_, rfl, _, xs.length, rfl, .inr ⟨_, h1, rfl⟩, _, rfl, _, ys.length, rfl, .inr ⟨_, h2, rfl⟩, rfl, _, rfl, ?_⟩
    rw [if_pos (decide_eq_true (by rw [hl]))]
    refine eq_empty (no_given (n := (ys.length : Int).toNat) (v := fun _ => V.non)) ?_ H (Ex.refl _) Q (fun H2 e2 => q H2 e2)
    refine el_lcR1 (fun _ => false) (fun _ => V.non) ?_ ⟨by omega, by omega⟩ (fun _ => rfl) ?_ (fun _ _ _ _ hf => nomatch hf)
    · exact fun H1 e Q' k => ⟨_, rfl, _, ys.length, rfl, .inr ⟨_, ex_t e h2, rfl⟩, k H1 (Ex.refl _)⟩
    · intro i H1 e hi H2 e2 Q2 k2
      have hy : ys[i]? = some ys[i] := List.getElem?_eq_getElem (by omega)
      have hx : xs[i]? = some xs[i] := List.getElem?_eq_getElem (by omega)
      refine ⟨_, rfl, _, rfl, .inr (.inl ⟨_, _, _, _, rfl, rfl, ex_t (e.trans e2) h1, atI_nat hx, _, rfl, _, rfl, .inr (.inl ⟨_, _, _, _, rfl, rfl, ex_t (e.trans e2) h2, atI_nat hy, ?_⟩)⟩)⟩
      exact ⟨_, _, rfl, (all i _ _ hx hy).ex (e.trans e2), fun H3 e3 => ⟨true, rfl, k2 H3 e3⟩⟩
theorem ok_same (T : TA1 K mg) : ∀ n, FnOk P w K mg base CX0 n T.law_same.a T.law_same.fd ["told", "due"] (spS K n)
  | 0 => none_left fun _ _ _ _ h => h
  | n + 1 => same_step T n (ok_same T n)
theorem ok_law_same (T : TA1 K mg) : FnOk P w K mg base CX0 9 T.law_same.a T.law_same.fd ["told", "due"] (spSame K 8) := ok_same T 9
end
end L2.U


set_option Elab.async false
set_option linter.all false
set_option maxRecDepth 100000
set_option maxHeartbeats 4000000
namespace L2.U
open PySem PySem.Spec PyProof.Rows Evl
abbrev s_factorial : Stmt := top 14
theorem sc_factorial : FnScope ["number", "result", "factor"] ["number"] (defScope s_factorial) := ⟨rfl, rfl, rfl, by decide +kernel, rfl, by decide +kernel, by decide +kernel⟩
abbrev s_choose : Stmt := top 15
theorem sc_choose : FnScope ["number", "many"] ["number", "many"] (defScope s_choose) := ⟨rfl, rfl, rfl, by decide +kernel, rfl, by decide +kernel, by decide +kernel⟩
abbrev s_arrangements : Stmt := top 16
theorem sc_arrangements : FnScope ["parts", "result", "total", "part"] ["parts"] (defScope s_arrangements) := ⟨rfl, rfl, rfl, by decide +kernel, rfl, by decide +kernel, by decide +kernel⟩
abbrev s_even_parts : Stmt := top 17
theorem sc_even_parts : FnScope ["total", "many", "low", "greater"] ["total", "many"] (defScope s_even_parts) := ⟨rfl, rfl, rfl, by decide +kernel, rfl, by decide +kernel, by decide +kernel⟩
abbrev s_check_number : Stmt := top 18
theorem sc_check_number : FnScope ["number"] ["number"] (defScope s_check_number) := ⟨rfl, rfl, rfl, by decide +kernel, rfl, by decide +kernel, by decide +kernel⟩
abbrev s_check_many : Stmt := top 19
theorem sc_check_many : FnScope ["many"] ["many"] (defScope s_check_many) := ⟨rfl, rfl, rfl, by decide +kernel, rfl, by decide +kernel, by decide +kernel⟩
abbrev s_init_InvalidNumber : Stmt := inClass (top 9) 0
theorem sc_init_InvalidNumber : FnScope ["self", "given"] ["self", "given"] (defScope s_init_InvalidNumber) := ⟨rfl, rfl, rfl, by decide +kernel, rfl, by decide +kernel, by decide +kernel⟩
abbrev s_init_InvalidMany : Stmt := inClass (top 10) 0
theorem sc_init_InvalidMany : FnScope ["self", "given"] ["self", "given"] (defScope s_init_InvalidMany) := ⟨rfl, rfl, rfl, by decide +kernel, rfl, by decide +kernel, by decide +kernel⟩
abbrev s_init_InvalidParts : Stmt := inClass (top 11) 0
theorem sc_init_InvalidParts : FnScope ["self", "given"] ["self", "given"] (defScope s_init_InvalidParts) := ⟨rfl, rfl, rfl, by decide +kernel, rfl, by decide +kernel, by decide +kernel⟩
structure TA2 (K : PySem.W.Frag) (mg : Str → Option Value) extends TA1 K mg where
  factorial : DefAt K mg "factorial" s_factorial ["number"]
  choose : DefAt K mg "choose" s_choose ["number", "many"]
  arrangements : DefAt K mg "arrangements" s_arrangements ["parts"]
  even_parts : DefAt K mg "even_parts" s_even_parts ["total", "many"]
  check_number : DefAt K mg "_check_number" s_check_number ["number"]
  check_many : DefAt K mg "_check_many" s_check_many ["many"]
  InvalidNumber : ErrAt K mg "InvalidNumber" "InvalidNumber.__init__" s_init_InvalidNumber "given"
  InvalidMany : ErrAt K mg "InvalidMany" "InvalidMany.__init__" s_init_InvalidMany "given"
  InvalidParts : ErrAt K mg "InvalidParts" "InvalidParts.__init__" s_init_InvalidParts "given"
  t_HIGHEST : Tok
  c_HIGHEST : mg "HIGHEST" = some (.int 64 t_HIGHEST)
  c_comb : mg "comb" = some (.builtin "math.comb")
section
variable {P : Program} {w : World} {K : PySem.W.Frag} {mg : Str → Option Value} {base : Heap}
theorem ok_init_InvalidNumber (T : ErrAt K mg "InvalidNumber" "InvalidNumber.__init__" s_init_InvalidNumber "given") : FnOk P w K mg base CX0 1 T.fI T.fd ["self", "given"] (spInit T.C "given") := by
  refine T.F.ok sc_init_InvalidNumber (fun vs H Q E h => ?_) (fun cdv A outer s H vs Q E hr h => ?_)
  · obtain ⟨a, y, rfl, _⟩ := h; rfl
  obtain ⟨a, y, rfl, ha, q⟩ := h
  exact ⟨_, pss_one (ps_ost (pv 0) (pv 1)), _, rfl, _, rfl, a, T.C, rfl, T.T, T.nf, .inl ⟨ha, fun d hd nd => q d hd nd⟩⟩
theorem ok_init_InvalidMany (T : ErrAt K mg "InvalidMany" "InvalidMany.__init__" s_init_InvalidMany "given") : FnOk P w K mg base CX0 1 T.fI T.fd ["self", "given"] (spInit T.C "given") := by
  refine T.F.ok sc_init_InvalidMany (fun vs H Q E h => ?_) (fun cdv A outer s H vs Q E hr h => ?_)
  · obtain ⟨a, y, rfl, _⟩ := h; rfl
  obtain ⟨a, y, rfl, ha, q⟩ := h
  exact ⟨_, pss_one (ps_ost (pv 0) (pv 1)), _, rfl, _, rfl, a, T.C, rfl, T.T, T.nf, .inl ⟨ha, fun d hd nd => q d hd nd⟩⟩
theorem ok_init_InvalidParts (T : ErrAt K mg "InvalidParts" "InvalidParts.__init__" s_init_InvalidParts "given") : FnOk P w K mg base CX0 1 T.fI T.fd ["self", "given"] (spInit T.C "given") := by
  refine T.F.ok sc_init_InvalidParts (fun vs H Q E h => ?_) (fun cdv A outer s H vs Q E hr h => ?_)
  · obtain ⟨a, y, rfl, _⟩ := h; rfl
  obtain ⟨a, y, rfl, ha, q⟩ := h
  exact ⟨_, pss_one (ps_ost (pv 0) (pv 1)), _, rfl, _, rfl, a, T.C, rfl, T.T, T.nf, .inl ⟨ha, fun d hd nd => q d hd nd⟩⟩
def num64 (i : Int) : Prop := 0 ≤ i ∧ i ≤ 64
def many64 (i : Int) : Prop := 1 ≤ i ∧ i ≤ 64
theorem ok_check_number (T : TA2 K mg) : FnOk P w K mg base (L2.CX P w) 4 T.check_number.a T.check_number.fd ["number"] (spChk T.InvalidNumber.C num64) := by
  refine T.check_number.F.okX sc_check_number (fun vs H Q E h => ?_) (fun cdv A outer s H vs Q E hr h => ?_)
  · obtain ⟨i, rfl, _⟩ := h; rfl
  obtain ⟨i, rfl, q1, q2⟩ := h
  refine ⟨_, (pss_one (ps_if (pt_not (pt_val (pe_call (ok_is_between T.toTA1) (hr.mono (by decide)) rfl T.is_between.m T.is_between.F.kp T.is_between.b .nil pass0 (pa_cons (pv 0) (pa_cons pe_int (pa_cons (pe_glob (v := .int 64) rfl T.c_HIGHEST ⟨_, rfl⟩) pa_nil)))))) (pss_one (ps_raise rfl (takes_of rfl rfl rfl rfl) (pmk_oex T.InvalidNumber.T T.InvalidNumber.iC T.InvalidNumber.tI (ok_init_InvalidNumber T.InvalidNumber) (hr.mono (by decide)) T.InvalidNumber.b .nil pass0 rfl T.InvalidNumber.gC (by exact (pa_cons (pv 0) pa_nil))))) pss_nil)), ?_⟩
  refine ⟨_, rfl, _, _, _, rfl, Dat.int, fun b hb _ => ⟨b, rfl, ?_⟩⟩
  have hb' := hb i rfl
  subst hb'
  by_cases c : 0 ≤ i ∧ i ≤ 64
  · rw [decide_eq_true c]
    exact q1 c _ (Ex.refl _)
  · rw [decide_eq_false c]
    exact ⟨_, rfl, (by show 1 ≤ 1000; decide), fun a ha => raised ha fun d H' e h => q2 c d H' e h⟩
theorem ok_check_many (T : TA2 K mg) : FnOk P w K mg base (L2.CX P w) 4 T.check_many.a T.check_many.fd ["many"] (spChk T.InvalidMany.C many64) := by
  refine T.check_many.F.okX sc_check_many (fun vs H Q E h => ?_) (fun cdv A outer s H vs Q E hr h => ?_)
  · obtain ⟨i, rfl, _⟩ := h; rfl
  obtain ⟨i, rfl, q1, q2⟩ := h
  refine ⟨_, (pss_one (ps_if (pt_not (pt_val (pe_call (ok_is_between T.toTA1) (hr.mono (by decide)) rfl T.is_between.m T.is_between.F.kp T.is_between.b .nil pass0 (pa_cons (pv 0) (pa_cons pe_int (pa_cons (pe_glob (v := .int 64) rfl T.c_HIGHEST ⟨_, rfl⟩) pa_nil)))))) (pss_one (ps_raise rfl (takes_of rfl rfl rfl rfl) (pmk_oex T.InvalidMany.T T.InvalidMany.iC T.InvalidMany.tI (ok_init_InvalidMany T.InvalidMany) (hr.mono (by decide)) T.InvalidMany.b .nil pass0 rfl T.InvalidMany.gC (by exact (pa_cons (pv 0) pa_nil))))) pss_nil)), ?_⟩
  refine ⟨_, rfl, _, _, _, rfl, Dat.int, fun b hb _ => ⟨b, rfl, ?_⟩⟩
  have hb' := hb i rfl
  subst hb'
  by_cases c : 1 ≤ i ∧ i ≤ 64
  · rw [decide_eq_true c]
    exact q1 c _ (Ex.refl _)
  · rw [decide_eq_false c]
    exact ⟨_, rfl, (by show 1 ≤ 1000; decide), fun a ha => raised ha fun d H' e h => q2 c d H' e h⟩
def fac : Nat → Int
  | 0 => 1
  | n + 1 => fac n * ((n : Int) + 1)
def spFactorial (C : Addr) : Sp := fun vs H Q E => ∃ i : Int, vs = [.int i] ∧ (num64 i → ∀ H', Ex H H' → Q (.int (fac i.toNat)) H') ∧
  (¬ num64 i → ∀ d H', Ex H H' → H' d = some (.xd [("given", .int i)]) → E (.ref C) (some d) H')
theorem ok_factorial (T : TA2 K mg) : FnOk P w K mg base (L2.CX P w) 5 T.factorial.a T.factorial.fd ["number"] (spFactorial T.InvalidNumber.C) := by
  refine T.factorial.F.okX sc_factorial (fun vs H Q E h => ?_) (fun cdv A outer s H vs Q E hr h => ?_)
  · obtain ⟨i, rfl, _⟩ := h; rfl
  obtain ⟨i, rfl, q1, q2⟩ := h
  refine ⟨_, (pss_cons (ps_expr (by exact (pe_callS (ok_check_number T) (hr.mono (by decide)) rfl T.check_number.m T.check_number.F.kp T.check_number.b (fun σ => passAt (takes_of rfl rfl rfl rfl) σ) (pa_cons (pv 0) pa_nil))))
    (pss_cons (ps_set (i := 1) sc_factorial.nd rfl (Or.inl rfl) pe_int)
    (pss_cons (ps_for (passes_of rfl) rfl (pi_range2 rfl T.z_range (pa_cons pe_int (pa_cons (pe_op op_add (pv 0) pe_int) pa_nil))) (pg_name (i := 2) sc_factorial.nd rfl (Or.inl rfl)) (pss_one (ps_aug (i := 1) sc_factorial.nd rfl (Or.inl rfl) (pv 2) ip_mulC)))
    (pss_one (ps_ret (pv 1)))))), ?_⟩
  refine ⟨_, rfl, _, rfl, fun ok H1 e1 => ?_, fun no d H1 e1 hd => q2 no d H1 e1 hd⟩
  have ok' : 0 ≤ i ∧ i ≤ 64 := ok
  refine ⟨_, rfl, _, _, rfl, rfl, 2, i + 1, rfl, ⟨by decide, by decide, by omega, by omega⟩, for_range (lo := 2) (n := (i + 1 - 2).toNat)
    (fun k σ H' => H' = H1 ∧ ∃ v, σ = [some (.int i), some (.int (fac (k + 1))), v]) ⟨rfl, _, rfl⟩ ?_ ?_⟩
  · rintro k σ H' hk ⟨rfl, v, rfl⟩
    refine ⟨_, rfl, _, rfl, _, _, rfl, rfl, .inr ⟨by omega, by omega⟩, rfl, some (.int (2 + (k : Int))), ?_⟩
    have e : fac (k + 1) * (2 + (k : Int)) = fac (k + 2) := by
      show fac (k + 1) * (2 + (k : Int)) = fac (k + 1) * (((k + 1 : Nat) : Int) + 1)
      congr 1
      omega
    rw [e]
    rfl
  · rintro σ H' ⟨rfl, v, rfl⟩
    refine ⟨_, rfl, ?_⟩
    have e : fac ((i + 1 - 2).toNat + 1) = fac i.toNat := by
      rcases (by omega : i = 0 ∨ 1 ≤ i) with rfl | h
      · rfl
      · congr 1; omega
    rw [e]
    exact q1 ok _ e1
def spChoose (C D : Addr) : Sp := fun vs H Q E => ∃ i j : Int, vs = [.int i, .int j] ∧ (num64 i → num64 j → ∀ H', Ex H H' → Q (.int (PySem.W.mcComb i j)) H') ∧
  (¬ num64 i → ∀ d H', Ex H H' → H' d = some (.xd [("given", .int i)]) → E (.ref C) (some d) H') ∧
  (num64 i → ¬ num64 j → ∀ d H', Ex H H' → H' d = some (.xd [("given", .int j)]) → E (.ref D) (some d) H')
theorem ok_choose (T : TA2 K mg) : FnOk P w K mg base (L2.CX P w) 5 T.choose.a T.choose.fd ["number", "many"] (spChoose T.InvalidNumber.C T.InvalidMany.C) := by
  refine T.choose.F.okX sc_choose (fun vs H Q E h => ?_) (fun cdv A outer s H vs Q E hr h => ?_)
  · obtain ⟨i, j, rfl, _⟩ := h; rfl
  obtain ⟨i, j, rfl, q1, q2, q3⟩ := h
  refine ⟨_, (pss_cons (ps_expr (by exact (pe_callS (ok_check_number T) (hr.mono (by decide)) rfl T.check_number.m T.check_number.F.kp T.check_number.b (fun σ => passAt (takes_of rfl rfl rfl rfl) σ) (pa_cons (pv 0) pa_nil))))
    (pss_cons (ps_if (pt_not (pt_val (pe_call (ok_is_between T.toTA1) (hr.mono (by decide)) rfl T.is_between.m T.is_between.F.kp T.is_between.b .nil pass0 (pa_cons (pv 1) (pa_cons pe_int (pa_cons (pe_glob (v := .int 64) rfl T.c_HIGHEST ⟨_, rfl⟩) pa_nil)))))) (pss_one (ps_raise rfl (takes_of rfl rfl rfl rfl) (pmk_oex T.InvalidMany.T T.InvalidMany.iC T.InvalidMany.tI (ok_init_InvalidMany T.InvalidMany) (hr.mono (by decide)) T.InvalidMany.b .nil pass0 rfl T.InvalidMany.gC (by exact (pa_cons (pv 1) pa_nil))))) pss_nil)
    (pss_one (ps_ret (pe_callBfun cr_comb rfl T.c_comb (pa_cons (pv 0) (pa_cons (pv 1) pa_nil))))))), ?_⟩
  refine ⟨_, rfl, _, rfl, fun ok H1 e1 => ?_, fun no d H1 e1 hd => q2 no d H1 e1 hd⟩
  have ok' : 0 ≤ i ∧ i ≤ 64 := ok
  refine ⟨_, rfl, _, _, _, rfl, Dat.int, fun b hb _ => ⟨b, rfl, ?_⟩⟩
  have hb' := hb j rfl
  subst hb'
  by_cases c : 0 ≤ j ∧ j ≤ 64
  · rw [decide_eq_true c]
    exact ⟨_, rfl, _, rfl, i, j, rfl, ok'.1, by omega, c.1, by omega, q1 ok c _ e1⟩
  · rw [decide_eq_false c]
    exact ⟨_, rfl, (by show 1 ≤ 1000; decide), fun a ha => raised ha fun d H' e h => q3 ok c d H' (e1.trans e) h⟩
def spEven (C D : Addr) (K : PySem.W.Frag) : Sp := fun vs H Q E => ∃ i j : Int, vs = [.int i, .int j] ∧
  (num64 i → many64 j → ∀ p H', Ex H H' → SqT K H' p (List.replicate (i - i / j * j).toNat (.int (i / j + 1)) ++ List.replicate (j - (i - i / j * j)).toNat (.int (i / j))) → Q (.ref p) H') ∧
  (¬ num64 i → ∀ d H', Ex H H' → H' d = some (.xd [("given", .int i)]) → E (.ref C) (some d) H') ∧
  (num64 i → ¬ many64 j → ∀ d H', Ex H H' → H' d = some (.xd [("given", .int j)]) → E (.ref D) (some d) H')
theorem rep_one {n : Nat} {x : V} : (List.replicate n [x]).flatten = List.replicate n x := by
  induction n with
  | zero => rfl
  | succ n ih => rw [List.replicate_succ, List.flatten_cons, ih, List.replicate_succ]; rfl
theorem ok_even_parts (T : TA2 K mg) : FnOk P w K mg base (L2.CX P w) 5 T.even_parts.a T.even_parts.fd ["total", "many"] (spEven T.InvalidNumber.C T.InvalidMany.C K) := by
  refine T.even_parts.F.okX sc_even_parts (fun vs H Q E h => ?_) (fun cdv A outer s H vs Q E hr h => ?_)
  · obtain ⟨i, j, rfl, _⟩ := h; rfl
  obtain ⟨i, j, rfl, q1, q2, q3⟩ := h
  refine ⟨_, (pss_cons (ps_expr (by exact (pe_callS (ok_check_number T) (hr.mono (by decide)) rfl T.check_number.m T.check_number.F.kp T.check_number.b (fun σ => passAt (takes_of rfl rfl rfl rfl) σ) (pa_cons (pv 0) pa_nil))))
    (pss_cons (ps_expr (by exact (pe_callS (ok_check_many T) (hr.mono (by decide)) rfl T.check_many.m T.check_many.F.kp T.check_many.b (fun σ => passAt (takes_of rfl rfl rfl rfl) σ) (pa_cons (pv 1) pa_nil))))
    (pss_cons (ps_set (i := 2) sc_even_parts.nd rfl (Or.inl rfl) (pe_op op_fdiv (pv 0) (pv 1)))
    (pss_cons (ps_set (i := 3) sc_even_parts.nd rfl (Or.inl rfl) (pe_op op_sub (pv 0) (pe_op op_mul (pv 2) (pv 1))))
    (pss_one (ps_ret (pe_op (kcatA K) (pe_op (krepA K) (pe_tup (pa_cons (pe_op op_add (pv 2) pe_int) pa_nil)) (pv 3)) (pe_op (krepA K) (pe_tup (pa_cons (pv 2) pa_nil)) (pe_op op_sub (pv 1) (pv 3)))))))))), ?_⟩
  refine ⟨_, rfl, _, rfl, fun ok H1 e1 => ?_, fun no d H1 e1 hd => q2 no d H1 e1 hd⟩
  have ok' : 0 ≤ i ∧ i ≤ 64 := ok
  refine ⟨_, rfl, _, rfl, fun okj H2 e2 => ?_, fun no d H2 e2 hd => q3 ok no d H2 (e1.trans e2) hd⟩
  have okj' : 1 ≤ j ∧ j ≤ 64 := okj
  have d2 : i / j * j ≤ i := Int.ediv_mul_le _ (by omega)
  have d3 : i - i / j * j < j := by
    have := Int.lt_ediv_add_one_mul_self i (show 0 < j by omega)
    have e : (i / j + 1) * j = i / j * j + j := by rw [Int.add_mul, Int.one_mul]
    omega
  refine ⟨_, rfl, _, rfl, _, _, rfl, rfl, ⟨by omega, by omega⟩, ?_⟩
  refine ⟨_, rfl, _, rfl, _, rfl, _, _, rfl, rfl, .inr ⟨by omega, by omega⟩, _, _, rfl, rfl, ?_⟩
  refine ⟨_, rfl, _, _, rfl, rfl, (by show 1 ≤ sizeLine; decide), fun p hp => ?_⟩
  refine ⟨_, rfl, p, _, _, rfl, rfl, st_of upd_same, by simp, by omega, by omega, (by show 1 ≤ 1000; decide), fun r H3 e3 hr3 => ?_⟩
  refine ⟨_, rfl, (by show 1 ≤ sizeLine; decide), fun p2 hp2 => ?_⟩
  refine ⟨_, rfl, _, rfl, _, _, rfl, rfl, p2, _, _, rfl, rfl, st_of upd_same, by simp, by omega, by omega, (by show 1 ≤ 1000; decide), fun r2 H4 e4 hr4 => ?_⟩
  rw [rep_one] at hr3 hr4
  have hr3' := ex_t e4 (ex_t (Ex.new hp2) hr3)
  have e5 : Ex H H4 := (((e1.trans e2).trans (Ex.new hp)).trans e3).trans ((Ex.new hp2).trans e4)
  refine ⟨r, r2, _, _, rfl, rfl, hr3', hr4, ?_, ?_, ?_, ?_⟩
  · rw [List.length_replicate, List.length_replicate]
    exact Nat.le_trans (show _ ≤ 1000 by omega) (by decide)
  · intro z
    refine q1 ok okj r2 _ e5 ?_
    rw [z]
    exact hr4
  · intro _ z
    refine q1 ok okj r _ e5 ?_
    rw [z, List.append_nil]
    exact hr3'
  · intro _ _ p5 hp5
    exact q1 ok okj p5 _ (e5.trans (Ex.new hp5)) (st_of upd_same)
/-! ### all of a list or tuple of ints from lo on -/
def spAreFrom (K : PySem.W.Frag) : Sp := fun vs H Q _ => ∃ (a : Addr) (ns : List Int) (lo : Int), vs = [.ref a, .int lo] ∧ (SqL K H a (ns.map V.int) ∨ SqT K H a (ns.map V.int)) ∧ ns.length ≤ 1000 ∧ (∀ n ∈ ns, lo ≤ n) ∧ ∀ H', Ex H H' → Q (.bl true) H'
theorem ok_are_from (T : TA2 K mg) : FnOk P w K mg base CX0 3 T.are_from.a T.are_from.fd ["values", "low"] (spAreFrom K) := by
  refine T.are_from.F.ok sc_are_from (fun vs H Q E h => ?_) (fun cdv A outer s H vs Q E hr h => ?_)
  · obtain ⟨a, ns, lo, rfl, _⟩ := h; rfl
  obtain ⟨a, ns, lo, rfl, hs, hz, hall, q⟩ := h
  refine ⟨_, (pss_one (ps_ret (pe_callB (kall K rfl) (by rfl) T.z_all (by decide +kernel) (pa_cons (pe_lc (own := [("value", 2)]) (g := gName 2) (by rfl) sc_are_from.nd (kpis K (pv 0)) (blkOk_by (own := [("value", 2)]) (N := ["values", "low", "value"]) (sc := defScope s_are_from) (by decide +kernel)) (fun _ _ _ _ _ => (pg_name (i := 2) sc_are_from.nd rfl (Or.inl rfl))) (fun _ _ _ _ _ => pts_nil) (fun _ _ _ _ _ => (pe_call (ok_is_from T.toTA1) (hr.mono (by decide)) rfl T.is_from.m T.is_from.F.kp T.is_from.b .nil pass0 (pa_cons (pv 2) (pa_cons (pv 1) pa_nil))))) pa_nil)))), ?_⟩
  -- the comprehension: all True
  have hl : ∀ {i : Nat} {x : V}, (ns.map V.int)[i]? = some x → ∃ z, x = .int z ∧ lo ≤ z := by
    intro i x h
    obtain ⟨z, hz, rfl⟩ := ints_get h
    exact ⟨z, rfl, hall z (List.mem_of_getElem? hz)⟩
  have turn : ∀ (D : Addr) (i : Nat) (x : V) (H' : Hp), (ns.map V.int)[i]? = some x → (H D = none ∧ Ex H H' ∧ H' D = some (.lst (List.replicate i (.bl true)))) →
      gName 2 x (wipe (start ["values", "low", "value"] [.ref a, .int lo]) [2]) H' fun σ2 H2 => wipe σ2 [2] = wipe (start ["values", "low", "value"] [.ref a, .int lo]) [2] ∧ tYes σ2 H2 fun b H3 =>
        if b = true then tCall (spIsFrom K) [] E0 (tCons (tVar 2) (tCons (tVar 1) tNil)) σ2 H3 fun y H4 => ∃ acc, H4 D = some (.lst acc) ∧ acc.length < sizeLine ∧ (H D = none ∧ Ex H (upd H4 D (.lst (acc ++ [y]))) ∧ (upd H4 D (.lst (acc ++ [y]))) D = some (.lst (List.replicate (i + 1) (.bl true))))
        else (H D = none ∧ Ex H H3 ∧ H3 D = some (.lst (List.replicate (i + 1) (.bl true)))) := by
    rintro D i x H' hx ⟨hD, e, hd⟩
    obtain ⟨z, rfl, hz2⟩ := hl hx
    have hi : i < 1000 := by
      have := (List.getElem?_eq_some_iff.mp hx).1
      rw [List.length_map] at this
      omega
    refine ⟨rfl, ?_⟩
    show tCall (spIsFrom K) [] E0 (tCons (tVar 2) (tCons (tVar 1) tNil)) _ H' _
    refine ⟨_, rfl, _, rfl, _, _, rfl, Dat.int, fun b hb _ => ?_⟩
    have hb' := hb z rfl
    subst hb'
    rw [decide_eq_true hz2]
    refine ⟨_, hd, ?_, hD, e.mut hD, ?_⟩
    · rw [List.length_replicate]
      exact small1000 (by omega)
    · rw [upd_same, List.replicate_succ']
  have done : ∀ (D : Addr) (H' : Hp), (H D = none ∧ Ex H H' ∧ H' D = some (.lst (List.replicate (ns.map V.int).length (.bl true)))) → ∃ (a : Addr) (bs : List Bool), [V.ref D] = [V.ref a] ∧ SqL K H' a (bs.map V.bl) ∧ Q (.bl (bs.all id)) H' := by
    rintro D H' ⟨_, e, hd⟩
    refine ⟨D, List.replicate (ns.map V.int).length true, rfl, ?_, ?_⟩
    · rw [List.map_replicate]
      exact SqL.of hd
    · have z : (List.replicate (ns.map V.int).length true).all id = true := by
        rw [List.all_eq_true]
        intro b hb
        rw [List.eq_of_mem_replicate hb]
        rfl
      rw [z]
      exact q _ e
  rcases hs with hs | hs
  · exact .inl ⟨_, rfl, a, rfl, ⟨_, hs⟩, fun D hD => lc_list (xs := ns.map V.int) (fun i H' => H D = none ∧ Ex H H' ∧ H' D = some (.lst (List.replicate i (.bl true)))) ⟨hD, Ex.new hD, upd_same⟩
      (fun i H' _ p => ex_l p.2.1 hs) (fun i x H' hx p => turn D i x H' hx p) (fun H' p => done D H' p)⟩
  · exact .inr ⟨_, rfl, a, rfl, ⟨_, hs⟩, fun D hD => lc_tup (xs := ns.map V.int) (fun i H' => H D = none ∧ Ex H H' ∧ H' D = some (.lst (List.replicate i (.bl true)))) ⟨hD, Ex.new hD, upd_same⟩
      (fun i H' _ p => ex_t p.2.1 hs) (fun i x H' hx p => turn D i x H' hx p) (fun H' p => done D H' p)⟩
/-- what arrangements reckons -/
def arr : Int → List Int → Int
  | _, [] => 1
  | t, p :: r => PySem.W.mcComb (t + p) p * arr (t + p) r
def arrUp (l : List Int) : Int × Int := l.foldl (fun s p => (s.1 * PySem.W.mcComb (s.2 + p) p, s.2 + p)) (1, 0)
theorem arrUp_more {l : List Int} {i : Nat} {z : Int} (h : l[i]? = some z) : arrUp (l.take (i + 1)) = ((arrUp (l.take i)).1 * PySem.W.mcComb ((arrUp (l.take i)).2 + z) z, (arrUp (l.take i)).2 + z) := by
  obtain ⟨hi, e⟩ := List.getElem?_eq_some_iff.mp h
  rw [← List.take_append_getElem hi, e]
  unfold arrUp
  rw [List.foldl_append]
  rfl
theorem arrUp_two (l : List Int) (i : Nat) : (arrUp (l.take i)).2 = (l.take i).sum := by
  have gen : ∀ (m : List Int) (s : Int × Int), (m.foldl (fun s p => (s.1 * PySem.W.mcComb (s.2 + p) p, s.2 + p)) s).2 = s.2 + m.sum := by
    intro m
    induction m with
    | nil => intro s; simp
    | cons a r ih => intro s; rw [List.foldl_cons, ih, List.sum_cons]; exact Int.add_assoc _ _ _
  have g := gen (l.take i) (1, 0)
  unfold arrUp
  rw [g]
  exact Int.zero_add _
theorem nn_sum {l : List Int} (h : ∀ n ∈ l, 0 ≤ n) : 0 ≤ l.sum := by
  induction l with
  | nil => exact Int.le_refl _
  | cons a r ih =>
    rw [List.sum_cons]
    have h1 := h a List.mem_cons_self
    have h2 := ih fun n hn => h n (List.mem_cons_of_mem _ hn)
    omega
theorem part_le {l : List Int} (h : ∀ n ∈ l, 0 ≤ n) {i : Nat} {z : Int} (hz : l[i]? = some z) : 0 ≤ z ∧ 0 ≤ (l.take i).sum ∧ (l.take i).sum + z ≤ l.sum := by
  obtain ⟨hi, e⟩ := List.getElem?_eq_some_iff.mp hz
  have h1 : 0 ≤ z := h z (e ▸ List.getElem_mem hi)
  have h2 : 0 ≤ (l.take i).sum := nn_sum fun n hn => h n (List.mem_of_mem_take hn)
  have h3 : 0 ≤ (l.drop (i + 1)).sum := nn_sum fun n hn => h n (List.mem_of_mem_drop hn)
  have h4 : l.sum = (l.take i).sum + (z + (l.drop (i + 1)).sum) := by
    conv => lhs; rw [← List.take_append_drop i l, List.drop_eq_getElem_cons hi, e]
    rw [List.sum_append, List.sum_cons]
  omega
theorem comb_lt {a b : Int} (ha : 0 ≤ a) (h : a ≤ 64) (hb : 0 ≤ b) (hb2 : b ≤ 64) : 0 ≤ PySem.W.mcComb a b ∧ PySem.W.mcComb a b < 2 ^ 64 := by
  have key : ∀ n : Fin 65, ∀ k : Fin 65, 0 ≤ PySem.W.mcComb (n.val : Int) (k.val : Int) ∧ PySem.W.mcComb (n.val : Int) (k.val : Int) < 2 ^ 64 := by decide +kernel
  have := key ⟨a.toNat, by omega⟩ ⟨b.toNat, by omega⟩
  simpa [Int.toNat_of_nonneg ha, Int.toNat_of_nonneg hb] using this
def spArr (C : Addr) (K : PySem.W.Frag) : Sp := fun vs H Q E => ∃ (a : Addr) (ns : List Int), vs = [.ref a] ∧ (SqL K H a (ns.map V.int) ∨ SqT K H a (ns.map V.int)) ∧ ns.length ≤ 1000 ∧ (∀ n ∈ ns, 0 ≤ n) ∧
  (ns.sum ≤ 64 → ∀ H', Ex H H' → Q (.int (arrUp ns).1) H') ∧
  (¬ ns.sum ≤ 64 → ∀ d H', Ex H H' → H' d = some (.xd [("given", .ref a)]) → E (.ref C) (some d) H')
theorem ok_arrangements (T : TA2 K mg) : FnOk P w K mg base (L2.CX P w) 5 T.arrangements.a T.arrangements.fd ["parts"] (spArr T.InvalidParts.C K) := by
  refine T.arrangements.F.okX sc_arrangements (fun vs H Q E h => ?_) (fun cdv A outer s H vs Q E hr h => ?_)
  · obtain ⟨a, ns, rfl, _⟩ := h; rfl
  obtain ⟨a, ns, rfl, hs, hz, hall, q1, q2⟩ := h
  refine ⟨_, (pss_cons (ps_if (PW.pt (pw_or (pt_not (pt_val (pe_call (ok_is_list T.toTA1) (hr.mono (by decide)) rfl T.is_list.m T.is_list.F.kp T.is_list.b .nil pass0 (pa_cons (pv 0) pa_nil)))) (pw_or (pt_not (pt_val (pe_call (ok_are_from T) (hr.mono (by decide)) rfl T.are_from.m T.are_from.F.kp T.are_from.b .nil pass0 (pa_cons (pv 0) (pa_cons pe_int pa_nil))))) (pw_or1 (pt_cmpR op_gt (pe_callB (ksum K rfl) (by rfl) T.z_sum (by decide +kernel) (pa_cons (pv 0) pa_nil)) (pe_glob (v := .int 64) rfl T.c_HIGHEST ⟨_, rfl⟩) (nomark _)))))) (pss_one (ps_raise rfl (takes_of rfl rfl rfl rfl) (pmk_oex T.InvalidParts.T T.InvalidParts.iC T.InvalidParts.tI (ok_init_InvalidParts T.InvalidParts) (hr.mono (by decide)) T.InvalidParts.b .nil pass0 rfl T.InvalidParts.gC (by exact (pa_cons (pv 0) pa_nil))))) pss_nil)
    (pss_cons (ps_set (i := 1) sc_arrangements.nd rfl (Or.inl rfl) pe_int)
    (pss_cons (ps_set (i := 2) sc_arrangements.nd rfl (Or.inl rfl) pe_int)
    (pss_cons (ps_for (passes_of rfl) rfl (kpis K (pv 0)) (pg_name (i := 3) sc_arrangements.nd rfl (Or.inl rfl)) (pss_cons (ps_aug (i := 2) sc_arrangements.nd rfl (Or.inl rfl) (pv 3) ip_add)
    (pss_one (ps_aug (i := 1) sc_arrangements.nd rfl (Or.inl rfl) (pe_callBfun cr_comb rfl T.c_comb (pa_cons (pv 2) (pa_cons (pv 3) pa_nil))) ip_mulC))))
    (pss_one (ps_ret (pv 1))))))), ?_⟩
  have exs : ∀ {H'}, Ex H H' → SqL K H' a (ns.map V.int) ∨ SqT K H' a (ns.map V.int) := fun e => hs.imp (ex_l e) (ex_t e)
  refine ⟨_, rfl, a, _, rfl, hs, fun H1 e1 => ⟨true, rfl, ?_⟩⟩
  refine ⟨_, rfl, a, ns, 0, rfl, exs e1, hz, hall, fun H2 e2 => ⟨true, rfl, ?_⟩⟩
  refine ⟨_, rfl, a, ns, rfl, exs (e1.trans e2), _, _, rfl, rfl, _, rfl, ite2 (fun c => ?_) (fun c => ?_)⟩
  · have c' := of_decide_eq_true c
    exact ⟨_, rfl, (by show 1 ≤ 1000; decide), fun x hx => raised hx fun d H' e h => q2 (by omega) d H' ((e1.trans e2).trans e) h⟩
  · have c' : ns.sum ≤ 64 := by
      have := of_decide_eq_false (Bool.eq_false_iff.mpr c)
      omega
    have e12 := e1.trans e2
    have turn : ∀ (i : Nat) (x : V) (σ : L2.St), (ns.map V.int)[i]? = some x → (∃ v, σ = [some (.ref a), some (.int (arrUp (ns.take i)).1), some (.int (arrUp (ns.take i)).2), v]) →
        gName 3 x σ H2 fun σ2 H3 => tSeq (tAug 2 (tVar 3) (ipI fun i j => i + j)) (tAug 1 (tCB rComb (tCons (tVar 2) (tCons (tVar 3) tNil))) (fun x y H Q => ∃ i j, x = .int i ∧ y = .int j ∧ CMul i j ∧ Q (.int (i * j)) H))
          { nx := fun σ' H' => H' = H2 ∧ ∃ v, σ' = [some (.ref a), some (.int (arrUp (ns.take (i + 1))).1), some (.int (arrUp (ns.take (i + 1))).2), v], rt := Q } σ2 H3 := by
      rintro i x σ hx ⟨v, rfl⟩
      obtain ⟨z, hz, rfl⟩ := ints_get hx
      have hp := part_le hall hz
      have hm := arrUp_more hz
      have h2 := arrUp_two ns i
      have hc := @comb_lt ((arrUp (ns.take i)).2 + z) z (by omega) (by omega) hp.1 (by omega)
      refine ⟨_, rfl, _, rfl, _, _, rfl, rfl, ?_⟩
      refine ⟨_, rfl, _, rfl, _, rfl, _, _, rfl, (show 0 ≤ (arrUp (ns.take i)).2 + z by omega), (show (arrUp (ns.take i)).2 + z ≤ 1000 by omega), hp.1, by omega, _, _, rfl, rfl, .inr ⟨(show -(2 ^ 64) < PySem.W.mcComb ((arrUp (ns.take i)).2 + z) z by omega), hc.2⟩, rfl, some (.int z), ?_⟩
      rw [hm]
      rfl
    have fin : ∀ σ H', (H' = H2 ∧ ∃ v, σ = [some (.ref a), some (.int (arrUp (ns.take (ns.map V.int).length)).1), some (.int (arrUp (ns.take (ns.map V.int).length)).2), v]) → tRet (tVar 1) { nx := fun _ H' => Q .non H', rt := Q } σ H' := by
      rintro σ H' ⟨rfl, v, rfl⟩
      rw [List.length_map, List.take_length]
      exact ⟨_, rfl, q1 c' _ e12⟩
    rcases exs e12 with hs2 | hs2
    · exact .inl ⟨_, rfl, a, rfl, ⟨_, hs2⟩, for_list (xs := ns.map V.int) (fun i σ H' => H' = H2 ∧ ∃ v, σ = [some (.ref a), some (.int (arrUp (ns.take i)).1), some (.int (arrUp (ns.take i)).2), v]) ⟨rfl, none, rfl⟩
        (fun i σ H' _ ⟨e, _⟩ => e ▸ hs2) (fun i x σ H' hx ⟨e, hv⟩ => e ▸ turn i x σ hx hv) fin⟩
    · exact .inr ⟨_, rfl, a, rfl, ⟨_, hs2⟩, for_tup (xs := ns.map V.int) (fun i σ H' => H' = H2 ∧ ∃ v, σ = [some (.ref a), some (.int (arrUp (ns.take i)).1), some (.int (arrUp (ns.take i)).2), v]) ⟨rfl, none, rfl⟩
        (fun i σ H' _ ⟨e, _⟩ => e ▸ hs2) (fun i x σ H' hx ⟨e, hv⟩ => e ▸ turn i x σ hx hv) fin⟩
end
end L2.U


set_option Elab.async false
set_option linter.all false
set_option maxRecDepth 100000
set_option maxHeartbeats 4000000
namespace L2.U
open PySem PySem.Spec PyProof.Rows Evl
abbrev s_law_triangle : Stmt := top 25
theorem sc_law_triangle : FnScope ["most", "rows", "k", "last", "i"] ["most"] (defScope s_law_triangle) := ⟨rfl, rfl, rfl, by decide +kernel, rfl, by decide +kernel, by decide +kernel⟩
abbrev s_law_product : Stmt := top 27
theorem sc_law_product : FnScope ["many", "found", "factor"] ["many"] (defScope s_law_product) := ⟨rfl, rfl, rfl, by decide +kernel, rfl, by decide +kernel, by decide +kernel⟩
abbrev s_law_arranged : Stmt := top 28
theorem sc_law_arranged : FnScope ["triangle", "parts", "found", "total", "part"] ["triangle", "parts"] (defScope s_law_arranged) := ⟨rfl, rfl, rfl, by decide +kernel, rfl, by decide +kernel, by decide +kernel⟩
abbrev s_law_is_even : Stmt := top 29
theorem sc_law_is_even : FnScope ["told", "total", "many", "part", "k"] ["told", "total", "many"] (defScope s_law_is_even) := ⟨rfl, rfl, rfl, by decide +kernel, rfl, by decide +kernel, by decide +kernel⟩
abbrev s_law_told : Stmt := top 26
theorem sc_law_told : FnScope ["kind", "named", "passed", "error"] ["kind", "named", "passed"] (defScope s_law_told) := ⟨rfl, rfl, rfl, by decide +kernel, rfl, by decide +kernel, by decide +kernel⟩
structure TA3 (K : PySem.W.Frag) (mg : Str → Option Value) extends TA2 K mg where
  law_triangle : DefAt K mg "_law_triangle" s_law_triangle ["most"]
  law_product : DefAt K mg "_law_product" s_law_product ["many"]
  law_arranged : DefAt K mg "_law_arranged" s_law_arranged ["triangle", "parts"]
  law_is_even : DefAt K mg "_law_is_even" s_law_is_even ["told", "total", "many"]
  law_told : DefAt K mg "_law_told" s_law_told ["kind", "named", "passed"]
  kb_factorial_number : KBinds K factorial.fd ["number"] ["number"] kw1 kw1
  kb_choose_many_number : KBinds K choose.fd ["number", "many"] ["many", "number"] kw21 kw21
  kb_arrangements_parts : KBinds K arrangements.fd ["parts"] ["parts"] kw1 kw1
  kb_even_parts_many_total : KBinds K even_parts.fd ["total", "many"] ["many", "total"] kw21 kw21
  TalkError_C : Addr
  TalkError_gC : mg "TalkError" = some (.ref TalkError_C)
  eNN : PySem.W.exmOne K (.ref InvalidNumber.C) (.ref InvalidNumber.C) = some true
  eMN : PySem.W.exmOne K (.ref InvalidMany.C) (.ref InvalidNumber.C) = some false
  eMM : PySem.W.exmOne K (.ref InvalidMany.C) (.ref InvalidMany.C) = some true
  ePN : PySem.W.exmOne K (.ref InvalidParts.C) (.ref InvalidNumber.C) = some false
  ePM : PySem.W.exmOne K (.ref InvalidParts.C) (.ref InvalidMany.C) = some false
  ePP : PySem.W.exmOne K (.ref InvalidParts.C) (.ref InvalidParts.C) = some true
section
variable {P : Program} {w : World} {K : PySem.W.Frag} {mg : Str → Option Value} {base : Heap}
/-! ### the own triangle -/
def rowUp (l : List Int) : List Int := [1] ++ List.zipWith (fun a b => a + b) l l.tail ++ [1]
def row : Nat → List Int
  | 0 => [1]
  | n + 1 => rowUp (row n)
theorem row_len : ∀ n, (row n).length = n + 1
  | 0 => rfl
  | n + 1 => by
    have ih := row_len n
    show ([1] ++ List.zipWith (fun a b => a + b) (row n) (row n).tail ++ [1]).length = n + 2
    rw [List.length_append, List.length_append, List.length_zipWith, List.length_tail, ih]
    simp
    omega
theorem row_comb {n k : Nat} (hn : n ≤ 64) (hk : k ≤ n) : (row n)[k]? = some (PySem.W.mcComb (n : Int) (k : Int)) := by
  have key : ∀ n : Fin 65, row n.val = (List.range (n.val + 1)).map fun k : Nat => PySem.W.mcComb (n.val : Int) (k : Int) := by decide +kernel
  have e : row n = (List.range (n + 1)).map fun k : Nat => PySem.W.mcComb (n : Int) (k : Int) := key ⟨n, by omega⟩
  rw [e, List.getElem?_map, List.getElem?_range (by omega)]
  rfl
def Tri (H : Hp) (r : Addr) (k : Nat) : Prop := ∃ as : List Addr, as.length = k + 1 ∧ H r = some (.lst (as.map V.ref)) ∧ ∀ (n : Nat) (a : Addr), as[n]? = some a → H a = some (.lst ((row n).map V.int))
theorem Tri.ex {H H' : Hp} {r : Addr} {k : Nat} (e : Ex H H') (h : Tri H r k) : Tri H' r k := by
  obtain ⟨as, h1, h2, h3⟩ := h
  exact ⟨as, h1, e _ _ h2, fun n a ha => e _ _ (h3 n a ha)⟩
theorem given_all {n : Nat} {v : Nat → V} : given n (fun _ => true) v = (List.range n).map v := by
  unfold given
  rw [List.filter_eq_self.mpr (by intro a _; rfl)]
theorem refs_get {as : List Addr} {n : Nat} {a : Addr} (h : as[n]? = some a) : (as.map V.ref)[n]? = some (V.ref a) := by
  rw [List.getElem?_map, h]; rfl
def spTriangle : Sp := fun vs H Q _ => vs = [.int 64] ∧ ∀ r H', Ex H H' → Tri H' r 64 → Q (.ref r) H'
theorem ok_law_triangle (T : TA3 K mg) : FnOk P w K mg base CX0 1 T.law_triangle.a T.law_triangle.fd ["most"] spTriangle := by
  refine T.law_triangle.F.ok sc_law_triangle (fun vs H Q E h => ?_) (fun cdv A outer s H vs Q E hr h => ?_)
  · obtain ⟨rfl, _⟩ := h; rfl
  obtain ⟨rfl, q⟩ := h
  refine ⟨_, (pss_cons (ps_set (i := 1) sc_law_triangle.nd rfl (Or.inl rfl) (pe_lst (pa_cons (pe_lst (pa_cons pe_int pa_nil)) pa_nil)))
    (pss_cons (ps_for PassesOwn.never rfl (pi_range1 rfl T.z_range (pa_cons (pv 0) pa_nil)) (pg_name (i := 2) sc_law_triangle.nd rfl (Or.inl rfl)) (pss_cons (ps_set (i := 3) sc_law_triangle.nd rfl (Or.inr rfl) (pe_ix (kixl K) (pv 1) (pv 2) (fun _ _ => rfl)))
    (pss_one (ps_expr (pe_bm PySem.F.plainAttrs_list PySem.F.slot_list_append PySem.F.type_list_append mt_append (pv 1) (pa_cons (pe_op op_cat (pe_op op_cat (pe_lst (pa_cons pe_int pa_nil)) (pe_lc (own := [("i", 4)]) (g := gName 4) (by rfl) sc_law_triangle.nd (pi_range1 rfl T.z_range (pa_cons (pe_op op_sub (pe_callB (klen K) (by rfl) T.z_len (by decide +kernel) (pa_cons (pv 3) pa_nil)) pe_int) pa_nil)) (blkOk_by (own := [("i", 4)]) (N := ["most", "rows", "k", "last", "i"]) (sc := defScope s_law_triangle) (by decide +kernel)) (fun _ _ _ _ _ => (pg_name (i := 4) sc_law_triangle.nd rfl (Or.inl rfl))) (fun _ _ _ _ _ => pts_nil) (fun _ _ _ _ _ => (pe_op op_add (pe_ix (kixl K) (pv 3) (pv 4) (fun _ _ => rfl)) (pe_ix (kixl K) (pv 3) (pe_op op_add (pv 4) pe_int) (fun _ _ => rfl)))))) (pe_lst (pa_cons pe_int pa_nil))) pa_nil))))))
    (pss_one (ps_ret (pv 1))))), ?_⟩
  refine ⟨(by show 1 ≤ sizeLine; decide), fun a0 ha0 => ⟨(by show 1 ≤ sizeLine; decide), fun r hr0 => ?_⟩⟩
  have n0 : a0 ≠ r := by
    intro e
    rw [← e, upd_same] at hr0
    cases hr0
  have rn : H r = none := by rw [upd_ne (Ne.symm n0)] at hr0; exact hr0
  refine ⟨_, rfl, 64, rfl, by decide, by decide, for_range (lo := 0) (n := 64)
    (fun k σ H' => H r = none ∧ Ex H H' ∧ Tri H' r k ∧ ∃ u v x, σ = [some (.int 64), some (.ref r), u, v, x]) ⟨rn, ?_, ?_, none, none, none, rfl⟩ ?_ ?_⟩
  · exact (Ex.new ha0).trans (Ex.new hr0)
  · refine ⟨[a0], rfl, upd_same, fun n a ha => ?_⟩
    have hn : n = 0 := by
      have := (List.getElem?_eq_some_iff.mp ha).1
      simpa using this
    subst hn
    cases (Option.some.inj ha)
    rw [upd_ne n0, upd_same]
    rfl
  · rintro k σ H' hk ⟨rn, e, ⟨as, h1, h2, h3⟩, u, v, x, rfl⟩
    have hk1 : as[k]? = some as[k] := List.getElem?_eq_getElem (by omega)
    have hL := SqL.of (K := K) h2
    have ha := h3 k _ hk1
    refine ⟨_, rfl, _, rfl, _, _, _, _, rfl, rfl, hL, at_of (Int.zero_add _) (refs_get hk1), ?_⟩
    have hrl := row_len k
    refine ⟨_, rfl, .inl ⟨rfl, _, hL⟩, ?_⟩
    -- [1] + [..] + [1]
    refine ⟨(by show 1 ≤ sizeLine; decide), fun p hp => ?_⟩
    have e1 := Ex.new (o := .lst [.int 1]) hp
    have hlast := e1 _ _ ha
    have hLl := SqL.of (K := K) hlast
    have comp := el_lcR1 (σ := [some (.int 64), some (.ref r), some (.int (0 + (k : Int))), some (.ref as[k]), x]) (H := upd H' p (.lst [.int 1])) (j := 4) (vs := [4]) (n := (((row k).map V.int).length : Int) - 1) (fun _ => true) (fun i => .int ((row k).getD i 0 + (row k).getD (i + 1) 0))
      (t := tYes) (te := tOp (rI0 fun i j => .int (i + j)) (tOp (rIxL K) (tVar 3) (tVar 4)) (tOp (rIxL K) (tVar 3) (tOp (rI0 fun i j => .int (i + j)) (tVar 4) (tC (.int 1)))))
      (ta := tCons (tOp (rI0 fun i j => .int (i - j)) (tCB (rLen K) (tCons (tVar 3) tNil)) (tC (.int 1))) tNil)
      (fun H1 e Q k => ⟨_, rfl, _, _, rfl, .inl ⟨_, ex_l e hLl, rfl⟩, _, _, rfl, rfl, k H1 (Ex.refl _)⟩) ⟨by rw [List.length_map]; omega, by rw [List.length_map]; omega⟩ (fun _ => rfl)
      (fun i H1 _ _ H2 _ Q k => k H2 (Ex.refl _)) (fun i H1 e hi _ H2 e2 Q k2 => ?_)
    · refine comp _ (Ex.refl _) _ fun p2 H2 hp2 e2 h2' => ?_
      have hp1 : H2 p = some (.lst [.int 1]) := e2 _ _ upd_same
      have gl := given_len ((((row k).map V.int).length : Int) - 1).toNat (fun _ => true) (fun i => .int ((row k).getD i 0 + (row k).getD (i + 1) 0))
      rw [List.length_map] at gl
      have size : ∀ m : Nat, m ≤ 1000 → m ≤ sizeLine := fun m h => Nat.le_of_lt (small1000 h)
      refine ⟨p, p2, _, _, rfl, rfl, hp1, h2', size _ (by rw [List.length_singleton, List.length_map]; omega), fun p3 hp3 => ?_⟩
      refine ⟨(by show 1 ≤ sizeLine; decide), fun p4 hp4 => ?_⟩
      have h33 : upd (upd H2 p3 _) p4 _ p3 = some _ := (Ex.new (o := .lst [.int 1]) hp4) p3 _ (upd_same (H := H2) (o := .lst ([.int 1] ++ given ((((row k).map V.int).length : Int) - 1).toNat (fun _ => true) (fun i => .int ((row k).getD i 0 + (row k).getD (i + 1) 0)))))
      refine ⟨p3, p4, _, _, rfl, rfl, h33, upd_same, size _ (by rw [List.length_append, List.length_singleton, List.length_map]; omega), fun p5 hp5 => ?_⟩
      -- append
      have e6 := (((e1.trans e2).trans (Ex.new (o := .lst ([.int 1] ++ given ((((row k).map V.int).length : Int) - 1).toNat (fun _ => true) (fun i => .int ((row k).getD i 0 + (row k).getD (i + 1) 0)))) hp3)).trans (Ex.new (o := .lst [.int 1]) hp4)).trans
        (Ex.new (o := .lst ([.int 1] ++ given ((((row k).map V.int).length : Int) - 1).toNat (fun _ => true) (fun i => .int ((row k).getD i 0 + (row k).getD (i + 1) 0)) ++ [.int 1])) hp5)
      have hr6 := e6 _ _ h2
      refine ⟨r, _, _, rfl, rfl, hr6, small1000 (by rw [List.length_map]; omega), ?_⟩
      have new : ([.int 1] ++ given ((((row k).map V.int).length : Int) - 1).toNat (fun _ => true) (fun i => .int ((row k).getD i 0 + (row k).getD (i + 1) 0)) ++ [.int 1] : List V) = (row (k + 1)).map V.int := by
        show _ = (rowUp (row k)).map V.int
        unfold rowUp
        rw [given_all, List.map_append, List.map_append]
        congr 2
        apply List.ext_getElem?
        intro i
        rw [List.length_map, hrl, List.getElem?_map, List.getElem?_map, List.getElem?_zipWith]
        by_cases hi : i < k
        · rw [List.getElem?_range (by omega), List.getElem?_tail, List.getElem?_eq_getElem (show i < (row k).length by omega), List.getElem?_eq_getElem (show i + 1 < (row k).length by omega)]
          simp only [Option.map_some, List.getD_eq_getElem?_getD, List.getElem?_eq_getElem (show i < (row k).length by omega), List.getElem?_eq_getElem (show i + 1 < (row k).length by omega), Option.getD_some]
        · rw [List.getElem?_eq_none (by rw [List.length_range]; omega), List.getElem?_tail, List.getElem?_eq_none (show (row k).length ≤ i + 1 by omega)]
          cases (row k)[i]? <;> rfl
      refine ⟨rn, (e.trans e6).mut rn, ⟨as ++ [p5], ?_, ?_, ?_⟩, some (.int (0 + (k : Int))), some (.ref as[k]), x, rfl⟩
      · rw [List.length_append, h1]; rfl
      · rw [upd_same, List.map_append]; rfl
      · intro n a ha
        have nr : ∀ {ns : List Int} {a : Addr} {G : Hp}, ns ≠ [] → G a = some (.lst (ns.map V.int)) → G r = some (.lst (as.map V.ref)) → a ≠ r := by
          intro ns a G hns g1 g2 ee
          rw [ee, g2] at g1
          have z := HO.lst.inj (Option.some.inj g1)
          cases ns with
          | nil => exact hns rfl
          | cons n ns => cases as with
            | nil => cases z
            | cons b bs => exact nomatch (List.cons.inj z).1
        have ne : ∀ n, row n ≠ [] := fun n z => by have := row_len n; rw [z] at this; cases this
        by_cases hn : n < as.length
        · rw [List.getElem?_append_left hn] at ha
          have g := e6 _ _ (h3 n a ha)
          rw [upd_ne (nr (ne n) g hr6)]
          exact g
        · have hn2 : n = k + 1 := by
            have := (List.getElem?_eq_some_iff.mp ha).1
            rw [List.length_append, List.length_singleton] at this
            omega
          subst hn2
          rw [List.getElem?_append_right (by omega), h1, Nat.sub_self] at ha
          cases (Option.some.inj ha)
          rw [upd_ne (nr (ne (k + 1)) (by rw [← new]; exact upd_same) hr6), ← new]
          exact upd_same
    · rw [List.length_map] at hi
      have b1 : ((row k).map V.int)[i]? = some (.int ((row k).getD i 0)) := by
        rw [List.getElem?_map, List.getElem?_eq_getElem (by omega), List.getD_eq_getElem?_getD, List.getElem?_eq_getElem (by omega)]
        rfl
      have b2 : ((row k).map V.int)[i + 1]? = some (.int ((row k).getD (i + 1) 0)) := by
        rw [List.getElem?_map, List.getElem?_eq_getElem (by omega), List.getD_eq_getElem?_getD, List.getElem?_eq_getElem (by omega)]
        rfl
      have hLl2 := ex_l (e.trans e2) hLl
      exact ⟨_, rfl, _, rfl, _, _, _, _, rfl, rfl, hLl2, atI_nat b1, _, rfl, _, rfl, _, _, rfl, rfl, _, _, _, _, rfl, rfl, hLl2, at_of (by omega) b2, _, _, rfl, rfl, k2 H2 (Ex.refl _)⟩
  · rintro σ H' ⟨_, e, ht, u, v, x, rfl⟩
    exact ⟨_, rfl, q _ _ e ht⟩
def spProduct : Sp := fun vs H Q _ => ∃ i : Int, vs = [.int i] ∧ 0 ≤ i ∧ i ≤ 64 ∧ Q (.int (fac i.toNat)) H
theorem ok_law_product (T : TA3 K mg) : FnOk P w K mg base CX0 1 T.law_product.a T.law_product.fd ["many"] spProduct := by
  refine T.law_product.F.ok sc_law_product (fun vs H Q E h => ?_) (fun cdv A outer s H vs Q E hr h => ?_)
  · obtain ⟨i, rfl, _⟩ := h; rfl
  obtain ⟨i, rfl, h0, h1, q⟩ := h
  refine ⟨_, (pss_cons (ps_set (i := 1) sc_law_product.nd rfl (Or.inl rfl) pe_int)
    (pss_cons (ps_for PassesOwn.never rfl (pi_range2 rfl T.z_range (pa_cons pe_int (pa_cons (pe_op op_add (pv 0) pe_int) pa_nil))) (pg_name (i := 2) sc_law_product.nd rfl (Or.inl rfl)) (pss_one (ps_set (i := 1) sc_law_product.nd rfl (Or.inl rfl) (pe_op op_mul (pv 1) (pv 2)))))
    (pss_one (ps_ret (pv 1))))), ?_⟩
  refine ⟨_, rfl, _, _, rfl, rfl, 1, i + 1, rfl, ⟨by decide, by decide, by omega, by omega⟩, for_range (lo := 1) (n := (i + 1 - 1).toNat)
    (fun k σ H' => H' = H ∧ ∃ v, σ = [some (.int i), some (.int (fac k)), v]) ⟨rfl, _, rfl⟩ ?_ ?_⟩
  · rintro k σ H' hk ⟨rfl, v, rfl⟩
    refine ⟨_, rfl, _, rfl, _, _, rfl, rfl, .inr ⟨by omega, by omega⟩, rfl, some (.int (1 + (k : Int))), ?_⟩
    have e : fac k * (1 + (k : Int)) = fac (k + 1) := by
      show fac k * (1 + (k : Int)) = fac k * ((k : Int) + 1)
      rw [Int.add_comm]
    rw [← e]
    rfl
  · rintro σ H' ⟨rfl, v, rfl⟩
    have e : (i + 1 - 1).toNat = i.toNat := by congr 1; omega
    rw [e]
    exact ⟨_, rfl, q⟩
def spArranged (K : PySem.W.Frag) : Sp := fun vs H Q _ => ∃ (r a : Addr) (ns : List Int), vs = [.ref r, .ref a] ∧ Tri H r 64 ∧ (SqL K H a (ns.map V.int) ∨ SqT K H a (ns.map V.int)) ∧ (∀ n ∈ ns, 0 ≤ n) ∧ ns.sum ≤ 64 ∧ ∀ H', Ex H H' → Q (.int (arrUp ns).1) H'
theorem ok_law_arranged (T : TA3 K mg) : FnOk P w K mg base CX0 1 T.law_arranged.a T.law_arranged.fd ["triangle", "parts"] (spArranged K) := by
  refine T.law_arranged.F.ok sc_law_arranged (fun vs H Q E h => ?_) (fun cdv A outer s H vs Q E hr h => ?_)
  · obtain ⟨r, a, ns, rfl, _⟩ := h; rfl
  obtain ⟨r, a, ns, rfl, tri0, hs0, hall, h64, q0⟩ := h
  refine ⟨_, (pss_cons (ps_asg (pe_tup (pa_cons pe_int (pa_cons pe_int pa_nil))) (pg_tup (by rfl) (pgs_cons (pg_name (i := 2) sc_law_arranged.nd rfl (Or.inl rfl)) (pgs_cons (pg_name (i := 3) sc_law_arranged.nd rfl (Or.inl rfl)) pgs_nil))))
    (pss_cons (ps_for PassesOwn.never rfl (kpis K (pv 1)) (pg_name (i := 4) sc_law_arranged.nd rfl (Or.inl rfl)) (pss_cons (ps_set (i := 3) sc_law_arranged.nd rfl (Or.inl rfl) (pe_op op_add (pv 3) (pv 4)))
    (pss_one (ps_set (i := 2) sc_law_arranged.nd rfl (Or.inl rfl) (pe_op op_mul (pv 2) (pe_ix (kixl K) (pe_ix (kixl K) (pv 0) (pv 3) (fun _ _ => rfl)) (pv 4) (fun _ _ => rfl)))))))
    (pss_one (ps_ret (pv 2))))), ?_⟩
  refine ⟨(by show 2 ≤ sizeLine; decide), fun p hp => ⟨p, _, rfl, st_of upd_same, rfl, _, _, rfl, _, _, rfl, rfl, ?_⟩⟩
  have e1 : Ex H (upd H p (.tup [.int 1, .int 0])) := Ex.new hp
  have hs := hs0.imp (ex_l e1) (ex_t e1)
  have q := q0 _ e1
  obtain ⟨as, t1, t2, t3⟩ := tri0.ex e1
  clear hs0 q0 tri0
  generalize upd H p (.tup [.int 1, .int 0]) = H1 at *
  have hL := SqL.of (K := K) t2
  have turn : ∀ (i : Nat) (x : V) (σ : L2.St), (ns.map V.int)[i]? = some x → (∃ v, σ = [some (.ref r), some (.ref a), some (.int (arrUp (ns.take i)).1), some (.int (arrUp (ns.take i)).2), v]) →
      gName 4 x σ H1 fun σ2 H3 => tSeq (tAsg (tOp (rI0 fun i j => .int (i + j)) (tVar 3) (tVar 4)) (gName 3)) (tAsg (tOp (rI CMul fun i j => .int (i * j)) (tVar 2) (tOp (rIxL K) (tOp (rIxL K) (tVar 0) (tVar 3)) (tVar 4))) (gName 2))
        { nx := fun σ' H' => H' = H1 ∧ ∃ v, σ' = [some (.ref r), some (.ref a), some (.int (arrUp (ns.take (i + 1))).1), some (.int (arrUp (ns.take (i + 1))).2), v], rt := Q } σ2 H3 := by
    rintro i x σ hx ⟨v, rfl⟩
    obtain ⟨z, hz, rfl⟩ := ints_get hx
    have hp := part_le hall hz
    have hm := arrUp_more hz
    have h2 := arrUp_two ns i
    obtain ⟨n, hn⟩ : ∃ n : Nat, (arrUp (ns.take i)).2 + z = (n : Int) := ⟨((arrUp (ns.take i)).2 + z).toNat, by omega⟩
    obtain ⟨k, hk⟩ : ∃ k : Nat, z = (k : Int) := ⟨z.toNat, by omega⟩
    have hc := @comb_lt ((arrUp (ns.take i)).2 + z) z (by omega) (by omega) hp.1 (by omega)
    have ha : as[n]? = some as[n] := List.getElem?_eq_getElem (by omega)
    have hrow : ((row n).map V.int)[k]? = some (.int (PySem.W.mcComb ((arrUp (ns.take i)).2 + z) z)) := by
      rw [List.getElem?_map, row_comb (show n ≤ 64 by omega) (show k ≤ n by omega), hn, hk]
      rfl
    refine ⟨_, rfl, _, rfl, _, _, rfl, rfl, ?_⟩
    refine ⟨_, rfl, _, rfl, _, rfl, _, _, _, _, rfl, rfl, hL, at_of hn (refs_get ha), _, rfl, _, _, _, _, rfl, rfl, SqL.of (t3 n _ ha), at_of hk hrow, ?_⟩
    refine ⟨_, _, rfl, rfl, .inr ⟨by omega, hc.2⟩, rfl, some (.int z), ?_⟩
    rw [hm]
    rfl
  have fin : ∀ σ H', (H' = H1 ∧ ∃ v, σ = [some (.ref r), some (.ref a), some (.int (arrUp (ns.take (ns.map V.int).length)).1), some (.int (arrUp (ns.take (ns.map V.int).length)).2), v]) → tRet (tVar 2) { nx := fun _ H' => Q .non H', rt := Q } σ H' := by
    rintro σ H' ⟨rfl, v, rfl⟩
    rw [List.length_map, List.take_length]
    exact ⟨_, rfl, q⟩
  rcases hs with hs2 | hs2
  · exact .inl ⟨_, rfl, a, rfl, ⟨_, hs2⟩, for_list (xs := ns.map V.int) (fun i σ H' => H' = H1 ∧ ∃ v, σ = [some (.ref r), some (.ref a), some (.int (arrUp (ns.take i)).1), some (.int (arrUp (ns.take i)).2), v]) ⟨rfl, none, rfl⟩
      (fun i σ H' _ ⟨e, _⟩ => e ▸ hs2) (fun i x σ H' hx ⟨e, hv⟩ => e ▸ turn i x σ hx hv) fin⟩
  · exact .inr ⟨_, rfl, a, rfl, ⟨_, hs2⟩, for_tup (xs := ns.map V.int) (fun i σ H' => H' = H1 ∧ ∃ v, σ = [some (.ref r), some (.ref a), some (.int (arrUp (ns.take i)).1), some (.int (arrUp (ns.take i)).2), v]) ⟨rfl, none, rfl⟩
      (fun i σ H' _ ⟨e, _⟩ => e ▸ hs2) (fun i x σ H' hx ⟨e, hv⟩ => e ▸ turn i x σ hx hv) fin⟩
/-! ### even parts, by what they must be -/
def evenOf (i j : Int) : List Int := List.replicate (i - i / j * j).toNat (i / j + 1) ++ List.replicate (j - (i - i / j * j)).toNat (i / j)
theorem even_facts {i j : Int} (h0 : 0 ≤ i) (hj : 1 ≤ j) : (evenOf i j).length = j.toNat ∧ (evenOf i j).sum = i ∧ (∀ x ∈ evenOf i j, i / j ≤ x ∧ x ≤ i / j + 1) ∧
    ∀ (k : Nat) (x y : Int), (evenOf i j)[k]? = some x → (evenOf i j)[k + 1]? = some y → y ≤ x := by
  have d2 : i / j * j ≤ i := Int.ediv_mul_le _ (by omega)
  have d3 : i - i / j * j < j := by
    have := Int.lt_ediv_add_one_mul_self i (show 0 < j by omega)
    have e : (i / j + 1) * j = i / j * j + j := by rw [Int.add_mul, Int.one_mul]
    omega
  generalize hg : i - i / j * j = g at *
  have sums : ∀ (n : Nat) (x : Int), (List.replicate n x).sum = n * x := by
    intro n x
    induction n with
    | zero => simp
    | succ n ih => rw [List.replicate_succ, List.sum_cons, ih]; rw [Int.natCast_succ, Int.add_mul, Int.one_mul, Int.add_comm]
  unfold evenOf
  rw [hg]
  refine ⟨by rw [List.length_append, List.length_replicate, List.length_replicate]; omega, ?_, ?_, ?_⟩
  · rw [List.sum_append, sums, sums, Int.toNat_of_nonneg (by omega), Int.toNat_of_nonneg (by omega), Int.mul_add, Int.sub_mul, Int.mul_one, Int.mul_comm j]
    omega
  · intro x hx
    rw [List.mem_append] at hx
    rcases hx with hx | hx
    · rw [List.eq_of_mem_replicate hx]; omega
    · rw [List.eq_of_mem_replicate hx]; omega
  · intro k x y hx hy
    by_cases c : k + 1 < g.toNat
    · rw [List.getElem?_append_left (by rw [List.length_replicate]; omega), List.getElem?_replicate, if_pos (by omega)] at hx hy
      cases hx; cases hy; exact Int.le_refl _
    · rw [List.getElem?_append_right (by rw [List.length_replicate]; omega), List.getElem?_replicate] at hy
      split at hy
      · cases hy
        by_cases c2 : k < g.toNat
        · rw [List.getElem?_append_left (by rw [List.length_replicate]; omega), List.getElem?_replicate, if_pos (by omega)] at hx
          cases hx; omega
        · rw [List.getElem?_append_right (by rw [List.length_replicate]; omega), List.getElem?_replicate] at hx
          split at hx
          · cases hx; exact Int.le_refl _
          · cases hx
      · cases hy
end
end L2.U


set_option Elab.async false
set_option linter.all false
set_option maxRecDepth 100000
set_option maxHeartbeats 4000000
namespace L2.U
open PySem PySem.Spec PyProof.Rows Evl
abbrev s_law_right : Stmt := top 30
theorem sc_law_right : FnScope ["triangle", "kind", "named", "values", "passed", "told", "great", "many", "one"] ["triangle", "kind", "named", "values"] (defScope s_law_right) := ⟨rfl, rfl, rfl, by decide +kernel, rfl, by decide +kernel, by decide +kernel⟩
structure TA4 (K : PySem.W.Frag) (mg : Str → Option Value) extends TA3 K mg where
  law_right : DefAt K mg "_law_right" s_law_right ["triangle", "kind", "named", "values"]
section
variable {P : Program} {w : World} {K : PySem.W.Frag} {mg : Str → Option Value} {base : Heap}
theorem el_lcT {σ : L2.St} {H : Hp} {a : Addr} {xs : List V} {tl te : TE} {t : TT} {j : Nat} {vs : List Nat} (f : Nat → Bool) (v : Nat → V) (h : Ev tl σ H (.ref a)) (hx : SqT K H a xs) (hz : xs.length ≤ 40000)
    (hw : ∀ x, wipe ((wipe σ vs).set j (some x)) vs = wipe σ vs) (ht : ∀ (i : Nat) (x : V) H1, Ex H H1 → xs[i]? = some x → EvT t ((wipe σ vs).set j (some x)) H1 (f i))
    (he : ∀ (i : Nat) (x : V) H1, Ex H H1 → xs[i]? = some x → f i = true → Ev te ((wipe σ vs).set j (some x)) H1 (v i)) : EvL (tLc (iTup K tl) (gName j) t te vs) σ H (given xs.length f v) := by
  intro H0 e Q q
  refine h H0 e _ fun H1 e1 => ?_
  have e01 := e.trans e1
  refine ⟨a, rfl, ⟨xs, ex_t e01 hx⟩, fun Dl hD => lc_tup (xs := xs) (Cw H1 f v Dl) ⟨hD, Ex.new hD, upd_same⟩ (fun i H' _ p => ex_t (e01.trans p.2.1) hx) ?_ ?_⟩
  · intro i x H' hi p
    have hlt := (List.getElem?_eq_some_iff.mp hi).1
    exact ⟨hw x, cw_turn p (by omega) (ht i x H1 e01 hi) (fun hf => he i x H1 e01 hi hf)⟩
  · exact fun H' p => q Dl H' (fresh_back e1 p.1) (e1.trans p.2.1) p.2.2
theorem ne_empty {ta : TE} {σ : L2.St} {H : Hp} {xs : List V} (hx : xs = []) (h : EvL ta σ H xs) : Ev (tOp (rNeD K) ta (tLst tNil)) σ H (.bl false) := by
  subst hx
  exact ev_opLL h (el_lst ea_nil (Nat.zero_le _)) fun p q H1 hp hq _ => rv_val fun H2 e2 Q k =>
    ⟨.list [], .list [], .lst (SqL.of (e2 _ _ hp)) .nil, .lst (SqL.of (e2 _ _ hq)) .nil, rfl, rfl, k⟩
def spIsEven (K : PySem.W.Frag) : Sp := fun vs H Q _ => ∃ (a : Addr) (i j : Int), vs = [.ref a, .int i, .int j] ∧ SqT K H a ((evenOf i j).map V.int) ∧ 0 ≤ i ∧ i ≤ 64 ∧ 1 ≤ j ∧ j ≤ 64 ∧ ∀ H', Ex H H' → Q (.bl true) H'
theorem ok_law_is_even (T : TA3 K mg) : FnOk P w K mg base CX0 1 T.law_is_even.a T.law_is_even.fd ["told", "total", "many"] (spIsEven K) := by
  refine T.law_is_even.F.ok sc_law_is_even (fun vs H Q E h => ?_) (fun cdv A outer s H vs Q E hr h => ?_)
  · obtain ⟨a, i, j, rfl, _⟩ := h; rfl
  obtain ⟨a, i, j, rfl, hT, i0, i1, j0, j1, q⟩ := h
  obtain ⟨f1, f2, f3, f4⟩ := even_facts i0 j0
  have hlen : ((evenOf i j).map V.int).length = j.toNat := by rw [List.length_map, f1]
  refine ⟨_, (pss_cons (ps_if (PW.pt (pw_or (pt_not (pt_val (pe_callB (kisi K) (by rfl) T.z_isinstance (by decide +kernel) (pa_cons (pv 0) (pa_cons (pe_bltn (v := .ty "tuple") rfl T.z_tuple (by decide +kernel) rfl) pa_nil))))) (pw_or1 (pt_cmpR op_ne (pe_callB (klen K) (by rfl) T.z_len (by decide +kernel) (pa_cons (pv 0) pa_nil)) (pv 2) (nomark _))))) (pss_one (ps_ret pe_bl)) pss_nil)
    (pss_cons (ps_if (PW.pt (pw_or (pt_cmpR (kneD K hr.units) (pe_lc (own := [("part", 3)]) (g := gName 3) (by rfl) sc_law_is_even.nd (kpit K (pv 0)) (blkOk_by (own := [("part", 3)]) (N := ["told", "total", "many", "part", "k"]) (sc := defScope s_law_is_even) (by decide +kernel)) (fun _ _ _ _ _ => (pg_name (i := 3) sc_law_is_even.nd rfl (Or.inl rfl))) (fun _ _ _ _ _ => (pts_one (PW.pt (pw_or (pt_not (pt_val (pe_callB (kisi K) (by rfl) T.z_isinstance (by decide +kernel) (pa_cons (pv 3) (pa_cons (pe_bltn (v := .ty "int") rfl T.z_int (by decide +kernel) rfl) pa_nil))))) (pw_or1 (pt_val (pe_callB (kisi K) (by rfl) T.z_isinstance (by decide +kernel) (pa_cons (pv 3) (pa_cons (pe_bltn (v := .ty "bool") rfl T.z_bool (by decide +kernel) rfl) pa_nil))))))))) (fun _ _ _ _ _ => (pv 3))) (pe_lst pa_nil) (nomark _)) (pw_or1 (pt_cmpR op_ne (pe_callB (ksum K rfl) (by rfl) T.z_sum (by decide +kernel) (pa_cons (pv 0) pa_nil)) (pv 1) (nomark _))))) (pss_one (ps_ret pe_bl)) pss_nil)
    (pss_one (ps_ret (pe_and (pe_cmpR op_lt (pe_op op_sub (pe_ix (kixt K) (pv 0) pe_int (fun _ _ => rfl)) (pe_ix (kixt K) (pv 0) (pe_op op_sub (pv 2) pe_int) (fun _ _ => rfl))) pe_int (nomark _)) (pe_one (pe_cmpR (keqD K hr.units) (pe_lc (own := [("k", 4)]) (g := gName 4) (by rfl) sc_law_is_even.nd (pi_range1 rfl T.z_range (pa_cons (pe_op op_sub (pv 2) pe_int) pa_nil)) (blkOk_by (own := [("k", 4)]) (N := ["told", "total", "many", "part", "k"]) (sc := defScope s_law_is_even) (by decide +kernel)) (fun _ _ _ _ _ => (pg_name (i := 4) sc_law_is_even.nd rfl (Or.inl rfl))) (fun _ _ _ _ _ => (pts_one (pt_cmpR op_lt (pe_ix (kixt K) (pv 0) (pv 4) (fun _ _ => rfl)) (pe_ix (kixt K) (pv 0) (pe_op op_add (pv 4) pe_int) (fun _ _ => rfl)) (nomark _)))) (fun _ _ _ _ _ => (pv 4))) (pe_lst pa_nil) (nomark _)))))))), ?_⟩
  refine ⟨_, rfl, _, _, _, _, true, rfl, .ty _, tyT hT, kit_ty (by decide +kernel), ⟨_, rfl, iteF ?_⟩⟩
  refine ⟨_, rfl, _, _, rfl, .inr ⟨_, hT, rfl⟩, _, rfl, rfl, _, rfl, ?_⟩
  have e0 : (!decide (V.int ((((evenOf i j).map V.int).length : Nat) : Int) = V.int j)) = false := by
    rw [hlen, Int.toNat_of_nonneg (by omega), decide_eq_true rfl]; rfl
  rw [e0]
  refine iteF ?_
  -- nothing that is no int
  refine ne_empty (no_given (n := ((evenOf i j).map V.int).length) (v := fun _ => V.non)) (el_lcT (fun _ => false) (fun _ => V.non) (ev_var rfl) hT (by rw [hlen]; omega) (fun _ => rfl) ?_ (fun _ _ _ _ _ hf => nomatch hf)) H (Ex.refl _) _ (fun H1 e1 => ⟨_, rfl, iteF ?_⟩)
  · intro k x H1 e1 hx H2 e2 Q2 k2
    obtain ⟨z, _, rfl⟩ := ints_get hx
    refine ⟨_, rfl, _, _, _, _, true, rfl, .ty _, .base (.int z), kit_ty (by decide +kernel), ⟨_, rfl, iteF ?_⟩⟩
    exact ⟨_, rfl, _, _, _, _, false, rfl, .ty _, .base (.int z), kit_ty (by decide +kernel), ⟨_, rfl, k2 H2 (Ex.refl _)⟩⟩
  refine ⟨_, rfl, a, evenOf i j, rfl, .inr (ex_t e1 hT), _, rfl, rfl, _, rfl, ?_⟩
  have e2 : (!decide (V.int (evenOf i j).sum = V.int i)) = false := by
    rw [f2, decide_eq_true rfl]; rfl
  rw [e2]
  refine iteF ?_
  -- the first one less the last one
  obtain ⟨x0, hx0⟩ : ∃ x, (evenOf i j)[0]? = some x := ⟨_, List.getElem?_eq_getElem (show 0 < (evenOf i j).length by omega)⟩
  obtain ⟨x1, hx1⟩ : ∃ x, (evenOf i j)[(j - 1).toNat]? = some x := ⟨_, List.getElem?_eq_getElem (show (j - 1).toNat < (evenOf i j).length by omega)⟩
  have b0 := f3 x0 (List.mem_of_getElem? hx0)
  have b1 := f3 x1 (List.mem_of_getElem? hx1)
  have g0 : ((evenOf i j).map V.int)[0]? = some (.int x0) := by rw [List.getElem?_map, hx0]; rfl
  have g1 : ((evenOf i j).map V.int)[(j - 1).toNat]? = some (.int x1) := by rw [List.getElem?_map, hx1]; rfl
  have hT1 := ex_t e1 hT
  refine ⟨_, rfl, _, _, _, _, rfl, rfl, hT1, at_of rfl g0, _, rfl, _, rfl, _, _, rfl, rfl, _, _, _, _, rfl, rfl, hT1, at_of (show j - 1 = (((j - 1).toNat : Nat) : Int) by omega) g1, _, _, rfl, rfl, _, _, rfl, rfl, _, rfl, ?_⟩
  rw [if_pos (decide_eq_true (show x0 - x1 < 2 by omega))]
  refine eq_empty (no_given (n := (j - 1).toNat) (v := fun _ => V.non)) ?_ H1 (Ex.refl _) Q (fun H2 e2 => q H2 (e1.trans e2))
  refine el_lcR1 (fun _ => false) (fun _ => V.non) (fun H2 e2 Q2 k2 => ⟨_, rfl, _, _, rfl, rfl, k2 H2 (Ex.refl _)⟩) ⟨by omega, by omega⟩ (fun _ => rfl) ?_ (fun _ _ _ _ hf => nomatch hf)
  intro k H2 e2 hk H3 e3 Q3 k3
  have c0 : (evenOf i j)[k]? = some ((evenOf i j)[k]'(by omega)) := List.getElem?_eq_getElem _
  have c1 : (evenOf i j)[k + 1]? = some ((evenOf i j)[k + 1]'(by omega)) := List.getElem?_eq_getElem _
  have le := f4 k _ _ c0 c1
  have hT3 := ex_t (e2.trans e3) hT1
  refine ⟨_, rfl, _, rfl, _, _, _, _, rfl, rfl, hT3, atI_nat (by rw [List.getElem?_map, c0]; rfl), _, rfl, _, rfl, _, _, rfl, rfl, _, _, _, _, rfl, rfl, hT3, at_of (show (k : Int) + 1 = ((k + 1 : Nat) : Int) by omega) (by rw [List.getElem?_map, c1]; rfl), _, _, rfl, rfl, _, rfl, ?_⟩
  rw [decide_eq_false (by omega)]
  exact k3 H3 (Ex.refl _)
/-! ### what was told -/
def spTold (K : PySem.W.Frag) : Sp := fun vs H Q _ => ∃ (kind named : Int) (p : Addr) (xs : List V), vs = [.int kind, .int named, .ref p] ∧ SqL K H p xs ∧
  ((kind = 0 ∧ ∃ i, xs = [.int i] ∧ (num64 i → ∀ t H', Ex H H' → SqT K H' t [.str "done", .int (fac i.toNat)] → Q (.ref t) H') ∧ (¬ num64 i → ∀ t H', Ex H H' → SqT K H' t [.str "number", .int i] → Q (.ref t) H')) ∨
   (kind = 1 ∧ ∃ i j, xs = [.int i, .int j] ∧ (num64 i → num64 j → ∀ t H', Ex H H' → SqT K H' t [.str "done", .int (PySem.W.mcComb i j)] → Q (.ref t) H') ∧ (¬ num64 i → ∀ t H', Ex H H' → SqT K H' t [.str "number", .int i] → Q (.ref t) H') ∧
      (num64 i → ¬ num64 j → ∀ t H', Ex H H' → SqT K H' t [.str "many", .int j] → Q (.ref t) H')) ∨
   (kind = 2 ∧ ∃ a ns, xs = [.ref a] ∧ (SqL K H a (ns.map V.int) ∨ SqT K H a (ns.map V.int)) ∧ ns.length ≤ 1000 ∧ (∀ n ∈ ns, 0 ≤ n) ∧ (ns.sum ≤ 64 → ∀ t H', Ex H H' → SqT K H' t [.str "done", .int (arrUp ns).1] → Q (.ref t) H') ∧
      (¬ ns.sum ≤ 64 → ∀ t H', Ex H H' → SqT K H' t [.str "parts", .ref a] → Q (.ref t) H')) ∨
   (kind = 3 ∧ ∃ i j, xs = [.int i, .int j] ∧ (num64 i → many64 j → ∀ t e H', Ex H H' → SqT K H' e ((evenOf i j).map V.int) → SqT K H' t [.str "done", .ref e] → Q (.ref t) H') ∧ (¬ num64 i → ∀ t H', Ex H H' → SqT K H' t [.str "number", .int i] → Q (.ref t) H') ∧
      (num64 i → ¬ many64 j → ∀ t H', Ex H H' → SqT K H' t [.str "many", .int j] → Q (.ref t) H')))
theorem even_map {i j : Int} : (List.replicate (i - i / j * j).toNat (V.int (i / j + 1)) ++ List.replicate (j - (i - i / j * j)).toNat (V.int (i / j))) = (evenOf i j).map V.int := by
  unfold evenOf
  rw [List.map_append, List.map_replicate, List.map_replicate]
theorem two_le : 2 ≤ sizeLine := by decide
theorem ok_law_told (T : TA3 K mg) : FnOk P w K mg base CX0 6 T.law_told.a T.law_told.fd ["kind", "named", "passed"] (spTold K) := by
  refine T.law_told.F.ok sc_law_told (fun vs H Q E h => ?_) (fun cdv A outer s H vs Q E hr h => ?_)
  · obtain ⟨kind, named, p, xs, rfl, _⟩ := h; rfl
  obtain ⟨kind, named, p, xs, rfl, hL, h⟩ := h
  refine ⟨_, (pss_one (ps_tryC rfl rfl takes0 (fun W pn xe tk _ => (pss_cons (ps_if (pt_cmpR op_eq (pv 0) pe_int (nomark _)) (pss_one (ps_ret (pe_tup (pa_cons pe_str (pa_cons (pe_ifExp (pt_cmpR op_eq (pv 1) pe_int (nomark _)) (by exact (pe_callS (ok_factorial T.toTA2) (hr.mono (by decide)) rfl T.factorial.m T.factorial.F.kp T.factorial.b (fun σ => passAt tk σ) (pa_cons (pe_ix (kixl K) (pv 2) pe_int (fun _ _ => rfl)) pa_nil))) (by exact (pe_callKw (ok_factorial T.toTA2) (hr.mono (by decide)) rfl T.factorial.m T.factorial.F.kp T.kb_factorial_number (fun σ => passAt tk σ) (pk_cons (pe_ix (kixl K) (pv 2) pe_int (fun _ _ => rfl)) pk_nil)))) pa_nil))))) pss_nil)
    (pss_cons (ps_if (pt_cmpR op_eq (pv 0) pe_int (nomark _)) (pss_one (ps_ret (pe_tup (pa_cons pe_str (pa_cons (pe_ifExp (pt_cmpR op_eq (pv 1) pe_int (nomark _)) (by exact (pe_callS (ok_choose T.toTA2) (hr.mono (by decide)) rfl T.choose.m T.choose.F.kp T.choose.b (fun σ => passAt tk σ) (pa_cons (pe_ix (kixl K) (pv 2) pe_int (fun _ _ => rfl)) (pa_cons (pe_ix (kixl K) (pv 2) pe_int (fun _ _ => rfl)) pa_nil)))) (by exact (pe_callKw (ok_choose T.toTA2) (hr.mono (by decide)) rfl T.choose.m T.choose.F.kp T.kb_choose_many_number (fun σ => passAt tk σ) (pk_cons (pe_ix (kixl K) (pv 2) pe_int (fun _ _ => rfl)) (pk_cons (pe_ix (kixl K) (pv 2) pe_int (fun _ _ => rfl)) pk_nil))))) pa_nil))))) pss_nil)
    (pss_cons (ps_if (pt_cmpR op_eq (pv 0) pe_int (nomark _)) (pss_one (ps_ret (pe_tup (pa_cons pe_str (pa_cons (pe_ifExp (pt_cmpR op_eq (pv 1) pe_int (nomark _)) (by exact (pe_callS (ok_arrangements T.toTA2) (hr.mono (by decide)) rfl T.arrangements.m T.arrangements.F.kp T.arrangements.b (fun σ => passAt tk σ) (pa_cons (pe_ix (kixl K) (pv 2) pe_int (fun _ _ => rfl)) pa_nil))) (by exact (pe_callKw (ok_arrangements T.toTA2) (hr.mono (by decide)) rfl T.arrangements.m T.arrangements.F.kp T.kb_arrangements_parts (fun σ => passAt tk σ) (pk_cons (pe_ix (kixl K) (pv 2) pe_int (fun _ _ => rfl)) pk_nil)))) pa_nil))))) pss_nil)
    (pss_one (ps_ret (pe_tup (pa_cons pe_str (pa_cons (pe_ifExp (pt_cmpR op_eq (pv 1) pe_int (nomark _)) (by exact (pe_callS (ok_even_parts T.toTA2) (hr.mono (by decide)) rfl T.even_parts.m T.even_parts.F.kp T.even_parts.b (fun σ => passAt tk σ) (pa_cons (pe_ix (kixl K) (pv 2) pe_int (fun _ _ => rfl)) (pa_cons (pe_ix (kixl K) (pv 2) pe_int (fun _ _ => rfl)) pa_nil)))) (by exact (pe_callKw (ok_even_parts T.toTA2) (hr.mono (by decide)) rfl T.even_parts.m T.even_parts.F.kp T.kb_even_parts_many_total (fun σ => passAt tk σ) (pk_cons (pe_ix (kixl K) (pv 2) pe_int (fun _ _ => rfl)) (pk_cons (pe_ix (kixl K) (pv 2) pe_int (fun _ _ => rfl)) pk_nil))))) pa_nil))))))))) (ClausesOk.cons (ClauseOk.named (i := 3) sc_law_told.nd rfl rfl ⟨rfl, by decide, Or.inl T.InvalidNumber.gC⟩ (fun a oe cls d pn hz hf => (pss_one (ps_ret (pe_tup (pa_cons pe_str (pa_cons (pe_xf T.InvalidNumber.xf T.InvalidNumber.nf hz hf (pv 3)) pa_nil)))))))
     (ClausesOk.cons (ClauseOk.named (i := 3) sc_law_told.nd rfl rfl ⟨rfl, by decide, Or.inl T.InvalidMany.gC⟩ (fun a oe cls d pn hz hf => (pss_one (ps_ret (pe_tup (pa_cons pe_str (pa_cons (pe_xf T.InvalidMany.xf T.InvalidMany.nf hz hf (pv 3)) pa_nil)))))))
     (ClausesOk.cons (ClauseOk.named (i := 3) sc_law_told.nd rfl rfl ⟨rfl, by decide, Or.inl T.InvalidParts.gC⟩ (fun a oe cls d pn hz hf => (pss_one (ps_ret (pe_tup (pa_cons pe_str (pa_cons (pe_xf T.InvalidParts.xf T.InvalidParts.nf hz hf (pv 3)) pa_nil)))))))
     (ClausesOk.cons (ClauseOk.bare ⟨rfl, by decide, Or.inl T.TalkError_gC⟩ (fun a oe cls d pn hz hf => (pss_one (ps_ret (pe_tup (pa_cons pe_str (pa_cons pe_non pa_nil)))))))
     ClausesOk.nil)))))), ?_⟩
  rcases h with ⟨rfl, i, rfl, q1, q2⟩ | ⟨rfl, i, j, rfl, q1, q2, q3⟩ | ⟨rfl, a, ns, rfl, hs, hz, hall, q1, q2⟩ | ⟨rfl, i, j, rfl, q1, q2, q3⟩
  · refine ⟨_, rfl, rfl, _, rfl, iteT ⟨_, rfl, rfl, _, rfl, ite2 (fun _ => ?_) (fun _ => ?_)⟩⟩
    all_goals
      refine ⟨_, rfl, _, _, _, _, rfl, rfl, hL, rfl, i, rfl, fun ok H1 e1 => ⟨two_le, fun t ht => q1 ok t _ (e1.trans (Ex.new ht)) (st_of upd_same)⟩, fun no d H1 e1 hd => ?_⟩
      exact ⟨true, T.eNN, fun _ x hx => ⟨_, rfl, rfl, rfl, d, _, _, rfl, hd, rfl, two_le, fun t ht => q2 no t _ (e1.trans (Ex.new ht)) (st_of upd_same)⟩, fun z => nomatch z⟩
  · refine ⟨_, rfl, rfl, _, rfl, iteF ⟨_, rfl, rfl, _, rfl, iteT ⟨_, rfl, rfl, _, rfl, ite2 (fun _ => ?_) (fun _ => ?_)⟩⟩⟩
    all_goals
      refine ⟨_, rfl, _, _, _, _, rfl, rfl, hL, rfl, _, rfl, _, _, _, _, rfl, rfl, hL, rfl, i, j, rfl, fun ok okj H1 e1 => ⟨two_le, fun t ht => q1 ok okj t _ (e1.trans (Ex.new ht)) (st_of upd_same)⟩, fun no d H1 e1 hd => ?_, fun ok no d H1 e1 hd => ?_⟩
      · exact ⟨true, T.eNN, fun _ x hx => ⟨_, rfl, rfl, rfl, d, _, _, rfl, hd, rfl, two_le, fun t ht => q2 no t _ (e1.trans (Ex.new ht)) (st_of upd_same)⟩, fun z => nomatch z⟩
      · exact ⟨false, T.eMN, (fun z => nomatch z), fun _ => ⟨true, T.eMM, fun _ x hx => ⟨_, rfl, rfl, rfl, d, _, _, rfl, hd, rfl, two_le, fun t ht => q3 ok no t _ (e1.trans (Ex.new ht)) (st_of upd_same)⟩, fun z => nomatch z⟩⟩
  · refine ⟨_, rfl, rfl, _, rfl, iteF ⟨_, rfl, rfl, _, rfl, iteF ⟨_, rfl, rfl, _, rfl, iteT ⟨_, rfl, rfl, _, rfl, ite2 (fun _ => ?_) (fun _ => ?_)⟩⟩⟩⟩
    all_goals
      refine ⟨_, rfl, _, _, _, _, rfl, rfl, hL, rfl, a, ns, rfl, hs, hz, hall, fun ok H1 e1 => ⟨two_le, fun t ht => q1 ok t _ (e1.trans (Ex.new ht)) (st_of upd_same)⟩, fun no d H1 e1 hd => ?_⟩
      exact ⟨false, T.ePN, (fun z => nomatch z), fun _ => ⟨false, T.ePM, (fun z => nomatch z), fun _ => ⟨true, T.ePP, fun _ x hx => ⟨_, rfl, rfl, rfl, d, _, _, rfl, hd, rfl, two_le, fun t ht => q2 no t _ (e1.trans (Ex.new ht)) (st_of upd_same)⟩, fun z => nomatch z⟩⟩⟩
  · refine ⟨_, rfl, rfl, _, rfl, iteF ⟨_, rfl, rfl, _, rfl, iteF ⟨_, rfl, rfl, _, rfl, iteF ⟨_, rfl, rfl, _, rfl, ite2 (fun _ => ?_) (fun _ => ?_)⟩⟩⟩⟩
    all_goals
      refine ⟨_, rfl, _, _, _, _, rfl, rfl, hL, rfl, _, rfl, _, _, _, _, rfl, rfl, hL, rfl, i, j, rfl, fun ok okj e H1 e1 he => ⟨two_le, fun t ht => q1 ok okj t e _ (e1.trans (Ex.new ht)) (ex_t (Ex.new ht) (even_map ▸ he)) (st_of upd_same)⟩, fun no d H1 e1 hd => ?_, fun ok no d H1 e1 hd => ?_⟩
      · exact ⟨true, T.eNN, fun _ x hx => ⟨_, rfl, rfl, rfl, d, _, _, rfl, hd, rfl, two_le, fun t ht => q2 no t _ (e1.trans (Ex.new ht)) (st_of upd_same)⟩, fun z => nomatch z⟩
      · exact ⟨false, T.eMN, (fun z => nomatch z), fun _ => ⟨true, T.eMM, fun _ x hx => ⟨_, rfl, rfl, rfl, d, _, _, rfl, hd, rfl, two_le, fun t ht => q3 ok no t _ (e1.trans (Ex.new ht)) (st_of upd_same)⟩, fun z => nomatch z⟩⟩
end
end L2.U


set_option Elab.async false
set_option linter.all false
set_option maxRecDepth 100000
set_option maxHeartbeats 4000000
namespace L2.U
open PySem PySem.Spec PyProof.Rows Evl
section
variable {P : Program} {w : World} {K : PySem.W.Frag} {mg : Str → Option Value} {base : Heap} {ns : List Int}
/-- a copy of an argument: an int, the very tuple, or a list with the same ints -/
inductive Cp (K : PySem.W.Frag) (ns : List Int) (H : Hp) : V → V → Prop
  | int (i : Int) : Cp K ns H (.int i) (.int i)
  | lst {a b : Addr} (h1 : SqL K H a (ns.map V.int)) (h2 : SqL K H b (ns.map V.int)) (hz : ns.length ≤ 1000) : Cp K ns H (.ref a) (.ref b)
  | tup {a b : Addr} (h1 : SqT K H a (ns.map V.int)) (h2 : SqT K H b (ns.map V.int)) (hz : ns.length ≤ 1000) : Cp K ns H (.ref a) (.ref b)
theorem Cp.ex {H H' : Hp} {x y : V} (e : Ex H H') (h : Cp K ns H x y) : Cp K ns H' x y := by
  cases h with
  | int i => exact .int i
  | lst h1 h2 hz => exact .lst (ex_l e h1) (ex_l e h2) hz
  | tup h1 h2 hz => exact .tup (ex_t e h1) (ex_t e h2) hz
theorem sm_pair {H : Hp} {a b : Addr} {n : Nat} {s : Str} {x y : V} (h1 : SqT K H a [.str s, x]) (h2 : SqT K H b [.str s, y]) (hs : s.length ≤ 1000) (h : Sm K H n x y) : Sm K H (n + 1) (.ref a) (.ref b) := by
  refine .tup h1 h2 rfl (by show 2 ≤ 1000; decide) fun i u v hu hv => ?_
  match i, hu, hv with
  | 0, hu, hv => cases Option.some.inj hu; cases Option.some.inj hv; exact .str s hs
  | 1, hu, hv => cases Option.some.inj hu; cases Option.some.inj hv; exact h
def Ask (K : PySem.W.Frag) (ns : List Int) (H : Hp) (kind : Int) (xs : List V) : Prop :=
  (kind = 0 ∧ ∃ i : Int, xs = [.int i]) ∨ (kind = 1 ∧ ∃ i j : Int, xs = [.int i, .int j]) ∨
  (kind = 2 ∧ ∃ (a : Addr), xs = [.ref a] ∧ (SqL K H a (ns.map V.int) ∨ SqT K H a (ns.map V.int)) ∧ ns.length ≤ 1000 ∧ (∀ n ∈ ns, 0 ≤ n)) ∨ (kind = 3 ∧ ∃ i j : Int, xs = [.int i, .int j])
def spRight (K : PySem.W.Frag) : Sp := fun vs H Q _ => ∃ (r : Addr) (kind named : Int) (vt : Addr) (xs : List V) (ns : List Int), vs = [.ref r, .int kind, .int named, .ref vt] ∧ Tri H r 64 ∧ SqT K H vt xs ∧ Ask K ns H kind xs ∧ ∀ H', Ex H H' → Q (.bl true) H'
/-- the copies, one for each value -/
def Cps (K : PySem.W.Frag) (ns : List Int) (H : Hp) (xs ys : List V) : Prop := ys.length = xs.length ∧ ∀ (i : Nat) (x y : V), xs[i]? = some x → ys[i]? = some y → Cp K ns H x y
theorem Cps.ex {H H' : Hp} {xs ys : List V} (e : Ex H H') (h : Cps K ns H xs ys) : Cps K ns H' xs ys := ⟨h.1, fun i x y hx hy => (h.2 i x y hx hy).ex e⟩
theorem Cps.more {H : Hp} {xs ys : List V} {i : Nat} {x y : V} (h : Cps K ns H (xs.take i) ys) (hx : xs[i]? = some x) (c : Cp K ns H x y) : Cps K ns H (xs.take (i + 1)) (ys ++ [y]) := by
  obtain ⟨hi, e⟩ := List.getElem?_eq_some_iff.mp hx
  have hl : ys.length = i := by rw [h.1, List.length_take]; omega
  refine ⟨by rw [List.length_append, List.length_take, hl]; simp; omega, fun k u v hu hv => ?_⟩
  rw [← List.take_append_getElem hi, e] at hu
  by_cases hk : k < i
  · rw [List.getElem?_append_left (by rw [List.length_take]; omega)] at hu
    rw [List.getElem?_append_left (by omega)] at hv
    exact h.2 k u v hu hv
  · have hk2 : k = i := by
      have := (List.getElem?_eq_some_iff.mp hv).1
      rw [List.length_append, List.length_singleton] at this
      omega
    subst hk2
    rw [List.getElem?_append_right (by rw [List.length_take]; omega), List.length_take, Nat.min_eq_left (by omega), Nat.sub_self] at hu
    rw [List.getElem?_append_right (by omega), hl, Nat.sub_self] at hv
    cases Option.some.inj hu
    cases Option.some.inj hv
    exact c
theorem Cp.sm {H : Hp} {x y : V} (h : Cp K ns H x y) : Sm K H 7 y x := by
  cases h with
  | int i => exact .int i
  | lst h1 h2 hz => exact .lst h2 h1 rfl (by rw [List.length_map]; exact hz) Sm.ints
  | tup h1 h2 hz => exact .tup h2 h1 rfl (by rw [List.length_map]; exact hz) Sm.ints
theorem sql_but {D a : Addr} {H G : Hp} {xs : List V} (hD : H D = none) (k : But D H G) (h : SqL K H a xs) : SqL K G a xs := by
  rcases h with (h | ⟨o, h⟩) | h
  · exact .inl (.inl (k _ _ (ne_of_none h hD) h))
  · exact .inl (.inr ⟨o, k _ _ (ne_of_none h hD) h⟩)
  · exact .inr h
theorem sqt_but {D a : Addr} {H G : Hp} {xs : List V} (hD : H D = none) (k : But D H G) (h : SqT K H a xs) : SqT K G a xs := by
  rcases h with (h | ⟨o, h⟩) | h
  · exact .inl (.inl (k _ _ (ne_of_none h hD) h))
  · exact .inl (.inr ⟨o, k _ _ (ne_of_none h hD) h⟩)
  · exact .inr h
theorem cps_one {H : Hp} {x : V} {ys : List V} (h : Cps K ns H [x] ys) : ∃ y, ys = [y] ∧ Cp K ns H x y := by
  obtain ⟨hl, hc⟩ := h
  match ys, hl, hc with
  | [y], _, hc => exact ⟨y, rfl, hc 0 x y rfl rfl⟩
theorem cps_two {H : Hp} {x x2 : V} {ys : List V} (h : Cps K ns H [x, x2] ys) : ∃ y y2, ys = [y, y2] ∧ Cp K ns H x y ∧ Cp K ns H x2 y2 := by
  obtain ⟨hl, hc⟩ := h
  match ys, hl, hc with
  | [y, y2], _, hc => exact ⟨y, y2, rfl, hc 0 x y rfl rfl, hc 1 x2 y2 rfl rfl⟩
theorem cp_int {H : Hp} {i : Int} {y : V} (h : Cp K ns H (.int i) y) : y = .int i := by
  cases h; rfl
/-- what may be copied -/
def Can (K : PySem.W.Frag) (ns : List Int) (H : Hp) (x : V) : Prop := (∃ i, x = .int i) ∨ ∃ (a : Addr), x = .ref a ∧ (SqL K H a (ns.map V.int) ∨ SqT K H a (ns.map V.int)) ∧ ns.length ≤ 1000
theorem Ask.can {H : Hp} {kind : Int} {xs : List V} (h : Ask K ns H kind xs) {i : Nat} {x : V} (hx : xs[i]? = some x) : Can K ns H x := by
  rcases h with ⟨_, n, rfl⟩ | ⟨_, n, m, rfl⟩ | ⟨_, a, rfl, hs, hz, _⟩ | ⟨_, n, m, rfl⟩
  · match i, hx with
    | 0, hx => cases Option.some.inj hx; exact .inl ⟨_, rfl⟩
  · match i, hx with
    | 0, hx => cases Option.some.inj hx; exact .inl ⟨_, rfl⟩
    | 1, hx => cases Option.some.inj hx; exact .inl ⟨_, rfl⟩
  · match i, hx with
    | 0, hx => cases Option.some.inj hx; exact .inr ⟨_, rfl, hs, hz⟩
  · match i, hx with
    | 0, hx => cases Option.some.inj hx; exact .inl ⟨_, rfl⟩
    | 1, hx => cases Option.some.inj hx; exact .inl ⟨_, rfl⟩
theorem Ask.len {H : Hp} {kind : Int} {xs : List V} (h : Ask K ns H kind xs) : xs.length ≤ 2 := by
  rcases h with ⟨_, n, rfl⟩ | ⟨_, n, m, rfl⟩ | ⟨_, a, rfl, hs, _⟩ | ⟨_, n, m, rfl⟩ <;> simp
theorem ok_law_right (T : TA4 K mg) : FnOk P w K mg base CX0 10 T.law_right.a T.law_right.fd ["triangle", "kind", "named", "values"] (spRight K) := by
  refine T.law_right.F.ok sc_law_right (fun vs H Q E h => ?_) (fun cdv A outer s H vs Q E hr h => ?_)
  · obtain ⟨r, kind, named, vt, xs, ns, rfl, _⟩ := h; rfl
  obtain ⟨r, kind, named, vt, xs, ns, rfl, tri, hvt, ask, q⟩ := h
  refine ⟨_, (pss_cons (ps_setLc (i := 4) (own := [("one", 8)]) (g := gName 8) (by rfl) sc_law_right.nd rfl rfl (sw_true rfl rfl rfl (by decide +kernel)) (kpit K (pv 3)) (blkOk_by (own := [("one", 8)]) (N := ["triangle", "kind", "named", "values", "passed", "told", "great", "many", "one"]) (sc := defScope s_law_right) (by decide +kernel)) (fun _ _ _ _ _ => (pg_name (i := 8) sc_law_right.nd rfl (Or.inl rfl))) (fun _ _ _ _ _ => pts_nil) (fun _ _ _ _ _ => (pe_ifExp (pt_val (pe_callB (kisi K) (by rfl) T.z_isinstance (by decide +kernel) (pa_cons (pv 8) (pa_cons (pe_bltn (v := .ty "list") rfl T.z_list (by decide +kernel) rfl) pa_nil)))) (pe_callTy (klist K) (by rfl) T.z_list (by decide +kernel) (pa_cons (pv 8) pa_nil)) (pv 8))))
    (pss_cons (ps_par (i := 5) (j := 6) (by rfl) sc_law_right.nd rfl rfl (by decide) rfl rfl (pa_cons (pe_call (ok_law_told T.toTA3) (hr.mono (by decide)) rfl T.law_told.m T.law_told.F.kp T.law_told.b .nil pass0 (pa_cons (pv 1) (pa_cons (pv 2) (pa_cons (pv 4) pa_nil)))) (pa_cons (pe_ix (kixt K) (pv 3) pe_int (fun _ _ => rfl)) pa_nil)) (by rfl))
    (pss_cons (ps_if (pt_not (pt_val (pe_call (ok_law_same T.toTA1) (hr.mono (by decide)) rfl T.law_same.m T.law_same.F.kp T.law_same.b .nil pass0 (pa_cons (pv 4) (pa_cons (pe_callTy (klist K) (by rfl) T.z_list (by decide +kernel) (pa_cons (pv 3) pa_nil)) pa_nil))))) (pss_one (ps_ret pe_bl)) pss_nil)
    (pss_cons (ps_if (pt_cmpR op_eq (pv 1) pe_int (nomark _)) (pss_cons (ps_if (pt_cmpR op_gt (pe_callB (ksum K rfl) (by rfl) T.z_sum (by decide +kernel) (pa_cons (pv 6) pa_nil)) pe_int (nomark _)) (pss_one (ps_ret (pe_call (ok_law_same T.toTA1) (hr.mono (by decide)) rfl T.law_same.m T.law_same.F.kp T.law_same.b .nil pass0 (pa_cons (pv 5) (pa_cons (pe_tup (pa_cons pe_str (pa_cons (pv 6) pa_nil))) pa_nil))))) pss_nil)
    (pss_one (ps_ret (pe_call (ok_law_same T.toTA1) (hr.mono (by decide)) rfl T.law_same.m T.law_same.F.kp T.law_same.b .nil pass0 (pa_cons (pv 5) (pa_cons (pe_tup (pa_cons pe_str (pa_cons (pe_call (ok_law_arranged T.toTA3) (hr.mono (by decide)) rfl T.law_arranged.m T.law_arranged.F.kp T.law_arranged.b .nil pass0 (pa_cons (pv 0) (pa_cons (pv 6) pa_nil))) pa_nil))) pa_nil)))))) pss_nil)
    (pss_cons (ps_if (PW.pt (pw_or (pt_cmpR op_lt (pv 6) pe_int (nomark _)) (pw_or1 (pt_cmpR op_gt (pv 6) pe_int (nomark _))))) (pss_one (ps_ret (pe_call (ok_law_same T.toTA1) (hr.mono (by decide)) rfl T.law_same.m T.law_same.F.kp T.law_same.b .nil pass0 (pa_cons (pv 5) (pa_cons (pe_tup (pa_cons pe_str (pa_cons (pv 6) pa_nil))) pa_nil))))) pss_nil)
    (pss_cons (ps_if (pt_cmpR op_eq (pv 1) pe_int (nomark _)) (pss_one (ps_ret (pe_call (ok_law_same T.toTA1) (hr.mono (by decide)) rfl T.law_same.m T.law_same.F.kp T.law_same.b .nil pass0 (pa_cons (pv 5) (pa_cons (pe_tup (pa_cons pe_str (pa_cons (pe_call (ok_law_product T.toTA3) (hr.mono (by decide)) rfl T.law_product.m T.law_product.F.kp T.law_product.b .nil pass0 (pa_cons (pv 6) pa_nil)) pa_nil))) pa_nil))))) pss_nil)
    (pss_cons (ps_set (i := 7) sc_law_right.nd rfl (Or.inl rfl) (pe_ix (kixt K) (pv 3) pe_int (fun _ _ => rfl)))
    (pss_cons (ps_if (PW.pt (pw_or (pt_cmpR op_gt (pv 7) pe_int (nomark _)) (pw_or1 (pt_cmpR op_lt (pv 7) (pe_ifExp (pt_cmpR op_eq (pv 1) pe_int (nomark _)) pe_int pe_int) (nomark _))))) (pss_one (ps_ret (pe_call (ok_law_same T.toTA1) (hr.mono (by decide)) rfl T.law_same.m T.law_same.F.kp T.law_same.b .nil pass0 (pa_cons (pv 5) (pa_cons (pe_tup (pa_cons pe_str (pa_cons (pv 7) pa_nil))) pa_nil))))) pss_nil)
    (pss_cons (ps_if (pt_cmpR op_eq (pv 1) pe_int (nomark _)) (pss_one (ps_ret (pe_call (ok_law_same T.toTA1) (hr.mono (by decide)) rfl T.law_same.m T.law_same.F.kp T.law_same.b .nil pass0 (pa_cons (pv 5) (pa_cons (pe_tup (pa_cons pe_str (pa_cons (pe_ifExp (pt_cmpR op_le (pv 7) (pv 6) (nomark _)) (pe_ix (kixl K) (pe_ix (kixl K) (pv 0) (pv 6) (fun _ _ => rfl)) (pv 7) (fun _ _ => rfl)) pe_int) pa_nil))) pa_nil))))) pss_nil)
    (pss_one (ps_ret (pe_and (pe_cmpR op_eq (pe_ix (kixt K) (pv 5) pe_int (fun _ _ => rfl)) pe_str (nomark _)) (pe_one (pe_call (ok_law_is_even T.toTA3) (hr.mono (by decide)) rfl T.law_is_even.m T.law_is_even.F.kp T.law_is_even.b .nil pass0 (pa_cons (pe_ix (kixt K) (pv 5) pe_int (fun _ _ => rfl)) (pa_cons (pv 6) (pa_cons (pv 7) pa_nil))))))))))))))))), ?_⟩
  have hlen := ask.len
  refine ⟨_, rfl, vt, rfl, ⟨_, hvt⟩, fun D hD => lc_tup (xs := xs) (fun i H' => H D = none ∧ Ex H H' ∧ ∃ ys, H' D = some (.lst ys) ∧ ys.length = i ∧ ∀ G, But D H' G → Cps K ns G (xs.take i) ys) ⟨hD, Ex.new hD, [], upd_same, rfl, fun G _ => ⟨rfl, fun i x y hx hy => nomatch hy⟩⟩
    (fun i H' _ p => ex_t p.2.1 hvt) ?_ ?_⟩
  · rintro i x H' hx ⟨hD, e, ys, hy, hl, hc⟩
    have hi := (List.getElem?_eq_some_iff.mp hx).1
    have sz : ys.length < sizeLine := small1000 (by omega)
    refine ⟨rfl, ?_⟩
    have fin : ∀ (z : V) (H2 : Hp), Ex H' H2 → (∀ G, But D H2 G → Cp K ns G x z) → ∃ acc, H2 D = some (.lst acc) ∧ acc.length < sizeLine ∧
        (H D = none ∧ Ex H (upd H2 D (.lst (acc ++ [z]))) ∧ ∃ ys, (upd H2 D (.lst (acc ++ [z]))) D = some (.lst ys) ∧ ys.length = i + 1 ∧ ∀ G, But D (upd H2 D (.lst (acc ++ [z]))) G → Cps K ns G (xs.take (i + 1)) ys) := by
      intro z H2 e2 hz
      refine ⟨ys, e2 _ _ hy, sz, hD, (e.trans e2).mut hD, ys ++ [z], upd_same, by rw [List.length_append, hl]; rfl, fun G k => ?_⟩
      have k2 : But D H2 G := But.upd.trans k
      exact (hc G (But.pre e2 k2)).more hx (hz G k2)
    show tIf (tB (tCB (rIsi K) (tCons (tVar 8) (tCons (tC (.ty "list")) tNil)))) (tCB (rListOf K) (tCons (tVar 8) tNil)) (tVar 8) _ H' _
    have back : ∀ {H2 G : Hp}, Ex H' H2 → But D H2 G → But D H G := fun e2 k => But.pre (e.trans e2) k
    rcases ask.can hx with ⟨n, rfl⟩ | ⟨a, rfl, hs | hs, hz⟩
    · exact ⟨_, rfl, _, _, _, _, false, rfl, .ty _, .base (.int n), kit_ty (by decide +kernel), ⟨_, rfl, iteF ⟨_, rfl, fin _ H' (Ex.refl _) (fun G _ => .int n)⟩⟩⟩
    · refine ⟨_, rfl, _, _, _, _, true, rfl, .ty _, tyL (ex_l e hs), kit_ty (by decide +kernel), ⟨_, rfl, iteT ⟨_, rfl, a, _, rfl, .inl (ex_l e hs), fun l hl2 => fin _ _ (Ex.new hl2) (fun G k => ?_)⟩⟩⟩
      have nl : l ≠ D := ne_new hl2 hy
      exact .lst (sql_but hD (back (Ex.new hl2) k) hs) (SqL.of (k _ _ nl upd_same)) hz
    · exact ⟨_, rfl, _, _, _, _, false, rfl, .ty _, tyT (ex_t e hs), kit_ty (by decide +kernel), ⟨_, rfl, iteF ⟨_, rfl, fin _ H' (Ex.refl _) (fun G k => .tup (sqt_but hD (back (Ex.refl _) k) hs) (sqt_but hD (back (Ex.refl _) k) hs) hz)⟩⟩⟩
  · rintro H1 ⟨hD, e1, ys, hy, hl, hc0⟩
    rw [List.take_length] at hc0
    have hc := hc0 H1 (But.of (Ex.refl _))
    have hvt1 := ex_t e1 hvt
    -- the sameness of what was passed, from any later heap on
    have same : ∀ {H2 : Hp} (e2 : Ex H1 H2) (l : Addr) (hl2 : H2 l = none), Sm K (upd H2 l (.lst xs)) 8 (.ref D) (.ref l) := fun {H2} e2 l hl2 => by
      have e3 := e2.trans (Ex.new (o := .lst xs) hl2)
      refine .lst (SqL.of (e3 _ _ hy)) (SqL.of upd_same) hc.1 (by rw [hc.1]; omega) fun i y x h1 h2 => ?_
      exact ((hc.2 i x y h2 h1).ex e3).sm
    rcases ask with ⟨rfl, i, rfl⟩ | ⟨rfl, i, j, rfl⟩ | ⟨rfl, a, rfl, hs, hz, hall⟩ | ⟨rfl, i, j, rfl⟩
    · obtain ⟨y, rfl, hcy⟩ := cps_one hc
      obtain rfl := cp_int hcy
      refine ⟨_, rfl, _, rfl, _, rfl, 0, named, D, _, rfl, SqL.of hy, .inl ⟨rfl, i, rfl, fun ok t H2 e2 ht => ?_, fun no t H2 e2 ht => ?_⟩⟩
      · have hv2 := ex_t e2 hvt1
        refine ⟨_, rfl, _, _, _, _, rfl, rfl, hv2, rfl, _, _, rfl, ?_⟩
        refine ⟨_, rfl, _, rfl, vt, _, rfl, .inr hv2, fun l hl2 => ⟨_, _, rfl, same e2 l hl2, fun H3 e3 => ⟨true, rfl, iteF ?_⟩⟩⟩
        have E23 : Ex H2 H3 := (Ex.new hl2).trans e3
        have E3 : Ex H H3 := e1.trans (e2.trans E23)
        have ht3 := ex_t E23 ht
        have hv3 := ex_t E23 hv2
        refine ⟨_, rfl, rfl, _, rfl, iteF ?_⟩
        have ok' : 0 ≤ i ∧ i ≤ 64 := ok
        refine ⟨_, rfl, _, _, rfl, rfl, _, rfl, ite2 (fun c => absurd (of_decide_eq_true c) (by omega)) (fun _ => ⟨_, rfl, _, _, rfl, rfl, _, rfl, ite2 (fun c => absurd (of_decide_eq_true c) (by omega)) (fun _ => ?_)⟩)⟩
        refine ⟨_, rfl, rfl, _, rfl, iteT ?_⟩
        exact ⟨_, rfl, _, rfl, i, rfl, ok'.1, ok'.2, two_le, fun p hp => ⟨_, _, rfl, sm_pair (ex_t (Ex.new hp) ht3) (st_of upd_same) (by decide) (.int _), fun H4 e4 => q H4 (E3.trans ((Ex.new hp).trans e4))⟩⟩
      · have hv2 := ex_t e2 hvt1
        refine ⟨_, rfl, _, _, _, _, rfl, rfl, hv2, rfl, _, _, rfl, ?_⟩
        refine ⟨_, rfl, _, rfl, vt, _, rfl, .inr hv2, fun l hl2 => ⟨_, _, rfl, same e2 l hl2, fun H3 e3 => ⟨true, rfl, iteF ?_⟩⟩⟩
        have E23 : Ex H2 H3 := (Ex.new hl2).trans e3
        have E3 : Ex H H3 := e1.trans (e2.trans E23)
        have ht3 := ex_t E23 ht
        have hv3 := ex_t E23 hv2
        refine ⟨_, rfl, rfl, _, rfl, iteF ?_⟩
        have no' : i < 0 ∨ 64 < i := by
          rcases Int.lt_or_le i 0 with z | z
          · exact .inl z
          · exact .inr (Int.not_le.mp fun z2 => no ⟨z, z2⟩)
        refine ⟨_, rfl, _, _, rfl, rfl, _, rfl, ite2 (fun _ => iteT ?_) (fun c => ⟨_, rfl, _, _, rfl, rfl, _, rfl, ite2 (fun _ => ?_) (fun c2 => absurd no' ?_)⟩)⟩
        · exact ⟨_, rfl, _, rfl, two_le, fun p hp => ⟨_, _, rfl, sm_pair (ex_t (Ex.new hp) ht3) (st_of upd_same) (by decide) (.int _), fun H4 e4 => q H4 (E3.trans ((Ex.new hp).trans e4))⟩⟩
        · exact ⟨_, rfl, _, rfl, two_le, fun p hp => ⟨_, _, rfl, sm_pair (ex_t (Ex.new hp) ht3) (st_of upd_same) (by decide) (.int _), fun H4 e4 => q H4 (E3.trans ((Ex.new hp).trans e4))⟩⟩
        · have := of_decide_eq_false (Bool.eq_false_iff.mpr c)
          have := of_decide_eq_false (Bool.eq_false_iff.mpr c2)
          omega
    · obtain ⟨y, y2, rfl, hcy, hcy2⟩ := cps_two hc
      obtain rfl := cp_int hcy
      obtain rfl := cp_int hcy2
      refine ⟨_, rfl, _, rfl, _, rfl, 1, named, D, _, rfl, SqL.of hy, .inr (.inl ⟨rfl, i, j, rfl, fun ok okj t H2 e2 ht => ?_, fun no t H2 e2 ht => ?_, fun ok no t H2 e2 ht => ?_⟩)⟩
      · have hv2 := ex_t e2 hvt1
        refine ⟨_, rfl, _, _, _, _, rfl, rfl, hv2, rfl, _, _, rfl, ?_⟩
        refine ⟨_, rfl, _, rfl, vt, _, rfl, .inr hv2, fun l hl2 => ⟨_, _, rfl, same e2 l hl2, fun H3 e3 => ⟨true, rfl, iteF ?_⟩⟩⟩
        have E23 : Ex H2 H3 := (Ex.new hl2).trans e3
        have E3 : Ex H H3 := e1.trans (e2.trans E23)
        have ht3 := ex_t E23 ht
        have hv3 := ex_t E23 hv2
        refine ⟨_, rfl, rfl, _, rfl, iteF ?_⟩
        have ok' : 0 ≤ i ∧ i ≤ 64 := ok
        refine ⟨_, rfl, _, _, rfl, rfl, _, rfl, ite2 (fun c => absurd (of_decide_eq_true c) (by omega)) (fun _ => ⟨_, rfl, _, _, rfl, rfl, _, rfl, ite2 (fun c => absurd (of_decide_eq_true c) (by omega)) (fun _ => ?_)⟩)⟩
        refine ⟨_, rfl, rfl, _, rfl, iteF ?_⟩
        refine ⟨_, rfl, _, _, _, _, rfl, rfl, hv3, rfl, ?_⟩
        have okj' : 0 ≤ j ∧ j ≤ 64 := okj
        refine ⟨_, rfl, _, _, rfl, rfl, _, rfl, ite2 (fun c => absurd (of_decide_eq_true c) (by omega)) (fun _ => ⟨_, rfl, _, rfl, rfl, _, rfl, iteF ⟨_, _, rfl, rfl, _, rfl, ite2 (fun c => absurd (of_decide_eq_true c) (by omega)) (fun _ => ?_)⟩⟩)⟩
        refine ⟨_, rfl, rfl, _, rfl, iteT ?_⟩
        refine ⟨_, rfl, _, rfl, _, rfl, _, _, rfl, rfl, _, rfl, ite2 (fun c => ?_) (fun c => ?_)⟩
        · have c' := of_decide_eq_true c
          obtain ⟨as, t1, t2, t3⟩ := tri.ex E3
          obtain ⟨n, hn⟩ : ∃ n : Nat, i = (n : Int) := ⟨i.toNat, by omega⟩
          obtain ⟨k, hk⟩ : ∃ k : Nat, j = (k : Int) := ⟨j.toNat, by omega⟩
          have ha : as[n]? = some as[n] := List.getElem?_eq_getElem (by omega)
          have hrow : ((row n).map V.int)[k]? = some (.int (PySem.W.mcComb i j)) := by
            rw [List.getElem?_map, row_comb (show n ≤ 64 by omega) (show k ≤ n by omega), hn, hk]
            rfl
          exact ⟨_, rfl, _, rfl, _, _, _, _, rfl, rfl, SqL.of t2, at_of hn (refs_get ha), _, rfl, _, _, _, _, rfl, rfl, SqL.of (t3 n _ ha), at_of hk hrow, two_le, fun p hp => ⟨_, _, rfl, sm_pair (ex_t (Ex.new hp) ht3) (st_of upd_same) (by decide) (.int _), fun H4 e4 => q H4 (E3.trans ((Ex.new hp).trans e4))⟩⟩
        · have c' := of_decide_eq_false (Bool.eq_false_iff.mpr c)
          have z : PySem.W.mcComb i j = 0 := PySem.W.mcComb_above (by omega)
          rw [z] at ht3
          exact ⟨two_le, fun p hp => ⟨_, _, rfl, sm_pair (ex_t (Ex.new hp) ht3) (st_of upd_same) (by decide) (.int _), fun H4 e4 => q H4 (E3.trans ((Ex.new hp).trans e4))⟩⟩
      · have hv2 := ex_t e2 hvt1
        refine ⟨_, rfl, _, _, _, _, rfl, rfl, hv2, rfl, _, _, rfl, ?_⟩
        refine ⟨_, rfl, _, rfl, vt, _, rfl, .inr hv2, fun l hl2 => ⟨_, _, rfl, same e2 l hl2, fun H3 e3 => ⟨true, rfl, iteF ?_⟩⟩⟩
        have E23 : Ex H2 H3 := (Ex.new hl2).trans e3
        have E3 : Ex H H3 := e1.trans (e2.trans E23)
        have ht3 := ex_t E23 ht
        have hv3 := ex_t E23 hv2
        refine ⟨_, rfl, rfl, _, rfl, iteF ?_⟩
        have no' : i < 0 ∨ 64 < i := by
          rcases Int.lt_or_le i 0 with z | z
          · exact .inl z
          · exact .inr (Int.not_le.mp fun z2 => no ⟨z, z2⟩)
        refine ⟨_, rfl, _, _, rfl, rfl, _, rfl, ite2 (fun _ => iteT ?_) (fun c => ⟨_, rfl, _, _, rfl, rfl, _, rfl, ite2 (fun _ => ?_) (fun c2 => absurd no' ?_)⟩)⟩
        · exact ⟨_, rfl, _, rfl, two_le, fun p hp => ⟨_, _, rfl, sm_pair (ex_t (Ex.new hp) ht3) (st_of upd_same) (by decide) (.int _), fun H4 e4 => q H4 (E3.trans ((Ex.new hp).trans e4))⟩⟩
        · exact ⟨_, rfl, _, rfl, two_le, fun p hp => ⟨_, _, rfl, sm_pair (ex_t (Ex.new hp) ht3) (st_of upd_same) (by decide) (.int _), fun H4 e4 => q H4 (E3.trans ((Ex.new hp).trans e4))⟩⟩
        · have := of_decide_eq_false (Bool.eq_false_iff.mpr c)
          have := of_decide_eq_false (Bool.eq_false_iff.mpr c2)
          omega
      · have hv2 := ex_t e2 hvt1
        refine ⟨_, rfl, _, _, _, _, rfl, rfl, hv2, rfl, _, _, rfl, ?_⟩
        refine ⟨_, rfl, _, rfl, vt, _, rfl, .inr hv2, fun l hl2 => ⟨_, _, rfl, same e2 l hl2, fun H3 e3 => ⟨true, rfl, iteF ?_⟩⟩⟩
        have E23 : Ex H2 H3 := (Ex.new hl2).trans e3
        have E3 : Ex H H3 := e1.trans (e2.trans E23)
        have ht3 := ex_t E23 ht
        have hv3 := ex_t E23 hv2
        refine ⟨_, rfl, rfl, _, rfl, iteF ?_⟩
        have ok' : 0 ≤ i ∧ i ≤ 64 := ok
        refine ⟨_, rfl, _, _, rfl, rfl, _, rfl, ite2 (fun c => absurd (of_decide_eq_true c) (by omega)) (fun _ => ⟨_, rfl, _, _, rfl, rfl, _, rfl, ite2 (fun c => absurd (of_decide_eq_true c) (by omega)) (fun _ => ?_)⟩)⟩
        refine ⟨_, rfl, rfl, _, rfl, iteF ?_⟩
        refine ⟨_, rfl, _, _, _, _, rfl, rfl, hv3, rfl, ?_⟩
        have no' : j < 0 ∨ 64 < j := by
          rcases Int.lt_or_le j 0 with z | z
          · exact .inl z
          · exact .inr (Int.not_le.mp fun z2 => no ⟨z, z2⟩)
        refine ⟨_, rfl, _, _, rfl, rfl, _, rfl, ite2 (fun _ => iteT ?_) (fun c => ⟨_, rfl, _, rfl, rfl, _, rfl, iteF ⟨_, _, rfl, rfl, _, rfl, ite2 (fun _ => ?_) (fun c2 => absurd no' ?_)⟩⟩)⟩
        · exact ⟨_, rfl, _, rfl, two_le, fun p hp => ⟨_, _, rfl, sm_pair (ex_t (Ex.new hp) ht3) (st_of upd_same) (by decide) (.int _), fun H4 e4 => q H4 (E3.trans ((Ex.new hp).trans e4))⟩⟩
        · exact ⟨_, rfl, _, rfl, two_le, fun p hp => ⟨_, _, rfl, sm_pair (ex_t (Ex.new hp) ht3) (st_of upd_same) (by decide) (.int _), fun H4 e4 => q H4 (E3.trans ((Ex.new hp).trans e4))⟩⟩
        · have := of_decide_eq_false (Bool.eq_false_iff.mpr c)
          have := of_decide_eq_false (Bool.eq_false_iff.mpr c2)
          omega
    · obtain ⟨y, rfl, hcy⟩ := cps_one hc
      have part : ∃ b, y = .ref b ∧ (SqL K H1 b (ns.map V.int) ∨ SqT K H1 b (ns.map V.int)) := by
        cases hcy with
        | lst _ h2 _ => exact ⟨_, rfl, .inl h2⟩
        | tup _ h2 _ => exact ⟨_, rfl, .inr h2⟩
      obtain ⟨b, rfl, hsb⟩ := part
      refine ⟨_, rfl, _, rfl, _, rfl, 2, named, D, _, rfl, SqL.of hy, .inr (.inr (.inl ⟨rfl, b, ns, rfl, hsb, hz, hall, fun ok t H2 e2 ht => ?_, fun no t H2 e2 ht => ?_⟩))⟩
      · have hv2 := ex_t e2 hvt1
        refine ⟨_, rfl, _, _, _, _, rfl, rfl, hv2, rfl, _, _, rfl, ?_⟩
        refine ⟨_, rfl, _, rfl, vt, _, rfl, .inr hv2, fun l hl2 => ⟨_, _, rfl, same e2 l hl2, fun H3 e3 => ⟨true, rfl, iteF ?_⟩⟩⟩
        have E23 : Ex H2 H3 := (Ex.new hl2).trans e3
        have E3 : Ex H H3 := e1.trans (e2.trans E23)
        have ht3 := ex_t E23 ht
        have hv3 := ex_t E23 hv2
        have hs3 := hs.imp (ex_l E3) (ex_t E3)
        refine ⟨_, rfl, rfl, _, rfl, iteT ?_⟩
        refine ⟨_, rfl, a, ns, rfl, hs3, _, _, rfl, rfl, _, rfl, ite2 (fun c => absurd (of_decide_eq_true c) (by omega)) (fun _ => ?_)⟩
        exact ⟨_, rfl, _, rfl, _, rfl, r, a, ns, rfl, tri.ex E3, hs3, hall, ok, fun H4 e4 => ⟨two_le, fun p hp => ⟨_, _, rfl, sm_pair (ex_t (e4.trans (Ex.new hp)) ht3) (st_of upd_same) (by decide) (.int _), fun H5 e5 => q H5 (E3.trans (e4.trans ((Ex.new hp).trans e5)))⟩⟩⟩
      · have hv2 := ex_t e2 hvt1
        refine ⟨_, rfl, _, _, _, _, rfl, rfl, hv2, rfl, _, _, rfl, ?_⟩
        refine ⟨_, rfl, _, rfl, vt, _, rfl, .inr hv2, fun l hl2 => ⟨_, _, rfl, same e2 l hl2, fun H3 e3 => ⟨true, rfl, iteF ?_⟩⟩⟩
        have E23 : Ex H2 H3 := (Ex.new hl2).trans e3
        have E3 : Ex H H3 := e1.trans (e2.trans E23)
        have ht3 := ex_t E23 ht
        have hv3 := ex_t E23 hv2
        have hs3 := hs.imp (ex_l E3) (ex_t E3)
        refine ⟨_, rfl, rfl, _, rfl, iteT ?_⟩
        refine ⟨_, rfl, a, ns, rfl, hs3, _, _, rfl, rfl, _, rfl, ite2 (fun _ => ?_) (fun c => absurd (of_decide_eq_false (Bool.eq_false_iff.mpr c)) (by omega))⟩
        exact ⟨_, rfl, _, rfl, two_le, fun p hp => ⟨_, _, rfl, sm_pair (ex_t (Ex.new hp) ht3) (st_of upd_same) (by decide) (hcy.ex ((e2.trans E23).trans (Ex.new hp))).sm, fun H4 e4 => q H4 (E3.trans ((Ex.new hp).trans e4))⟩⟩
    · obtain ⟨y, y2, rfl, hcy, hcy2⟩ := cps_two hc
      obtain rfl := cp_int hcy
      obtain rfl := cp_int hcy2
      refine ⟨_, rfl, _, rfl, _, rfl, 3, named, D, _, rfl, SqL.of hy, .inr (.inr (.inr ⟨rfl, i, j, rfl, fun ok okj t e H2 e2 he ht => ?_, fun no t H2 e2 ht => ?_, fun ok no t H2 e2 ht => ?_⟩))⟩
      · have hv2 := ex_t e2 hvt1
        refine ⟨_, rfl, _, _, _, _, rfl, rfl, hv2, rfl, _, _, rfl, ?_⟩
        refine ⟨_, rfl, _, rfl, vt, _, rfl, .inr hv2, fun l hl2 => ⟨_, _, rfl, same e2 l hl2, fun H3 e3 => ⟨true, rfl, iteF ?_⟩⟩⟩
        have E23 : Ex H2 H3 := (Ex.new hl2).trans e3
        have E3 : Ex H H3 := e1.trans (e2.trans E23)
        have ht3 := ex_t E23 ht
        have hv3 := ex_t E23 hv2
        have he3 := ex_t E23 he
        refine ⟨_, rfl, rfl, _, rfl, iteF ?_⟩
        have ok' : 0 ≤ i ∧ i ≤ 64 := ok
        refine ⟨_, rfl, _, _, rfl, rfl, _, rfl, ite2 (fun c => absurd (of_decide_eq_true c) (by omega)) (fun _ => ⟨_, rfl, _, _, rfl, rfl, _, rfl, ite2 (fun c => absurd (of_decide_eq_true c) (by omega)) (fun _ => ?_)⟩)⟩
        refine ⟨_, rfl, rfl, _, rfl, iteF ?_⟩
        refine ⟨_, rfl, _, _, _, _, rfl, rfl, hv3, rfl, ?_⟩
        have okj' : 1 ≤ j ∧ j ≤ 64 := okj
        refine ⟨_, rfl, _, _, rfl, rfl, _, rfl, ite2 (fun c => absurd (of_decide_eq_true c) (by omega)) (fun _ => ⟨_, rfl, _, rfl, rfl, _, rfl, iteT ⟨_, _, rfl, rfl, _, rfl, ite2 (fun c => absurd (of_decide_eq_true c) (by omega)) (fun _ => ?_)⟩⟩)⟩
        refine ⟨_, rfl, rfl, _, rfl, iteF ?_⟩
        refine ⟨_, rfl, _, _, _, _, rfl, rfl, ht3, rfl, rfl, _, rfl, ?_⟩
        rw [if_pos (decide_eq_true rfl)]
        exact ⟨_, rfl, _, _, _, _, rfl, rfl, ht3, rfl, _, rfl, _, rfl, e, i, j, rfl, he3, ok'.1, ok'.2, okj'.1, okj'.2, fun H4 e4 => q H4 (E3.trans e4)⟩
      · have hv2 := ex_t e2 hvt1
        refine ⟨_, rfl, _, _, _, _, rfl, rfl, hv2, rfl, _, _, rfl, ?_⟩
        refine ⟨_, rfl, _, rfl, vt, _, rfl, .inr hv2, fun l hl2 => ⟨_, _, rfl, same e2 l hl2, fun H3 e3 => ⟨true, rfl, iteF ?_⟩⟩⟩
        have E23 : Ex H2 H3 := (Ex.new hl2).trans e3
        have E3 : Ex H H3 := e1.trans (e2.trans E23)
        have ht3 := ex_t E23 ht
        have hv3 := ex_t E23 hv2
        refine ⟨_, rfl, rfl, _, rfl, iteF ?_⟩
        have no' : i < 0 ∨ 64 < i := by
          rcases Int.lt_or_le i 0 with z | z
          · exact .inl z
          · exact .inr (Int.not_le.mp fun z2 => no ⟨z, z2⟩)
        refine ⟨_, rfl, _, _, rfl, rfl, _, rfl, ite2 (fun _ => iteT ?_) (fun c => ⟨_, rfl, _, _, rfl, rfl, _, rfl, ite2 (fun _ => ?_) (fun c2 => absurd no' ?_)⟩)⟩
        · exact ⟨_, rfl, _, rfl, two_le, fun p hp => ⟨_, _, rfl, sm_pair (ex_t (Ex.new hp) ht3) (st_of upd_same) (by decide) (.int _), fun H4 e4 => q H4 (E3.trans ((Ex.new hp).trans e4))⟩⟩
        · exact ⟨_, rfl, _, rfl, two_le, fun p hp => ⟨_, _, rfl, sm_pair (ex_t (Ex.new hp) ht3) (st_of upd_same) (by decide) (.int _), fun H4 e4 => q H4 (E3.trans ((Ex.new hp).trans e4))⟩⟩
        · have := of_decide_eq_false (Bool.eq_false_iff.mpr c)
          have := of_decide_eq_false (Bool.eq_false_iff.mpr c2)
          omega
      · have hv2 := ex_t e2 hvt1
        refine ⟨_, rfl, _, _, _, _, rfl, rfl, hv2, rfl, _, _, rfl, ?_⟩
        refine ⟨_, rfl, _, rfl, vt, _, rfl, .inr hv2, fun l hl2 => ⟨_, _, rfl, same e2 l hl2, fun H3 e3 => ⟨true, rfl, iteF ?_⟩⟩⟩
        have E23 : Ex H2 H3 := (Ex.new hl2).trans e3
        have E3 : Ex H H3 := e1.trans (e2.trans E23)
        have ht3 := ex_t E23 ht
        have hv3 := ex_t E23 hv2
        refine ⟨_, rfl, rfl, _, rfl, iteF ?_⟩
        have ok' : 0 ≤ i ∧ i ≤ 64 := ok
        refine ⟨_, rfl, _, _, rfl, rfl, _, rfl, ite2 (fun c => absurd (of_decide_eq_true c) (by omega)) (fun _ => ⟨_, rfl, _, _, rfl, rfl, _, rfl, ite2 (fun c => absurd (of_decide_eq_true c) (by omega)) (fun _ => ?_)⟩)⟩
        refine ⟨_, rfl, rfl, _, rfl, iteF ?_⟩
        refine ⟨_, rfl, _, _, _, _, rfl, rfl, hv3, rfl, ?_⟩
        have no' : j < 1 ∨ 64 < j := by
          rcases Int.lt_or_le j 1 with z | z
          · exact .inl z
          · exact .inr (Int.not_le.mp fun z2 => no ⟨z, z2⟩)
        refine ⟨_, rfl, _, _, rfl, rfl, _, rfl, ite2 (fun _ => iteT ?_) (fun c => ⟨_, rfl, _, rfl, rfl, _, rfl, iteT ⟨_, _, rfl, rfl, _, rfl, ite2 (fun _ => ?_) (fun c2 => absurd no' ?_)⟩⟩)⟩
        · exact ⟨_, rfl, _, rfl, two_le, fun p hp => ⟨_, _, rfl, sm_pair (ex_t (Ex.new hp) ht3) (st_of upd_same) (by decide) (.int _), fun H4 e4 => q H4 (E3.trans ((Ex.new hp).trans e4))⟩⟩
        · exact ⟨_, rfl, _, rfl, two_le, fun p hp => ⟨_, _, rfl, sm_pair (ex_t (Ex.new hp) ht3) (st_of upd_same) (by decide) (.int _), fun H4 e4 => q H4 (E3.trans ((Ex.new hp).trans e4))⟩⟩
        · have := of_decide_eq_false (Bool.eq_false_iff.mpr c)
          have := of_decide_eq_false (Bool.eq_false_iff.mpr c2)
          omega
end
end L2.U


set_option Elab.async false
set_option linter.all false
set_option maxRecDepth 100000
set_option maxHeartbeats 4000000
namespace L2.U
open PySem PySem.Spec PyProof.Rows Evl
abbrev s_law_number : Stmt := top 31
theorem sc_law_number : FnScope ["box"] ["box"] (defScope s_law_number) := ⟨rfl, rfl, rfl, by decide +kernel, rfl, by decide +kernel, by decide +kernel⟩
abbrev s_law_parts : Stmt := top 32
theorem sc_law_parts : FnScope ["box", "total", "many", "way", "found", "left", "turn", "part"] ["box"] (defScope s_law_parts) := ⟨rfl, rfl, rfl, by decide +kernel, rfl, by decide +kernel, by decide +kernel⟩
abbrev s_law : Stmt := top 33
theorem sc_law : FnScope ["script", "triangle", "k", "box", "named", "turn", "asked", "beyond", "at"] ["script"] (defScope s_law) := ⟨rfl, rfl, rfl, by decide +kernel, rfl, by decide +kernel, by decide +kernel⟩
structure TA6 (K : PySem.W.Frag) (mg : Str → Option Value) extends TA4 K mg where
  law_number : DefAt K mg "_law_number" s_law_number ["box"]
  law_parts : DefAt K mg "_law_parts" s_law_parts ["box"]
  z_min : mg "min" = none
  z_max : mg "max" = none
section
variable {P : Program} {w : World} {K : PySem.W.Frag} {mg : Str → Option Value} {base : Heap}
theorem sz8 {n : Nat} (h : n ≤ 1000) : n ≤ sizeLine := Nat.le_of_lt (small1000 h)
/-- an item of a list of ints that are all within bounds -/
theorem pick {zs : List Int} {r lo hi : Int} (h0 : 0 ≤ r) (h1 : r < (zs.length : Int)) (h : ∀ z ∈ zs, lo ≤ z ∧ z ≤ hi) : ∃ z, atI (zs.map V.int) r = some (.int z) ∧ lo ≤ z ∧ z ≤ hi := by
  obtain ⟨v, hv, hg⟩ := at_get (xs := zs.map V.int) h0 (by rw [List.length_map]; exact h1)
  obtain ⟨z, hz, rfl⟩ := ints_get hg
  exact ⟨z, hv, h z (List.mem_of_getElem? hz)⟩
def spNumber : Sp := fun vs H Q _ => ∃ (b : Addr) (n : Nat), vs = [.ref b] ∧ BoxAt H b (n + 4) ∧ ∀ r H', 0 ≤ r → r ≤ 64 → BoxAt H' b n → But b H H' → Q (.int r) H'
theorem ok_law_number (T : TA6 K mg) : FnOk P w K mg base CX0 2 T.law_number.a T.law_number.fd ["box"] spNumber := by
  refine T.law_number.F.ok sc_law_number (fun vs H Q E h => ?_) (fun cdv A outer s H vs Q E hr h => ?_)
  · obtain ⟨b, n, rfl, _⟩ := h; rfl
  obtain ⟨b, n, rfl, hB, q⟩ := h
  refine ⟨_, (pss_one (ps_ret (pe_ix (kixl K) (pe_lst (pa_cons pe_int (pa_cons pe_int (pa_cons pe_int (pa_cons pe_int (pa_cons pe_int (pa_cons (pe_call (ok_law_take T.toTA1) (hr.mono (by decide)) rfl T.law_take.m T.law_take.F.kp T.law_take.b .nil pass0 (pa_cons (pv 0) (pa_cons pe_int pa_nil))) (pa_cons (pe_call (ok_law_take T.toTA1) (hr.mono (by decide)) rfl T.law_take.m T.law_take.F.kp T.law_take.b .nil pass0 (pa_cons (pv 0) (pa_cons pe_int pa_nil))) (pa_cons (pe_call (ok_law_take T.toTA1) (hr.mono (by decide)) rfl T.law_take.m T.law_take.F.kp T.law_take.b .nil pass0 (pa_cons (pv 0) (pa_cons pe_int pa_nil))) pa_nil))))))))) (pe_call (ok_law_take T.toTA1) (hr.mono (by decide)) rfl T.law_take.m T.law_take.F.kp T.law_take.b .nil pass0 (pa_cons (pv 0) (pa_cons pe_int pa_nil))) (fun _ _ => rfl)))), ?_⟩
  refine ⟨_, rfl, b, 65, n + 3, rfl, by decide, by decide, hB, fun r1 H1 a1 b1 B1 k1 => ?_⟩
  refine ⟨_, rfl, b, 65, n + 2, rfl, by decide, by decide, B1, fun r2 H2 a2 b2 B2 k2 => ?_⟩
  refine ⟨_, rfl, b, 13, n + 1, rfl, by decide, by decide, B2, fun r3 H3 a3 b3 B3 k3 => ?_⟩
  refine ⟨sz8 (by show 8 ≤ 1000; decide), fun p hp => ?_⟩
  have np := B3.ne hp
  refine ⟨_, rfl, b, 8, n, rfl, by decide, by decide, B3.ex (Ex.new hp), fun r4 H4 a4 b4 B4 k4 => ?_⟩
  obtain ⟨z, hz, z0, z1⟩ := @pick [0, 1, 2, 63, 64, r1, r2, r3] r4 0 64 a4 b4 (by
    intro z hz
    simp only [List.mem_cons, List.not_mem_nil, or_false] at hz
    omega)
  exact ⟨p, _, r4, .int z, rfl, rfl, SqL.of (k4 p _ np upd_same), hz, q z H4 z0 z1 B4 (((k1.trans k2).trans k3).trans (But.pre (Ex.new hp) k4))⟩
theorem BoxAt.upd {H : Hp} {b f : Addr} {n : Nat} {o : HO} (h : BoxAt H b n) (nf : f ≠ b) : BoxAt (upd H f o) b n := by
  obtain ⟨d, m, c, g, h, r⟩ := h
  exact ⟨d, m, c, g, by rw [upd_ne (Ne.symm nf)]; exact h, r⟩
theorem But.mut {H H' : Hp} {b f : Addr} {o : HO} (k : But b H H') (hf : H f = Option.none) : But b H (L2.upd H' f o) := fun c u n h => by
  rw [upd_ne (ne_of_none h hf)]
  exact k c u n h
theorem But.fresh {H H' : Hp} {b f : Addr} {n m : Nat} (k : But b H H') (hb : BoxAt H b n) (hb2 : BoxAt H' b m) (h : H' f = Option.none) : H f = Option.none := by
  obtain ⟨o, ho⟩ := hb.some
  exact k.none ho h (hb2.ne h)
def spParts : Sp := fun vs H Q _ => ∃ (b : Addr) (n : Nat), vs = [.ref b] ∧ BoxAt H b (n + 80) ∧ ∀ (a : Addr) (ns : List Int) H', H a = none → (H' a = some (.lst (ns.map V.int)) ∨ H' a = some (.tup (ns.map V.int))) → ns.length ≤ 64 →
  (∀ x ∈ ns, 0 ≤ x) → BoxAt H' b n → But b H H' → Q (.ref a) H'
theorem ok_law_parts (T : TA6 K mg) : FnOk P w K mg base CX0 2 T.law_parts.a T.law_parts.fd ["box"] spParts := by
  refine T.law_parts.F.ok sc_law_parts (fun vs H Q E h => ?_) (fun cdv A outer s H vs Q E hr h => ?_)
  · obtain ⟨b, n, rfl, _⟩ := h; rfl
  obtain ⟨b, n, rfl, hB, q⟩ := h
  refine ⟨_, (pss_cons (ps_set (i := 1) sc_law_parts.nd rfl (Or.inl rfl) (pe_ix (kixl K) (pe_lst (pa_cons pe_int (pa_cons pe_int (pa_cons pe_int (pa_cons pe_int (pa_cons pe_int (pa_cons (pe_call (ok_law_take T.toTA1) (hr.mono (by decide)) rfl T.law_take.m T.law_take.F.kp T.law_take.b .nil pass0 (pa_cons (pv 0) (pa_cons pe_int pa_nil))) (pa_cons (pe_call (ok_law_take T.toTA1) (hr.mono (by decide)) rfl T.law_take.m T.law_take.F.kp T.law_take.b .nil pass0 (pa_cons (pv 0) (pa_cons pe_int pa_nil))) (pa_cons (pe_call (ok_law_take T.toTA1) (hr.mono (by decide)) rfl T.law_take.m T.law_take.F.kp T.law_take.b .nil pass0 (pa_cons (pv 0) (pa_cons pe_int pa_nil))) pa_nil))))))))) (pe_call (ok_law_take T.toTA1) (hr.mono (by decide)) rfl T.law_take.m T.law_take.F.kp T.law_take.b .nil pass0 (pa_cons (pv 0) (pa_cons pe_int pa_nil))) (fun _ _ => rfl)))
    (pss_cons (ps_par (i := 2) (j := 3) (by rfl) sc_law_parts.nd rfl rfl (by decide) rfl rfl (pa_cons (pe_ix (kixl K) (pe_lst (pa_cons pe_int (pa_cons pe_int (pa_cons pe_int (pa_cons pe_int (pa_cons pe_int (pa_cons pe_int (pa_cons pe_int (pa_cons pe_int pa_nil))))))))) (pe_call (ok_law_take T.toTA1) (hr.mono (by decide)) rfl T.law_take.m T.law_take.F.kp T.law_take.b .nil pass0 (pa_cons (pv 0) (pa_cons pe_int pa_nil))) (fun _ _ => rfl)) (pa_cons (pe_call (ok_law_take T.toTA1) (hr.mono (by decide)) rfl T.law_take.m T.law_take.F.kp T.law_take.b .nil pass0 (pa_cons (pv 0) (pa_cons pe_int pa_nil))) pa_nil)) (by rfl))
    (pss_cons (ps_par (i := 4) (j := 5) (by rfl) sc_law_parts.nd rfl rfl (by decide) rfl rfl (pa_cons (pe_lst pa_nil) (pa_cons (pv 1) pa_nil)) (by rfl))
    (pss_cons (ps_for PassesOwn.never rfl (pi_range1 rfl T.z_range (pa_cons (pe_op op_sub (pv 2) pe_int) pa_nil)) (pg_name (i := 6) sc_law_parts.nd rfl (Or.inl rfl)) (pss_cons (ps_set (i := 7) sc_law_parts.nd rfl (Or.inl rfl) (pe_callB (call_min2 rfl) (by rfl) T.z_min (by decide +kernel) (pa_cons (pv 5) (pa_cons (pe_call (ok_law_take T.toTA1) (hr.mono (by decide)) rfl T.law_take.m T.law_take.F.kp T.law_take.b .nil pass0 (pa_cons (pv 0) (pa_cons (pe_ix (kixl K) (pe_lst (pa_cons pe_int (pa_cons pe_int (pa_cons pe_int (pa_cons pe_int pa_nil))))) (pv 3) (fun _ _ => rfl)) pa_nil))) pa_nil))))
    (pss_cons (ps_expr (pe_bm PySem.F.plainAttrs_list PySem.F.slot_list_append PySem.F.type_list_append mt_append (pv 4) (pa_cons (pv 7) pa_nil)))
    (pss_one (ps_set (i := 5) sc_law_parts.nd rfl (Or.inl rfl) (pe_op op_sub (pv 5) (pv 7)))))))
    (pss_cons (ps_expr (pe_bm PySem.F.plainAttrs_list PySem.F.slot_list_insert PySem.F.type_list_insert mt_insert (pv 4) (pa_cons (pe_call (ok_law_take T.toTA1) (hr.mono (by decide)) rfl T.law_take.m T.law_take.F.kp T.law_take.b .nil pass0 (pa_cons (pv 0) (pa_cons (pe_op op_add (pe_callB (klen K) (by rfl) T.z_len (by decide +kernel) (pa_cons (pv 4) pa_nil)) pe_int) pa_nil))) (pa_cons (pv 5) pa_nil))))
    (pss_one (ps_ret (pe_ix (kixl K) (pe_lst (pa_cons (pv 4) (pa_cons (pv 4) (pa_cons (pe_callTy (ktuple K) (by rfl) T.z_tuple (by decide +kernel) (pa_cons (pv 4) pa_nil)) (pa_cons (pe_lst pa_nil) pa_nil))))) (pe_call (ok_law_take T.toTA1) (hr.mono (by decide)) rfl T.law_take.m T.law_take.F.kp T.law_take.b .nil pass0 (pa_cons (pv 0) (pa_cons pe_int pa_nil))) (fun _ _ => rfl))))))))), ?_⟩
  -- total
  refine ⟨_, rfl, b, 66, n + 79, rfl, by decide, by decide, hB, fun r1 H1 a1 b1 B1 k1 => ?_⟩
  refine ⟨_, rfl, b, 66, n + 78, rfl, by decide, by decide, B1, fun r2 H2 a2 b2 B2 k2 => ?_⟩
  refine ⟨_, rfl, b, 13, n + 77, rfl, by decide, by decide, B2, fun r3 H3 a3 b3 B3 k3 => ?_⟩
  refine ⟨sz8 (by show 8 ≤ 1000; decide), fun p hp => ?_⟩
  have np := B3.ne hp
  refine ⟨_, rfl, b, 8, n + 76, rfl, by decide, by decide, B3.ex (Ex.new hp), fun r4 H4 a4 b4 B4 k4 => ?_⟩
  obtain ⟨total, hz, z0, z1⟩ := @pick [64, 65, 63, 0, 1, r1, r2, r3] r4 0 65 a4 b4 (by
    intro z hz
    simp only [List.mem_cons, List.not_mem_nil, or_false] at hz
    omega)
  have K4 : But b H H4 := ((k1.trans k2).trans k3).trans (But.pre (Ex.new hp) k4)
  refine ⟨p, _, r4, .int total, rfl, rfl, SqL.of (k4 p _ np upd_same), hz, ?_⟩
  -- many, way
  refine ⟨sz8 (by show 8 ≤ 1000; decide), fun p5 hp5 => ?_⟩
  have np5 := B4.ne hp5
  refine ⟨_, rfl, b, 8, n + 75, rfl, by decide, by decide, B4.ex (Ex.new hp5), fun r6 H6 a6 b6 B6 k6 => ?_⟩
  obtain ⟨many, hm, m0, m1⟩ := @pick [1, 2, 3, 4, 5, 8, 16, 64] r6 1 64 a6 b6 (by
    intro z hz
    simp only [List.mem_cons, List.not_mem_nil, or_false] at hz
    omega)
  refine ⟨p5, _, r6, .int many, rfl, rfl, SqL.of (k6 p5 _ np5 upd_same), hm, ?_⟩
  refine ⟨_, rfl, b, 4, n + 74, rfl, by decide, by decide, B6, fun way H7 a7 b7 B7 k7 => ?_⟩
  have K7 : But b H H7 := K4.trans ((But.pre (Ex.new hp5) k6).trans k7)
  refine ⟨_, _, rfl, ?_⟩
  -- found, left
  refine ⟨sz8 (by show 0 ≤ 1000; decide), fun f hf => ⟨_, rfl, _, _, rfl, ?_⟩⟩
  have nf := B7.ne hf
  have fn : H f = none := by
    obtain ⟨o, ho⟩ := hB.some
    exact K7.none ho hf nf
  refine ⟨_, rfl, _, _, rfl, rfl, many - 1, rfl, by omega, by omega, for_range (lo := 0) (n := (many - 1).toNat)
    (fun i σ H' => BoxAt H' b (n + 74 - i) ∧ But b H H' ∧ ∃ (ns : List Int) (left : Int) (u v : Option V), σ = [some (.ref b), some (.int total), some (.int many), some (.int way), some (.ref f), some (.int left), u, v] ∧
      H' f = some (.lst (ns.map V.int)) ∧ ns.length = i ∧ 0 ≤ left ∧ left ≤ 65 ∧ ∀ x ∈ ns, 0 ≤ x) ⟨(B7.ex (Ex.new hf)), K7.ex (Ex.new hf), [], total, none, none, rfl, upd_same, rfl, z0, z1, fun x hx => nomatch hx⟩ ?_ ?_⟩
  · rintro i σ H' hi ⟨B, k, ns, left, u, v, rfl, hfl, hl, l0, l1, hall⟩
    refine ⟨_, rfl, _, rfl, sz8 (by show 4 ≤ 1000; decide), fun p8 hp8 => ?_⟩
    obtain ⟨m, hm, g0, g1⟩ := @pick [3, 2, 9, 66] way 2 66 a7 b7 (by
      intro z hz
      simp only [List.mem_cons, List.not_mem_nil, or_false] at hz
      omega)
    have B8 := B.ex (Ex.new (o := .lst [.int 3, .int 2, .int 9, .int 66]) hp8)
    refine ⟨_, rfl, p8, _, way, _, rfl, rfl, SqL.of upd_same, hm, ?_⟩
    refine ⟨b, m, n + 74 - i - 1, rfl, by omega, by omega, B8.le (by omega), fun r H9 c0 c1 B9 k9 => ?_⟩
    have hf8 := Ex.new (o := .lst [.int 3, .int 2, .int 9, .int 66]) hp8 f _ hfl
    have hf9 := k9 f _ nf hf8
    refine ⟨_, _, rfl, ?_⟩
    refine ⟨_, rfl, .inl ⟨rfl, _, SqL.of hf9⟩, _, rfl, f, _, _, rfl, rfl, hf9, small1000 (by rw [List.length_map]; omega), ?_⟩
    refine ⟨_, rfl, _, rfl, _, _, rfl, rfl, ?_, ?_, ns ++ [if r < left then r else left], left - (if r < left then r else left), some (.int (0 + (i : Int))), some (.int (if r < left then r else left)), rfl, ?_, ?_, ?_, ?_, ?_⟩
    · exact (B9.le (by omega)).upd nf
    · exact (k.trans (But.pre (Ex.new hp8) k9)).mut fn
    · rw [upd_same, List.map_append]; rfl
    · rw [List.length_append, hl]; rfl
    · split <;> omega
    · split <;> omega
    · intro x hx
      rw [List.mem_append, List.mem_singleton] at hx
      rcases hx with hx | rfl
      · exact hall x hx
      · split <;> omega
  · rintro σ H' ⟨B, k, ns, left, u, v, rfl, hfl, hl, l0, l1, hall⟩
    -- found.insert(.., left)
    refine ⟨_, rfl, .inl ⟨rfl, _, SqL.of hfl⟩, ?_⟩
    refine ⟨_, rfl, _, rfl, _, _, rfl, .inl ⟨_, SqL.of hfl, rfl⟩, _, _, rfl, rfl, b, _, n + 74 - (many - 1).toNat - 1, rfl, by omega, (by rw [List.length_map]; omega), B.le (by omega), fun r H9 c0 c1 B9 k9 => ?_⟩
    rw [List.length_map] at c1
    have hf9 := k9 f _ nf hfl
    refine ⟨_, rfl, f, _, r, _, rfl, rfl, hf9, small1000 (by rw [List.length_map]; omega), c0, by omega, ?_⟩
    have new' : (ns.map V.int).take r.toNat ++ [V.int left] ++ (ns.map V.int).drop r.toNat = (ns.take r.toNat ++ [left] ++ ns.drop r.toNat).map V.int := by
      rw [List.map_append, List.map_append, List.map_take, List.map_drop]; rfl
    have len2 : (ns.take r.toNat ++ [left] ++ ns.drop r.toNat).length ≤ 64 := by
      rw [List.length_append, List.length_append, List.length_take, List.length_drop, List.length_singleton]; omega
    have all2 : ∀ x ∈ ns.take r.toNat ++ [left] ++ ns.drop r.toNat, 0 ≤ x := by
      intro x hx
      rw [List.mem_append, List.mem_append, List.mem_singleton] at hx
      rcases hx with (hx | rfl) | hx
      · exact hall x (List.mem_of_mem_take hx)
      · exact l0
      · exact hall x (List.mem_of_mem_drop hx)
    rw [new']
    generalize hns2 : ns.take r.toNat ++ [left] ++ ns.drop r.toNat = ns2 at *
    have k10 : But b H (upd H9 f (.lst (ns2.map V.int))) := (k.trans k9).mut fn
    have B10 : BoxAt (upd H9 f (.lst (ns2.map V.int))) b (n + 1) := (B9.le (by omega)).upd nf
    have g10 : (upd H9 f (.lst (ns2.map V.int))) f = some (.lst (ns2.map V.int)) := upd_same
    generalize upd H9 f (.lst (ns2.map V.int)) = H10 at *
    -- the choice
    refine ⟨_, rfl, _, rfl, _, rfl, f, _, rfl, .inl ⟨SqL.of g10, fun t ht => ?_⟩⟩
    have e11 := Ex.new (o := .tup (ns2.map V.int)) ht
    have nt := B10.ne ht
    have tn := k10.fresh hB B10 ht
    refine ⟨sz8 (by show 0 ≤ 1000; decide), fun e he => ?_⟩
    have e12 := Ex.new (o := .lst []) he
    have ne := (B10.ex e11).ne he
    have en := (k10.ex e11).fresh hB (B10.ex e11) he
    refine ⟨sz8 (by show 4 ≤ 1000; decide), fun m hm => ?_⟩
    have e13 := Ex.new (o := .lst [.ref f, .ref f, .ref t, .ref e]) hm
    have nm := ((B10.ex e11).ex e12).ne hm
    refine ⟨_, rfl, b, 4, n, rfl, by decide, by decide, ((B10.ex e11).ex e12).ex e13, fun r2 H14 d0 d1 B14 k14 => ?_⟩
    have K14 : But b H H14 := (((k10.ex e11).ex e12).ex e13).trans k14
    have hm14 := k14 m _ nm upd_same
    have f14 := k14 f _ nf (e13 _ _ (e12 _ _ (e11 _ _ g10)))
    have t14 := k14 t _ nt (e13 _ _ (e12 _ _ upd_same))
    have e14 := k14 e _ ne (e13 _ _ upd_same)
    rcases (by omega : r2 = 0 ∨ r2 = 1 ∨ r2 = 2 ∨ r2 = 3) with rfl | rfl | rfl | rfl
    · exact ⟨m, _, _, _, rfl, rfl, SqL.of hm14, rfl, q f ns2 H14 fn (.inl f14) len2 all2 B14 K14⟩
    · exact ⟨m, _, _, _, rfl, rfl, SqL.of hm14, rfl, q f ns2 H14 fn (.inl f14) len2 all2 B14 K14⟩
    · exact ⟨m, _, _, _, rfl, rfl, SqL.of hm14, rfl, q t ns2 H14 tn (.inr t14) len2 all2 B14 K14⟩
    · exact ⟨m, _, _, _, rfl, rfl, SqL.of hm14, rfl, q e [] H14 en (.inl e14) (by decide) (fun x hx => nomatch hx) B14 K14⟩
end
end L2.U


set_option Elab.async false
set_option linter.all false
set_option maxRecDepth 100000
set_option maxHeartbeats 4000000
namespace L2.U
open PySem PySem.Spec PyProof.Rows Evl
structure TA7 (K : PySem.W.Frag) (mg : Str → Option Value) extends TA6 K mg where
  law : DefAt K mg "law" s_law ["script"]
section
variable {P : Program} {w : World} {K : PySem.W.Frag} {mg : Str → Option Value} {base : Heap}
/-! ### a question that is right -/
def Good (H : Hp) (D : Addr) (v : V) : Prop := ∃ (t vt : Addr) (kind : Int) (xs : List V), v = .ref t ∧ H t = some (.tup [.int kind, .ref vt]) ∧ H vt = some (.tup xs) ∧
  ((kind = 0 ∧ ∃ i : Int, xs = [.int i]) ∨ (kind = 1 ∧ ∃ i j : Int, xs = [.int i, .int j]) ∨
   (kind = 2 ∧ ∃ (a : Addr) (ns : List Int), xs = [.ref a] ∧ a ≠ D ∧ (H a = some (.lst (ns.map V.int)) ∨ H a = some (.tup (ns.map V.int))) ∧ ns.length ≤ 1000 ∧ (∀ n ∈ ns, 0 ≤ n)) ∨ (kind = 3 ∧ ∃ i j : Int, xs = [.int i, .int j]))
theorem Good.keep {H H' : Hp} {D b : Addr} {v : V} {n : Nat} {ys : List V} (g : Good H D v) (hb : BoxAt H b n) (hD : H D = some (.lst ys)) (k : ∀ c o, c ≠ b → c ≠ D → H c = some o → H' c = some o) : Good H' D v := by
  obtain ⟨t, vt, kind, xs, rfl, ht, hv, r⟩ := g
  obtain ⟨d, m, c, f, hbb, _⟩ := hb
  have nt : ∀ {a : Addr} {zs : List V}, H a = some (.tup zs) → a ≠ b ∧ a ≠ D := fun h => ⟨ne_of h hbb (by intro z; cases z), ne_of h hD (by intro z; cases z)⟩
  refine ⟨t, vt, kind, xs, rfl, k _ _ (nt ht).1 (nt ht).2 ht, k _ _ (nt hv).1 (nt hv).2 hv, ?_⟩
  rcases r with r | r | ⟨rfl, a, ns, rfl, na, ha | ha, hz, hall⟩ | r
  · exact .inl r
  · exact .inr (.inl r)
  · have nb : a ≠ b := by
      refine ne_of ha hbb fun z => ?_
      have z2 := HO.lst.inj z
      match ns, z2 with
      | _ :: _ :: _, z2 => exact nomatch (List.cons.inj (List.cons.inj z2).2).1
    exact .inr (.inr (.inl ⟨rfl, a, ns, rfl, na, .inl (k _ _ nb na ha), hz, hall⟩))
  · exact .inr (.inr (.inl ⟨rfl, a, ns, rfl, na, .inr (k _ _ (nt ha).1 (nt ha).2 ha), hz, hall⟩))
  · exact .inr (.inr (.inr r))
theorem Good.ex {H H' : Hp} {D : Addr} {v : V} (g : Good H D v) (e : Ex H H') : Good H' D v := by
  obtain ⟨t, vt, kind, xs, rfl, ht, hv, r⟩ := g
  refine ⟨t, vt, kind, xs, rfl, e _ _ ht, e _ _ hv, ?_⟩
  rcases r with r | r | ⟨rfl, a, ns, rfl, na, ha, hz, hall⟩ | r
  · exact .inl r
  · exact .inr (.inl r)
  · exact .inr (.inr (.inl ⟨rfl, a, ns, rfl, na, ha.imp (e _ _) (e _ _), hz, hall⟩))
  · exact .inr (.inr (.inr r))
/-- between two questions: n draws are left, at D stand m of them -/
structure Jw (H1 : Hp) (b D : Addr) (n m : Nat) (H : Hp) : Prop where
  box : BoxAt H b n
  nD : D ≠ b
  b0 : H1 b = none
  D0 : H1 D = none
  ex : Ex H1 H
  all : ∃ ys, H D = some (.lst ys) ∧ ys.length = m ∧ ∀ v ∈ ys, Good H D v
theorem Jw.exx {H1 H H' : Hp} {b D : Addr} {n m : Nat} (j : Jw H1 b D n m H) (e : Ex H H') : Jw H1 b D n m H' := by
  obtain ⟨ys, h1, h2, h3⟩ := j.all
  exact ⟨j.box.ex e, j.nD, j.b0, j.D0, j.ex.trans e, ys, e _ _ h1, h2, fun v hv => (h3 v hv).ex e⟩
theorem Jw.but {H1 H H' : Hp} {b D : Addr} {n k m : Nat} (j : Jw H1 b D n m H) (hb : BoxAt H' b k) (kk : But b H H') : Jw H1 b D k m H' := by
  obtain ⟨ys, h1, h2, h3⟩ := j.all
  refine ⟨hb, j.nD, j.b0, j.D0, fun c o h => kk c o (ne_of_none h j.b0) (j.ex c o h), ys, kk _ _ j.nD h1, h2, fun v hv => (h3 v hv).keep j.box h1 fun c o n1 _ h => kk c o n1 h⟩
theorem Jw.add {H1 H : Hp} {b D : Addr} {n m : Nat} {ys zs : List V} (j : Jw H1 b D n m H) (hy : H D = some (.lst ys)) (hz : ∀ v ∈ zs, Good H D v) : Jw H1 b D n (m + zs.length) (upd H D (.lst (ys ++ zs))) := by
  obtain ⟨ys', h1, h2, h3⟩ := j.all
  rw [h1] at hy
  cases hy
  have kp : ∀ c o, c ≠ b → c ≠ D → H c = some o → (upd H D (.lst (ys ++ zs))) c = some o := fun c o _ n2 h => by rw [upd_ne n2]; exact h
  refine ⟨j.box.upd j.nD, j.nD, j.b0, j.D0, j.ex.mut j.D0, ys ++ zs, upd_same, by rw [List.length_append, h2], fun v hv => ?_⟩
  rw [List.mem_append] at hv
  rcases hv with hv | hv
  · exact (h3 v hv).keep j.box h1 kp
  · exact (hz v hv).keep j.box h1 kp
/-! ### questions that are written out -/
def EG (te : TE) (σ : L2.St) (H : Hp) (D : Addr) : Prop := ∀ H1, Ex H H1 → ∀ Q : VK, (∀ v H2, Ex H1 H2 → Good H2 D v → Q v H2) → te σ H1 Q
def EGs (m : Nat) (ta : TA) (σ : L2.St) (H : Hp) (D : Addr) : Prop := ∀ H1, Ex H H1 → ∀ Q : List V → Hp → Prop, (∀ vs H2, Ex H1 H2 → vs.length = m → (∀ v ∈ vs, Good H2 D v) → Q vs H2) → ta σ H1 Q
theorem egs_nil {σ : L2.St} {H : Hp} {D : Addr} : EGs 0 tNil σ H D := fun H1 e Q q => q [] H1 (Ex.refl _) rfl fun v hv => nomatch hv
theorem egs_cons {σ : L2.St} {H : Hp} {D : Addr} {te : TE} {tr : TA} {m : Nat} (h : EG te σ H D) (t : EGs m tr σ H D) : EGs (m + 1) (tCons te tr) σ H D := fun H1 e Q q =>
  h H1 e _ fun v H2 e2 g => t H2 (e.trans e2) _ fun vs H3 e3 l gs => q (v :: vs) H3 (e2.trans e3) (by rw [List.length_cons, l]) fun u hu => by
    rcases List.mem_cons.mp hu with rfl | hu
    · exact g.ex e3
    · exact gs u hu
theorem eg0 {σ : L2.St} {H : Hp} {D : Addr} {te : TE} {i : Int} (h : Ev te σ H (.int i)) : EG (tTup (tCons (tC (.int 0)) (tCons (tTup (tCons te tNil)) tNil))) σ H D := fun H1 e Q q =>
  h H1 e _ fun H2 e2 => ⟨sz8 (by show 1 ≤ 1000; decide), fun p hp => ⟨two_le, fun t ht => q _ _ (e2.trans ((Ex.new hp).trans (Ex.new ht))) ⟨t, p, 0, _, rfl, upd_same, Ex.new ht _ _ upd_same, .inl ⟨rfl, i, rfl⟩⟩⟩⟩
theorem eg1 {σ : L2.St} {H : Hp} {D : Addr} {te tf : TE} {i j : Int} (h : Ev te σ H (.int i)) (h2 : Ev tf σ H (.int j)) : EG (tTup (tCons (tC (.int 1)) (tCons (tTup (tCons te (tCons tf tNil))) tNil))) σ H D := fun H1 e Q q =>
  h H1 e _ fun H2 e2 => h2 H2 (e.trans e2) _ fun H3 e3 => ⟨two_le, fun p hp => ⟨two_le, fun t ht => q _ _ ((e2.trans e3).trans ((Ex.new hp).trans (Ex.new ht))) ⟨t, p, 1, _, rfl, upd_same, Ex.new ht _ _ upd_same, .inr (.inl ⟨rfl, i, j, rfl⟩)⟩⟩⟩
theorem eg3 {σ : L2.St} {H : Hp} {D : Addr} {te tf : TE} {i j : Int} (h : Ev te σ H (.int i)) (h2 : Ev tf σ H (.int j)) : EG (tTup (tCons (tC (.int 3)) (tCons (tTup (tCons te (tCons tf tNil))) tNil))) σ H D := fun H1 e Q q =>
  h H1 e _ fun H2 e2 => h2 H2 (e.trans e2) _ fun H3 e3 => ⟨two_le, fun p hp => ⟨two_le, fun t ht => q _ _ ((e2.trans e3).trans ((Ex.new hp).trans (Ex.new ht))) ⟨t, p, 3, _, rfl, upd_same, Ex.new ht _ _ upd_same, .inr (.inr (.inr ⟨rfl, i, j, rfl⟩))⟩⟩⟩
theorem eg2 {σ : L2.St} {H : Hp} {D : Addr} {o : HO} (hD : H D = some o) {i j : Int} (hi : 0 ≤ i) (hj : 0 ≤ j) : EG (tTup (tCons (tC (.int 2)) (tCons (tTup (tCons (tLst (tCons (tC (.int i)) (tCons (tC (.int j)) tNil))) tNil)) tNil))) σ H D := fun H1 e Q q =>
  ⟨two_le, fun a ha => ⟨sz8 (by show 1 ≤ 1000; decide), fun p hp => ⟨two_le, fun t ht => q _ _ ((Ex.new ha).trans ((Ex.new hp).trans (Ex.new ht))) ⟨t, p, 2, _, rfl, upd_same, Ex.new ht _ _ upd_same,
    .inr (.inr (.inl ⟨rfl, a, [i, j], rfl, ne_new ha (e _ _ hD), .inl (Ex.new ht _ _ (Ex.new hp _ _ upd_same)), by show 2 ≤ 1000; decide, fun n hn => by
      simp only [List.mem_cons, List.not_mem_nil, or_false] at hn
      omega⟩))⟩⟩⟩⟩
theorem eg2u {σ : L2.St} {H : Hp} {D : Addr} {o : HO} (hD : H D = some o) : EG (tTup (tCons (tC (.int 2)) (tCons (tTup (tCons (tTup tNil) tNil)) tNil))) σ H D := fun H1 e Q q =>
  ⟨sz8 (by show 0 ≤ 1000; decide), fun a ha => ⟨sz8 (by show 1 ≤ 1000; decide), fun p hp => ⟨two_le, fun t ht => q _ _ ((Ex.new ha).trans ((Ex.new hp).trans (Ex.new ht))) ⟨t, p, 2, _, rfl, upd_same, Ex.new ht _ _ upd_same,
    .inr (.inr (.inl ⟨rfl, a, [], rfl, ne_new ha (e _ _ hD), .inr (Ex.new ht _ _ (Ex.new hp _ _ upd_same)), by show 0 ≤ 1000; decide, fun n hn => nomatch hn⟩))⟩⟩⟩⟩
theorem s_ext {σ : L2.St} {H1 H : Hp} {b D : Addr} {n m k : Nat} {ta : TA} {Dn : Ends} {j : Nat} (hj : σ[j]? = some (some (.ref D))) (J : Jw H1 b D n m H) (h : EGs k ta σ H D) (hm : m + k ≤ 1000) (q : ∀ H', Jw H1 b D n (m + k) H' → Dn.nx σ H') :
    tDrop (tBM K "list" rExtend (tVar j) (tCons (tLst ta) tNil)) Dn σ H := by
  obtain ⟨ys, h1, h2, h3⟩ := J.all
  refine ⟨_, hj, .inl ⟨rfl, _, SqL.of h1⟩, h H (Ex.refl _) _ fun vs H2 e2 l g => ⟨sz8 (by omega), fun p hp => ?_⟩⟩
  have e3 := e2.trans (Ex.new (o := .lst vs) hp)
  refine ⟨D, p, ys, vs, rfl, rfl, e3 _ _ h1, upd_same, sz8 (by omega), q _ ?_⟩
  have := (J.exx e3).add (e3 _ _ h1) (zs := vs) fun v hv => (g v hv).ex (Ex.new hp)
  rw [l] at this
  exact this
theorem s_app {σ : L2.St} {H1 H : Hp} {b D : Addr} {n n' m : Nat} {te : TE} {Dn : Ends} {j : Nat} (hj : σ[j]? = some (some (.ref D))) (J : Jw H1 b D n m H) (h : ∀ Q : VK, (∀ v H2, Jw H1 b D n' m H2 → Good H2 D v → Q v H2) → te σ H Q) (hm : m + 1 ≤ 1000)
    (q : ∀ H', Jw H1 b D n' (m + 1) H' → Dn.nx σ H') : tDrop (tBM K "list" rAppend (tVar j) (tCons te tNil)) Dn σ H := by
  obtain ⟨ys, h1, h2, h3⟩ := J.all
  refine ⟨_, hj, .inl ⟨rfl, _, SqL.of h1⟩, h _ fun v H2 J2 g => ?_⟩
  obtain ⟨zs, g1, g2, g3⟩ := J2.all
  refine ⟨D, zs, v, rfl, rfl, g1, small1000 (by omega), q _ ?_⟩
  exact J2.add g1 (zs := [v]) fun u hu => by rw [List.mem_singleton] at hu; subst hu; exact g
theorem ej_num {σ : L2.St} {H1 H : Hp} {b D : Addr} {n m : Nat} {j : Nat} (hj : σ[j]? = some (some (.ref b))) (J : Jw H1 b D (n + 4) m H) {Q : VK} (q : ∀ z H2, 0 ≤ z → z ≤ 64 → Jw H1 b D n m H2 → Q (.int z) H2) : tCall spNumber [] E0 (tCons (tVar j) tNil) σ H Q :=
  ⟨_, hj, b, n, rfl, J.box, fun z H2 z0 z1 B k => q z H2 z0 z1 (J.but B k)⟩
theorem tyes {σ : L2.St} {H : Hp} {F G : Hp → Prop} (h : F H) : tYes σ H (fun b H3 => if b = true then F H3 else G H3) := by
  show if true = true then F H else G H
  rw [if_pos rfl]
  exact h
theorem mm (L : Int) : 1 ≤ (if (if L < 2 then L else 2) > 1 then (if L < 2 then L else 2) else 1) ∧ (if (if L < 2 then L else 2) > 1 then (if L < 2 then L else 2) else 1) ≤ 2 := by
  by_cases c : L < 2
  · rw [if_pos c]; split <;> omega
  · rw [if_neg c]; split <;> omega
def spLaw (K : PySem.W.Frag) : Sp := fun vs H Q _ => ∃ (a : Addr) (ns : List Int), vs = [.ref a] ∧ SqL K H a (ns.map V.int) ∧ ns.length ≤ 63 ∧ ∀ H', Q (.bl true) H'
theorem ok_law (T : TA7 K mg) : FnOk P w K mg base CX0 11 T.law.a T.law.fd ["script"] (spLaw K) := by
  refine T.law.F.ok sc_law (fun vs H Q E h => ?_) (fun cdv A outer s H vs Q E hr h => ?_)
  · obtain ⟨a, ns, rfl, _⟩ := h; rfl
  obtain ⟨a, ns, rfl, hS, h63, q⟩ := h
  refine ⟨_, (pss_cons (ps_set (i := 1) sc_law.nd rfl (Or.inl rfl) (pe_call (ok_law_triangle T.toTA3) (hr.mono (by decide)) rfl T.law_triangle.m T.law_triangle.F.kp T.law_triangle.b .nil pass0 (pa_cons pe_int pa_nil)))
    (pss_cons (ps_for PassesOwn.never rfl (pi_range1 rfl T.z_range (pa_cons (pe_callB (call_max2 rfl) (by rfl) T.z_max (by decide +kernel) (pa_cons pe_int (pa_cons (pe_callB (call_min2 rfl) (by rfl) T.z_min (by decide +kernel) (pa_cons pe_int (pa_cons (pe_callB (klen K) (by rfl) T.z_len (by decide +kernel) (pa_cons (pv 0) pa_nil)) pa_nil))) pa_nil))) pa_nil)) (pg_name (i := 2) sc_law.nd rfl (Or.inl rfl)) (pss_cons (ps_set (i := 3) sc_law.nd rfl (Or.inr rfl) (pe_call (ok_law_box T.toTA1) (hr.mono (by decide)) rfl T.law_box.m T.law_box.F.kp T.law_box.b .nil pass0 (pa_cons (pe_call (ok_law_cell T.toTA1) (hr.mono (by decide)) rfl T.law_cell.m T.law_cell.F.kp T.law_cell.b .nil pass0 (pa_cons (pv 0) (pa_cons (pv 2) pa_nil))) pa_nil)))
    (pss_cons (ps_set (i := 4) sc_law.nd rfl (Or.inl rfl) (pe_call (ok_law_take T.toTA1) (hr.mono (by decide)) rfl T.law_take.m T.law_take.F.kp T.law_take.b .nil pass0 (pa_cons (pv 3) (pa_cons pe_int pa_nil))))
    (pss_cons (ps_setLc (i := 6) (own := [("turn", 5)]) (g := gName 5) (by rfl) sc_law.nd rfl rfl (sw_true rfl rfl rfl (by decide +kernel)) (pi_range1 rfl T.z_range (pa_cons pe_int pa_nil)) (blkOk_by (own := [("turn", 5)]) (N := ["script", "triangle", "k", "box", "named", "turn", "asked", "beyond", "at"]) (sc := defScope s_law) (by decide +kernel)) (fun _ _ _ _ _ => (pg_name (i := 5) sc_law.nd rfl (Or.inl rfl))) (fun _ _ _ _ _ => pts_nil) (fun _ _ _ _ _ => (pe_tup (pa_cons pe_int (pa_cons (pe_tup (pa_cons (pe_call (ok_law_parts T.toTA6) (hr.mono (by decide)) rfl T.law_parts.m T.law_parts.F.kp T.law_parts.b .nil pass0 (pa_cons (pv 3) pa_nil)) pa_nil)) pa_nil)))))
    (pss_cons (ps_for PassesOwn.never rfl (pi_range1 rfl T.z_range (pa_cons pe_int pa_nil)) (pg_name (i := 5) sc_law.nd rfl (Or.inl rfl)) (pss_cons (ps_expr (pe_bm PySem.F.plainAttrs_list PySem.F.slot_list_append PySem.F.type_list_append mt_append (pv 6) (pa_cons (pe_tup (pa_cons pe_int (pa_cons (pe_tup (pa_cons (pe_call (ok_law_number T.toTA6) (hr.mono (by decide)) rfl T.law_number.m T.law_number.F.kp T.law_number.b .nil pass0 (pa_cons (pv 3) pa_nil)) pa_nil)) pa_nil))) pa_nil)))
    (pss_cons (ps_expr (pe_bm PySem.F.plainAttrs_list PySem.F.slot_list_append PySem.F.type_list_append mt_append (pv 6) (pa_cons (pe_tup (pa_cons pe_int (pa_cons (pe_tup (pa_cons (pe_call (ok_law_number T.toTA6) (hr.mono (by decide)) rfl T.law_number.m T.law_number.F.kp T.law_number.b .nil pass0 (pa_cons (pv 3) pa_nil)) (pa_cons (pe_call (ok_law_number T.toTA6) (hr.mono (by decide)) rfl T.law_number.m T.law_number.F.kp T.law_number.b .nil pass0 (pa_cons (pv 3) pa_nil)) pa_nil))) pa_nil))) pa_nil)))
    (pss_one (ps_expr (pe_bm PySem.F.plainAttrs_list PySem.F.slot_list_append PySem.F.type_list_append mt_append (pv 6) (pa_cons (pe_tup (pa_cons pe_int (pa_cons (pe_tup (pa_cons (pe_call (ok_law_number T.toTA6) (hr.mono (by decide)) rfl T.law_number.m T.law_number.F.kp T.law_number.b .nil pass0 (pa_cons (pv 3) pa_nil)) (pa_cons (pe_callB (call_max2 rfl) (by rfl) T.z_max (by decide +kernel) (pa_cons pe_int (pa_cons (pe_call (ok_law_number T.toTA6) (hr.mono (by decide)) rfl T.law_number.m T.law_number.F.kp T.law_number.b .nil pass0 (pa_cons (pv 3) pa_nil)) pa_nil))) pa_nil))) pa_nil))) pa_nil)))))))
    (pss_cons (ps_set (i := 7) sc_law.nd rfl (Or.inl rfl) (pe_ix (kixl K) (pe_lst (pa_cons pe_int (pa_cons (pe_un un_neg pe_int) (pa_cons (pe_op op_add pe_int (pe_call (ok_law_take T.toTA1) (hr.mono (by decide)) rfl T.law_take.m T.law_take.F.kp T.law_take.b .nil pass0 (pa_cons (pv 3) (pa_cons pe_int pa_nil)))) pa_nil)))) (pe_call (ok_law_take T.toTA1) (hr.mono (by decide)) rfl T.law_take.m T.law_take.F.kp T.law_take.b .nil pass0 (pa_cons (pv 3) (pa_cons pe_int pa_nil))) (fun _ _ => rfl)))
    (pss_cons (ps_expr (pe_bm PySem.F.plainAttrs_list PySem.F.slot_list_extend PySem.F.type_list_extend mt_extend (pv 6) (pa_cons (pe_lst (pa_cons (pe_tup (pa_cons pe_int (pa_cons (pe_tup (pa_cons pe_int pa_nil)) pa_nil))) (pa_cons (pe_tup (pa_cons pe_int (pa_cons (pe_tup (pa_cons (pv 7) pa_nil)) pa_nil))) (pa_cons (pe_tup (pa_cons pe_int (pa_cons (pe_tup (pa_cons pe_int (pa_cons pe_int pa_nil))) pa_nil))) (pa_cons (pe_tup (pa_cons pe_int (pa_cons (pe_tup (pa_cons (pv 7) (pa_cons pe_int pa_nil))) pa_nil))) (pa_cons (pe_tup (pa_cons pe_int (pa_cons (pe_tup (pa_cons pe_int (pa_cons (pv 7) pa_nil))) pa_nil))) (pa_cons (pe_tup (pa_cons pe_int (pa_cons (pe_tup (pa_cons pe_int (pa_cons pe_int pa_nil))) pa_nil))) (pa_cons (pe_tup (pa_cons pe_int (pa_cons (pe_tup (pa_cons (pe_lst (pa_cons pe_int (pa_cons pe_int pa_nil))) pa_nil)) pa_nil))) (pa_cons (pe_tup (pa_cons pe_int (pa_cons (pe_tup (pa_cons (pe_lst (pa_cons pe_int (pa_cons pe_int pa_nil))) pa_nil)) pa_nil))) pa_nil))))))))) pa_nil)))
    (pss_cons (ps_expr (pe_bm PySem.F.plainAttrs_list PySem.F.slot_list_extend PySem.F.type_list_extend mt_extend (pv 6) (pa_cons (pe_lst (pa_cons (pe_tup (pa_cons pe_int (pa_cons (pe_tup (pa_cons pe_int (pa_cons pe_int pa_nil))) pa_nil))) (pa_cons (pe_tup (pa_cons pe_int (pa_cons (pe_tup (pa_cons pe_int (pa_cons pe_int pa_nil))) pa_nil))) (pa_cons (pe_tup (pa_cons pe_int (pa_cons (pe_tup (pa_cons pe_int (pa_cons pe_int pa_nil))) pa_nil))) (pa_cons (pe_tup (pa_cons pe_int (pa_cons (pe_tup (pa_cons pe_int (pa_cons pe_int pa_nil))) pa_nil))) (pa_cons (pe_tup (pa_cons pe_int (pa_cons (pe_tup (pa_cons (pv 7) (pa_cons pe_int pa_nil))) pa_nil))) (pa_cons (pe_tup (pa_cons pe_int (pa_cons (pe_tup (pa_cons pe_int (pa_cons (pv 7) pa_nil))) pa_nil))) (pa_cons (pe_tup (pa_cons pe_int (pa_cons (pe_tup (pa_cons pe_int (pa_cons pe_int pa_nil))) pa_nil))) (pa_cons (pe_tup (pa_cons pe_int (pa_cons (pe_tup (pa_cons pe_int (pa_cons pe_int pa_nil))) pa_nil))) (pa_cons (pe_tup (pa_cons pe_int (pa_cons (pe_tup (pa_cons (pe_tup pa_nil) pa_nil)) pa_nil))) pa_nil)))))))))) pa_nil)))
    (pss_one (ps_for PassesOwn.never rfl (pi_range1 rfl T.z_range (pa_cons pe_int pa_nil)) (pg_name (i := 5) sc_law.nd rfl (Or.inl rfl)) (pss_one (ps_for PassesOwn.never rfl (pi_range1 rfl T.z_range (pa_cons (pe_callB (klen K) (by rfl) T.z_len (by decide +kernel) (pa_cons (pv 6) pa_nil)) pa_nil)) (pg_name (i := 8) sc_law.nd rfl (Or.inl rfl)) (pss_one (ps_if (pt_not (pt_val (pe_call (ok_law_right T.toTA4) (hr.mono (by decide)) rfl T.law_right.m T.law_right.F.kp T.law_right.b .nil pass0 (pa_cons (pv 1) (pa_cons (pe_ix (kixt K) (pe_ix (kixl K) (pv 6) (pv 8) (fun _ _ => rfl)) pe_int (fun _ _ => rfl)) (pa_cons (pe_op op_mod (pe_callTy call_int1 (by rfl) T.z_int (by decide +kernel) (pa_cons (pe_op op_add (pe_op op_add (pv 4) (pv 8)) (pv 5)) pa_nil)) pe_int) (pa_cons (pe_ix (kixt K) (pe_ix (kixl K) (pv 6) (pv 8) (fun _ _ => rfl)) pe_int (fun _ _ => rfl)) pa_nil))))))) (pss_one (ps_ret pe_bl)) pss_nil))))))))))))))
    (pss_one (ps_ret pe_bl)))), ?_⟩
  refine ⟨rfl, fun r H0 e0 tri0 => ?_⟩
  have hS0 := ex_l e0 hS
  refine ⟨_, rfl, _, _, rfl, .inl ⟨_, hS0, rfl⟩, _, _, rfl, _, _, rfl, _, rfl, ?_, ?_, for_range (lo := 0) (n := _)
    (fun k σ H' => Ex H0 H' ∧ ∃ x2 x3 x4 x5 x6 x7 x8, σ = [some (.ref a), some (.ref r), x2, x3, x4, x5, x6, x7, x8]) ⟨Ex.refl _, none, none, none, none, none, none, none, rfl⟩ ?_ ?_⟩
  · have := (mm ((ns.map V.int).length : Int)).1
    exact Int.le_trans (by decide) this
  · have := (mm ((ns.map V.int).length : Int)).2
    exact Int.lt_of_le_of_lt this (by decide)
  · rintro k σ H1 hk ⟨e1, x2, x3, x4, x5, x6, x7, x8, rfl⟩
    have tri1 := tri0.ex e1
    have hS1 := ex_l e1 hS0
    have hk2 : k ≤ 2 := by
      have := (mm ((ns.map V.int).length : Int)).2
      omega
    -- box
    refine ⟨_, rfl, _, rfl, a, ns, _, rfl, hS1, by omega, by omega, fun v H2 e2 => ?_⟩
    refine ⟨v, rfl, fun b H3 hb0 e3 B3 => ?_⟩
    have E13 := e2.trans e3
    have b0 : H1 b = none := by
      cases z : H1 b with
      | none => rfl
      | some o => rw [e2 _ _ z] at hb0; cases hb0
    -- named
    refine ⟨_, rfl, b, 2, 999999, rfl, by decide, by decide, B3, fun named H4 n0 n1 B4 k4 => ?_⟩
    -- asked
    refine ⟨5, rfl, by decide, by decide, fun D hD => ?_⟩
    have nD := B4.ne hD
    have D0 : H1 D = none := by
      cases z : H1 D with
      | none => rfl
      | some o => rw [k4 _ _ nD (E13 _ _ z)] at hD; cases hD
    have J0 : Jw H1 b D 999999 0 (upd H4 D (.lst [])) :=
      ⟨B4.ex (Ex.new hD), nD, b0, D0, fun c o h => Ex.new hD _ _ (k4 _ _ (ne_of_none h b0) (E13 _ _ h)), [], upd_same, rfl, fun v hv => nomatch hv⟩
    refine lc_range (lo := 0) (n := (5 : Int).toNat) (fun i H' => Jw H1 b D (999999 - 80 * i) i H') J0 ?_ ?_
    · rintro i H' hi J
      have hi5 : i < 5 := hi
      refine ⟨rfl, tyes ?_⟩
      refine ⟨_, rfl, b, 999999 - 80 * (i + 1), rfl, J.box.le (by omega), fun x ms H5 hx hh hl hall B5 k5 => ⟨sz8 (by show 1 ≤ 1000; decide), fun p hp => ⟨two_le, fun t ht => ?_⟩⟩⟩
      obtain ⟨ys', y1, _, _⟩ := J.all
      have J7 := ((J.but B5 k5).exx (Ex.new (o := .tup [.ref x]) hp)).exx (Ex.new (o := .tup [.int 2, .ref p]) ht)
      obtain ⟨ys, h1, h2, h3⟩ := J7.all
      refine ⟨ys, h1, small1000 (by omega), ?_⟩
      exact J7.add h1 (zs := [.ref t]) fun u hu => by
        rw [List.mem_singleton] at hu
        subst hu
        exact ⟨t, p, 2, _, rfl, upd_same, Ex.new ht _ _ upd_same, .inr (.inr (.inl ⟨rfl, x, ms, rfl, ne_new hx y1, hh.imp (fun z => Ex.new ht _ _ (Ex.new hp _ _ z)) (fun z => Ex.new ht _ _ (Ex.new hp _ _ z)), by omega, hall⟩))⟩
    rintro H5 J5
    -- three times five questions
    refine ⟨5, rfl, by decide, by decide, for_range (lo := 0) (n := (5 : Int).toNat)
      (fun i σ H' => Jw H1 b D (999000 - 20 * i) (5 + 3 * i) H' ∧ ∃ u5, σ = [some (.ref a), some (.ref r), some (.int (0 + (k : Int))), some (.ref b), some (.int named), u5, some (.ref D), x7, x8]) ⟨?_, _, rfl⟩ ?_ ?_⟩
    · exact ⟨J5.box.le (by decide), J5.nD, J5.b0, J5.D0, J5.ex, J5.all⟩
    · rintro i σ H' hi ⟨J, u5, rfl⟩
      have hi5 : i < 5 := hi
      have J' : Jw H1 b D (999000 - 20 * (i + 1) + 4 + 4 + 4 + 4 + 4) (5 + 3 * i) H' := ⟨J.box.le (by omega), J.nD, J.b0, J.D0, J.ex, J.all⟩
      refine s_app (j := 6) (n' := 999000 - 20 * (i + 1) + 4 + 4 + 4 + 4) rfl J' (fun Q q => ?_) (by omega) fun H6 J6 => ?_
      · refine ej_num (j := 3) rfl J' fun z H6 z0 z1 J6 => ⟨sz8 (by show 1 ≤ 1000; decide), fun p hp => ⟨two_le, fun t ht => q _ _ ((J6.exx (Ex.new hp)).exx (Ex.new ht)) ⟨t, p, 0, _, rfl, upd_same, Ex.new ht _ _ upd_same, .inl ⟨rfl, z, rfl⟩⟩⟩⟩
      refine s_app (j := 6) (n' := 999000 - 20 * (i + 1) + 4 + 4) rfl J6 (fun Q q => ?_) (by omega) fun H7 J7 => ?_
      · refine ej_num (j := 3) rfl J6 fun z H7 z0 z1 J7 => ej_num (j := 3) rfl J7 fun z2 H8 z3 z4 J8 => ⟨two_le, fun p hp => ⟨two_le, fun t ht => q _ _ ((J8.exx (Ex.new hp)).exx (Ex.new ht)) ⟨t, p, 1, _, rfl, upd_same, Ex.new ht _ _ upd_same, .inr (.inl ⟨rfl, z, z2, rfl⟩)⟩⟩⟩
      refine s_app (j := 6) (n' := 999000 - 20 * (i + 1)) rfl J7 (fun Q q => ?_) (by omega) fun H8 J8 => ?_
      · refine ej_num (j := 3) rfl J7 fun z H8 z0 z1 J8 => ej_num (j := 3) rfl J8 fun z2 H9 z3 z4 J9 => ⟨_, _, rfl, two_le, fun p hp => ⟨two_le, fun t ht => q _ _ ((J9.exx (Ex.new hp)).exx (Ex.new ht)) ⟨t, p, 3, _, rfl, upd_same, Ex.new ht _ _ upd_same, .inr (.inr (.inr ⟨rfl, z, _, rfl⟩))⟩⟩⟩
      exact ⟨⟨J8.box, J8.nD, J8.b0, J8.D0, J8.ex, by have := J8.all; rwa [show 5 + 3 * i + 1 + 1 + 1 = 5 + 3 * (i + 1) by omega] at this⟩, _, rfl⟩
    rintro σ H6 ⟨J6, u5, rfl⟩
    -- beyond
    refine ⟨_, rfl, _, rfl, b, 900, 990000, rfl, by decide, by decide, J6.box.le (by decide), fun far H7 f0 f1 B7 k7 => ⟨_, _, rfl, rfl, sz8 (by show 3 ≤ 1000; decide), fun p hp => ?_⟩⟩
    have J7 := (J6.but B7 k7).exx (Ex.new (o := .lst [.int 65, .int (-1), .int (66 + far)]) hp)
    refine ⟨_, rfl, b, 3, 0, rfl, by decide, by decide, J7.box.le (by decide), fun r8 H8 g0 g1 B8 k8 => ?_⟩
    have J8 := J7.but B8 k8
    have p8 := k8 p _ (B7.ne hp) upd_same
    obtain ⟨z, hz, z0, z1⟩ := @pick [65, -1, 66 + far] r8 (-1) 1000 g0 g1 (by
      intro z hz
      simp only [List.mem_cons, List.not_mem_nil, or_false] at hz
      omega)
    refine ⟨p, _, r8, .int z, rfl, rfl, SqL.of p8, hz, ?_⟩
    -- what is written out
    obtain ⟨o8, d8⟩ : ∃ o, H8 D = some o := ⟨_, J8.all.choose_spec.1⟩
    refine s_ext (j := 6) rfl J8 (egs_cons (eg0 ev_c) (egs_cons (eg0 (ev_var rfl)) (egs_cons (eg1 ev_c ev_c) (egs_cons (eg1 (ev_var rfl) ev_c) (egs_cons (eg1 ev_c (ev_var rfl)) (egs_cons (eg1 ev_c ev_c)
      (egs_cons (eg2 d8 (by decide) (by decide)) (egs_cons (eg2 d8 (by decide) (by decide)) egs_nil)))))))) (by decide) fun H9 J9 => ?_
    obtain ⟨o9, d9⟩ : ∃ o, H9 D = some o := ⟨_, J9.all.choose_spec.1⟩
    refine s_ext (j := 6) rfl J9 (egs_cons (eg3 ev_c ev_c) (egs_cons (eg3 ev_c ev_c) (egs_cons (eg3 ev_c ev_c) (egs_cons (eg3 ev_c ev_c) (egs_cons (eg3 (ev_var rfl) ev_c) (egs_cons (eg3 ev_c (ev_var rfl)) (egs_cons (eg3 ev_c ev_c)
      (egs_cons (eg1 ev_c ev_c) (egs_cons (eg2u d9) egs_nil))))))))) (by decide) fun H10 J10 => ?_
    -- all asked twice
    refine ⟨2, rfl, by decide, by decide, for_range (lo := 0) (n := (2 : Int).toNat)
      (fun i σ H' => Jw H1 b D 0 37 H' ∧ ∃ u5 u8, σ = [some (.ref a), some (.ref r), some (.int (0 + (k : Int))), some (.ref b), some (.int named), u5, some (.ref D), some (.int z), u8]) ⟨J10, _, _, rfl⟩ ?_ ?_⟩
    · rintro i σ H' hi ⟨J, u5, u8, rfl⟩
      obtain ⟨ys, y1, y2, y3⟩ := J.all
      refine ⟨_, rfl, _, _, rfl, .inl ⟨_, SqL.of y1, rfl⟩, _, rfl, by omega, by omega, for_range (lo := 0) (n := ((ys.length : Nat) : Int).toNat)
        (fun i2 σ H' => Jw H1 b D 0 37 H' ∧ H' D = some (.lst ys) ∧ (∀ v ∈ ys, Good H' D v) ∧ ∃ u8, σ = [some (.ref a), some (.ref r), some (.int (0 + (k : Int))), some (.ref b), some (.int named), some (.int (0 + (i : Int))), some (.ref D), some (.int z), u8]) ⟨J, y1, y3, _, rfl⟩ ?_ ?_⟩
      · rintro i2 σ H' hi2 ⟨J, y1, y3, u8, rfl⟩
        have hx : ys[i2]? = some (ys[i2]'(by omega)) := List.getElem?_eq_getElem _
        obtain ⟨t, vt, kind, xs, hv, ht, hvt, ask⟩ := y3 _ (List.mem_of_getElem? hx)
        rw [hv] at hx
        have hat := at_of (Int.zero_add (i2 : Int)) hx
        refine ⟨_, rfl, _, rfl, _, rfl, _, _, _, _, rfl, rfl, SqL.of y1, hat, _, _, _, _, rfl, rfl, st_of ht, rfl, ?_⟩
        refine ⟨_, rfl, _, rfl, _, _, rfl, rfl, _, rfl, _, _, rfl, rfl, .inl ⟨_, rfl, _, _, rfl, rfl, (show (0 : Int) < 2 by decide), ?_⟩⟩
        refine ⟨_, rfl, _, rfl, _, _, _, _, rfl, rfl, SqL.of y1, hat, _, _, _, _, rfl, rfl, st_of ht, rfl, ?_⟩
        have ask2 : ∃ ns, Ask K ns H' kind xs := by
          rcases ask with h | h | ⟨rfl, x, ns, rfl, _, hx, hz, hall⟩ | h
          · exact ⟨[], .inl h⟩
          · exact ⟨[], .inr (.inl h)⟩
          · exact ⟨ns, .inr (.inr (.inl ⟨rfl, x, rfl, hx.imp SqL.of st_of, hz, hall⟩))⟩
          · exact ⟨[], .inr (.inr (.inr h))⟩
        obtain ⟨ns2, ask2⟩ := ask2
        refine ⟨r, kind, _, vt, xs, ns2, rfl, tri1.ex J.ex, st_of hvt, ask2, fun H11 e11 => ⟨true, rfl, iteF ?_⟩⟩
        exact ⟨J.exx e11, e11 _ _ y1, fun v hv => (y3 v hv).ex e11, _, rfl⟩
      · rintro σ H' ⟨J, _, _, u8, rfl⟩
        exact ⟨J, _, _, rfl⟩
    · rintro σ H' ⟨J, u5, u8, rfl⟩
      exact ⟨e1.trans J.ex, _, _, _, _, _, _, _, rfl⟩
  · rintro σ H' ⟨e, x2, x3, x4, x5, x6, x7, x8, rfl⟩
    exact q _
end
end L2.U


set_option Elab.async false
set_option linter.all false
set_option maxRecDepth 100000
set_option maxHeartbeats 4000000
namespace L2.U
open PySem PySem.Spec PyProof.Rows Evl
theorem exm_of {K : PySem.W.Frag} {C D : Addr} {b : Bool} (h1 : PySem.W.subIn K (.ref D) (.type "BaseException") = some true) (h2 : PySem.W.isClsIn K D = true) (h3 : PySem.W.typeIn K (.ref D) = some (.type "type"))
    (h4 : PySem.W.subIn K (.ref C) (.ref D) = some b) : PySem.W.exmOne K (.ref C) (.ref D) = some b := by
  have h2' : (PySem.W.clsIn K D).isSome = true := h2
  unfold PySem.W.exmOne
  rw [h1, if_pos (by rfl)]
  unfold PySem.W.kitCls
  simp only [h2', h3, h4, beq_self_eq_true, Bool.and_self, if_true]
def mkDef {K : PySem.W.Frag} {h : Heap} {mg : Str → Option Value} (X : K.In h) (G : h.Ns mainGlobals mg) {x : Str} {st : Stmt} {ps : List Str} {f : Addr} {od an : Option Addr} {sl : Array (Option Value)} {oc kV dc pm cd ct : Value}
    (a : PySem.W.nsIn K mainGlobals x = some (some (.ref f))) (l : K.lookup f = some ⟨oc, od, .func (PySem.W.fnOf x x (defArgs st) (defBody st) (defScope st) .none kV dc pm an cd ct), sl⟩) (c : PySem.W.codeIn K cd x = true) (k : PySem.W.keepIn K (.ref f) = true)
    (h2 : ∀ (kV doc pm : Value) (an : Option Addr) (cdv ct : Value) (us : List Value), us.length = ps.length → bindArgs (PySem.W.fnOf x x (defArgs st) (defBody st) (defScope st) .none kV doc pm an cdv ct) ⟨us, []⟩ = pure (ps.zip us)) : DefAt K mg x st ps :=
  ⟨f, _, fun_mk (st := st) l c k, PySem.W.mg_of X G a, (fun_mk (st := st) l c k).binds h2⟩

theorem all_mk {l : PySem.W.OpenLaw} {w : World} {K : PySem.W.Frag} {h : Heap} {mg : Str → Option Value} {fa : Addr} (X : K.In h) (G : h.Ns mainGlobals mg) (hfa : mg "law" = some (.ref fa))
    {f1 : Addr} {od1 an1 : Option Addr} {sl1 : Array (Option Value)} {oc1 kV1 dc1 pm1 cd1 ct1 : Value}
    {f2 : Addr} {od2 an2 : Option Addr} {sl2 : Array (Option Value)} {oc2 kV2 dc2 pm2 cd2 ct2 : Value}
    {f3 : Addr} {od3 an3 : Option Addr} {sl3 : Array (Option Value)} {oc3 kV3 dc3 pm3 cd3 ct3 : Value}
    {f4 : Addr} {od4 an4 : Option Addr} {sl4 : Array (Option Value)} {oc4 kV4 dc4 pm4 cd4 ct4 : Value}
    {f5 : Addr} {od5 an5 : Option Addr} {sl5 : Array (Option Value)} {oc5 kV5 dc5 pm5 cd5 ct5 : Value}
    {f6 : Addr} {od6 an6 : Option Addr} {sl6 : Array (Option Value)} {oc6 kV6 dc6 pm6 cd6 ct6 : Value}
    {f7 : Addr} {od7 an7 : Option Addr} {sl7 : Array (Option Value)} {oc7 kV7 dc7 pm7 cd7 ct7 : Value}
    {f8 : Addr} {od8 an8 : Option Addr} {sl8 : Array (Option Value)} {oc8 kV8 dc8 pm8 cd8 ct8 : Value}
    {f9 : Addr} {od9 an9 : Option Addr} {sl9 : Array (Option Value)} {oc9 kV9 dc9 pm9 cd9 ct9 : Value}
    {f10 : Addr} {od10 an10 : Option Addr} {sl10 : Array (Option Value)} {oc10 kV10 dc10 pm10 cd10 ct10 : Value}
    {f11 : Addr} {od11 an11 : Option Addr} {sl11 : Array (Option Value)} {oc11 kV11 dc11 pm11 cd11 ct11 : Value}
    {f12 : Addr} {od12 an12 : Option Addr} {sl12 : Array (Option Value)} {oc12 kV12 dc12 pm12 cd12 ct12 : Value}
    {f13 : Addr} {od13 an13 : Option Addr} {sl13 : Array (Option Value)} {oc13 kV13 dc13 pm13 cd13 ct13 : Value}
    {f14 : Addr} {od14 an14 : Option Addr} {sl14 : Array (Option Value)} {oc14 kV14 dc14 pm14 cd14 ct14 : Value}
    {f15 : Addr} {od15 an15 : Option Addr} {sl15 : Array (Option Value)} {oc15 kV15 dc15 pm15 cd15 ct15 : Value}
    {f16 : Addr} {od16 an16 : Option Addr} {sl16 : Array (Option Value)} {oc16 kV16 dc16 pm16 cd16 ct16 : Value}
    {f17 : Addr} {od17 an17 : Option Addr} {sl17 : Array (Option Value)} {oc17 kV17 dc17 pm17 cd17 ct17 : Value}
    {f18 : Addr} {od18 an18 : Option Addr} {sl18 : Array (Option Value)} {oc18 kV18 dc18 pm18 cd18 ct18 : Value}
    {f19 : Addr} {od19 an19 : Option Addr} {sl19 : Array (Option Value)} {oc19 kV19 dc19 pm19 cd19 ct19 : Value}
    {f20 : Addr} {od20 an20 : Option Addr} {sl20 : Array (Option Value)} {oc20 kV20 dc20 pm20 cd20 ct20 : Value}
    {f21 : Addr} {od21 an21 : Option Addr} {sl21 : Array (Option Value)} {oc21 kV21 dc21 pm21 cd21 ct21 : Value}
    {f22 : Addr} {od22 an22 : Option Addr} {sl22 : Array (Option Value)} {oc22 kV22 dc22 pm22 cd22 ct22 : Value}
    {f23 : Addr} {od23 an23 : Option Addr} {sl23 : Array (Option Value)} {oc23 kV23 dc23 pm23 cd23 ct23 : Value}
    {f24 : Addr} {od24 an24 : Option Addr} {sl24 : Array (Option Value)} {oc24 kV24 dc24 pm24 cd24 ct24 : Value}
    {t_HIGHEST : Tok}
    {CT : Addr}
    {CInvalidNumber NInvalidNumber fIInvalidNumber : Addr} {nmInvalidNumber qInvalidNumber : Str} {bsInvalidNumber : List Value} {snInvalidNumber : List Str} {subInvalidNumber : List Value} {abInvalidNumber : Bool} {colInvalidNumber : Option Bool} {ddInvalidNumber : Option Addr} {m0InvalidNumber m1InvalidNumber m2InvalidNumber m3InvalidNumber m5InvalidNumber : Option Value}
    {odInvalidNumber anInvalidNumber : Option Addr} {slInvalidNumber : Array (Option Value)} {ocInvalidNumber kVInvalidNumber dcInvalidNumber pmInvalidNumber cdInvalidNumber ctInvalidNumber : Value}
    {CInvalidMany NInvalidMany fIInvalidMany : Addr} {nmInvalidMany qInvalidMany : Str} {bsInvalidMany : List Value} {snInvalidMany : List Str} {subInvalidMany : List Value} {abInvalidMany : Bool} {colInvalidMany : Option Bool} {ddInvalidMany : Option Addr} {m0InvalidMany m1InvalidMany m2InvalidMany m3InvalidMany m5InvalidMany : Option Value}
    {odInvalidMany anInvalidMany : Option Addr} {slInvalidMany : Array (Option Value)} {ocInvalidMany kVInvalidMany dcInvalidMany pmInvalidMany cdInvalidMany ctInvalidMany : Value}
    {CInvalidParts NInvalidParts fIInvalidParts : Addr} {nmInvalidParts qInvalidParts : Str} {bsInvalidParts : List Value} {snInvalidParts : List Str} {subInvalidParts : List Value} {abInvalidParts : Bool} {colInvalidParts : Option Bool} {ddInvalidParts : Option Addr} {m0InvalidParts m1InvalidParts m2InvalidParts m3InvalidParts m5InvalidParts : Option Value}
    {odInvalidParts anInvalidParts : Option Addr} {slInvalidParts : Array (Option Value)} {ocInvalidParts kVInvalidParts dcInvalidParts pmInvalidParts cdInvalidParts ctInvalidParts : Value}
    (a1 : PySem.W.nsIn K mainGlobals "is_integer" = some (some (.ref f1)))
    (l1 : K.lookup f1 = some ⟨oc1, od1, .func (PySem.W.fnOf "is_integer" "is_integer" (defArgs s_is_integer) (defBody s_is_integer) (defScope s_is_integer) .none kV1 dc1 pm1 an1 cd1 ct1), sl1⟩)
    (c1 : PySem.W.codeIn K cd1 "is_integer" = true)
    (k1 : PySem.W.keepIn K (.ref f1) = true)
    (a2 : PySem.W.nsIn K mainGlobals "is_between" = some (some (.ref f2)))
    (l2 : K.lookup f2 = some ⟨oc2, od2, .func (PySem.W.fnOf "is_between" "is_between" (defArgs s_is_between) (defBody s_is_between) (defScope s_is_between) .none kV2 dc2 pm2 an2 cd2 ct2), sl2⟩)
    (c2 : PySem.W.codeIn K cd2 "is_between" = true)
    (k2 : PySem.W.keepIn K (.ref f2) = true)
    (a3 : PySem.W.nsIn K mainGlobals "is_from" = some (some (.ref f3)))
    (l3 : K.lookup f3 = some ⟨oc3, od3, .func (PySem.W.fnOf "is_from" "is_from" (defArgs s_is_from) (defBody s_is_from) (defScope s_is_from) .none kV3 dc3 pm3 an3 cd3 ct3), sl3⟩)
    (c3 : PySem.W.codeIn K cd3 "is_from" = true)
    (k3 : PySem.W.keepIn K (.ref f3) = true)
    (a4 : PySem.W.nsIn K mainGlobals "is_list" = some (some (.ref f4)))
    (l4 : K.lookup f4 = some ⟨oc4, od4, .func (PySem.W.fnOf "is_list" "is_list" (defArgs s_is_list) (defBody s_is_list) (defScope s_is_list) .none kV4 dc4 pm4 an4 cd4 ct4), sl4⟩)
    (c4 : PySem.W.codeIn K cd4 "is_list" = true)
    (k4 : PySem.W.keepIn K (.ref f4) = true)
    (a5 : PySem.W.nsIn K mainGlobals "are_from" = some (some (.ref f5)))
    (l5 : K.lookup f5 = some ⟨oc5, od5, .func (PySem.W.fnOf "are_from" "are_from" (defArgs s_are_from) (defBody s_are_from) (defScope s_are_from) .none kV5 dc5 pm5 an5 cd5 ct5), sl5⟩)
    (c5 : PySem.W.codeIn K cd5 "are_from" = true)
    (k5 : PySem.W.keepIn K (.ref f5) = true)
    (a6 : PySem.W.nsIn K mainGlobals "factorial" = some (some (.ref f6)))
    (l6 : K.lookup f6 = some ⟨oc6, od6, .func (PySem.W.fnOf "factorial" "factorial" (defArgs s_factorial) (defBody s_factorial) (defScope s_factorial) .none kV6 dc6 pm6 an6 cd6 ct6), sl6⟩)
    (c6 : PySem.W.codeIn K cd6 "factorial" = true)
    (k6 : PySem.W.keepIn K (.ref f6) = true)
    (a7 : PySem.W.nsIn K mainGlobals "choose" = some (some (.ref f7)))
    (l7 : K.lookup f7 = some ⟨oc7, od7, .func (PySem.W.fnOf "choose" "choose" (defArgs s_choose) (defBody s_choose) (defScope s_choose) .none kV7 dc7 pm7 an7 cd7 ct7), sl7⟩)
    (c7 : PySem.W.codeIn K cd7 "choose" = true)
    (k7 : PySem.W.keepIn K (.ref f7) = true)
    (a8 : PySem.W.nsIn K mainGlobals "arrangements" = some (some (.ref f8)))
    (l8 : K.lookup f8 = some ⟨oc8, od8, .func (PySem.W.fnOf "arrangements" "arrangements" (defArgs s_arrangements) (defBody s_arrangements) (defScope s_arrangements) .none kV8 dc8 pm8 an8 cd8 ct8), sl8⟩)
    (c8 : PySem.W.codeIn K cd8 "arrangements" = true)
    (k8 : PySem.W.keepIn K (.ref f8) = true)
    (a9 : PySem.W.nsIn K mainGlobals "even_parts" = some (some (.ref f9)))
    (l9 : K.lookup f9 = some ⟨oc9, od9, .func (PySem.W.fnOf "even_parts" "even_parts" (defArgs s_even_parts) (defBody s_even_parts) (defScope s_even_parts) .none kV9 dc9 pm9 an9 cd9 ct9), sl9⟩)
    (c9 : PySem.W.codeIn K cd9 "even_parts" = true)
    (k9 : PySem.W.keepIn K (.ref f9) = true)
    (a10 : PySem.W.nsIn K mainGlobals "_check_number" = some (some (.ref f10)))
    (l10 : K.lookup f10 = some ⟨oc10, od10, .func (PySem.W.fnOf "_check_number" "_check_number" (defArgs s_check_number) (defBody s_check_number) (defScope s_check_number) .none kV10 dc10 pm10 an10 cd10 ct10), sl10⟩)
    (c10 : PySem.W.codeIn K cd10 "_check_number" = true)
    (k10 : PySem.W.keepIn K (.ref f10) = true)
    (a11 : PySem.W.nsIn K mainGlobals "_check_many" = some (some (.ref f11)))
    (l11 : K.lookup f11 = some ⟨oc11, od11, .func (PySem.W.fnOf "_check_many" "_check_many" (defArgs s_check_many) (defBody s_check_many) (defScope s_check_many) .none kV11 dc11 pm11 an11 cd11 ct11), sl11⟩)
    (c11 : PySem.W.codeIn K cd11 "_check_many" = true)
    (k11 : PySem.W.keepIn K (.ref f11) = true)
    (a12 : PySem.W.nsIn K mainGlobals "_law_cell" = some (some (.ref f12)))
    (l12 : K.lookup f12 = some ⟨oc12, od12, .func (PySem.W.fnOf "_law_cell" "_law_cell" (defArgs s_law_cell) (defBody s_law_cell) (defScope s_law_cell) .none kV12 dc12 pm12 an12 cd12 ct12), sl12⟩)
    (c12 : PySem.W.codeIn K cd12 "_law_cell" = true)
    (k12 : PySem.W.keepIn K (.ref f12) = true)
    (a13 : PySem.W.nsIn K mainGlobals "_law_box" = some (some (.ref f13)))
    (l13 : K.lookup f13 = some ⟨oc13, od13, .func (PySem.W.fnOf "_law_box" "_law_box" (defArgs s_law_box) (defBody s_law_box) (defScope s_law_box) .none kV13 dc13 pm13 an13 cd13 ct13), sl13⟩)
    (c13 : PySem.W.codeIn K cd13 "_law_box" = true)
    (k13 : PySem.W.keepIn K (.ref f13) = true)
    (a14 : PySem.W.nsIn K mainGlobals "_law_take" = some (some (.ref f14)))
    (l14 : K.lookup f14 = some ⟨oc14, od14, .func (PySem.W.fnOf "_law_take" "_law_take" (defArgs s_law_take) (defBody s_law_take) (defScope s_law_take) .none kV14 dc14 pm14 an14 cd14 ct14), sl14⟩)
    (c14 : PySem.W.codeIn K cd14 "_law_take" = true)
    (k14 : PySem.W.keepIn K (.ref f14) = true)
    (a15 : PySem.W.nsIn K mainGlobals "_law_same" = some (some (.ref f15)))
    (l15 : K.lookup f15 = some ⟨oc15, od15, .func (PySem.W.fnOf "_law_same" "_law_same" (defArgs s_law_same) (defBody s_law_same) (defScope s_law_same) .none kV15 dc15 pm15 an15 cd15 ct15), sl15⟩)
    (c15 : PySem.W.codeIn K cd15 "_law_same" = true)
    (k15 : PySem.W.keepIn K (.ref f15) = true)
    (a16 : PySem.W.nsIn K mainGlobals "_law_triangle" = some (some (.ref f16)))
    (l16 : K.lookup f16 = some ⟨oc16, od16, .func (PySem.W.fnOf "_law_triangle" "_law_triangle" (defArgs s_law_triangle) (defBody s_law_triangle) (defScope s_law_triangle) .none kV16 dc16 pm16 an16 cd16 ct16), sl16⟩)
    (c16 : PySem.W.codeIn K cd16 "_law_triangle" = true)
    (k16 : PySem.W.keepIn K (.ref f16) = true)
    (a17 : PySem.W.nsIn K mainGlobals "_law_told" = some (some (.ref f17)))
    (l17 : K.lookup f17 = some ⟨oc17, od17, .func (PySem.W.fnOf "_law_told" "_law_told" (defArgs s_law_told) (defBody s_law_told) (defScope s_law_told) .none kV17 dc17 pm17 an17 cd17 ct17), sl17⟩)
    (c17 : PySem.W.codeIn K cd17 "_law_told" = true)
    (k17 : PySem.W.keepIn K (.ref f17) = true)
    (a18 : PySem.W.nsIn K mainGlobals "_law_product" = some (some (.ref f18)))
    (l18 : K.lookup f18 = some ⟨oc18, od18, .func (PySem.W.fnOf "_law_product" "_law_product" (defArgs s_law_product) (defBody s_law_product) (defScope s_law_product) .none kV18 dc18 pm18 an18 cd18 ct18), sl18⟩)
    (c18 : PySem.W.codeIn K cd18 "_law_product" = true)
    (k18 : PySem.W.keepIn K (.ref f18) = true)
    (a19 : PySem.W.nsIn K mainGlobals "_law_arranged" = some (some (.ref f19)))
    (l19 : K.lookup f19 = some ⟨oc19, od19, .func (PySem.W.fnOf "_law_arranged" "_law_arranged" (defArgs s_law_arranged) (defBody s_law_arranged) (defScope s_law_arranged) .none kV19 dc19 pm19 an19 cd19 ct19), sl19⟩)
    (c19 : PySem.W.codeIn K cd19 "_law_arranged" = true)
    (k19 : PySem.W.keepIn K (.ref f19) = true)
    (a20 : PySem.W.nsIn K mainGlobals "_law_is_even" = some (some (.ref f20)))
    (l20 : K.lookup f20 = some ⟨oc20, od20, .func (PySem.W.fnOf "_law_is_even" "_law_is_even" (defArgs s_law_is_even) (defBody s_law_is_even) (defScope s_law_is_even) .none kV20 dc20 pm20 an20 cd20 ct20), sl20⟩)
    (c20 : PySem.W.codeIn K cd20 "_law_is_even" = true)
    (k20 : PySem.W.keepIn K (.ref f20) = true)
    (a21 : PySem.W.nsIn K mainGlobals "_law_right" = some (some (.ref f21)))
    (l21 : K.lookup f21 = some ⟨oc21, od21, .func (PySem.W.fnOf "_law_right" "_law_right" (defArgs s_law_right) (defBody s_law_right) (defScope s_law_right) .none kV21 dc21 pm21 an21 cd21 ct21), sl21⟩)
    (c21 : PySem.W.codeIn K cd21 "_law_right" = true)
    (k21 : PySem.W.keepIn K (.ref f21) = true)
    (a22 : PySem.W.nsIn K mainGlobals "_law_number" = some (some (.ref f22)))
    (l22 : K.lookup f22 = some ⟨oc22, od22, .func (PySem.W.fnOf "_law_number" "_law_number" (defArgs s_law_number) (defBody s_law_number) (defScope s_law_number) .none kV22 dc22 pm22 an22 cd22 ct22), sl22⟩)
    (c22 : PySem.W.codeIn K cd22 "_law_number" = true)
    (k22 : PySem.W.keepIn K (.ref f22) = true)
    (a23 : PySem.W.nsIn K mainGlobals "_law_parts" = some (some (.ref f23)))
    (l23 : K.lookup f23 = some ⟨oc23, od23, .func (PySem.W.fnOf "_law_parts" "_law_parts" (defArgs s_law_parts) (defBody s_law_parts) (defScope s_law_parts) .none kV23 dc23 pm23 an23 cd23 ct23), sl23⟩)
    (c23 : PySem.W.codeIn K cd23 "_law_parts" = true)
    (k23 : PySem.W.keepIn K (.ref f23) = true)
    (a24 : PySem.W.nsIn K mainGlobals "law" = some (some (.ref f24)))
    (l24 : K.lookup f24 = some ⟨oc24, od24, .func (PySem.W.fnOf "law" "law" (defArgs s_law) (defBody s_law) (defScope s_law) .none kV24 dc24 pm24 an24 cd24 ct24), sl24⟩)
    (c24 : PySem.W.codeIn K cd24 "law" = true)
    (k24 : PySem.W.keepIn K (.ref f24) = true)
    (z_int : PySem.W.nsIn K mainGlobals "int" = some none)
    (z_bool : PySem.W.nsIn K mainGlobals "bool" = some none)
    (z_str : PySem.W.nsIn K mainGlobals "str" = some none)
    (z_list : PySem.W.nsIn K mainGlobals "list" = some none)
    (z_tuple : PySem.W.nsIn K mainGlobals "tuple" = some none)
    (z_len : PySem.W.nsIn K mainGlobals "len" = some none)
    (z_sum : PySem.W.nsIn K mainGlobals "sum" = some none)
    (z_abs : PySem.W.nsIn K mainGlobals "abs" = some none)
    (z_all : PySem.W.nsIn K mainGlobals "all" = some none)
    (z_range : PySem.W.nsIn K mainGlobals "range" = some none)
    (z_isinstance : PySem.W.nsIn K mainGlobals "isinstance" = some none)
    (z_min : PySem.W.nsIn K mainGlobals "min" = some none)
    (z_max : PySem.W.nsIn K mainGlobals "max" = some none)
    (c_HIGHEST : PySem.W.nsIn K mainGlobals "HIGHEST" = some (some (.int 64 t_HIGHEST)))
    (c_comb : PySem.W.nsIn K mainGlobals "comb" = some (some (.builtin "math.comb")))
    (aCT : PySem.W.nsIn K mainGlobals "TalkError" = some (some (.ref CT)))
    (aCInvalidNumber : PySem.W.nsIn K mainGlobals "InvalidNumber" = some (some (.ref CInvalidNumber)))
    (xLInvalidNumber : K.lookup CInvalidNumber = some (excClassObj nmInvalidNumber qInvalidNumber CInvalidNumber NInvalidNumber bsInvalidNumber [.ref CT, .type "ValueError", .type "Exception", .type "BaseException", .type "object"] true snInvalidNumber subInvalidNumber abInvalidNumber colInvalidNumber ddInvalidNumber m0InvalidNumber m1InvalidNumber m2InvalidNumber m3InvalidNumber m5InvalidNumber "ValueError.__new__"))
    (saInvalidNumber : PySem.W.findIn K (.ref CInvalidNumber) "__setattr__" = some (some (.builtin "object.__setattr__")))
    (gaInvalidNumber : PySem.W.findIn K (.ref CInvalidNumber) "__getattribute__" = some (some (.builtin "BaseException.__getattribute__")))
    (ggInvalidNumber : PySem.W.findIn K (.ref CInvalidNumber) "__getattr__" = some none)
    (nbInvalidNumber : PySem.W.findIn K (.ref CInvalidNumber) "given" = some none)
    (iCInvalidNumber : PySem.W.findIn K (.ref CInvalidNumber) "__init__" = some (some (.ref fIInvalidNumber)))
    (tIInvalidNumber : PySem.W.typeIn K (.ref fIInvalidNumber) = some (.type "function"))
    (lIInvalidNumber : K.lookup fIInvalidNumber = some ⟨ocInvalidNumber, odInvalidNumber, .func (PySem.W.fnOf "__init__" "InvalidNumber.__init__" (defArgs s_init_InvalidNumber) (defBody s_init_InvalidNumber) (defScope s_init_InvalidNumber) .none kVInvalidNumber dcInvalidNumber pmInvalidNumber anInvalidNumber cdInvalidNumber ctInvalidNumber), slInvalidNumber⟩)
    (cIInvalidNumber : PySem.W.codeIn K cdInvalidNumber "InvalidNumber.__init__" = true)
    (kIInvalidNumber : PySem.W.keepIn K (.ref fIInvalidNumber) = true)
    (kCInvalidNumber : PySem.W.keepIn K (.ref CInvalidNumber) = true)
    (eCInvalidNumber : PySem.W.subIn K (.ref CInvalidNumber) (.type "BaseException") = some true)
    (tCInvalidNumber : PySem.W.typeIn K (.ref CInvalidNumber) = some (.type "type"))
    (hCInvalidNumber : PySem.W.hasDictIn K CInvalidNumber = true)
    (iSInvalidNumber : PySem.W.isClsIn K CInvalidNumber = true)
    (aCInvalidMany : PySem.W.nsIn K mainGlobals "InvalidMany" = some (some (.ref CInvalidMany)))
    (xLInvalidMany : K.lookup CInvalidMany = some (excClassObj nmInvalidMany qInvalidMany CInvalidMany NInvalidMany bsInvalidMany [.ref CT, .type "ValueError", .type "Exception", .type "BaseException", .type "object"] true snInvalidMany subInvalidMany abInvalidMany colInvalidMany ddInvalidMany m0InvalidMany m1InvalidMany m2InvalidMany m3InvalidMany m5InvalidMany "ValueError.__new__"))
    (saInvalidMany : PySem.W.findIn K (.ref CInvalidMany) "__setattr__" = some (some (.builtin "object.__setattr__")))
    (gaInvalidMany : PySem.W.findIn K (.ref CInvalidMany) "__getattribute__" = some (some (.builtin "BaseException.__getattribute__")))
    (ggInvalidMany : PySem.W.findIn K (.ref CInvalidMany) "__getattr__" = some none)
    (nbInvalidMany : PySem.W.findIn K (.ref CInvalidMany) "given" = some none)
    (iCInvalidMany : PySem.W.findIn K (.ref CInvalidMany) "__init__" = some (some (.ref fIInvalidMany)))
    (tIInvalidMany : PySem.W.typeIn K (.ref fIInvalidMany) = some (.type "function"))
    (lIInvalidMany : K.lookup fIInvalidMany = some ⟨ocInvalidMany, odInvalidMany, .func (PySem.W.fnOf "__init__" "InvalidMany.__init__" (defArgs s_init_InvalidMany) (defBody s_init_InvalidMany) (defScope s_init_InvalidMany) .none kVInvalidMany dcInvalidMany pmInvalidMany anInvalidMany cdInvalidMany ctInvalidMany), slInvalidMany⟩)
    (cIInvalidMany : PySem.W.codeIn K cdInvalidMany "InvalidMany.__init__" = true)
    (kIInvalidMany : PySem.W.keepIn K (.ref fIInvalidMany) = true)
    (kCInvalidMany : PySem.W.keepIn K (.ref CInvalidMany) = true)
    (eCInvalidMany : PySem.W.subIn K (.ref CInvalidMany) (.type "BaseException") = some true)
    (tCInvalidMany : PySem.W.typeIn K (.ref CInvalidMany) = some (.type "type"))
    (hCInvalidMany : PySem.W.hasDictIn K CInvalidMany = true)
    (iSInvalidMany : PySem.W.isClsIn K CInvalidMany = true)
    (aCInvalidParts : PySem.W.nsIn K mainGlobals "InvalidParts" = some (some (.ref CInvalidParts)))
    (xLInvalidParts : K.lookup CInvalidParts = some (excClassObj nmInvalidParts qInvalidParts CInvalidParts NInvalidParts bsInvalidParts [.ref CT, .type "ValueError", .type "Exception", .type "BaseException", .type "object"] true snInvalidParts subInvalidParts abInvalidParts colInvalidParts ddInvalidParts m0InvalidParts m1InvalidParts m2InvalidParts m3InvalidParts m5InvalidParts "ValueError.__new__"))
    (saInvalidParts : PySem.W.findIn K (.ref CInvalidParts) "__setattr__" = some (some (.builtin "object.__setattr__")))
    (gaInvalidParts : PySem.W.findIn K (.ref CInvalidParts) "__getattribute__" = some (some (.builtin "BaseException.__getattribute__")))
    (ggInvalidParts : PySem.W.findIn K (.ref CInvalidParts) "__getattr__" = some none)
    (nbInvalidParts : PySem.W.findIn K (.ref CInvalidParts) "given" = some none)
    (iCInvalidParts : PySem.W.findIn K (.ref CInvalidParts) "__init__" = some (some (.ref fIInvalidParts)))
    (tIInvalidParts : PySem.W.typeIn K (.ref fIInvalidParts) = some (.type "function"))
    (lIInvalidParts : K.lookup fIInvalidParts = some ⟨ocInvalidParts, odInvalidParts, .func (PySem.W.fnOf "__init__" "InvalidParts.__init__" (defArgs s_init_InvalidParts) (defBody s_init_InvalidParts) (defScope s_init_InvalidParts) .none kVInvalidParts dcInvalidParts pmInvalidParts anInvalidParts cdInvalidParts ctInvalidParts), slInvalidParts⟩)
    (cIInvalidParts : PySem.W.codeIn K cdInvalidParts "InvalidParts.__init__" = true)
    (kIInvalidParts : PySem.W.keepIn K (.ref fIInvalidParts) = true)
    (kCInvalidParts : PySem.W.keepIn K (.ref CInvalidParts) = true)
    (eCInvalidParts : PySem.W.subIn K (.ref CInvalidParts) (.type "BaseException") = some true)
    (tCInvalidParts : PySem.W.typeIn K (.ref CInvalidParts) = some (.type "type"))
    (hCInvalidParts : PySem.W.hasDictIn K CInvalidParts = true)
    (iSInvalidParts : PySem.W.isClsIn K CInvalidParts = true)
    (eNN : PySem.W.subIn K (.ref CInvalidNumber) (.ref CInvalidNumber) = some true)
    (eMN : PySem.W.subIn K (.ref CInvalidMany) (.ref CInvalidNumber) = some false)
    (eMM : PySem.W.subIn K (.ref CInvalidMany) (.ref CInvalidMany) = some true)
    (ePN : PySem.W.subIn K (.ref CInvalidParts) (.ref CInvalidNumber) = some false)
    (ePM : PySem.W.subIn K (.ref CInvalidParts) (.ref CInvalidMany) = some false)
    (ePP : PySem.W.subIn K (.ref CInvalidParts) (.ref CInvalidParts) = some true) :
    ∃ fd : FuncData, (∀ (s : Shared) (v : Value), BindsTo s fd ⟨[v], []⟩ [("script", v)]) ∧ ∀ base : Heap, K.In base → base.Ns mainGlobals mg → FnOk l.prog w K mg base CX0 11 fa fd ["script"] (spLaw K) := by
  have e := hfa.symm.trans (PySem.W.mg_of X G a24)
  cases e
  let T : TA7 K mg := {
    is_integer := mkDef X G a1 l1 c1 k1 (fun _ _ _ _ _ _ us hl => match us, hl with | [_], _ => rfl)
    is_between := mkDef X G a2 l2 c2 k2 (fun _ _ _ _ _ _ us hl => match us, hl with | [_, _, _], _ => rfl)
    is_from := mkDef X G a3 l3 c3 k3 (fun _ _ _ _ _ _ us hl => match us, hl with | [_, _], _ => rfl)
    is_list := mkDef X G a4 l4 c4 k4 (fun _ _ _ _ _ _ us hl => match us, hl with | [_], _ => rfl)
    are_from := mkDef X G a5 l5 c5 k5 (fun _ _ _ _ _ _ us hl => match us, hl with | [_, _], _ => rfl)
    factorial := mkDef X G a6 l6 c6 k6 (fun _ _ _ _ _ _ us hl => match us, hl with | [_], _ => rfl)
    choose := mkDef X G a7 l7 c7 k7 (fun _ _ _ _ _ _ us hl => match us, hl with | [_, _], _ => rfl)
    arrangements := mkDef X G a8 l8 c8 k8 (fun _ _ _ _ _ _ us hl => match us, hl with | [_], _ => rfl)
    even_parts := mkDef X G a9 l9 c9 k9 (fun _ _ _ _ _ _ us hl => match us, hl with | [_, _], _ => rfl)
    check_number := mkDef X G a10 l10 c10 k10 (fun _ _ _ _ _ _ us hl => match us, hl with | [_], _ => rfl)
    check_many := mkDef X G a11 l11 c11 k11 (fun _ _ _ _ _ _ us hl => match us, hl with | [_], _ => rfl)
    law_cell := mkDef X G a12 l12 c12 k12 (fun _ _ _ _ _ _ us hl => match us, hl with | [_, _], _ => rfl)
    law_box := mkDef X G a13 l13 c13 k13 (fun _ _ _ _ _ _ us hl => match us, hl with | [_], _ => rfl)
    law_take := mkDef X G a14 l14 c14 k14 (fun _ _ _ _ _ _ us hl => match us, hl with | [_, _], _ => rfl)
    law_same := mkDef X G a15 l15 c15 k15 (fun _ _ _ _ _ _ us hl => match us, hl with | [_, _], _ => rfl)
    law_triangle := mkDef X G a16 l16 c16 k16 (fun _ _ _ _ _ _ us hl => match us, hl with | [_], _ => rfl)
    law_told := mkDef X G a17 l17 c17 k17 (fun _ _ _ _ _ _ us hl => match us, hl with | [_, _, _], _ => rfl)
    law_product := mkDef X G a18 l18 c18 k18 (fun _ _ _ _ _ _ us hl => match us, hl with | [_], _ => rfl)
    law_arranged := mkDef X G a19 l19 c19 k19 (fun _ _ _ _ _ _ us hl => match us, hl with | [_, _], _ => rfl)
    law_is_even := mkDef X G a20 l20 c20 k20 (fun _ _ _ _ _ _ us hl => match us, hl with | [_, _, _], _ => rfl)
    law_right := mkDef X G a21 l21 c21 k21 (fun _ _ _ _ _ _ us hl => match us, hl with | [_, _, _, _], _ => rfl)
    law_number := mkDef X G a22 l22 c22 k22 (fun _ _ _ _ _ _ us hl => match us, hl with | [_], _ => rfl)
    law_parts := mkDef X G a23 l23 c23 k23 (fun _ _ _ _ _ _ us hl => match us, hl with | [_], _ => rfl)
    law := mkDef X G a24 l24 c24 k24 (fun _ _ _ _ _ _ us hl => match us, hl with | [_], _ => rfl)
    z_int := PySem.W.mg_none_of X G z_int
    z_bool := PySem.W.mg_none_of X G z_bool
    z_str := PySem.W.mg_none_of X G z_str
    z_list := PySem.W.mg_none_of X G z_list
    z_tuple := PySem.W.mg_none_of X G z_tuple
    z_len := PySem.W.mg_none_of X G z_len
    z_sum := PySem.W.mg_none_of X G z_sum
    z_abs := PySem.W.mg_none_of X G z_abs
    z_all := PySem.W.mg_none_of X G z_all
    z_range := PySem.W.mg_none_of X G z_range
    z_isinstance := PySem.W.mg_none_of X G z_isinstance
    z_min := PySem.W.mg_none_of X G z_min
    z_max := PySem.W.mg_none_of X G z_max
    t_HIGHEST := t_HIGHEST
    c_HIGHEST := PySem.W.mg_of X G c_HIGHEST
    c_comb := PySem.W.mg_of X G c_comb
    TalkError_C := CT
    TalkError_gC := PySem.W.mg_of X G aCT
    InvalidNumber := ⟨CInvalidNumber, fIInvalidNumber, _, fun_mk (st := s_init_InvalidNumber) lIInvalidNumber cIInvalidNumber kIInvalidNumber, (fun_mk (st := s_init_InvalidNumber) lIInvalidNumber cIInvalidNumber kIInvalidNumber).binds (ps := ["self", "given"]) fun _ _ _ _ _ _ us hl => match us, hl with | [_, _], _ => rfl, ⟨⟨_, _, _, _, _, _, _, _, _, _, _, _, _, _, _, xLInvalidNumber, rfl⟩, saInvalidNumber, eCInvalidNumber, tCInvalidNumber, kCInvalidNumber⟩, iCInvalidNumber, tIInvalidNumber, PySem.W.mg_of X G aCInvalidNumber, nbInvalidNumber, ⟨gaInvalidNumber, ggInvalidNumber, eCInvalidNumber, hCInvalidNumber⟩⟩
    InvalidMany := ⟨CInvalidMany, fIInvalidMany, _, fun_mk (st := s_init_InvalidMany) lIInvalidMany cIInvalidMany kIInvalidMany, (fun_mk (st := s_init_InvalidMany) lIInvalidMany cIInvalidMany kIInvalidMany).binds (ps := ["self", "given"]) fun _ _ _ _ _ _ us hl => match us, hl with | [_, _], _ => rfl, ⟨⟨_, _, _, _, _, _, _, _, _, _, _, _, _, _, _, xLInvalidMany, rfl⟩, saInvalidMany, eCInvalidMany, tCInvalidMany, kCInvalidMany⟩, iCInvalidMany, tIInvalidMany, PySem.W.mg_of X G aCInvalidMany, nbInvalidMany, ⟨gaInvalidMany, ggInvalidMany, eCInvalidMany, hCInvalidMany⟩⟩
    InvalidParts := ⟨CInvalidParts, fIInvalidParts, _, fun_mk (st := s_init_InvalidParts) lIInvalidParts cIInvalidParts kIInvalidParts, (fun_mk (st := s_init_InvalidParts) lIInvalidParts cIInvalidParts kIInvalidParts).binds (ps := ["self", "given"]) fun _ _ _ _ _ _ us hl => match us, hl with | [_, _], _ => rfl, ⟨⟨_, _, _, _, _, _, _, _, _, _, _, _, _, _, _, xLInvalidParts, rfl⟩, saInvalidParts, eCInvalidParts, tCInvalidParts, kCInvalidParts⟩, iCInvalidParts, tIInvalidParts, PySem.W.mg_of X G aCInvalidParts, nbInvalidParts, ⟨gaInvalidParts, ggInvalidParts, eCInvalidParts, hCInvalidParts⟩⟩
    eNN := exm_of eCInvalidNumber iSInvalidNumber tCInvalidNumber eNN
    eMN := exm_of eCInvalidNumber iSInvalidNumber tCInvalidNumber eMN
    eMM := exm_of eCInvalidMany iSInvalidMany tCInvalidMany eMM
    ePN := exm_of eCInvalidNumber iSInvalidNumber tCInvalidNumber ePN
    ePM := exm_of eCInvalidMany iSInvalidMany tCInvalidMany ePM
    ePP := exm_of eCInvalidParts iSInvalidParts tCInvalidParts ePP
    kb_factorial_number := kb1 (fun_mk (st := s_factorial) l6 c6 k6) fun _ _ _ _ _ _ _ => rfl
    kb_choose_many_number := kb21 (fun_mk (st := s_choose) l7 c7 k7) fun _ _ _ _ _ _ _ _ => rfl
    kb_arrangements_parts := kb1 (fun_mk (st := s_arrangements) l8 c8 k8) fun _ _ _ _ _ _ _ => rfl
    kb_even_parts_many_total := kb21 (fun_mk (st := s_even_parts) l9 c9 k9) fun _ _ _ _ _ _ _ _ => rfl }
  exact ⟨PySem.W.fnOf "law" "law" (defArgs s_law) (defBody s_law) (defScope s_law) .none kV24 dc24 pm24 an24 cd24 ct24, fun s v => .of_eq rfl, fun base _ _ => ok_law T⟩
theorem walk {l : PySem.W.OpenLaw} {q : Program} {loose : List Str} {XP : (Str → Option Value) → Heap → Prop} {YP : World → Heap → Prop} {d : DefRec} {K : Params → PySem.W.Frag} (hn : l.most = some 63) (hdf : d.params.defaults = [])
    (hY : ∀ (w : World) (h : Heap), YP w h → (K w.params).In h)
    (F : ∀ (w : World) (mg : Str → Option Value) (fa : Addr) (h : Heap), (K w.params).In h → h.Ns mainGlobals mg → mg d.name = some (.ref fa) →
      ∃ fd : FuncData, (∀ (s : Shared) (u : Value), BindsTo s fd ⟨[u], []⟩ [("script", u)]) ∧ ∀ base : Heap, (K w.params).In base → base.Ns mainGlobals mg → FnOk l.prog w (K w.params) mg base CX0 11 fa fd ["script"] (spLaw (K w.params))) :
    PySem.W.WalkO q loose XP YP l.row.toRowW d [] (fun f vs => PySem.call f vs) :=
  L2.walk_of (n := 63) (k := 11) (x := "script") (CX := fun _ => CX0) (sp := fun w => spLaw (K w.params)) hn (by decide) hdf ⟨rfl, by decide, by decide⟩ hY F
    (fun _ _ a ns hl _ hS => ⟨a, ns, rfl, hS, hl, fun _ => rfl⟩) fun _ _ _ _ _ z => z
end L2.U
open PySem PySem.W PyProof.Rows
set_option maxRecDepth 100000 in
set_option maxHeartbeats 0 in
theorem PySem.Challenge.cw_upforgood_k01_arrangements_and_even_part_holds : PySem.Challenge.rw_upforgood_k01_arrangements_and_even_part.Holds := by
  w_on; o_law; k_head; (case hw => w_witness2)
  k_fill
  refine L2.U.walk (l := PySem.Challenge.rw_upforgood_k01_arrangements_and_even_part) rfl rfl (fun w h Y => PySem.W.kIn_of Y) ?F
  case F =>
    intro w mg fa h KX G hmg
    refine' L2.U.all_mk KX G hmg ?a1 ?l1 ?c1 ?k1 ?a2 ?l2 ?c2 ?k2 ?a3 ?l3 ?c3 ?k3 ?a4 ?l4 ?c4 ?k4 ?a5 ?l5 ?c5 ?k5 ?a6 ?l6 ?c6 ?k6 ?a7 ?l7 ?c7 ?k7 ?a8 ?l8 ?c8 ?k8 ?a9 ?l9 ?c9 ?k9 ?a10 ?l10 ?c10 ?k10 ?a11 ?l11 ?c11 ?k11 ?a12 ?l12 ?c12 ?k12 ?a13 ?l13 ?c13 ?k13 ?a14 ?l14 ?c14 ?k14 ?a15 ?l15 ?c15 ?k15 ?a16 ?l16 ?c16 ?k16 ?a17 ?l17 ?c17 ?k17 ?a18 ?l18 ?c18 ?k18 ?a19 ?l19 ?c19 ?k19 ?a20 ?l20 ?c20 ?k20 ?a21 ?l21 ?c21 ?k21 ?a22 ?l22 ?c22 ?k22 ?a23 ?l23 ?c23 ?k23 ?a24 ?l24 ?c24 ?k24 ?z_int ?z_bool ?z_str ?z_list ?z_tuple ?z_len ?z_sum ?z_abs ?z_all ?z_range ?z_isinstance ?z_min ?z_max ?c_HIGHEST ?c_comb ?aCT ?aCInvalidNumber ?xLInvalidNumber ?saInvalidNumber ?gaInvalidNumber ?ggInvalidNumber ?nbInvalidNumber ?iCInvalidNumber ?tIInvalidNumber ?lIInvalidNumber ?cIInvalidNumber ?kIInvalidNumber ?kCInvalidNumber ?eCInvalidNumber ?tCInvalidNumber ?hCInvalidNumber ?iSInvalidNumber ?aCInvalidMany ?xLInvalidMany ?saInvalidMany ?gaInvalidMany ?ggInvalidMany ?nbInvalidMany ?iCInvalidMany ?tIInvalidMany ?lIInvalidMany ?cIInvalidMany ?kIInvalidMany ?kCInvalidMany ?eCInvalidMany ?tCInvalidMany ?hCInvalidMany ?iSInvalidMany ?aCInvalidParts ?xLInvalidParts ?saInvalidParts ?gaInvalidParts ?ggInvalidParts ?nbInvalidParts ?iCInvalidParts ?tIInvalidParts ?lIInvalidParts ?cIInvalidParts ?kIInvalidParts ?kCInvalidParts ?eCInvalidParts ?tCInvalidParts ?hCInvalidParts ?iSInvalidParts ?eNN ?eMN ?eMM ?ePN ?ePM ?ePP
    (case a1 => k_is)
    (case l1 => k_is)
    (case c1 => k_is)
    (case k1 => k_is)
    (case a2 => k_is)
    (case l2 => k_is)
    (case c2 => k_is)
    (case k2 => k_is)
    (case a3 => k_is)
    (case l3 => k_is)
    (case c3 => k_is)
    (case k3 => k_is)
    (case a4 => k_is)
    (case l4 => k_is)
    (case c4 => k_is)
    (case k4 => k_is)
    (case a5 => k_is)
    (case l5 => k_is)
    (case c5 => k_is)
    (case k5 => k_is)
    (case a6 => k_is)
    (case l6 => k_is)
    (case c6 => k_is)
    (case k6 => k_is)
    (case a7 => k_is)
    (case l7 => k_is)
    (case c7 => k_is)
    (case k7 => k_is)
    (case a8 => k_is)
    (case l8 => k_is)
    (case c8 => k_is)
    (case k8 => k_is)
    (case a9 => k_is)
    (case l9 => k_is)
    (case c9 => k_is)
    (case k9 => k_is)
    (case a10 => k_is)
    (case l10 => k_is)
    (case c10 => k_is)
    (case k10 => k_is)
    (case a11 => k_is)
    (case l11 => k_is)
    (case c11 => k_is)
    (case k11 => k_is)
    (case a12 => k_is)
    (case l12 => k_is)
    (case c12 => k_is)
    (case k12 => k_is)
    (case a13 => k_is)
    (case l13 => k_is)
    (case c13 => k_is)
    (case k13 => k_is)
    (case a14 => k_is)
    (case l14 => k_is)
    (case c14 => k_is)
    (case k14 => k_is)
    (case a15 => k_is)
    (case l15 => k_is)
    (case c15 => k_is)
    (case k15 => k_is)
    (case a16 => k_is)
    (case l16 => k_is)
    (case c16 => k_is)
    (case k16 => k_is)
    (case a17 => k_is)
    (case l17 => k_is)
    (case c17 => k_is)
    (case k17 => k_is)
    (case a18 => k_is)
    (case l18 => k_is)
    (case c18 => k_is)
    (case k18 => k_is)
    (case a19 => k_is)
    (case l19 => k_is)
    (case c19 => k_is)
    (case k19 => k_is)
    (case a20 => k_is)
    (case l20 => k_is)
    (case c20 => k_is)
    (case k20 => k_is)
    (case a21 => k_is)
    (case l21 => k_is)
    (case c21 => k_is)
    (case k21 => k_is)
    (case a22 => k_is)
    (case l22 => k_is)
    (case c22 => k_is)
    (case k22 => k_is)
    (case a23 => k_is)
    (case l23 => k_is)
    (case c23 => k_is)
    (case k23 => k_is)
    (case a24 => k_is)
    (case l24 => k_is)
    (case c24 => k_is)
    (case k24 => k_is)
    (case z_int => k_is)
    (case z_bool => k_is)
    (case z_str => k_is)
    (case z_list => k_is)
    (case z_tuple => k_is)
    (case z_len => k_is)
    (case z_sum => k_is)
    (case z_abs => k_is)
    (case z_all => k_is)
    (case z_range => k_is)
    (case z_isinstance => k_is)
    (case z_min => k_is)
    (case z_max => k_is)
    (case c_HIGHEST => k_is)
    (case c_comb => k_is)
    (case aCT => k_is)
    (case aCInvalidNumber => k_is)
    (case xLInvalidNumber => k_is)
    (case saInvalidNumber => k_is)
    (case gaInvalidNumber => k_is)
    (case ggInvalidNumber => k_is)
    (case nbInvalidNumber => k_is)
    (case iCInvalidNumber => k_is)
    (case tIInvalidNumber => k_is)
    (case lIInvalidNumber => k_is)
    (case cIInvalidNumber => k_is)
    (case kIInvalidNumber => k_is)
    (case kCInvalidNumber => k_is)
    (case eCInvalidNumber => k_is)
    (case tCInvalidNumber => k_is)
    (case hCInvalidNumber => k_is)
    (case iSInvalidNumber => k_is)
    (case aCInvalidMany => k_is)
    (case xLInvalidMany => k_is)
    (case saInvalidMany => k_is)
    (case gaInvalidMany => k_is)
    (case ggInvalidMany => k_is)
    (case nbInvalidMany => k_is)
    (case iCInvalidMany => k_is)
    (case tIInvalidMany => k_is)
    (case lIInvalidMany => k_is)
    (case cIInvalidMany => k_is)
    (case kIInvalidMany => k_is)
    (case kCInvalidMany => k_is)
    (case eCInvalidMany => k_is)
    (case tCInvalidMany => k_is)
    (case hCInvalidMany => k_is)
    (case iSInvalidMany => k_is)
    (case aCInvalidParts => k_is)
    (case xLInvalidParts => k_is)
    (case saInvalidParts => k_is)
    (case gaInvalidParts => k_is)
    (case ggInvalidParts => k_is)
    (case nbInvalidParts => k_is)
    (case iCInvalidParts => k_is)
    (case tIInvalidParts => k_is)
    (case lIInvalidParts => k_is)
    (case cIInvalidParts => k_is)
    (case kIInvalidParts => k_is)
    (case kCInvalidParts => k_is)
    (case eCInvalidParts => k_is)
    (case tCInvalidParts => k_is)
    (case hCInvalidParts => k_is)
    (case iSInvalidParts => k_is)
    (case eNN => first | rfl | k_is)
    (case eMN => first | rfl | k_is)
    (case eMM => first | rfl | k_is)
    (case ePN => first | rfl | k_is)
    (case ePM => first | rfl | k_is)
    (case ePP => first | rfl | k_is)

