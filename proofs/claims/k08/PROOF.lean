import PyProof.Rows.All
import Wide.All
import OpenK.AllK
import Wide.FinOn
import HandS.ForMost
import HandS.ForExc
import HandS.ExcInit
import HandS.ExcField
import HandS.TryMany
import HandS.IsInst
import HandS.Gcd
import HandS.Wide
import HandS.TupMul
import HandS.TupAny
import HandS.TupLe
import HandS.Deep
import HandS.Flow
import HandS.Defaults
import HandS.Evl
import HandS.More
import KE.KMathGC
import KE.KTupSum
import HandS.Sort
import HandS.MakeKwOnly
import HandS.Strs
import PyProof.Rows.SetFrom
import HandS.TryOnly
import HandS.Style
import PySem.Challenge.RW_upforgood_k08_specs_doors_and_copies
set_option Elab.async false
set_option linter.all false
set_option maxRecDepth 100000
set_option maxHeartbeats 4000000
namespace L2.U
open PySem PySem.Spec PyProof.Rows Evl

/-! ## several except clauses, each with a name or without one -/
structure Clause where
  cls : Value
  slot : Option Nat
  rd : Addr → Value → Option Addr → TS
def afterC : Option Nat → Ends → Ends
  | none, D => D
  | some i, D => ⟨fun s h => D.nx (s.set i none) h, D.rt, fun s h => D.bk (s.set i none) h, fun s h => D.ct (s.set i none) h⟩
def holdC : Option Nat → Addr → St → St
  | none, _, s => s
  | some i, a, s => s.set i (some (.ref a))
def wishC (K : PySem.W.Frag) (Wo : WX) (D : Ends) : List Clause → WX
  | [] => Wo
  | c :: r => fun cls d s h => ∃ b, PySem.W.exmOne K cls c.cls = some b ∧
      (b = true → ∀ a, h a = none → c.rd a cls d (afterC c.slot D) (holdC c.slot a s) h) ∧ (b = false → wishC K Wo D r cls d s h)
abbrev SuiteOk (X : Cx) (body : List Stmt) (rd : Addr → Value → Option Addr → TS) : Prop :=
  ∀ (a : Addr) (o : Obj) (cls : Value) (d : Option Addr) (pn : List (Addr × Obj)), Zc cls d o → (∃ vs, o.data = .fields vs) → PSs (X.suite a ((a, o) :: pn)) body (rd a cls d)
inductive ClauseOk (X : Cx) : ExceptHandler → Clause → Prop
  | bare {x : Str} {c : Value} {rd} {b0 : Stmt} {su : List Stmt} {np p : Pos} (hc : Names X x c) (hs : SuiteOk X (b0 :: su) rd) :
      ClauseOk X (.ExceptHandler (some (.Name x np)) none (b0 :: su) p) ⟨c, none, rd⟩
  | named {x n : Str} {i : Nat} {c : Value} {rd} {b0 : Stmt} {su : List Stmt} {np p : Pos} (hN : X.N.Nodup) (hi : X.N[i]? = some n)
      (hl : X.env.kindOf n = some .local) (hc : Names X x c) (hs : SuiteOk X (b0 :: su) rd) :
      ClauseOk X (.ExceptHandler (some (.Name x np)) (some n) (b0 :: su) p) ⟨c, some i, rd⟩
inductive ClausesOk (X : Cx) : List ExceptHandler → List Clause → Prop
  | nil : ClausesOk X [] []
  | cons {h c hs cs} (a : ClauseOk X h c) (r : ClausesOk X hs cs) : ClausesOk X (h :: hs) (c :: cs)
section
variable {X : Cx} {body : List Stmt} {h0 : ExceptHandler} {hds : List ExceptHandler} {cs : List Clause} {pos : Pos} {tb : WX → TS} {Wo : WX}
theorem ps_tryC (hs : X.stack = X.env :: X.outer) (hf : X.env.frame = some X.env.locals) (tk : Takes X Wo)
    (hb : ∀ (W : WX) (pn : List (Addr × Obj)) (xe : Value → Shared → Prop), Takes (X.tr pn xe) W → PassesOwn (model X.prog X.w) X.A X.env xe → PSs (X.tr pn xe) body (tb W))
    (hh : ClausesOk X (h0 :: hds) cs) : PS X (.Try body (h0 :: hds) [] [] pos) (fun D s h => tb (wishC X.K Wo D cs) D s h) := by
  constructor
  intro pins s σ H D I h
  have ok := I.ok
  have frames : X.A.frames = some (X.env :: X.outer) := by rw [ok.frames, hs]
  refine wpAny_Try_except ?_
  let caught : Value → Shared → Prop := fun e s1 =>
    wpAny (model X.prog X.w) X.A (noteFrame e X.env) (fun _ s2 => wpAny (model X.prog X.w) X.A (setFlight e none)
      (fun _ s3 => wpAny (model X.prog X.w) X.A (handleBy e X.env (h0 :: hds)) (SP X pins D) X.xe s3) X.xe s2) X.xe s1
  have takesB : Takes (X.tr (X.pn ++ pins) caught) (wishC X.K Wo D cs) := by
    rintro u s' ⟨a, B, sI, pins', σ', H', cls, d, rfl, J0, nb, up, sky, na, os, ag, w⟩
    have J : Inv X pins σ' H' sI := J0.ofTry ok
    have sky1 : Sky B (X.env :: X.outer) a (Zc cls d) X.env.locals s'.heap := hs ▸ sky
    show wpAny _ X.A (noteFrame (.ref a) X.env) _ _ _
    refine Sky.land Zc.steady frames hf sky1 fun h3 fl up3 => ?_
    have J3 : Inv X pins σ' H' { s' with heap := h3 } := J.landed nb fl.1 (up.trans up3) os ag
    obtain ⟨o3, v3, g3, z3, d3⟩ := fl.there
    have out : a ∉ frs (X.env :: X.outer) := by
      intro hm
      obtain ⟨_, o', e', no⟩ := fl.2.2.1.mem hm
      rw [g3] at e'
      cases e'
      exact no _ d3
    have nL : a ≠ X.env.locals := by
      intro z
      exact out (List.mem_filterMap.mpr ⟨X.env, List.mem_cons_self, z ▸ hf⟩)
    have nF : a ∉ X.fs := by
      intro hm
      obtain ⟨e, he, q⟩ := List.mem_filterMap.mp hm
      exact out (List.mem_filterMap.mpr ⟨e, List.mem_cons_of_mem _ he, q⟩)
    have S3 := J3.suite g3 d3 na nL nF
    have ty : PySem.W.Looks (model X.prog X.w) h3 (typeOf (.ref a)) cls := fun A Q E t k q => wpAny_typeOf_ref (k _ _ g3) (by rw [z3.1]; exact q)
    have asked : ∀ {x : Str} {c : Value} {np : Pos} {Q E : Value → Shared → Prop}, Names X x c → Q c { s' with heap := h3 } →
        wpAny (model X.prog X.w) (X.A.mark (some (.ref a))) (eval (.Name x np) X.env) Q E { s' with heap := h3 } := by
      rintro x c np Q E ⟨hg, hd, hm | ⟨hm, hv, hn⟩⟩ q
      · exact ld_glob (X := X.suite a ((a, o3) :: (X.pn ++ pins))) S3 hg hm q hd
      · exact ld_blt (X := X.suite a ((a, o3) :: (X.pn ++ pins))) S3 hg hm hv q hn hd
    have run : ∀ {l : List ExceptHandler} {k : List Clause}, ClausesOk X l k → wishC X.K Wo D k cls d σ' H' →
        wpAny (model X.prog X.w) X.A (handleBy (.ref a) X.env l) (SP X pins D) X.xe { s' with heap := h3 } := by
      intro l k hk
      induction hk with
      | nil =>
        intro w
        refine wpAny_handleBy_nil ?_
        obtain ⟨_, _, _, oe, vs, T, oT, ts, he, _, hd, h1, _⟩ := id fl
        unfold PySem.passOn
        refine wpAny_bind (wpAny_field he hd h1 ?_)
        rw [if_neg (by simp : ¬ ((Value.ref T == Value.none) = true))]
        have up : wpAny (model X.prog X.w) X.A (setFlight (.ref a) X.env.frame)
            (fun _ t => wpAny (model X.prog X.w) X.A (throw (.ref a) : Sem Flow) (SP X pins D) X.xe t) X.xe { s' with heap := h3 } := by
          rw [hf]
          refine HandSPX.setFlight_upZ fl fun h4 hh4 up4 => wpAny_throw (tk _ _ ?_)
          refine ⟨a, B, sI, pins, σ', H', cls, d, rfl, J, nb, (up.trans up3).trans up4, .inr (.inr ?_), na, os, ag, w⟩
          rw [hs]
          exact hh4
        first
          | exact wpAny_bind (wpAny_pure (wpAny_bind up))
          | exact wpAny_bind up
      | @cons h1 c hs1 cs1 hc1 _ ih =>
        rintro ⟨b, mb, yes, no⟩
        have LM := PySem.W.exm_one (M := model X.prog X.w) J3.kIn ty mb
        cases hc1 with
        | @bare x c rd b0 su np p hc hsu =>
          refine wpAny_handleBy_cons (codeAny_handlers_test ?_) (by intro q; cases q)
          refine asked hc (LM.here ?_)
          cases b with
          | false => exact ih (no rfl)
          | true =>
            refine codeAny_handlers_suite (HandSPX.lands_againZ fl fun h4 fl4 up4 => ?_)
            have J4 : Inv X pins σ' H' { s' with heap := h4 } := J.landed nb fl4.1 ((up.trans up3).trans up4) os ag
            obtain ⟨o4, v4, g4, z4, d4⟩ := fl4.there
            refine wpAny_mono ((hsu a o4 cls d (X.pn ++ pins) z4 ⟨_, d4⟩).run [] _ _ H' _ (J4.suite g4 d4 na nL nF) (yes rfl a na)) ?_ (fun _ _ z => False.elim z)
            intro f s6 sp
            cases f with
            | ret u => obtain ⟨v6, σ6, H6, S6, r6, q6⟩ := sp; exact ⟨_, _, _, S6.unsuite ok, r6, q6⟩
            | next => obtain ⟨σ6, H6, S6, q6⟩ := sp; exact ⟨_, _, S6.unsuite ok, q6⟩
            | brk => obtain ⟨σ6, H6, S6, q6⟩ := sp; exact ⟨_, _, S6.unsuite ok, q6⟩
            | cont => obtain ⟨σ6, H6, S6, q6⟩ := sp; exact ⟨_, _, S6.unsuite ok, q6⟩
        | @named x n i c rd b0 su np p hN hi hl hc hsu =>
          refine wpAny_handleBy_cons (codeAny_handlers_test ?_) (by intro q; cases q)
          refine asked hc (LM.here ?_)
          cases b with
          | false => exact ih (no rfl)
          | true =>
            refine codeAny_handlers_suite_as (HandSPX.lands_againZ fl fun h4 fl4 up4 => ?_)
            have J4 : Inv X pins σ' H' { s' with heap := h4 } := J.landed nb fl4.1 ((up.trans up3).trans up4) os ag
            obtain ⟨o4, v4, g4, z4, d4⟩ := fl4.there
            refine store_ok (X := X.suite a ((a, o4) :: (X.pn ++ pins))) (v := .ref a) (J4.suite g4 d4 na nL nF) hN hi (.inl hl) rfl (fun s5 S5 => ?_) (.inr hl)
            refine wpAny_mono ((hsu a o4 cls d (X.pn ++ pins) z4 ⟨_, d4⟩).run [] s5 _ H' _ S5 (yes rfl a na)) ?_ (fun _ _ z => False.elim z)
            intro f s6 sp
            have gone : ∀ {σ6 : St} {H6 : Hp} {Q : Shared → Prop}, Inv (X.suite a ((a, o4) :: (X.pn ++ pins))) [] σ6 H6 s6 → (∀ t, Inv X pins (σ6.set i none) H6 t → Q t) →
                wpAny (model X.prog X.w) X.A (do bindName X.env n .none; unbindBehindTheSuite X.env n p) (fun _ t => Q t) X.xe s6 := fun S6 hq => gone_ok (S6.unsuite ok) hN hi hl hq
            cases f with
            | ret u => obtain ⟨v6, σ6, H6, S6, r6, q6⟩ := sp; exact gone S6 fun t J7 => ⟨_, _, _, J7, r6, q6⟩
            | next => obtain ⟨σ6, H6, S6, q6⟩ := sp; exact gone S6 fun t J7 => ⟨_, _, J7, q6⟩
            | brk => obtain ⟨σ6, H6, S6, q6⟩ := sp; exact gone S6 fun t J7 => ⟨_, _, J7, q6⟩
            | cont => obtain ⟨σ6, H6, S6, q6⟩ := sp; exact gone S6 fun t J7 => ⟨_, _, J7, q6⟩
    exact run hh w
  refine wpAny_mono ((hb (wishC X.K Wo D cs) (X.pn ++ pins) caught takesB PassesOwn.looking).run [] s σ H D (I.toTry _) h) ?_ (fun e s1 he => he)
  intro f s1 sp
  cases f with
  | ret u => obtain ⟨v, σ', H', J', r, q⟩ := sp; exact ⟨v, σ', H', J'.ofTry ok, r, q⟩
  | next => obtain ⟨σ', H', J', q⟩ := sp; exact wpAny_execs_nil ⟨σ', H', J'.ofTry ok, q⟩
  | brk => obtain ⟨σ', H', J', q⟩ := sp; exact ⟨σ', H', J'.ofTry ok, q⟩
  | cont => obtain ⟨σ', H', J', q⟩ := sp; exact ⟨σ', H', J'.ofTry ok, q⟩
end

/-! ## f(k = v, ..): keywords alone -/
def tCallKw (sp : Sp) (pm : List V → List V) (E : St → XK) (tk : TA) : TE := fun σ H Q => tk σ H fun zs H1 => sp (pm zs) H1 Q (E σ)
section
variable {X : Cx} {CX : CXT} {k : Nat} {f : Addr} {fd : FuncData} {ps ks : List Str} {sp : Sp} {E : St → XK} {x : Str} {p pos : Pos} {kws : List Keyword} {tk : TA}
  {g : List Value → List Value → List Value} {gV : List V → List V → List V}
theorem pe_callKw (F : FnOk X.prog X.w X.K X.mg X.base CX k f fd ps sp) (hr : Room k X.A) (hg : Gl X x) (hm : X.mg x = some (.ref f)) (hk : PySem.W.keepIn X.K (.ref f) = true)
    (hb : KBinds X.K fd ps ks g gV) (hx : ∀ σ, PassesAt CX X σ (E σ)) (hkw : PK X kws tk)
    (hall : (backToKw pos (keywordEach kws X.env)).all (·.1.isSome) = true := by rfl) (hks : (backToKw pos (keywordEach kws X.env)).filterMap (·.1) = ks := by rfl)
    (hdb : (x == ("__debug__" : Str)) = false := by decide)
    (hpl : ((backTo pos (starEach [] X.env)).any (·.1) || (backToKw pos (keywordEach kws X.env)).any (·.1.isNone)) = false := by rfl) :
    PE X (.Call (.Name x p) [] kws pos) (tCallKw sp (gV []) E tk) := by
  constructor
  intro pins s σ H Q I h
  refine wpAny_Call_Name_kw (ld_glob I hg hm ?_ hdb)
  refine PySem.W.callWith_KW0 (h₀ := X.base) I.ok.mod.kin hk hall (thn (hkw.run pos pins s σ H _ I h) ?_) hpl
  rintro ws s2 ⟨zs, H2, I2, rz, q2⟩
  refine ⟨I2.kIn, ?_⟩
  rw [hks]
  have r2 : Vals (gV [] zs) (g [] ws) := hb.rel .nil rz
  have hl : (g [] ws).length = ps.length := by rw [← r2.length]; exact F.len _ _ _ _ q2
  refine wpAny_call (codeAny_mono (F.run X.A X.stack s2 H2 ⟨[], ks.zip ws⟩ (g [] ws) (gV [] zs) Q (E σ) hr I2.env0 (hb.to s2 [] ws I2.kIn hl) r2 q2) ?_)
  intro r s' hq
  cases r with
  | error e => exact hx σ pins H2 s2 e s' I2 hq
  | ok fl => cases fl with
    | ret u => exact I2.after hq
    | next => exact False.elim hq
    | brk => exact False.elim hq
    | cont => exact False.elim hq
end

/-! ## math.comb, and tuple * int with few turns -/
section
variable {X : Cx}
def rComb : List V → Hp → VK → Prop := fun vs H Q => ∃ a b : Int, vs = [.int a, .int b] ∧ 0 ≤ a ∧ a ≤ 1000 ∧ 0 ≤ b ∧ b ≤ 1000 ∧ Q (.int (PySem.W.mcComb a b)) H
theorem cr_comb : CallR X (.builtin "math.comb") rComb := by
  intro pins s σ H vs us Q I r h
  obtain ⟨a, b, rfl, h1, h2, h3, h4, q⟩ := h
  obtain ⟨u1, u2, rfl, r1, r2⟩ := vals2 r
  obtain ⟨t, rfl⟩ := r1
  obtain ⟨u, rfl⟩ := r2
  exact PySem.W.mc_comb h1 h3 (by omega) (by omega) fun _ => ⟨.int _, H, I.tok _, ⟨_, rfl⟩, q⟩
end

/-! ## sum of a list or a tuple of ints; x *= y of great ints; a for over a list or a tuple -/
section
variable {X : Cx}
def rSumS (K : PySem.W.Frag) : List V → Hp → VK → Prop := fun vs H Q => ∃ (a : Addr) (ns : List Int), vs = [V.ref a] ∧ (SqL K H a (ns.map V.int) ∨ SqT K H a (ns.map V.int)) ∧ Q (.int ns.sum) H
theorem cr_sumS (hc : X.calm = true) : CallR X (.builtin "sum") (rSumS X.K) := by
  intro pins s σ H vs us Q I r h
  obtain ⟨a, ns, e, hs | hs, q⟩ := h
  · exact cr_sum hc pins s σ H vs us Q I r ⟨a, ns, e, hs, q⟩
  · subst e
    obtain ⟨its, rv, hl, _⟩ := I.tuple hs
    rw [Vals.ref1 r]
    have hi := rv.ints
    have hl2 : s.heap.IsTuple a its.toArray := hl
    obtain ⟨xs, ex⟩ := hi.allInts.items
    have hn : numsOf (intItems xs).toList = ns := by rw [← ex]; exact hi.numsOf
    rw [nums_intItems] at hn
    rw [ex] at hl2
    refine PySem.W.ktm_sumG (I.ok.hd hc) hl2 fun h' tk t' hk => ?_
    rw [preSum_eq, List.take_of_length_le (by simp), hn]
    exact ⟨.int _, H, I.kept hk, ⟨_, rfl⟩, q⟩
theorem ip_mulC : PIp X .Mult (fun x y H Q => ∃ i j, x = .int i ∧ y = .int j ∧ CMul i j ∧ Q (.int (i * j)) H) := by
  intro pins s σ H x y v u Q I r1 r2 h
  obtain ⟨i, j, rfl, rfl, hc, q⟩ := h
  obtain ⟨t, rfl⟩ := r1
  obtain ⟨t', rfl⟩ := r2
  exact imul_int ⟨.int _, H, I.tok _, ⟨_, rfl⟩, q⟩ hc.ok
def iSeq (K : PySem.W.Frag) (tl : TE) : TI := fun σ H R => iList K tl σ H R ∨ iTup K tl σ H R
theorem pi_seq {tg l : Expr} {tl : TE} (hl : PE X l tl) : PI X tg l (iSeq X.K tl) := by
  constructor
  intro pins s σ H R I h
  rcases h with h | h
  · exact (pi_list hl).run pins s σ H R I h
  · exact (pi_tup hl).run pins s σ H R I h
end

/-! ## how keywords bind -/
def kw1 {α : Type} : List α → List α → List α
  | [], [a] => [a]
  | _, _ => []
def kw12 {α : Type} : List α → List α → List α
  | [], [a, b] => [a, b]
  | _, _ => []
def kw21 {α : Type} : List α → List α → List α
  | [], [a, b] => [b, a]
  | _, _ => []
theorem kw1_rel {vs : List V} {us : List Value} {zs : List V} {ws : List Value} (r : Vals vs us) (t : Vals zs ws) : Vals (kw1 vs zs) (kw1 us ws) := by
  cases r with
  | cons _ _ => exact .nil
  | nil => cases t with
    | nil => exact .nil
    | cons a t => cases t with
      | nil => exact .cons a .nil
      | cons _ _ => exact .nil
theorem kw12_rel {vs : List V} {us : List Value} {zs : List V} {ws : List Value} (r : Vals vs us) (t : Vals zs ws) : Vals (kw12 vs zs) (kw12 us ws) := by
  cases r with
  | cons _ _ => exact .nil
  | nil => cases t with
    | nil => exact .nil
    | cons a t => cases t with
      | nil => exact .nil
      | cons b t => cases t with
        | nil => exact .cons a (.cons b .nil)
        | cons _ _ => exact .nil
theorem kw21_rel {vs : List V} {us : List Value} {zs : List V} {ws : List Value} (r : Vals vs us) (t : Vals zs ws) : Vals (kw21 vs zs) (kw21 us ws) := by
  cases r with
  | cons _ _ => exact .nil
  | nil => cases t with
    | nil => exact .nil
    | cons a t => cases t with
      | nil => exact .nil
      | cons b t => cases t with
        | nil => exact .cons b (.cons a .nil)
        | cons _ _ => exact .nil
theorem kb1 {K : PySem.W.Frag} {x qual : Str} {st : Stmt} {f : Addr} {fd : FuncData} {p k : Str} (F : Fun K x qual st f fd)
    (h : ∀ (kV doc pm : Value) (an : Option Addr) (cdv ct : Value) (u : Value), bindArgs (PySem.W.fnOf x qual (defArgs st) (defBody st) (defScope st) .none kV doc pm an cdv ct) ⟨[], [(k, u)]⟩ = pure [(p, u)]) : KBinds K fd [p] [k] kw1 kw1 := by
  obtain ⟨oc, od, kV, doc, pm, an, cdv, ct, osl, rfl, lk, hcd⟩ := F.ex
  refine ⟨fun s us ws _ hl => ?_, kw1_rel⟩
  match us, ws, hl with
  | [], [u], _ => exact .of_eq (h kV doc pm an cdv ct u)
theorem kb12 {K : PySem.W.Frag} {x qual : Str} {st : Stmt} {f : Addr} {fd : FuncData} {p q k l : Str} (F : Fun K x qual st f fd)
    (h : ∀ (kV doc pm : Value) (an : Option Addr) (cdv ct : Value) (u w : Value), bindArgs (PySem.W.fnOf x qual (defArgs st) (defBody st) (defScope st) .none kV doc pm an cdv ct) ⟨[], [(k, u), (l, w)]⟩ = pure [(p, u), (q, w)]) : KBinds K fd [p, q] [k, l] kw12 kw12 := by
  obtain ⟨oc, od, kV, doc, pm, an, cdv, ct, osl, rfl, lk, hcd⟩ := F.ex
  refine ⟨fun s us ws _ hl => ?_, kw12_rel⟩
  match us, ws, hl with
  | [], [u, w], _ => exact .of_eq (h kV doc pm an cdv ct u w)
theorem kb21 {K : PySem.W.Frag} {x qual : Str} {st : Stmt} {f : Addr} {fd : FuncData} {p q k l : Str} (F : Fun K x qual st f fd)
    (h : ∀ (kV doc pm : Value) (an : Option Addr) (cdv ct : Value) (u w : Value), bindArgs (PySem.W.fnOf x qual (defArgs st) (defBody st) (defScope st) .none kV doc pm an cdv ct) ⟨[], [(k, u), (l, w)]⟩ = pure [(p, w), (q, u)]) : KBinds K fd [p, q] [k, l] kw21 kw21 := by
  obtain ⟨oc, od, kV, doc, pm, an, cdv, ct, osl, rfl, lk, hcd⟩ := F.ex
  refine ⟨fun s us ws _ hl => ?_, kw21_rel⟩
  match us, ws, hl with
  | [], [u, w], _ => exact .of_eq (h kV doc pm an cdv ct u w)

/-! ## tuple * int -/
theorem tmul0 (l : Addr) (items : Array Value) (n : Nat) (dd : Option Addr) (sl : Array (Option Value)) (u : Tok) (hne : items.isEmpty = false) :
    Meets (Builtin.«tuple.__mul__» ⟨[.ref l, .int 0 u], []⟩) (fun _ R s => s.heap.get? l = some { cls := .type "tuple", dict := dd, data := .seq items n, slots := sl } ∧
      R (.ok (.ret (Value.ref s.heap.objs.size))) { s with heap := s.heap.push { cls := Value.type "tuple", data := Data.seq #[] } }) :=
  .of_wp fun prog w A R s h => by
    obtain ⟨hp, g, d, tk, os⟩ := s
    obtain ⟨hl, h⟩ := h
    have f1 := AutoSeq1.idx_int
    have c1 : (items.isEmpty || (0 : Int) == 1) = false := by rw [hne]; rfl
    wp_walk using wpAny_loadPart' hl
    exact ⟨_, rfl, h⟩
theorem tmul1 (l : Addr) (items : Array Value) (n : Nat) (dd : Option Addr) (sl : Array (Option Value)) (u : Tok) (hne : items.isEmpty = false) :
    Meets (Builtin.«tuple.__mul__» ⟨[.ref l, .int 1 u], []⟩) (fun _ R s => s.heap.get? l = some { cls := .type "tuple", dict := dd, data := .seq items n, slots := sl } ∧
      R (.ok (.ret (Value.ref l))) s) :=
  .of_wp fun prog w A R s h => by
    obtain ⟨hp, g, d, tk, os⟩ := s
    obtain ⟨hl, h⟩ := h
    have f1 := AutoSeq1.idx_int
    wp_walk using wpAny_loadPart' hl
    exact ⟨_, rfl, h⟩

def rRepA (K : PySem.W.Frag) : R2 := fun x y H Q => ∃ (l : Addr) (k : Int) (xs : List V), x = .ref l ∧ y = .int k ∧ SqT K H l xs ∧ xs ≠ [] ∧ 0 ≤ k ∧ k ≤ 1000 ∧ xs.length ≤ 1000 ∧
  ∀ p H', Ex H H' → SqT K H' p (List.replicate k.toNat xs).flatten → Q (.ref p) H'
theorem op_repA {X : Cx} : OpR X (binaryOp .Mult) (rRepA X.K) := by
  intro pins s σ H x y v u Q I rx ry h
  obtain ⟨l, k, xs, rfl, rfl, hT, hne, h0, h1, hz, q⟩ := h
  by_cases h2 : 2 ≤ k
  · exact op_repT pins s σ H (.ref l) (.int k) v u Q I rx ry ⟨l, k, xs, rfl, rfl, hT, hne, h2, h1, hz, fun p hp => q p _ (Ex.new hp) (st_of upd_same)⟩
  · cases rx
    obtain ⟨t, rfl⟩ := ry
    obtain ⟨its, r, ⟨⟨cls, dd, data, sl⟩, ho, hc, n, hd⟩, hs⟩ := I.tuple hT
    simp only at hc hd
    subst hc hd
    have hle : its.length = xs.length := r.length.symm
    have hi : its.toArray.isEmpty = false := by
      cases its with
      | nil => exact absurd (List.eq_nil_of_length_eq_zero hle.symm) hne
      | cons a b => rfl
    rcases (by omega : k = 0 ∨ k = 1) with rfl | rfl
    · refine wpAny_binaryOp_repeat_ref (T := "tuple") (U := "int") (by decide) ⟨_, ho, rfl⟩ (fun s' => typeIs_int s' 0 t) noFill_tuple_mul F.fills_int_mul F.slot_int_rmul repeat_tuple F.slot_int_index.lookup
        (call_meets F.slot_int_rmul (typeIs_int s 0 t) F.entry_int_rmul (F.args_int_rmul_2 _ _) (int_rmul_tuple 0 t l its.toArray n dd sl)
          ⟨ho, rfl, ⟨_, ho, rfl⟩, call_meets F.slot_tuple_mul ⟨_, ho, rfl⟩ F.entry_tuple_mul (F.args_tuple_mul_2 _ _) (tmul0 l its.toArray n dd sl t hi) ⟨ho, ?_⟩⟩)
      refine ⟨.ref s.heap.objs.size, _, I.laid (t' := s.toks) (o := .tup []) (fun b ob e => Heap.get?_push_of_some _ e) (Nat.le_refl _) ?_, rfl, q _ _ (Ex.new (I.hok.fresh (Nat.le_refl _))) (st_of upd_same)⟩
      exact ⟨Nat.zero_le _, [], .nil, IsTup.new _ _⟩
    · refine wpAny_binaryOp_repeat_ref (T := "tuple") (U := "int") (by decide) ⟨_, ho, rfl⟩ (fun s' => typeIs_int s' 1 t) noFill_tuple_mul F.fills_int_mul F.slot_int_rmul repeat_tuple F.slot_int_index.lookup
        (call_meets F.slot_int_rmul (typeIs_int s 1 t) F.entry_int_rmul (F.args_int_rmul_2 _ _) (int_rmul_tuple 1 t l its.toArray n dd sl)
          ⟨ho, rfl, ⟨_, ho, rfl⟩, call_meets F.slot_tuple_mul ⟨_, ho, rfl⟩ F.entry_tuple_mul (F.args_tuple_mul_2 _ _) (tmul1 l its.toArray n dd sl t hi) ⟨ho, ?_⟩⟩)
      refine ⟨.ref l, H, I, rfl, q _ _ (Ex.refl H) ?_⟩
      have e : (List.replicate (Int.toNat 1) xs).flatten = xs := by simp
      rw [e]
      exact hT

/-! ## a def of the text, in one bundle -/
structure DefAt (K : PySem.W.Frag) (mg : Str → Option Value) (x : Str) (st : Stmt) (ps : List Str) where
  a : Addr
  fd : FuncData
  F : Fun K x x st a fd
  m : mg x = some (.ref a)
  b : Binds K fd ps []
theorem pass0At {X : Cx} {σ : St} : PassesAt CX0 X σ E0 := fun _ _ _ _ _ _ h => h.elim

/-! ## heaps: all but one object stands -/
def But (b : Addr) (H H' : Hp) : Prop := ∀ a o, a ≠ b → H a = some o → H' a = some o
theorem But.of {b : Addr} {H H' : Hp} (e : Ex H H') : But b H H' := fun a o _ h => e a o h
theorem But.trans {b : Addr} {H H1 H2 : Hp} (x : But b H H1) (y : But b H1 H2) : But b H H2 := fun a o n h => y a o n (x a o n h)
theorem But.ex {b : Addr} {H H1 H2 : Hp} (x : But b H H1) (y : Ex H1 H2) : But b H H2 := fun a o n h => y a o (x a o n h)
theorem But.pre {b : Addr} {H H1 H2 : Hp} (x : Ex H H1) (y : But b H1 H2) : But b H H2 := fun a o n h => y a o n (x a o h)
theorem But.upd {b : Addr} {H : Hp} {o : HO} : But b H (upd H b o) := fun a u n h => by rw [upd_ne n]; exact h
theorem But.none {b p : Addr} {H H' : Hp} {o : HO} (x : But b H H') (hb : H b = some o) (h : H' p = none) : p ≠ b → H p = none := fun n => by
  cases e : H p with
  | none => rfl
  | some u => rw [x p u n e] at h; cases h
theorem ne_new {H : Hp} {p b : Addr} {o : HO} (h : H p = none) (hb : H b = some o) : p ≠ b := fun e => by rw [e, hb] at h; cases h
/-- what is frozen or written stands whatever happens to b; a tracked list that is no b, too -/
theorem But.sql {K : PySem.W.Frag} {b a : Addr} {H H' : Hp} {xs : List V} (x : But b H H') (n : a ≠ b) (h : SqL K H a xs) : SqL K H' a xs := by
  rcases h with (h | ⟨o, h⟩) | h
  · exact .inl (.inl (x _ _ n h))
  · exact .inl (.inr ⟨o, x _ _ n h⟩)
  · exact .inr h
theorem But.sqt {K : PySem.W.Frag} {b a : Addr} {H H' : Hp} {xs : List V} (x : But b H H') (n : a ≠ b) (h : SqT K H a xs) : SqT K H' a xs := by
  rcases h with (h | ⟨o, h⟩) | h
  · exact .inl (.inl (x _ _ n h))
  · exact .inl (.inr ⟨o, x _ _ n h⟩)
  · exact .inr h

/-! ## the box of draws: digits, flag, seed, count; n draws are left -/
def BoxAt (H : Hp) (b : Addr) (n : Nat) : Prop := ∃ (d m c : Int) (f : Bool), H b = some (.lst [.int d, .bl f, .int m, .int c]) ∧ 0 ≤ d ∧ 0 ≤ m ∧ m < 2147483648 ∧ 0 ≤ c ∧ c + n ≤ 1000000
theorem BoxAt.some {H : Hp} {b : Addr} {n : Nat} (h : BoxAt H b n) : ∃ o, H b = some o := by
  obtain ⟨d, m, c, f, h, _⟩ := h
  exact ⟨_, h⟩
theorem BoxAt.le {H : Hp} {b : Addr} {n k : Nat} (h : BoxAt H b n) (l : k ≤ n) : BoxAt H b k := by
  obtain ⟨d, m, c, f, h, h1, h2, h3, h4, h5⟩ := h
  exact ⟨d, m, c, f, h, h1, h2, h3, h4, by omega⟩
theorem BoxAt.ex {H H' : Hp} {b : Addr} {n : Nat} (h : BoxAt H b n) (e : Ex H H') : BoxAt H' b n := by
  obtain ⟨d, m, c, f, h, r⟩ := h
  exact ⟨d, m, c, f, e _ _ h, r⟩
theorem BoxAt.ne {H : Hp} {b p : Addr} {n : Nat} (h : BoxAt H b n) (hp : H p = none) : p ≠ b := by
  obtain ⟨d, m, c, f, h, _⟩ := h
  exact ne_new hp h
def spCell (K : PySem.W.Frag) : Sp := fun vs H Q _ => ∃ (a : Addr) (ns : List Int) (k : Int), vs = [.ref a, .int k] ∧ SqL K H a (ns.map V.int) ∧ 0 ≤ k ∧ k ≤ 1000 ∧ ∀ (v : Int) H', Ex H H' → Q (.int v) H'
def spBox : Sp := fun vs H Q _ => ∃ g : Int, vs = [.int g] ∧ ∀ p H', H p = none → Ex H H' → BoxAt H' p 1000000 → Q (.ref p) H'
def spTake : Sp := fun vs H Q _ => ∃ (b : Addr) (m : Int) (n : Nat), vs = [.ref b, .int m] ∧ 0 < m ∧ m < 1073741824 ∧ BoxAt H b (n + 1) ∧
  ∀ r H', 0 ≤ r → r < m → BoxAt H' b n → But b H H' → Q (.int r) H'

/-! ## types of data -/
theorem tyL {K : PySem.W.Frag} {H : Hp} {a : Addr} {xs : List V} (h : SqL K H a xs) : TyX K H (.ref a) (.type "list") := by
  rcases h with (h | ⟨o, h⟩) | ⟨o, its, n, hk, hc, _⟩
  · exact .base (.lst h)
  · exact .base (.frz h)
  · exact .kList hk hc
theorem tyT {K : PySem.W.Frag} {H : Hp} {a : Addr} {xs : List V} (h : SqT K H a xs) : TyX K H (.ref a) (.type "tuple") := by
  rcases h with (h | ⟨o, h⟩) | ⟨o, its, n, hk, hc, _⟩
  · exact .base (.tup h)
  · exact .fTuple h
  · exact .kTuple hk hc
/-- two values that hold the same, at most n lists and tuples within one another -/
inductive Sm (K : PySem.W.Frag) (H : Hp) : Nat → V → V → Prop
  | non {n} : Sm K H n .non .non
  | bl {n} (b : Bool) : Sm K H n (.bl b) (.bl b)
  | int {n} (i : Int) : Sm K H n (.int i) (.int i)
  | str {n} (z : Str) (h : z.length ≤ 1000) : Sm K H n (.str z) (.str z)
  | lst {n} {a b : Addr} {xs ys : List V} (h1 : SqL K H a xs) (h2 : SqL K H b ys) (hl : xs.length = ys.length) (hz : xs.length ≤ 1000)
      (all : ∀ (i : Nat) (x y : V), xs[i]? = some x → ys[i]? = some y → Sm K H n x y) : Sm K H (n + 1) (.ref a) (.ref b)
  | tup {n} {a b : Addr} {xs ys : List V} (h1 : SqT K H a xs) (h2 : SqT K H b ys) (hl : xs.length = ys.length) (hz : xs.length ≤ 1000)
      (all : ∀ (i : Nat) (x y : V), xs[i]? = some x → ys[i]? = some y → Sm K H n x y) : Sm K H (n + 1) (.ref a) (.ref b)
theorem Sm.ex {K : PySem.W.Frag} {H H' : Hp} (e : Ex H H') {n : Nat} {x y : V} (h : Sm K H n x y) : Sm K H' n x y := by
  induction h with
  | non => exact .non
  | bl b => exact .bl b
  | int i => exact .int i
  | str z h => exact .str z h
  | lst h1 h2 hl hz _ ih => exact .lst (ex_l e h1) (ex_l e h2) hl hz ih
  | tup h1 h2 hl hz _ ih => exact .tup (ex_t e h1) (ex_t e h2) hl hz ih
theorem Sm.succ {K : PySem.W.Frag} {H : Hp} {n : Nat} {x y : V} (h : Sm K H n x y) : Sm K H (n + 1) x y := by
  induction h with
  | non => exact .non
  | bl b => exact .bl b
  | int i => exact .int i
  | str z h => exact .str z h
  | lst h1 h2 hl hz _ ih => exact .lst h1 h2 hl hz ih
  | tup h1 h2 hl hz _ ih => exact .tup h1 h2 hl hz ih
theorem Sm.le {K : PySem.W.Frag} {H : Hp} {n m : Nat} {x y : V} (h : Sm K H n x y) (l : n ≤ m) : Sm K H m x y := by
  induction l with
  | refl => exact h
  | step _ ih => exact ih.succ
theorem Sm.ints {K : PySem.W.Frag} {H : Hp} {n : Nat} {ns : List Int} : ∀ (i : Nat) (x y : V), (ns.map V.int)[i]? = some x → (ns.map V.int)[i]? = some y → Sm K H n x y := by
  intro i x y h1 h2
  rw [h1] at h2
  cases h2
  rw [List.getElem?_map] at h1
  cases e : ns[i]? with
  | none => rw [e] at h1; cases h1
  | some z => rw [e] at h1; cases h1; exact .int z
def spSame (K : PySem.W.Frag) (n : Nat) : Sp := fun vs H Q _ => ∃ x y, vs = [x, y] ∧ Sm K H n x y ∧ ∀ H', Ex H H' → Q (.bl true) H'
theorem cut_one {z : Str} {k : Nat} {c : Nat} (h : z.cps.toList[k]? = some c) : cutS z (some (k : Int)) (some ((k : Int) + 1)) = ⟨#[c]⟩ := by
  have hk := (List.getElem?_eq_some_iff.mp h).1
  have hz : z.cps.toList.length = z.length := Array.length_toList
  unfold cutS
  have e : ((k : Int) + 1) = ((k + 1 : Nat) : Int) := by omega
  rw [e, HT.sIx_nat, HT.sIx_nat, Nat.min_eq_left (by omega), Nat.min_eq_left (by omega)]
  have e2 : k + 1 - k = 1 := by omega
  rw [e2, List.drop_eq_getElem_cons hk]
  have e3 := (List.getElem?_eq_some_iff.mp h).2
  simp [e3]

/-! ## the rules whose reading speaks of the written part, with it named (within a comprehension's block) -/
section
variable {X : Cx}
def rLen (K : PySem.W.Frag) : List V → Hp → VK → Prop := fun xs H Q => ∃ x n, xs = [x] ∧ LenV K x H n ∧ Q (.int (n : Nat)) H
def rListOf (K : PySem.W.Frag) : List V → Hp → VK → Prop := fun xs H Q => ∃ p ys, xs = [.ref p] ∧ (SqL K H p ys ∨ SqT K H p ys) ∧ ∀ l, H l = none → Q (.ref l) (upd H l (.lst ys))
def rTupOf (K : PySem.W.Frag) : List V → Hp → VK → Prop := fun xs H Q => ∃ p ys, xs = [.ref p] ∧ ((SqL K H p ys ∧ ∀ l, H l = none → Q (.ref l) (upd H l (.tup ys))) ∨ (SqT K H p ys ∧ Q (.ref p) H))
theorem kix (K : PySem.W.Frag) (h : X.K = K := by rfl) : IxR X (rIx K) := by subst h; exact ix_seq
theorem kixl (K : PySem.W.Frag) (h : X.K = K := by rfl) : IxR X (rIxL K) := by subst h; exact ix_list
theorem kixt (K : PySem.W.Frag) (h : X.K = K := by rfl) : IxR X (rIxT K) := by subst h; exact ix_tup
theorem klen (K : PySem.W.Frag) (h : X.K = K := by rfl) : CallR X (.builtin "len") (rLen K) := by subst h; exact call_len
theorem klist (K : PySem.W.Frag) (h : X.K = K := by rfl) : CallR X (.type "list") (rListOf K) := by subst h; exact call_list_of
theorem ktuple (K : PySem.W.Frag) (h : X.K = K := by rfl) : CallR X (.type "tuple") (rTupOf K) := by subst h; exact call_tuple_of
theorem kisi (K : PySem.W.Frag) (h : X.K = K := by rfl) : CallR X (.builtin "isinstance") (rIsi K) := by subst h; exact call_isi
theorem kisiT (K : PySem.W.Frag) (h : X.K = K := by rfl) : CallR X (.builtin "isinstance") (rIsiT K) := by subst h; exact call_isiT
theorem keqD (K : PySem.W.Frag) (hu : X.A.units + 64 < cLine) (h : X.K = K := by rfl) : OpR X (compareOp .Eq) (rEqD K) := by subst h; exact op_eqD hu
theorem kneD (K : PySem.W.Frag) (hu : X.A.units + 64 < cLine) (h : X.K = K := by rfl) : OpR X (compareOp .NotEq) (rNeD K) := by subst h; exact op_neD hu
theorem kin (K : PySem.W.Frag) (h : X.K = K := by rfl) : OpR X (compareOp .In) (rIn K false) := by subst h; exact op_in_seq
theorem knotin (K : PySem.W.Frag) (h : X.K = K := by rfl) : OpR X (compareOp .NotIn) (rIn K true) := by subst h; exact op_notIn_seq
theorem kcatA (K : PySem.W.Frag) (h : X.K = K := by rfl) : OpR X (binaryOp .Add) (rCatA K) := by subst h; exact op_catA
theorem krepA (K : PySem.W.Frag) (h : X.K = K := by rfl) : OpR X (binaryOp .Mult) (rRepA K) := by subst h; exact op_repA
theorem kslL (K : PySem.W.Frag) (h : X.K = K := by rfl) : SlR X (rSlL K) := by subst h; exact sl_list
theorem kslT (K : PySem.W.Frag) (h : X.K = K := by rfl) : SlR X (rSlA K) := by subst h; exact sl_tupA
theorem ksum (K : PySem.W.Frag) (hc : X.calm = true) (h : X.K = K := by rfl) : CallR X (.builtin "sum") (rSumS K) := by subst h; exact cr_sumS hc
theorem kall (K : PySem.W.Frag) (hc : X.calm = true) (h : X.K = K := by rfl) : CallR X (.builtin "all") (rAll K) := by subst h; exact cr_all hc
theorem kpil (K : PySem.W.Frag) {tg l : Expr} {tl : TE} (hl : PE X l tl) (h : X.K = K := by rfl) : PI X tg l (iList K tl) := by subst h; exact pi_list hl
theorem kpit (K : PySem.W.Frag) {tg l : Expr} {tl : TE} (hl : PE X l tl) (h : X.K = K := by rfl) : PI X tg l (iTup K tl) := by subst h; exact pi_tup hl
theorem kpis (K : PySem.W.Frag) {tg l : Expr} {tl : TE} (hl : PE X l tl) (h : X.K = K := by rfl) : PI X tg l (iSeq K tl) := by subst h; exact pi_seq hl
end

/-! ## own errors with one attribute -/
structure ErrAt (K : PySem.W.Frag) (mg : Str → Option Value) (x qi : Str) (st : Stmt) (f : Str) where
  C : Addr
  fI : Addr
  fd : FuncData
  F : Fun K "__init__" qi st fI fd
  b : Binds K fd ["self", f] []
  T : OexC K C
  iC : PySem.W.findIn K (.ref C) "__init__" = some (some (.ref fI))
  tI : PySem.W.typeIn K (.ref fI) = some (.type "function")
  gC : mg x = some (.ref C)
  nf : PySem.W.findIn K (.ref C) f = some none
  xf : XfC K C
def spInit (C : Addr) (f : Str) : Sp := fun vs H Q _ => ∃ (a : Addr) (y : V), vs = [.ref a, y] ∧ H a = some (exo a C none) ∧
  ∀ d, H d = none → d ≠ a → Q .non (upd (upd H d (exd d [(f, y)])) a (exo a C (some d)))
theorem raised {C a : Addr} {H : Hp} {f : Str} {y : V} {Q : XK} {E : XK} (ha : H a = none) (q : ∀ d H', Ex H H' → H' d = some (.xd [(f, y)]) → Q (.ref C) (some d) H') :
    spInit C f [.ref a, y] (upd H a (exo a C none)) (fun v H2 => v = .non ∧ ∃ (d : Addr) (fs : List (Str × V)), H2 a = some (exo a C (some d)) ∧ H2 d = some (exd d fs) ∧ H d = none ∧ Q (.ref C) (some d) (upd (del H2 a) d (.xd fs))) E := by
  refine ⟨a, y, rfl, upd_same, fun d hd nd => ⟨rfl, d, [(f, y)], upd_same, ?_, ?_, ?_⟩⟩
  · rw [upd_ne nd]; exact upd_same
  · rw [upd_ne nd] at hd; exact hd
  · rw [upd_ne nd] at hd
    refine q d _ (fun b o hb => ?_) upd_same
    have h1 : b ≠ a := ne_of_none hb ha
    have h2 : b ≠ d := ne_of_none hb hd
    rw [upd_ne h2, del_ne h1, upd_ne h1, upd_ne h2, upd_ne h1]
    exact hb
/-- a check: it lets what is right, else raises the error of C with the very value -/
def spChk (C : Addr) (ok : Int → Prop) : Sp := fun vs H Q E => ∃ i : Int, vs = [.int i] ∧ (ok i → ∀ H', Ex H H' → Q .non H') ∧
  (¬ ok i → ∀ d H', Ex H H' → H' d = some (.xd [("given", .int i)]) → E (.ref C) (some d) H')
end L2.U


set_option Elab.async false
set_option linter.all false
set_option maxRecDepth 100000
set_option maxHeartbeats 4000000
namespace L2.U
open PySem PySem.Spec PyProof.Rows Evl
/-! ## methods: with arguments by position or by name; they may raise -/
structure MethAt (K : PySem.W.Frag) (C : Addr) (m q : Str) (st : Stmt) (ps : List Str) where
  a : Addr
  fd : FuncData
  F : Fun K m q st a fd
  b : Binds K fd ps []
  M : Meth K C m a
def tMX (C : Addr) (m : Str) (sp : Sp) (E : St → XK) (ta : TE) (t : TA) : TE := fun σ H Q => ta σ H fun x H1 => ∃ a dx fs, x = .ref a ∧ H1 a = some (.ins C dx fs) ∧ fs.lookup m = none ∧ t σ H1 fun vs H2 => sp (x :: vs) H2 Q (E σ)
def tMKw (C : Addr) (m : Str) (sp : Sp) (pm : List V → List V → List V) (E : St → XK) (ta : TE) (t : TA) : TE := fun σ H Q => ta σ H fun x H1 => ∃ a dx fs, x = .ref a ∧ H1 a = some (.ins C dx fs) ∧ fs.lookup m = none ∧
  t σ H1 fun zs H2 => sp (pm [x] zs) H2 Q (E σ)
section
variable {X : Cx} {CX : CXT} {k : Nat} {f C : Addr} {fd : FuncData} {ps ks : List Str} {sp : Sp} {E : St → XK} {m : Str} {pos apos : Pos} {e o : Expr} {es : List Expr} {kws : List Keyword} {ta : TE} {t tk : TA}
  {g : List Value → List Value → List Value} {gV : List V → List V → List V}
theorem pe_mX {pl : Sem Bool} (he : PE X o ta) (c : Cls X.K C) (hm : Meth X.K C m f) (F : FnOk X.prog X.w X.K X.mg X.base CX k f fd ps sp) (hr : Room k X.A) (hb : Binds X.K fd ps []) (hx : ∀ σ, PassesAt CX X σ (E σ)) (ha : PA X (e :: es) t)
    (hst : starEach (e :: es) X.env = (false, eval e X.env) :: starEach es X.env := by rfl) (hpl : (backTo pos (starEach es X.env)).any (·.1) = false := by rfl)
    (ht : eval (.Call (.Attribute o m apos) (e :: es) [] pos) X.env = (do
      let ov ← eval o X.env; standAt apos.atName; let (f, first) ← holding [ov] (getMethod ov m pl)
      callWith pos f first (backTo pos (starEach (e :: es) X.env)) (backToKw pos (keywordEach [] X.env))) := by rfl) :
    PE X (.Call (.Attribute o m apos) (e :: es) [] pos) (tMX C m sp E ta t) := by
  constructor
  intro pins s σ H Q I h
  refine PySem.W.methodCall_KW (pl := pl) (thn (he.run pins s σ H _ I h) ?_) ht
  rintro u s1 ⟨x, H1, I1, rx, a, dx, fs, rfl, ea, l, q⟩
  obtain rfl : u = Value.ref a := rx
  refine getmeth_ok I1 ea c hm l (PySem.W.callWith_K (first := [.ref a]) (h₀ := X.base) I.ok.mod.kin hm.kp (thn (ha.run pos pins s1 σ H1 _ I1 q) ?_) hst hpl)
  rintro us s2 ⟨vs, H2, I2, r, q2⟩
  exact ⟨I2.kIn, run_fnS (us := .ref a :: us) (vs := .ref a :: vs) F hr hb (hx σ) I2 (.cons rfl r) q2⟩
theorem pe_mX0 {pl : Sem Bool} (he : PE X o ta) (c : Cls X.K C) (hm : Meth X.K C m f) (F : FnOk X.prog X.w X.K X.mg X.base CX k f fd ps sp) (hr : Room k X.A) (hb : Binds X.K fd ps []) (hx : ∀ σ, PassesAt CX X σ (E σ))
    (ht : eval (.Call (.Attribute o m apos) [] [] pos) X.env = (do
      let ov ← eval o X.env; standAt apos.atName; let (f, first) ← holding [ov] (getMethod ov m pl)
      callWith pos f first (backTo pos (starEach [] X.env)) (backToKw pos (keywordEach [] X.env))) := by rfl) :
    PE X (.Call (.Attribute o m apos) [] [] pos) (tMX C m sp E ta tNil) := by
  constructor
  intro pins s σ H Q I h
  refine PySem.W.methodCall_KW (pl := pl) (thn (he.run pins s σ H _ I h) ?_) ht
  rintro u s1 ⟨x, H1, I1, rx, a, dx, fs, rfl, ea, l, q⟩
  obtain rfl : u = Value.ref a := rx
  exact getmeth_ok I1 ea c hm l (PySem.W.callWith_K0 (first := [.ref a]) I1.kIn hm.kp (run_fnS (us := [.ref a]) (vs := [.ref a]) F hr hb (hx σ) I1 (.cons rfl .nil) q))
theorem pe_mKw {pl : Sem Bool} (he : PE X o ta) (c : Cls X.K C) (hm : Meth X.K C m f) (F : FnOk X.prog X.w X.K X.mg X.base CX k f fd ps sp) (hr : Room k X.A) (hb : KBinds X.K fd ps ks g gV) (hx : ∀ σ, PassesAt CX X σ (E σ)) (hkw : PK X kws tk)
    (hall : (backToKw pos (keywordEach kws X.env)).all (·.1.isSome) = true := by rfl) (hks : (backToKw pos (keywordEach kws X.env)).filterMap (·.1) = ks := by rfl)
    (hpl : ((backTo pos (starEach [] X.env)).any (·.1) || (backToKw pos (keywordEach kws X.env)).any (·.1.isNone)) = false := by rfl)
    (ht : eval (.Call (.Attribute o m apos) [] kws pos) X.env = (do
      let ov ← eval o X.env; standAt apos.atName; let (f, first) ← holding [ov] (getMethod ov m pl)
      callWith pos f first (backTo pos (starEach [] X.env)) (backToKw pos (keywordEach kws X.env))) := by rfl) :
    PE X (.Call (.Attribute o m apos) [] kws pos) (tMKw C m sp gV E ta tk) := by
  constructor
  intro pins s σ H Q I h
  refine PySem.W.methodCall_KW (pl := pl) (thn (he.run pins s σ H _ I h) ?_) ht
  rintro u s1 ⟨x, H1, I1, rx, a, dx, fs, rfl, ea, l, q⟩
  obtain rfl : u = Value.ref a := rx
  refine getmeth_ok I1 ea c hm l (PySem.W.callWith_KW0 (first := [.ref a]) (h₀ := X.base) I.ok.mod.kin hm.kp hall (thn (hkw.run pos pins s1 σ H1 _ I1 q) ?_) hpl)
  rintro ws s2 ⟨zs, H2, I2, rz, q2⟩
  refine ⟨I2.kIn, ?_⟩
  rw [hks]
  have r2 : Vals (gV [.ref a] zs) (g [.ref a] ws) := hb.rel (.cons rfl .nil) rz
  have hl : (g [.ref a] ws).length = ps.length := by rw [← r2.length]; exact F.len _ _ _ _ q2
  refine wpAny_call (codeAny_mono (F.run X.A X.stack s2 H2 ⟨[.ref a], ks.zip ws⟩ (g [.ref a] ws) (gV [.ref a] zs) Q (E σ) hr I2.env0 (hb.to s2 [.ref a] ws I2.kIn hl) r2 q2) ?_)
  intro r s' hq
  cases r with
  | error e => exact hx σ pins H2 s2 e s' I2 hq
  | ok fl => cases fl with
    | ret u => exact I2.after hq
    | next => exact False.elim hq
    | brk => exact False.elim hq
    | cont => exact False.elim hq
theorem passLAt {X : Cx} {σ : St} : PassesAt (L2.CX X.prog X.w) X σ E0 := fun pins H s e s' I c => passL pins σ H s e s' I c
end
/-! ## a range that stands in a name, walked -/
def iRngV (tl : TE) : TI := fun σ H R => tl σ H fun x H1 => ∃ (a : Addr) (lo hi : Int), x = .ref a ∧ H1 a = some (.rng lo hi) ∧ (-(2 ^ 62) ≤ lo ∧ lo < 2 ^ 62 ∧ -(2 ^ 62) ≤ hi ∧ hi < 2 ^ 62) ∧ R (Itr lo (hi - lo).toNat) H1
theorem pi_rngv {X : Cx} {tg l : Expr} {tl : TE} (hl : PE X l tl) : PI X tg l (iRngV tl) := by
  constructor
  intro pins s σ H R I h
  refine thn (hl.run pins s σ H _ I h) ?_
  rintro v s1 ⟨x, H1, I1, rx, a, lo, hi, rfl, ea, ⟨h1, h2, h3, h4⟩, q⟩
  obtain rfl : v = Value.ref a := rx
  obtain ⟨t, u, w, ho⟩ := (show ∃ t u v, s1.heap.get? a = some { cls := .type "range", data := .fields #[.int lo t, .int hi u, .int 1 v] } from I1.hok a _ ea)
  refine wpAny_pyIter_range (show IsRange s1.heap a lo hi 1 t u w from ho) (small_one h1 h2 h3 h4) ?_
  refine ⟨s1.heap.objs.size, [s1.heap.objs.size], _, _, H1, rfl, I1.kept (t' := s1.toks) fun b o e => Heap.get?_push_of_some _ e, turn_range _ lo (hi - lo).toNat, ?_, ?_, q⟩
  · have e1 : lo + ((0 : Nat) : Int) * 1 = lo := by simp
    have e2 : (((hi - lo).toNat : Nat) : Int) - ((0 : Nat) : Int) = Builtin.Range.rangeSize lo hi 1 := by
      rw [rangeSize_one]; split <;> omega
    show IsRangeIter _ _ (lo + ((0 : Nat) : Int) * 1) ((((hi - lo).toNat : Nat) : Int) - ((0 : Nat) : Int)) 1
    rw [e1, e2]
    exact Heap.get?_push_size _ rfl
  · intro b hb
    obtain rfl : b = s1.heap.objs.size := by simpa using hb
    exact I1.fpOk (Nat.le_refl _) (I1.hok.fresh (Nat.le_refl _))
/-- x in ints -/
theorem inV_ints {i : Int} {ns : List Int} : inV (.int i) (ns.map V.int) = decide (i ∈ ns) := by
  unfold inV
  induction ns with
  | nil => rfl
  | cons n r ih =>
    rw [List.map_cons, List.any_cons, ih]
    have e : eqV (.int n) (.int i) = decide (i = n) := by
      show (n == i) = decide (i = n)
      rw [Bool.beq_eq_decide_eq]
      exact decide_eq_decide.mpr eq_comm
    rw [e]
    by_cases c : i = n <;> simp [c]
theorem flat_ints {ns : List Int} : (ns.map V.int).all flatV = true := by
  rw [List.all_map, List.all_eq_true]
  intro x _
  rfl
end L2.U


set_option Elab.async false
set_option linter.all false
set_option maxRecDepth 100000
set_option maxHeartbeats 4000000
namespace L2.U
open PySem PySem.Spec PyProof.Rows Evl
/-! ## how many there are of different ints in a list: len(set(xs)) -/
/-- the different ones, each where it is met first -/
def diffs (ns : List Int) : List Int := PyProof.Rows.firstMet (fun i => ns.getD i 0) ns.length
def tCountI (K : PySem.W.Frag) (te : TE) : TE := fun σ H Q => te σ H fun x H1 => ∃ (l : Addr) (ns : List Int), x = .ref l ∧ SqL K H1 l (ns.map V.int) ∧ ns.length ≤ 64 ∧ Q (.int (diffs ns).length) H1
theorem pe_countI {X : Cx} {e : Expr} {te : TE} {p p2 q pos : Pos} (calm : X.calm = true) (g1 : Gl X "len") (m1 : X.mg "len" = none) (g2 : Gl X "set") (m2 : X.mg "set" = none) (he : PE X e te)
    (st : starEach [e] X.env = (false, eval e X.env) :: starEach [] X.env := by rfl) : PE X (.Call (.Name "len" p) [.Call (.Name "set" p2) [e] [] q] [] pos) (tCountI X.K te) := by
  constructor
  intro pins s σ H Q I h
  refine Call_ (ld_blt I g1 m1 boot_len (PyProof.Rows.callWith_builtin1 (PyProof.Rows.args_cons ?_ rfl) rfl rfl))
  refine Call_ (ld_blt I g2 m2 boot_set (PyProof.Rows.callWith_type1 (PyProof.Rows.args_cons (thn (he.run pins s σ H _ I h) ?_) st) st rfl))
  rintro v s1 ⟨x, H1, I1, rx, l, ns, rfl, hl, hz, q1⟩
  obtain rfl : v = Value.ref l := rx
  refine PyProof.Rows.args_nil ?_
  obtain ⟨its, rv, pl, hn⟩ := I1.list hl
  have ia : IntsAre its ns := intsAre_of rv
  have il : its.toArray.size = ns.length := by rw [List.size_toArray, ← rv.length, List.length_map]
  refine call_set_list (I1.ok.hd calm) pl.isList (by simpa using ia) (by rw [il]; exact Nat.lt_of_le_of_lt (Nat.succ_le_succ hz) (by decide)) fun h' tk hS hk => ?_
  rw [il] at hS
  refine PyProof.Rows.args_nil ?_
  obtain ⟨o, es, ep, t, ho, hex, hd, _, _, _, hf, hm⟩ := hS
  have I2 : Inv X pins σ H1 { s1 with heap := h', toks := tk } := I1.kept fun b o e => hk b o (Heap.lt_size e) e
  have le : es.size ≤ 64 := by rw [hm]; exact Nat.le_trans (PyProof.Rows.firstMet_length_le _ _) hz
  exact call_len_set ho hex hd hf (by omega) ⟨.int (diffs ns).length, H1, I2.tok _, ⟨_, by rw [hm]; rfl⟩, q1⟩
end L2.U


set_option Elab.async false
set_option linter.all false
set_option maxRecDepth 100000
set_option maxHeartbeats 4000000
namespace L2.U
open PySem PySem.Spec PyProof.Rows Evl
/-! ## C(..): an __init__ that may raise -/
def tMakeX (C : Addr) (sp : Sp) (E : St → XK) (t : TA) : TE := fun σ H Q => t σ H fun vs H1 => ∀ x dx, H1 x = none → H1 dx = none → dx ≠ x →
  sp (.ref x :: vs) (upd (upd H1 dx (.own x)) x (.ins C dx [])) (fun v H2 => v = .non ∧ Q (.ref x) H2) (E σ)
def tMakeKX (C : Addr) (m : Nat) (sp : Sp) (gV : List V → List V → List V) (E : St → XK) (tk : TA) : TE := fun σ H Q => tk σ H fun zs H2 => zs.length = m ∧ ∀ x dx, H2 x = none → H2 dx = none → dx ≠ x →
  sp (gV [.ref x] zs) (upd (upd H2 dx (.own x)) x (.ins C dx [])) (fun v H3 => v = .non ∧ Q (.ref x) H3) (E σ)
section
variable {X : Cx} {CX : CXT} {k : Nat} {f C : Addr} {fd : FuncData} {ps ks : List Str} {sp : Sp} {E : St → XK} {x : Str} {p pos : Pos} {e : Expr} {es : List Expr} {kws : List Keyword} {t tk : TA} {g : List Value → List Value → List Value} {gV : List V → List V → List V}
theorem run_makeX {pins : List (Addr × Obj)} {σ : St} {H : Hp} {s : Shared} {Q : VK} {us : List Value} {vs : List V} (M : Mk X.K C f) (F : FnOk X.prog X.w X.K X.mg X.base CX k f fd ps sp) (hr : Room (k + 1) X.A) (hb : Binds X.K fd ps [])
    (hx : PassesAt CX X σ (E σ)) (I : Inv X pins σ H s) (r : Vals vs us)
    (h : ∀ x dx, H x = none → H dx = none → dx ≠ x → sp (.ref x :: vs) (upd (upd H dx (.own x)) x (.ins C dx [])) (fun v H2 => v = .non ∧ Q (.ref x) H2) (E σ)) :
    wpAny (model X.prog X.w) X.A (call (.ref C) us) (EP X pins σ Q) X.xe s := by
  have hq := h (s.heap.objs.size + 1) s.heap.objs.size (I.hok.fresh (Nat.le_succ _)) (I.hok.fresh (Nat.le_refl _)) (Nat.ne_of_lt (Nat.lt_succ_self _))
  have I2 := Inv.made (C := C) I
  have r2 : Vals (V.ref (s.heap.objs.size + 1) :: vs) (Value.ref (s.heap.objs.size + 1) :: us ++ []) := by rw [List.append_nil]; exact .cons rfl r
  have hl : (Value.ref (s.heap.objs.size + 1) :: us ++ []).length = ps.length := by
    have e := r2.length
    rw [F.len _ _ _ _ hq] at e
    exact e.symm
  refine wpAny_call (make_map (f := f) I.kIn M.makes M.init (beq_iff_eq.mp M.fn) (codeAny_mono (F.run _ X.stack _ _ ⟨Value.ref (s.heap.objs.size + 1) :: us, []⟩ (Value.ref (s.heap.objs.size + 1) :: us ++ []) _ _ (E σ) (hr.make C us [])
    (I2.env0.make C us []) (hb _ (Value.ref (s.heap.objs.size + 1) :: us) I2.kIn hl) r2 hq) fun r s' hq' => ?_))
  cases r with
  | error e => exact hx pins _ _ e s' I2 hq'
  | ok fl =>
    cases fl with
    | ret u =>
      obtain ⟨v, H', I3, rv, ev, q3⟩ := I2.after hq'
      subst ev
      exact ⟨rv, ⟨V.ref (s.heap.objs.size + 1), H', I3, rfl, q3⟩⟩
    | next => exact False.elim hq'
    | brk => exact False.elim hq'
    | cont => exact False.elim hq'
theorem pe_makeX (M : Mk X.K C f) (F : FnOk X.prog X.w X.K X.mg X.base CX k f fd ps sp) (hr : Room (k + 1) X.A) (hg : Gl X x) (hm : X.mg x = some (.ref C)) (hb : Binds X.K fd ps []) (hx : ∀ σ, PassesAt CX X σ (E σ))
    (ha : PA X (e :: es) t) (hdb : (x == ("__debug__" : Str)) = false := by decide) (he : starEach (e :: es) X.env = (false, eval e X.env) :: starEach es X.env := by rfl) (hpl : (backTo pos (starEach es X.env)).any (·.1) = false := by rfl) :
    PE X (.Call (.Name x p) (e :: es) [] pos) (tMakeX C sp E t) := by
  refine ⟨fun pins s σ H Q I h => ?_⟩
  refine wpAny_Call_Name_kw (ld_glob I hg hm ?_ hdb)
  refine PySem.W.callWith_K (h₀ := X.base) I.ok.mod.kin M.kp (thn (ha.run pos pins s σ H _ I h) fun us s1 ⟨vs, H1, I1, r, q⟩ => ⟨I1.kIn, ?_⟩) he hpl
  exact run_makeX M F hr hb (hx σ) I1 r q
theorem run_makeKX {pins : List (Addr × Obj)} {σ : St} {H : Hp} {s : Shared} {Q : VK} {ws : List Value} {zs : List V} (M : Mk X.K C f) (F : FnOk X.prog X.w X.K X.mg X.base CX k f fd ps sp) (hr : Room (k + 1) X.A) (hb : KBn X.K fd ps 1 ks g gV)
    (hx : PassesAt CX X σ (E σ)) (I : Inv X pins σ H s) (rz : Vals zs ws) (l2 : zs.length = ks.length)
    (h : ∀ x dx, H x = none → H dx = none → dx ≠ x → sp (gV [.ref x] zs) (upd (upd H dx (.own x)) x (.ins C dx [])) (fun v H2 => v = .non ∧ Q (.ref x) H2) (E σ)) :
    wpAny (model X.prog X.w) X.A (call (.ref C) [] (ks.zip ws)) (EP X pins σ Q) X.xe s := by
  have hq := h (s.heap.objs.size + 1) s.heap.objs.size (I.hok.fresh (Nat.le_succ _)) (I.hok.fresh (Nat.le_refl _)) (Nat.ne_of_lt (Nat.lt_succ_self _))
  have I2 := Inv.made (C := C) I
  have r1 : Vals [V.ref (s.heap.objs.size + 1)] [Value.ref (s.heap.objs.size + 1)] := .cons rfl .nil
  have r2 := hb.rel r1 rz
  refine wpAny_call (make_map (f := f) I.kIn M.makes M.init (beq_iff_eq.mp M.fn) (codeAny_mono (F.run _ X.stack _ _ ⟨[Value.ref (s.heap.objs.size + 1)], ks.zip ws⟩ (g [Value.ref (s.heap.objs.size + 1)] ws) _ _ (E σ) (hr.make C [] (ks.zip ws))
    (I2.env0.make C [] (ks.zip ws)) (hb.to _ [Value.ref (s.heap.objs.size + 1)] ws I2.kIn rfl (rz.length.symm.trans l2)) r2 hq) fun r s' hq' => ?_))
  cases r with
  | error e => exact hx pins _ _ e s' I2 hq'
  | ok fl =>
    cases fl with
    | ret u =>
      obtain ⟨v, H', I3, rv, ev, q3⟩ := I2.after hq'
      subst ev
      exact ⟨rv, ⟨V.ref (s.heap.objs.size + 1), H', I3, rfl, q3⟩⟩
    | next => exact False.elim hq'
    | brk => exact False.elim hq'
    | cont => exact False.elim hq'
theorem pe_makeKX (M : Mk X.K C f) (F : FnOk X.prog X.w X.K X.mg X.base CX k f fd ps sp) (hr : Room (k + 1) X.A) (hg : Gl X x) (hm : X.mg x = some (.ref C)) (hb : KBn X.K fd ps 1 ks g gV) (hx : ∀ σ, PassesAt CX X σ (E σ)) (hkw : PK X kws tk)
    (hall : (backToKw pos (keywordEach kws X.env)).all (·.1.isSome) = true := by rfl) (hks : (backToKw pos (keywordEach kws X.env)).filterMap (·.1) = ks := by rfl) (hdb : (x == ("__debug__" : Str)) = false := by decide)
    (hpl : ((backTo pos (starEach [] X.env)).any (·.1) || (backToKw pos (keywordEach kws X.env)).any (·.1.isNone)) = false := by rfl) :
    PE X (.Call (.Name x p) [] kws pos) (tMakeKX C ks.length sp gV E tk) := by
  refine ⟨fun pins s σ H Q I h => ?_⟩
  refine wpAny_Call_Name_kw (ld_glob I hg hm ?_ hdb)
  refine PySem.W.callWith_KW0 (h₀ := X.base) I.ok.mod.kin M.kp hall ?_ hpl
  refine thn (hkw.run pos pins s σ H _ I h) fun ws s2 ⟨zs, H2, I2, rz, l2, q2⟩ => ⟨I2.kIn, ?_⟩
  rw [hks]
  exact run_makeKX M F hr hb (hx σ) I2 rz l2 q2
end
end L2.U


set_option Elab.async false
set_option linter.all false
set_option maxRecDepth 100000
set_option maxHeartbeats 4000000
namespace L2.U
open PySem PySem.Spec PyProof.Rows Evl
def top (i : Nat) : Stmt := PySem.Challenge.pw_upforgood_k08_specs_doors_and_copies.main.body.getD i (.Pass ⟨0, 0, 0, 0⟩)
abbrev s_is_integer : Stmt := top 1
theorem sc_is_integer : FnScope ["value"] ["value"] (defScope s_is_integer) := ⟨rfl, rfl, rfl, by decide +kernel, rfl, by decide +kernel, by decide +kernel⟩
abbrev s_is_between : Stmt := top 2
theorem sc_is_between : FnScope ["value", "low", "high"] ["value", "low", "high"] (defScope s_is_between) := ⟨rfl, rfl, rfl, by decide +kernel, rfl, by decide +kernel, by decide +kernel⟩
abbrev s_are_between : Stmt := top 3
theorem sc_are_between : FnScope ["values", "low", "high", "value"] ["values", "low", "high"] (defScope s_are_between) := ⟨rfl, rfl, rfl, by decide +kernel, rfl, by decide +kernel, by decide +kernel⟩
abbrev s_law_cell : Stmt := top 17
theorem sc_law_cell : FnScope ["script", "k"] ["script", "k"] (defScope s_law_cell) := ⟨rfl, rfl, rfl, by decide +kernel, rfl, by decide +kernel, by decide +kernel⟩
abbrev s_law_box : Stmt := top 18
theorem sc_law_box : FnScope ["great"] ["great"] (defScope s_law_box) := ⟨rfl, rfl, rfl, by decide +kernel, rfl, by decide +kernel, by decide +kernel⟩
abbrev s_law_take : Stmt := top 19
theorem sc_law_take : FnScope ["box", "many", "digit", "mixed"] ["box", "many"] (defScope s_law_take) := ⟨rfl, rfl, rfl, by decide +kernel, rfl, by decide +kernel, by decide +kernel⟩
abbrev s_law_same : Stmt := top 20
theorem sc_law_same : FnScope ["told", "due", "k"] ["told", "due"] (defScope s_law_same) := ⟨rfl, rfl, rfl, by decide +kernel, rfl, by decide +kernel, by decide +kernel⟩
structure TA1 (K : PySem.W.Frag) (mg : Str → Option Value) where
  is_integer : DefAt K mg "is_integer" s_is_integer ["value"]
  is_between : DefAt K mg "is_between" s_is_between ["value", "low", "high"]
  are_between : DefAt K mg "are_between" s_are_between ["values", "low", "high"]
  law_cell : DefAt K mg "_law_cell" s_law_cell ["script", "k"]
  law_box : DefAt K mg "_law_box" s_law_box ["great"]
  law_take : DefAt K mg "_law_take" s_law_take ["box", "many"]
  law_same : DefAt K mg "_law_same" s_law_same ["told", "due"]
  z_int : mg "int" = none
  z_bool : mg "bool" = none
  z_str : mg "str" = none
  z_list : mg "list" = none
  z_tuple : mg "tuple" = none
  z_len : mg "len" = none
  z_sum : mg "sum" = none
  z_abs : mg "abs" = none
  z_all : mg "all" = none
  z_range : mg "range" = none
  z_isinstance : mg "isinstance" = none
section
variable {P : Program} {w : World} {K : PySem.W.Frag} {mg : Str → Option Value} {base : Heap}
def isI : V → Bool
  | .int _ => true
  | _ => false
/-- a value of one of the kinds of data -/
def Dat (K : PySem.W.Frag) (H : Hp) (x : V) : Prop := ∃ t, t ∈ ["NoneType", "bool", "int", "str", "list", "tuple", "dict"] ∧ TyX K H x (.type t) ∧ isI x = decide (t = "int")
theorem Dat.int {H : Hp} {i : Int} : Dat K H (.int i) := ⟨"int", by decide, .base (.int i), rfl⟩
theorem Dat.ex {H H' : Hp} {x : V} (e : Ex H H') (h : Dat K H x) : Dat K H' x := by
  obtain ⟨t, ht, ty, hi⟩ := h
  refine ⟨t, ht, ?_, hi⟩
  cases ty with
  | base b =>
    refine .base ?_
    cases b with
    | non => exact .non
    | bl x => exact .bl x
    | int i => exact .int i
    | str z => exact .str z
    | flt z => exact .flt z
    | lst h => exact .lst (e _ _ h)
    | frz h => exact .frz (e _ _ h)
    | tup h => exact .tup (e _ _ h)
    | dK h => exact .dK (e _ _ h)
    | dT h => exact .dT (e _ _ h)
  | byt b => exact .byt b
  | set h => exact .set (e _ _ h)
  | kList a b => exact .kList a b
  | kTuple a b => exact .kTuple a b
  | kDict a b => exact .kDict a b
  | fTuple h => exact .fTuple (e _ _ h)
  | fDict h => exact .fDict (e _ _ h)
def spIsInteger (K : PySem.W.Frag) : Sp := fun vs H Q _ => ∃ x, vs = [x] ∧ Dat K H x ∧ Q (.bl (isI x)) H
theorem ok_is_integer (T : TA1 K mg) : FnOk P w K mg base CX0 1 T.is_integer.a T.is_integer.fd ["value"] (spIsInteger K) := by
  refine T.is_integer.F.ok sc_is_integer (fun vs H Q E h => ?_) (fun cdv A outer s H vs Q E hr h => ?_)
  · obtain ⟨x, rfl, _⟩ := h; rfl
  obtain ⟨x, rfl, ⟨t, ht, ty, hi⟩, q⟩ := h
  refine ⟨_, (pss_one (ps_ret (pe_and (pe_callB (kisi K) (by rfl) T.z_isinstance (by decide +kernel) (pa_cons (pv 0) (pa_cons (pe_bltn (v := .ty "int") rfl T.z_int (by decide +kernel) rfl) pa_nil))) (pe_one (pe_not (pe_callB (kisi K) (by rfl) T.z_isinstance (by decide +kernel) (pa_cons (pv 0) (pa_cons (pe_bltn (v := .ty "bool") rfl T.z_bool (by decide +kernel) rfl) pa_nil)))))))), ?_⟩
  simp only [List.mem_cons, List.not_mem_nil, or_false] at ht
  rcases ht with rfl | rfl | rfl | rfl | rfl | rfl | rfl
  · refine ⟨_, rfl, _, _, _, _, _, rfl, .ty "int", ty, kit_ty (r := false) (by decide +kernel), false, rfl, iteF ?_⟩
    rw [hi] at q; exact q
  · refine ⟨_, rfl, _, _, _, _, _, rfl, .ty "int", ty, kit_ty (r := true) (by decide +kernel), true, rfl, iteT ?_⟩
    refine ⟨_, rfl, _, _, _, _, _, rfl, .ty "bool", ty, kit_ty (r := true) (by decide +kernel), true, rfl, ?_⟩
    rw [hi] at q; exact q
  · refine ⟨_, rfl, _, _, _, _, _, rfl, .ty "int", ty, kit_ty (r := true) (by decide +kernel), true, rfl, iteT ?_⟩
    refine ⟨_, rfl, _, _, _, _, _, rfl, .ty "bool", ty, kit_ty (r := false) (by decide +kernel), false, rfl, ?_⟩
    rw [hi] at q; exact q
  all_goals
    refine ⟨_, rfl, _, _, _, _, _, rfl, .ty "int", ty, kit_ty (r := false) (by decide +kernel), false, rfl, iteF ?_⟩
    rw [hi] at q; exact q
theorem isI_int {x : V} (h : isI x = true) : ∃ i, x = .int i := by
  cases x <;> first | exact ⟨_, rfl⟩ | cases h
def spIsBetween (K : PySem.W.Frag) : Sp := fun vs H Q _ => ∃ (x : V) (lo hi : Int), vs = [x, .int lo, .int hi] ∧ Dat K H x ∧ ∀ b, (∀ i, x = .int i → b = decide (lo ≤ i ∧ i ≤ hi)) → (isI x = false → b = false) → Q (.bl b) H
theorem ok_is_between (T : TA1 K mg) : FnOk P w K mg base CX0 2 T.is_between.a T.is_between.fd ["value", "low", "high"] (spIsBetween K) := by
  refine T.is_between.F.ok sc_is_between (fun vs H Q E h => ?_) (fun cdv A outer s H vs Q E hr h => ?_)
  · obtain ⟨x, lo, hi, rfl, _⟩ := h; rfl
  obtain ⟨x, lo, hi, rfl, hd, q⟩ := h
  refine ⟨_, (pss_one (ps_ret (pe_and (pe_call (ok_is_integer T) (hr.mono (by decide)) rfl T.is_integer.m T.is_integer.F.kp T.is_integer.b .nil pass0 (pa_cons (pv 0) pa_nil)) (pe_one (pe_chain op_le op_le (pv 1) (pv 0) (pv 2)))))), ?_⟩
  refine ⟨_, rfl, _, rfl, hd, isI x, rfl, ?_⟩
  cases hx : isI x with
  | false => exact q false (fun i e => by rw [e] at hx; cases hx) (fun _ => rfl)
  | true =>
    obtain ⟨i, rfl⟩ := isI_int hx
    refine ⟨_, rfl, _, rfl, _, _, rfl, rfl, _, rfl, ite2 (fun c => ?_) (fun c => ?_)⟩
    · refine ⟨_, rfl, _, _, rfl, rfl, q _ (fun j e => ?_) (fun e => by cases e)⟩
      cases e
      have c' := of_decide_eq_true c
      simp [c']
    · refine q _ (fun j e => ?_) (fun e => by cases e)
      cases e
      have c' := of_decide_eq_false (Bool.eq_false_iff.mpr c)
      simp [c']
/-! ### data: what a value holds -/
inductive Rd (K : PySem.W.Frag) (ok : Addr → Prop) (H : Hp) : Nat → V → PyData → Prop
  | non {n} : Rd K ok H n .non .none
  | bl {n} (b : Bool) : Rd K ok H n (.bl b) (.bool b)
  | int {n} (i : Int) : Rd K ok H n (.int i) (.int i)
  | str {n} (z : Str) (h : z.length ≤ 1000) (h2 : PyData.strOk z = true) : Rd K ok H n (.str z) (.str z)
  | lst {n} {a : Addr} {xs : List V} {ds : List PyData} (h : H a = some (.lst xs)) (ha : ok a) (hl : xs.length = ds.length) (hz : xs.length ≤ 900)
      (all : ∀ (i : Nat) (x : V) (d : PyData), xs[i]? = some x → ds[i]? = some d → Rd K ok H n x d) : Rd K ok H (n + 1) (.ref a) (.list ds)
  | tup {n} {a : Addr} {xs : List V} {ds : List PyData} (h : H a = some (.tup xs)) (ha : ok a) (hl : xs.length = ds.length) (hz : xs.length ≤ 900)
      (all : ∀ (i : Nat) (x : V) (d : PyData), xs[i]? = some x → ds[i]? = some d → Rd K ok H n x d) : Rd K ok H (n + 1) (.ref a) (.tuple ds)
def RdL (K : PySem.W.Frag) (ok : Addr → Prop) (H : Hp) (n : Nat) (xs : List V) (ds : List PyData) : Prop :=
  xs.length = ds.length ∧ ∀ (i : Nat) (x : V) (d : PyData), xs[i]? = some x → ds[i]? = some d → Rd K ok H n x d
section
variable {ok : Addr → Prop} {H H' : Hp} {n : Nat} {x y : V} {d : PyData}
theorem Rd.keep (kl : ∀ a xs, ok a → H a = some (.lst xs) → H' a = some (.lst xs)) (kt : ∀ a xs, ok a → H a = some (.tup xs) → H' a = some (.tup xs)) (h : Rd K ok H n x d) : Rd K ok H' n x d := by
  induction h with
  | non => exact .non
  | bl b => exact .bl b
  | int i => exact .int i
  | str z h h2 => exact .str z h h2
  | lst h1 ha hl hz _ ih => exact .lst (kl _ _ ha h1) ha hl hz ih
  | tup h1 ha hl hz _ ih => exact .tup (kt _ _ ha h1) ha hl hz ih
theorem Rd.ex (e : Ex H H') (h : Rd K ok H n x d) : Rd K ok H' n x d := h.keep (fun _ _ _ => e _ _) (fun _ _ _ => e _ _)
theorem Rd.but {b : Addr} (k : But b H H') (hb : ∀ a, ok a → a ≠ b) (h : Rd K ok H n x d) : Rd K ok H' n x d :=
  h.keep (fun _ _ ha hs => k _ _ (hb _ ha) hs) (fun _ _ ha hs => k _ _ (hb _ ha) hs)
theorem Rd.of {ok' : Addr → Prop} (w : ∀ a, ok a → ok' a) (h : Rd K ok H n x d) : Rd K ok' H n x d := by
  induction h with
  | non => exact .non
  | bl b => exact .bl b
  | int i => exact .int i
  | str z h h2 => exact .str z h h2
  | lst h1 ha hl hz _ ih => exact .lst h1 (w _ ha) hl hz ih
  | tup h1 ha hl hz _ ih => exact .tup h1 (w _ ha) hl hz ih
theorem Rd.succ (h : Rd K ok H n x d) : Rd K ok H (n + 1) x d := by
  induction h with
  | non => exact .non
  | bl b => exact .bl b
  | int i => exact .int i
  | str z h h2 => exact .str z h h2
  | lst h1 ha hl hz _ ih => exact .lst h1 ha hl hz ih
  | tup h1 ha hl hz _ ih => exact .tup h1 ha hl hz ih
theorem Rd.le {m : Nat} (h : Rd K ok H n x d) (l : n ≤ m) : Rd K ok H m x d := by
  induction l with
  | refl => exact h
  | step _ ih => exact ih.succ
theorem RdL.ex {xs : List V} {ds : List PyData} (e : Ex H H') (h : RdL K ok H n xs ds) : RdL K ok H' n xs ds := ⟨h.1, fun i x d hx hd => (h.2 i x d hx hd).ex e⟩
theorem RdL.but {b : Addr} {xs : List V} {ds : List PyData} (k : But b H H') (hb : ∀ a, ok a → a ≠ b) (h : RdL K ok H n xs ds) : RdL K ok H' n xs ds := ⟨h.1, fun i x d hx hd => (h.2 i x d hx hd).but k hb⟩
theorem Rd.sm (h : Rd K ok H n x d) : ∀ {ok' : Addr → Prop} {y : V}, Rd K ok' H n y d → Sm K H n x y := by
  induction h with
  | non => intro ok' y h2; cases h2; exact .non
  | bl b => intro ok' y h2; cases h2; exact .bl b
  | int i => intro ok' y h2; cases h2; exact .int i
  | str z h h3 => intro ok' y h2; cases h2; exact .str z h
  | lst h1 ha hl hz all ih =>
    intro ok' y h2
    cases h2 with
    | lst h1' ha' hl' hz' all' =>
      refine .lst (SqL.of h1) (SqL.of h1') (by omega) (by omega) fun i x y hx hy => ?_
      have hi := (List.getElem?_eq_some_iff.mp hx).1
      exact ih i x _ hx (List.getElem?_eq_getElem (by omega)) (all' i y _ hy (List.getElem?_eq_getElem (by omega)))
  | tup h1 ha hl hz all ih =>
    intro ok' y h2
    cases h2 with
    | tup h1' ha' hl' hz' all' =>
      refine .tup (SqT.of h1) (SqT.of h1') (by omega) (by omega) fun i x y hx hy => ?_
      have hi := (List.getElem?_eq_some_iff.mp hx).1
      exact ih i x _ hx (List.getElem?_eq_getElem (by omega)) (all' i y _ hy (List.getElem?_eq_getElem (by omega)))
theorem dpAll_of {xs : List V} : ∀ {ds : List PyData}, xs.length = ds.length → (∀ (i : Nat) (x : V) (d : PyData), xs[i]? = some x → ds[i]? = some d → Dp K H x d) → DpAll K H xs ds := by
  induction xs with
  | nil => intro ds hl _; cases ds with
    | nil => exact .nil
    | cons d r => cases hl
  | cons x r ih => intro ds hl h; cases ds with
    | nil => cases hl
    | cons d r2 => exact .cons (h 0 x d rfl rfl) (ih (Nat.succ.inj hl) fun i x d hx hd => h (i + 1) x d hx hd)
theorem Rd.dp (h : Rd K ok H n x d) : Dp K H x d := by
  induction h with
  | non => exact .non
  | bl b => exact .bl b
  | int i => exact .int i
  | str z h h2 => exact .str z
  | lst h1 ha hl hz _ ih => exact .lst (SqL.of h1) (dpAll_of hl ih)
  | tup h1 ha hl hz _ ih => exact .tup (SqT.of h1) (dpAll_of hl ih)
theorem layAll_of : ∀ {ds : List PyData} {n : Nat}, (∀ d ∈ ds, d.canLay0 = true ∧ d.depth ≤ n) → PyData.canLayAll0 ds = true ∧ PyData.depthAll ds ≤ n
  | [], n, _ => by simp [PyData.canLayAll0, PyData.depthAll]
  | d :: r, n, h => by
    have h1 := h d (by simp)
    have h2 := layAll_of (ds := r) (n := n) fun z hz => h z (by simp [hz])
    simp only [PyData.canLayAll0, PyData.depthAll, h1.1, h2.1, Bool.and_self, true_and]
    omega
theorem Rd.lay (h : Rd K ok H n x d) : d.canLay0 = true ∧ d.depth ≤ n := by
  induction h with
  | non => simp [PyData.canLay0, PyData.depth]
  | bl b => simp [PyData.canLay0, PyData.depth]
  | int i => simp [PyData.canLay0, PyData.depth]
  | str z h h2 => simp [PyData.canLay0, PyData.depth, h2]
  | @lst n a xs ds h1 ha hl hz all ih =>
    have := layAll_of (ds := ds) (n := n) fun d hd => by
      obtain ⟨i, hi⟩ := List.mem_iff_getElem?.mp hd
      have hlt := (List.getElem?_eq_some_iff.mp hi).1
      exact ih i _ d (List.getElem?_eq_getElem (by omega)) hi
    simp only [PyData.canLay0, PyData.depth, this.1, true_and]
    omega
  | @tup n a xs ds h1 ha hl hz all ih =>
    have := layAll_of (ds := ds) (n := n) fun d hd => by
      obtain ⟨i, hi⟩ := List.mem_iff_getElem?.mp hd
      have hlt := (List.getElem?_eq_some_iff.mp hi).1
      exact ih i _ d (List.getElem?_eq_getElem (by omega)) hi
    simp only [PyData.canLay0, PyData.depth, this.1, true_and]
    omega
theorem Rd.shaped (h : Rd K ok H n x d) (hn : n ≤ 64) : SeqAt.shaped d = true := by
  have := h.lay
  unfold SeqAt.shaped
  rw [this.1, decide_eq_true (by omega)]
  rfl
theorem Rd.dat (h : Rd K ok H n x d) : Dat K H x := by
  cases h with
  | non => exact ⟨"NoneType", by decide, .base .non, rfl⟩
  | bl b => exact ⟨"bool", by decide, .base (.bl b), rfl⟩
  | int i => exact .int
  | str z h h2 => exact ⟨"str", by decide, .base (.str z), rfl⟩
  | lst h1 => exact ⟨"list", by decide, tyL (SqL.of h1), rfl⟩
  | tup h1 => exact ⟨"tuple", by decide, tyT (SqT.of h1), rfl⟩
end
def fromD (lo : Int) : PyData → Bool
  | .int i => decide (lo ≤ i)
  | _ => false
def betwD (lo hi : Int) : PyData → Bool
  | .int i => decide (lo ≤ i ∧ i ≤ hi)
  | _ => false
theorem rd_betw {ok : Addr → Prop} {H : Hp} {n : Nat} {x : V} {d : PyData} {lo hi : Int} {b : Bool} (h : Rd K ok H n x d) (h1 : ∀ i, x = .int i → b = decide (lo ≤ i ∧ i ≤ hi)) (h2 : isI x = false → b = false) : b = betwD lo hi d := by
  cases h <;> first | exact h1 _ rfl | exact h2 rfl
theorem betw_int {lo hi : Int} {ok : Addr → Prop} {H : Hp} {n : Nat} {x : V} {d : PyData} (h : Rd K ok H n x d) (c : betwD lo hi d = true) : ∃ i, x = .int i ∧ d = .int i ∧ lo ≤ i ∧ i ≤ hi := by
  cases h with
  | int i => exact ⟨i, rfl, rfl, of_decide_eq_true c⟩
  | non => cases c
  | bl _ => cases c
  | str _ _ _ => cases c
  | lst _ _ _ _ _ => cases c
  | tup _ _ _ _ _ => cases c
theorem tyes {σ : L2.St} {H : Hp} {F G : Hp → Prop} (h : F H) : tYes σ H (fun b H3 => if b = true then F H3 else G H3) := by
  show if true = true then F H else G H
  rw [if_pos rfl]
  exact h
theorem at_get {xs : List V} {k : Int} (h0 : 0 ≤ k) (h : k < (xs.length : Int)) : ∃ v, atI xs k = some v ∧ xs[k.toNat]? = some v := by
  have hk : k.toNat < xs.length := by omega
  refine ⟨xs[k.toNat], ?_, List.getElem?_eq_getElem hk⟩
  exact at_of (by omega) (List.getElem?_eq_getElem hk)
theorem ints_get {ns : List Int} {i : Nat} {v : V} (h : (ns.map V.int)[i]? = some v) : ∃ z, ns[i]? = some z ∧ v = .int z := by
  rw [List.getElem?_map] at h
  cases e : ns[i]? with
  | none => rw [e] at h; cases h
  | some z => rw [e] at h; exact ⟨z, rfl, (Option.some.inj h).symm⟩
theorem given_all {n : Nat} {v : Nat → V} : given n (fun _ => true) v = (List.range n).map v := by
  unfold given
  rw [List.filter_eq_self.mpr (by intro a _; rfl)]
theorem el_lcT {σ : L2.St} {H : Hp} {a : Addr} {xs : List V} {tl te : TE} {t : TT} {j : Nat} {vs : List Nat} (f : Nat → Bool) (v : Nat → V) (h : Ev tl σ H (.ref a)) (hx : SqT K H a xs) (hz : xs.length ≤ 40000)
    (hw : ∀ x, wipe ((wipe σ vs).set j (some x)) vs = wipe σ vs) (ht : ∀ (i : Nat) (x : V) H1, Ex H H1 → xs[i]? = some x → EvT t ((wipe σ vs).set j (some x)) H1 (f i))
    (he : ∀ (i : Nat) (x : V) H1, Ex H H1 → xs[i]? = some x → f i = true → Ev te ((wipe σ vs).set j (some x)) H1 (v i)) : EvL (tLc (iTup K tl) (gName j) t te vs) σ H (given xs.length f v) := by
  intro H0 e Q q
  refine h H0 e _ fun H1 e1 => ?_
  have e01 := e.trans e1
  refine ⟨a, rfl, ⟨xs, ex_t e01 hx⟩, fun Dl hD => lc_tup (xs := xs) (Cw H1 f v Dl) ⟨hD, Ex.new hD, upd_same⟩ (fun i H' _ p => ex_t (e01.trans p.2.1) hx) ?_ ?_⟩
  · intro i x H' hi p
    have hlt := (List.getElem?_eq_some_iff.mp hi).1
    exact ⟨hw x, cw_turn p (by omega) (ht i x H1 e01 hi) (fun hf => he i x H1 e01 hi hf)⟩
  · exact fun H' p => q Dl H' (fresh_back e1 p.1) (e1.trans p.2.1) p.2.2
def spAreBetween (K : PySem.W.Frag) : Sp := fun vs H Q _ => ∃ (a : Addr) (xs : List V) (ds : List PyData) (n : Nat) (ok : Addr → Prop) (lo hi : Int), vs = [.ref a, .int lo, .int hi] ∧ SqT K H a xs ∧ RdL K ok H n xs ds ∧ xs.length ≤ 1000 ∧ ∀ H', Ex H H' → Q (.bl (ds.all (betwD lo hi))) H'
theorem ok_are_between (T : TA1 K mg) : FnOk P w K mg base CX0 3 T.are_between.a T.are_between.fd ["values", "low", "high"] (spAreBetween K) := by
  refine T.are_between.F.ok sc_are_between (fun vs H Q E h => ?_) (fun cdv A outer s H vs Q E hr h => ?_)
  · obtain ⟨a, xs, ds, n, ok, lo, hi, rfl, _⟩ := h; rfl
  obtain ⟨a, xs, ds, n, ok, lo, hi, rfl, hs, rd, hz, q⟩ := h
  refine ⟨_, (pss_one (ps_ret (pe_callB (kall K rfl) (by rfl) T.z_all (by decide +kernel) (pa_cons (pe_lc (own := [("value", 3)]) (g := gName 3) (by rfl) sc_are_between.nd (kpit K (pv 0)) (blkOk_by (own := [("value", 3)]) (N := ["values", "low", "high", "value"]) (sc := defScope s_are_between) (by decide +kernel)) (fun _ _ _ _ _ => (pg_name (i := 3) sc_are_between.nd rfl (Or.inl rfl))) (fun _ _ _ _ _ => pts_nil) (fun _ _ _ _ _ => (pe_call (ok_is_between T) (hr.mono (by decide)) rfl T.is_between.m T.is_between.F.kp T.is_between.b .nil pass0 (pa_cons (pv 3) (pa_cons (pv 1) (pa_cons (pv 2) pa_nil)))))) pa_nil)))), ?_⟩
  have hl := rd.1
  have fin : ∀ (p : Addr) (H2 : Hp), H p = none → Ex H H2 → H2 p = some (.lst (given xs.length (fun _ => true) (fun i => .bl (betwD lo hi (ds.getD i .none))))) → ∃ (a : Addr) (bs : List Bool), [V.ref p] = [V.ref a] ∧ SqL K H2 a (bs.map V.bl) ∧ Q (.bl (bs.all id)) H2 := by
    intro p H2 _ e2 h2
    rw [given_all] at h2
    refine ⟨p, ds.map (betwD lo hi), rfl, ?_, ?_⟩
    · have e : (List.range xs.length).map (fun i => V.bl (betwD lo hi (ds.getD i .none))) = (ds.map (betwD lo hi)).map V.bl := by
        apply List.ext_getElem?
        intro i
        rw [List.getElem?_map, List.getElem?_map, List.getElem?_map]
        by_cases c : i < xs.length
        · rw [List.getElem?_range c, List.getElem?_eq_getElem (show i < ds.length by omega)]
          simp [List.getD_eq_getElem?_getD, List.getElem?_eq_getElem (show i < ds.length by omega)]
        · rw [List.getElem?_eq_none (by rw [List.length_range]; omega), List.getElem?_eq_none (show ds.length ≤ i by omega)]
          rfl
      rw [e] at h2
      exact SqL.of h2
    · rw [List.all_map]
      exact q H2 e2
  refine (el_lcT (t := tYes) (fun _ => true) (fun i => .bl (betwD lo hi (ds.getD i .none))) (ev_var rfl) hs (by omega) (fun _ => rfl) (fun i x H1 _ _ H2 _ Q k => k H2 (Ex.refl _)) (fun i x H1 e1 hx _ => ?_)) H (Ex.refl _) (fun v H2 => rAll K [v] H2 Q) fin
  intro H2 e2 Q2 k2
  have hi := (List.getElem?_eq_some_iff.mp hx).1
  have hd : ds[i]? = some (ds[i]'(by omega)) := List.getElem?_eq_getElem _
  have r := (rd.2 i x _ hx hd).ex (e1.trans e2)
  have g : ds.getD i .none = ds[i]'(by omega) := by rw [List.getD_eq_getElem?_getD, hd]; rfl
  refine ⟨_, rfl, _, rfl, _, rfl, _, _, _, rfl, r.dat, fun b h1 h2 => ?_⟩
  rw [rd_betw r h1 h2, ← g]
  exact k2 H2 (Ex.refl _)
theorem cutV_ints (ns : List Int) (lo hi : Option Int) : ∃ ms : List Int, cutV (ns.map V.int) lo hi = ms.map V.int := by
  refine ⟨(ns.drop (HT.sIx (ns.map V.int).length 0 lo)).take (HT.sIx (ns.map V.int).length (ns.map V.int).length hi - HT.sIx (ns.map V.int).length 0 lo), ?_⟩
  unfold cutV
  rw [List.map_take, List.map_drop]
theorem ok_law_cell (T : TA1 K mg) : FnOk P w K mg base CX0 1 T.law_cell.a T.law_cell.fd ["script", "k"] (spCell K) := by
  refine T.law_cell.F.ok sc_law_cell (fun vs H Q E h => ?_) (fun cdv A outer s H vs Q E hr h => ?_)
  · obtain ⟨a, ns, k, rfl, _⟩ := h; rfl
  obtain ⟨a, ns, k, rfl, hS, h0, h1, q⟩ := h
  refine ⟨_, (pss_one (ps_ret (pe_ifExp (pt_cmpR op_lt (pv 1) (pe_callB (klen K) (by rfl) T.z_len (by decide +kernel) (pa_cons (pv 0) pa_nil)) (nomark _)) (pe_ix (kixl K) (pv 0) (pv 1) (fun _ _ => rfl)) (pe_op op_add (pe_op op_mul pe_int (pv 1)) (pe_op op_mod (pe_callTy call_int1 (by rfl) T.z_int (by decide +kernel) (pa_cons (pe_callB (ksum K rfl) (by rfl) T.z_sum (by decide +kernel) (pa_cons (pe_slice (kslL K) (pv 0) po_none (po_some pe_int)) pa_nil)) pa_nil)) pe_int))))), ?_⟩
  refine ⟨_, rfl, _, rfl, _, _, rfl, .inl ⟨_, hS, rfl⟩, _, _, rfl, rfl, _, rfl, ite2 (fun c => ?_) (fun c => ?_)⟩
  · have c' := of_decide_eq_true c
    obtain ⟨v, hv, hg⟩ := at_get h0 c'
    obtain ⟨z, _, rfl⟩ := ints_get hg
    exact ⟨_, rfl, _, rfl, _, _, _, _, rfl, rfl, hS, hv, q _ _ (Ex.refl _)⟩
  · refine ⟨_, rfl, _, _, rfl, rfl, .inl ⟨by decide, by decide⟩, _, rfl, _, rfl, _, _, rfl, hS, fun p hp => ?_⟩
    obtain ⟨ms, em⟩ := cutV_ints ns none (some 1)
    rw [em]
    refine ⟨p, ms, rfl, .inl (SqL.of upd_same), .inl ⟨_, rfl, _, _, rfl, rfl, (show (0 : Int) < 1000033 by decide), _, _, rfl, rfl, q _ _ (Ex.new hp)⟩⟩
theorem ok_law_box (T : TA1 K mg) : FnOk P w K mg base CX0 1 T.law_box.a T.law_box.fd ["great"] spBox := by
  refine T.law_box.F.ok sc_law_box (fun vs H Q E h => ?_) (fun cdv A outer s H vs Q E hr h => ?_)
  · obtain ⟨g, rfl, _⟩ := h; rfl
  obtain ⟨g, rfl, q⟩ := h
  refine ⟨_, (pss_one (ps_ret (pe_lst (pa_cons (pe_callB call_abs (by rfl) T.z_abs (by decide +kernel) (pa_cons (pv 0) pa_nil)) (pa_cons (pe_cmpR op_ge (pe_callB call_abs (by rfl) T.z_abs (by decide +kernel) (pa_cons (pv 0) pa_nil)) (pe_op op_pow pe_int pe_int) (nomark _)) (pa_cons (pe_op op_mod (pe_callTy call_int1 (by rfl) T.z_int (by decide +kernel) (pa_cons (pe_callB call_abs (by rfl) T.z_abs (by decide +kernel) (pa_cons (pv 0) pa_nil)) pa_nil)) pe_int) (pa_cons pe_int pa_nil))))))), ?_⟩
  refine ⟨_, rfl, _, rfl, _, rfl, _, rfl, _, _, rfl, rfl, ⟨by decide, by decide, by decide⟩, _, _, rfl, rfl, _, rfl, _, rfl, .inl ⟨_, rfl, _, _, rfl, rfl, (show (0 : Int) < 2147483629 by decide), (by show 4 ≤ sizeLine; decide), fun p hp => ?_⟩⟩
  refine q p _ hp (Ex.new hp) ⟨_, _, _, _, upd_same, ?_, ?_, ?_, by decide, by decide⟩
  · split <;> omega
  · omega
  · omega
theorem fmod_in {a m : Int} (h : 0 < m) : 0 ≤ a % m ∧ a % m < m := by
  exact ⟨Int.emod_nonneg _ (by omega), Int.emod_lt_of_pos _ h⟩
theorem ok_law_take (T : TA1 K mg) : FnOk P w K mg base CX0 1 T.law_take.a T.law_take.fd ["box", "many"] spTake := by
  refine T.law_take.F.ok sc_law_take (fun vs H Q E h => ?_) (fun cdv A outer s H vs Q E hr h => ?_)
  · obtain ⟨b, m, n, rfl, _⟩ := h; rfl
  obtain ⟨b, m, n, rfl, m0, m1, ⟨d, sd, c, f, hb, d0, s0, s1, c0, c1⟩, q⟩ := h
  have hL := SqL.of (K := K) hb
  refine ⟨_, (pss_cut (ps_if (PW.pt (pw_and (pt_val (pe_ix (kixl K) (pv 0) pe_int (fun _ _ => rfl))) (pw_and1 (pt_cmpR op_gt (pe_ix (kixl K) (pv 0) pe_int (fun _ _ => rfl)) pe_int (nomark _))))) (pss_cons (ps_set (i := 2) sc_law_take.nd rfl (Or.inl rfl) (pe_op op_mod (pe_callTy call_int1 (by rfl) T.z_int (by decide +kernel) (pa_cons (pe_ix (kixl K) (pv 0) pe_int (fun _ _ => rfl)) pa_nil)) (pv 1)))
    (pss_cons (ps_asg (pe_op op_fdiv (pe_ix (kixl K) (pv 0) pe_int (fun _ _ => rfl)) (pv 1)) (pg_sub (pv 0) pe_int set_list))
    (pss_one (ps_ret (pv 2))))) pss_nil)
    (pss_cons (ps_asg (pe_op op_add (pe_ix (kixl K) (pv 0) pe_int (fun _ _ => rfl)) pe_int) (pg_sub (pv 0) pe_int set_list))
    (pss_cons (ps_set (i := 3) sc_law_take.nd rfl (Or.inl rfl) (pe_op op_mod (pe_callTy call_int1 (by rfl) T.z_int (by decide +kernel) (pa_cons (pe_op op_pow (pe_op op_add (pe_op op_add (pe_ix (kixl K) (pv 0) pe_int (fun _ _ => rfl)) (pe_op op_mul pe_int (pe_ix (kixl K) (pv 0) pe_int (fun _ _ => rfl)))) pe_int) pe_int) pa_nil)) pe_int))
    (pss_one (ps_ret (pe_op op_mod (pe_callTy call_int1 (by rfl) T.z_int (by decide +kernel) (pa_cons (pe_op op_fdiv (pe_op op_mod (pe_callTy call_int1 (by rfl) T.z_int (by decide +kernel) (pa_cons (pe_op op_pow (pe_op op_add (pe_op op_mul (pv 3) pe_int) (pe_op op_mul pe_int (pe_ix (kixl K) (pv 0) pe_int (fun _ _ => rfl)))) pe_int) pa_nil)) pe_int) pe_int) pa_nil)) (pv 1))))))), ?_⟩
  have mres : ∀ x : Int, 0 ≤ x % m ∧ x % m < m := fun x => fmod_in m0
  have fm : ∀ {a k : Int}, 0 ≤ a → 0 < k → 0 ≤ a % k ∧ a % k < k := fun _ h => fmod_in h
  refine ⟨fun σ' H' => σ' = [some (.ref b), some (.int m), none, none] ∧ H' = H, ?_, ?_⟩
  · refine ⟨_, rfl, _, _, _, _, rfl, rfl, hL, rfl, f, rfl, ?_⟩
    cases f with
    | false => exact ⟨rfl, rfl⟩
    | true =>
      refine ⟨_, rfl, _, _, _, _, rfl, rfl, hL, rfl, _, _, rfl, rfl, _, rfl, ite2 (fun c => ?_) (fun _ => ⟨rfl, rfl⟩)⟩
      refine ⟨_, rfl, _, _, _, _, rfl, rfl, hL, rfl, .inl ⟨_, rfl, _, rfl, _, _, rfl, rfl, m0, ?_⟩⟩
      refine ⟨_, rfl, _, _, _, _, rfl, rfl, hL, rfl, _, rfl, _, _, rfl, rfl, ⟨by omega, by omega⟩, ?_⟩
      refine ⟨_, rfl, b, _, 0, 0, rfl, rfl, hb, rfl, ?_⟩
      refine ⟨_, rfl, q _ _ (mres _).1 (mres _).2 ⟨_, _, _, _, upd_same, ?_, s0, s1, c0, by omega⟩ But.upd⟩
      exact Int.ediv_nonneg d0 (by omega)
  · rintro σ' H' ⟨rfl, rfl⟩
    refine ⟨_, rfl, _, _, _, _, rfl, rfl, hL, rfl, _, _, rfl, rfl, ?_⟩
    refine ⟨_, rfl, b, _, 3, 3, rfl, rfl, hb, rfl, ?_⟩
    have hb2 : upd H' b (.lst [.int d, .bl f, .int sd, .int (c + 1)]) b = some (.lst [.int d, .bl f, .int sd, .int (c + 1)]) := upd_same
    have hL2 := SqL.of (K := K) hb2
    have r1 := @fmod_in ((sd + 15485863 * (c + 1) + 179424673) ^ (5 : Int).toNat) 2147483647 (by decide)
    refine ⟨_, rfl, _, _, _, _, rfl, rfl, hL2, rfl, ?_⟩
    refine ⟨_, rfl, _, _, _, _, rfl, rfl, hL2, rfl, _, _, rfl, rfl, .inl ⟨by decide, by decide⟩, _, _, rfl, rfl, _, _, rfl, rfl, ?_⟩
    refine ⟨_, _, rfl, rfl, ⟨by decide, by decide, by omega⟩, .inl ⟨_, rfl, _, _, rfl, rfl, (show (0 : Int) < 2147483647 by decide), ?_⟩⟩
    refine ⟨_, rfl, _, _, rfl, rfl, .inr ⟨by decide, by decide⟩, ?_⟩
    refine ⟨_, rfl, _, _, _, _, rfl, rfl, hL2, rfl, _, _, rfl, rfl, .inl ⟨by decide, by decide⟩, _, _, rfl, rfl, ?_⟩
    refine ⟨_, _, rfl, rfl, ⟨by decide, by decide, by omega⟩, .inl ⟨_, rfl, _, _, rfl, rfl, (show (0 : Int) < 2147483587 by decide), ?_⟩⟩
    refine ⟨_, _, rfl, rfl, ⟨by decide, by decide⟩, .inl ⟨_, rfl, _, rfl, _, _, rfl, rfl, m0, ?_⟩⟩
    exact q _ _ (mres _).1 (mres _).2 ⟨_, _, _, _, hb2, d0, s0, s1, by omega, by omega⟩ But.upd
/-! ### the law's own sameness -/
theorem none_left {sp : Sp} {f : Addr} {fd : FuncData} {ps : List Str} (no : ∀ vs H Q E, ¬ sp vs H Q E) : FnOk P w K mg base CX0 0 f fd ps sp :=
  ⟨fun vs H Q E h => absurd h (no vs H Q E), fun A outer s H args us vs Q E _ _ _ _ h => absurd h (no vs H Q E)⟩
theorem isi_at {H : Hp} {x : V} {t u : String} {b : Bool} {Q : VK} (ty : TyX K H x (.type t)) (h : kitB t u = some b) (q : Q (.bl b) H) : rIsi K [x, .ty u] H Q :=
  ⟨x, .ty u, _, _, b, rfl, .ty u, ty, kit_ty h, q⟩
def spS (K : PySem.W.Frag) : Nat → Sp
  | 0 => fun _ _ _ _ => False
  | n + 1 => spSame K n
theorem no_given {n : Nat} {v : Nat → V} : given n (fun _ => false) v = [] := by
  unfold given
  rw [List.filter_eq_nil_iff.mpr (by intro a _; decide)]
  rfl
theorem eq_empty {ta : TE} {σ : L2.St} {H : Hp} {xs : List V} (hx : xs = []) (h : EvL ta σ H xs) : Ev (tOp (rEqD K) ta (tLst tNil)) σ H (.bl true) := by
  subst hx
  exact ev_opLL h (el_lst ea_nil (Nat.zero_le _)) fun p q H1 hp hq _ => rv_val fun H2 e2 Q k =>
    ⟨.list [], .list [], .lst (SqL.of (e2 _ _ hp)) .nil, .lst (SqL.of (e2 _ _ hq)) .nil, rfl, rfl, k⟩
theorem same_step (T : TA1 K mg) (n : Nat) (ih : FnOk P w K mg base CX0 n T.law_same.a T.law_same.fd ["told", "due"] (spS K n)) :
    FnOk P w K mg base CX0 (n + 1) T.law_same.a T.law_same.fd ["told", "due"] (spS K (n + 1)) := by
  refine T.law_same.F.ok sc_law_same (fun vs H Q E h => ?_) (fun cdv A outer s H vs Q E hr h => ?_)
  · obtain ⟨x, y, rfl, _⟩ := h; rfl
  obtain ⟨x, y, rfl, hS, q⟩ := h
  refine ⟨_, (pss_cons (ps_if (PW.pt (pw_or (pt_cmpR op_isN (pv 1) pe_non (nomark _)) (pw_or1 (pt_val (pe_callB (kisi K) (by rfl) T.z_isinstance (by decide +kernel) (pa_cons (pv 1) (pa_cons (pe_bltn (v := .ty "bool") rfl T.z_bool (by decide +kernel) rfl) pa_nil))))))) (pss_one (ps_ret (pe_ifExp (pt_cmpR op_isN (pv 1) pe_non (nomark _)) (pe_cmpR op_isN (pv 0) pe_non (nomark _)) (pe_and (pe_callB (kisi K) (by rfl) T.z_isinstance (by decide +kernel) (pa_cons (pv 0) (pa_cons (pe_bltn (v := .ty "bool") rfl T.z_bool (by decide +kernel) rfl) pa_nil))) (pe_one (pe_cmpR op_eq (pe_cmpR op_is_bl (pv 0) pe_bl (nomark _)) (pe_cmpR op_is_bl (pv 1) pe_bl (nomark _)) (nomark _))))))) pss_nil)
    (pss_cons (ps_if (pt_val (pe_callB (kisi K) (by rfl) T.z_isinstance (by decide +kernel) (pa_cons (pv 1) (pa_cons (pe_bltn (v := .ty "int") rfl T.z_int (by decide +kernel) rfl) pa_nil)))) (pss_one (ps_ret (pe_and (pe_callB (kisi K) (by rfl) T.z_isinstance (by decide +kernel) (pa_cons (pv 0) (pa_cons (pe_bltn (v := .ty "int") rfl T.z_int (by decide +kernel) rfl) pa_nil))) (pe_and (pe_not (pe_callB (kisi K) (by rfl) T.z_isinstance (by decide +kernel) (pa_cons (pv 0) (pa_cons (pe_bltn (v := .ty "bool") rfl T.z_bool (by decide +kernel) rfl) pa_nil)))) (pe_one (pe_cmpR op_eq (pe_op op_sub (pe_callTy call_int1 (by rfl) T.z_int (by decide +kernel) (pa_cons (pv 0) pa_nil)) (pv 1)) pe_int (nomark _))))))) pss_nil)
    (pss_cons (ps_if (pt_val (pe_callB (kisi K) (by rfl) T.z_isinstance (by decide +kernel) (pa_cons (pv 1) (pa_cons (pe_bltn (v := .ty "str") rfl T.z_str (by decide +kernel) rfl) pa_nil)))) (pss_one (ps_ret (pe_and (pe_callB (kisi K) (by rfl) T.z_isinstance (by decide +kernel) (pa_cons (pv 0) (pa_cons (pe_bltn (v := .ty "str") rfl T.z_str (by decide +kernel) rfl) pa_nil))) (pe_and (pe_cmpR op_eq (pe_callB (klen K) (by rfl) T.z_len (by decide +kernel) (pa_cons (pv 0) pa_nil)) (pe_callB (klen K) (by rfl) T.z_len (by decide +kernel) (pa_cons (pv 1) pa_nil)) (nomark _)) (pe_one (pe_cmpR (keqD K hr.units) (pe_lc (own := [("k", 2)]) (g := gName 2) (by rfl) sc_law_same.nd (pi_range1 rfl T.z_range (pa_cons (pe_callB (klen K) (by rfl) T.z_len (by decide +kernel) (pa_cons (pv 1) pa_nil)) pa_nil)) (blkOk_by (own := [("k", 2)]) (N := ["told", "due", "k"]) (sc := defScope s_law_same) (by decide +kernel)) (fun _ _ _ _ _ => (pg_name (i := 2) sc_law_same.nd rfl (Or.inl rfl))) (fun _ _ _ _ _ => (pts_one (pt_cmpR op_ne (pe_slice sl_str (pv 0) (po_some (pv 2)) (po_some (pe_op op_add (pv 2) pe_int))) (pe_ix (kix K) (pv 1) (pv 2) (fun _ _ => rfl)) (nomark _)))) (fun _ _ _ _ _ => (pv 2))) (pe_lst pa_nil) (nomark _))))))) pss_nil)
    (pss_cons (ps_if (PW.pt (pw_or (pt_cmpR op_ne (pe_callB (kisi K) (by rfl) T.z_isinstance (by decide +kernel) (pa_cons (pv 0) (pa_cons (pe_bltn (v := .ty "list") rfl T.z_list (by decide +kernel) rfl) pa_nil))) (pe_callB (kisi K) (by rfl) T.z_isinstance (by decide +kernel) (pa_cons (pv 1) (pa_cons (pe_bltn (v := .ty "list") rfl T.z_list (by decide +kernel) rfl) pa_nil))) (nomark _)) (pw_or1 (pt_cmpR op_ne (pe_callB (kisi K) (by rfl) T.z_isinstance (by decide +kernel) (pa_cons (pv 0) (pa_cons (pe_bltn (v := .ty "tuple") rfl T.z_tuple (by decide +kernel) rfl) pa_nil))) (pe_callB (kisi K) (by rfl) T.z_isinstance (by decide +kernel) (pa_cons (pv 1) (pa_cons (pe_bltn (v := .ty "tuple") rfl T.z_tuple (by decide +kernel) rfl) pa_nil))) (nomark _))))) (pss_one (ps_ret pe_bl)) pss_nil)
    (pss_one (ps_ret (pe_and (pe_cmpR op_eq (pe_callB (klen K) (by rfl) T.z_len (by decide +kernel) (pa_cons (pv 0) pa_nil)) (pe_callB (klen K) (by rfl) T.z_len (by decide +kernel) (pa_cons (pv 1) pa_nil)) (nomark _)) (pe_one (pe_cmpR (keqD K hr.units) (pe_lc (own := [("k", 2)]) (g := gName 2) (by rfl) sc_law_same.nd (pi_range1 rfl T.z_range (pa_cons (pe_callB (klen K) (by rfl) T.z_len (by decide +kernel) (pa_cons (pv 1) pa_nil)) pa_nil)) (blkOk_by (own := [("k", 2)]) (N := ["told", "due", "k"]) (sc := defScope s_law_same) (by decide +kernel)) (fun _ _ _ _ _ => (pg_name (i := 2) sc_law_same.nd rfl (Or.inl rfl))) (fun _ _ _ _ _ => (pts_one (pt_not (pt_val (pe_call (ih) hr rfl T.law_same.m T.law_same.F.kp T.law_same.b .nil pass0 (pa_cons (pe_ix (kix K) (pv 0) (pv 2) (fun _ _ => rfl)) (pa_cons (pe_ix (kix K) (pv 1) (pv 2) (fun _ _ => rfl)) pa_nil))))))) (fun _ _ _ _ _ => (pv 2))) (pe_lst pa_nil) (nomark _)))))))))), ?_⟩
  cases hS with
  | non => exact ⟨_, rfl, rfl, _, rfl, iteT (iteT ⟨_, rfl, rfl, _, rfl, iteT ⟨_, rfl, rfl, q _ (Ex.refl _)⟩⟩)⟩
  | bl b =>
    refine ⟨_, rfl, rfl, _, rfl, iteF ⟨_, rfl, _, _, _, _, true, rfl, .ty _, (.base (.bl b)), kit_ty (by decide +kernel), ⟨_, rfl, iteT ⟨_, rfl, rfl, _, rfl, iteF ?_⟩⟩⟩⟩
    refine ⟨_, rfl, _, _, _, _, true, rfl, .ty _, (.base (.bl b)), kit_ty (by decide +kernel), ⟨_, rfl, iteT ⟨_, rfl, _, _, rfl, rfl, _, rfl, _, _, rfl, rfl, rfl, ?_⟩⟩⟩
    rw [decide_eq_true (rfl : V.bl (decide (b = true)) = V.bl (decide (b = true)))]
    exact q _ (Ex.refl _)
  | int i =>
    refine ⟨_, rfl, rfl, _, rfl, iteF ⟨_, rfl, _, _, _, _, false, rfl, .ty _, (.base (.int i)), kit_ty (by decide +kernel), ⟨_, rfl, iteF ?_⟩⟩⟩
    refine ⟨_, rfl, _, _, _, _, true, rfl, .ty _, (.base (.int i)), kit_ty (by decide +kernel), ⟨_, rfl, iteT ?_⟩⟩
    refine ⟨_, rfl, _, _, _, _, true, rfl, .ty _, (.base (.int i)), kit_ty (by decide +kernel), ⟨_, rfl, iteT ?_⟩⟩
    refine ⟨_, rfl, _, _, _, _, false, rfl, .ty _, (.base (.int i)), kit_ty (by decide +kernel), ⟨_, rfl, _, rfl, iteT ?_⟩⟩
    refine ⟨_, rfl, .inl ⟨_, rfl, _, rfl, _, _, rfl, rfl, rfl, ?_⟩⟩
    show Q (V.bl (decide (V.int (i - i) = V.int 0))) H
    rw [Int.sub_self]
    exact q _ (Ex.refl _)
  | str z hz =>
    have hz' : z.length ≤ sizeLine := Nat.le_trans hz (by decide)
    refine ⟨_, rfl, rfl, _, rfl, iteF ⟨_, rfl, _, _, _, _, false, rfl, .ty _, (.base (.str z)), kit_ty (by decide +kernel), ⟨_, rfl, iteF ?_⟩⟩⟩
    refine ⟨_, rfl, _, _, _, _, false, rfl, .ty _, (.base (.str z)), kit_ty (by decide +kernel), ⟨_, rfl, iteF ?_⟩⟩
    refine ⟨_, rfl, _, _, _, _, true, rfl, .ty _, (.base (.str z)), kit_ty (by decide +kernel), ⟨_, rfl, iteT ?_⟩⟩
    refine ⟨_, rfl, _, _, _, _, true, rfl, .ty _, (.base (.str z)), kit_ty (by decide +kernel), ⟨_, rfl, iteT ?_⟩⟩
    refine ⟨_, rfl, _, z.length, rfl, ⟨hz', rfl⟩, _, rfl, _, z.length, rfl, ⟨hz', rfl⟩, rfl, _, rfl, ?_⟩
    rw [if_pos (decide_eq_true rfl)]
    refine eq_empty (no_given (n := (z.length : Int).toNat) (v := fun _ => V.non)) ?_ H (Ex.refl _) Q (fun H2 e2 => q H2 e2)
    refine el_lcR1 (fun _ => false) (fun _ => V.non) ?_ ⟨by omega, by omega⟩ (fun _ => rfl) ?_ (fun _ _ _ _ hf => nomatch hf)
    · exact fun H1 e Q' k => ⟨_, rfl, _, z.length, rfl, ⟨hz', rfl⟩, k H1 (Ex.refl _)⟩
    · intro i H1 e hi
      have hz2 : i < z.cps.toList.length := by
        have e2 : z.cps.toList.length = z.length := Array.length_toList
        omega
      have hat : atI z.cps.toList (i : Int) = some z.cps.toList[i] := atI_nat (List.getElem?_eq_getElem hz2)
      have hc := cut_one (List.getElem?_eq_getElem hz2)
      intro H2 e2 Q2 k2
      refine ⟨_, rfl, _, rfl, _, rfl, _, rfl, _, _, rfl, rfl, _, rfl, z, rfl, hz', _, rfl, _, rfl, .inr (.inr ⟨z, _, _, rfl, rfl, hz', hat, rfl, _, rfl, ?_⟩)⟩
      rw [hc, decide_eq_true rfl]
      exact k2 H2 (Ex.refl _)
  | @lst n a b xs ys h1 h2 hl hl1 all =>
    refine ⟨_, rfl, rfl, _, rfl, iteF ⟨_, rfl, _, _, _, _, false, rfl, .ty _, (tyL h2), kit_ty (by decide +kernel), ⟨_, rfl, iteF ?_⟩⟩⟩
    refine ⟨_, rfl, _, _, _, _, false, rfl, .ty _, (tyL h2), kit_ty (by decide +kernel), ⟨_, rfl, iteF ?_⟩⟩
    refine ⟨_, rfl, _, _, _, _, false, rfl, .ty _, (tyL h2), kit_ty (by decide +kernel), ⟨_, rfl, iteF ?_⟩⟩
    refine ⟨_, rfl, _, _, _, _, true, rfl, .ty _, (tyL h1), kit_ty (by decide +kernel), ⟨_, rfl, _, _, _, _, true, rfl, .ty _, (tyL h2), kit_ty (by decide +kernel), ⟨rfl, _, rfl, iteF ?_⟩⟩⟩
    refine ⟨_, rfl, _, _, _, _, false, rfl, .ty _, (tyL h1), kit_ty (by decide +kernel), ⟨_, rfl, _, _, _, _, false, rfl, .ty _, (tyL h2), kit_ty (by decide +kernel), ⟨rfl, _, rfl, iteF ?_⟩⟩⟩
    refine ⟨_, rfl, _, xs.length, rfl, .inl ⟨_, h1, rfl⟩, _, rfl, _, ys.length, rfl, .inl ⟨_, h2, rfl⟩, rfl, _, rfl, ?_⟩
    rw [if_pos (decide_eq_true (by rw [hl]))]
    refine eq_empty (no_given (n := (ys.length : Int).toNat) (v := fun _ => V.non)) ?_ H (Ex.refl _) Q (fun H2 e2 => q H2 e2)
    refine el_lcR1 (fun _ => false) (fun _ => V.non) ?_ ⟨by omega, by omega⟩ (fun _ => rfl) ?_ (fun _ _ _ _ hf => nomatch hf)
    · exact fun H1 e Q' k => ⟨_, rfl, _, ys.length, rfl, .inl ⟨_, ex_l e h2, rfl⟩, k H1 (Ex.refl _)⟩
    · intro i H1 e hi H2 e2 Q2 k2
      have hy : ys[i]? = some ys[i] := List.getElem?_eq_getElem (by omega)
      have hx : xs[i]? = some xs[i] := List.getElem?_eq_getElem (by omega)
      refine ⟨_, rfl, _, rfl, .inl ⟨_, _, _, _, rfl, rfl, ex_l (e.trans e2) h1, atI_nat hx, _, rfl, _, rfl, .inl ⟨_, _, _, _, rfl, rfl, ex_l (e.trans e2) h2, atI_nat hy, ?_⟩⟩⟩
      exact ⟨_, _, rfl, (all i _ _ hx hy).ex (e.trans e2), fun H3 e3 => ⟨true, rfl, k2 H3 e3⟩⟩
  | @tup n a b xs ys h1 h2 hl hl1 all =>
    refine ⟨_, rfl, rfl, _, rfl, iteF ⟨_, rfl, _, _, _, _, false, rfl, .ty _, (tyT h2), kit_ty (by decide +kernel), ⟨_, rfl, iteF ?_⟩⟩⟩
    refine ⟨_, rfl, _, _, _, _, false, rfl, .ty _, (tyT h2), kit_ty (by decide +kernel), ⟨_, rfl, iteF ?_⟩⟩
    refine ⟨_, rfl, _, _, _, _, false, rfl, .ty _, (tyT h2), kit_ty (by decide +kernel), ⟨_, rfl, iteF ?_⟩⟩
    refine ⟨_, rfl, _, _, _, _, false, rfl, .ty _, (tyT h1), kit_ty (by decide +kernel), ⟨_, rfl, _, _, _, _, false, rfl, .ty _, (tyT h2), kit_ty (by decide +kernel), ⟨rfl, _, rfl, iteF ?_⟩⟩⟩
    refine ⟨_, rfl, _, _, _, _, true, rfl, .ty _, (tyT h1), kit_ty (by decide +kernel), ⟨_, rfl, _, _, _, _, true, rfl, .ty _, (tyT h2), kit_ty (by decide +kernel), ⟨rfl, _, rfl, iteF ?_⟩⟩⟩
    refine ⟨_, rfl, _, xs.length, rfl, .inr ⟨_, h1, rfl⟩, _, rfl, _, ys.length, rfl, .inr ⟨_, h2, rfl⟩, rfl, _, rfl, ?_⟩
    rw [if_pos (decide_eq_true (by rw [hl]))]
    refine eq_empty (no_given (n := (ys.length : Int).toNat) (v := fun _ => V.non)) ?_ H (Ex.refl _) Q (fun H2 e2 => q H2 e2)
    refine el_lcR1 (fun _ => false) (fun _ => V.non) ?_ ⟨by omega, by omega⟩ (fun _ => rfl) ?_ (fun _ _ _ _ hf => nomatch hf)
    · exact fun H1 e Q' k => ⟨_, rfl, _, ys.length, rfl, .inr ⟨_, ex_t e h2, rfl⟩, k H1 (Ex.refl _)⟩
    · intro i H1 e hi H2 e2 Q2 k2
      have hy : ys[i]? = some ys[i] := List.getElem?_eq_getElem (by omega)
      have hx : xs[i]? = some xs[i] := List.getElem?_eq_getElem (by omega)
      refine ⟨_, rfl, _, rfl, .inr (.inl ⟨_, _, _, _, rfl, rfl, ex_t (e.trans e2) h1, atI_nat hx, _, rfl, _, rfl, .inr (.inl ⟨_, _, _, _, rfl, rfl, ex_t (e.trans e2) h2, atI_nat hy, ?_⟩)⟩)⟩
      exact ⟨_, _, rfl, (all i _ _ hx hy).ex (e.trans e2), fun H3 e3 => ⟨true, rfl, k2 H3 e3⟩⟩
theorem ok_same (T : TA1 K mg) : ∀ n, FnOk P w K mg base CX0 n T.law_same.a T.law_same.fd ["told", "due"] (spS K n)
  | 0 => none_left fun _ _ _ _ h => h
  | n + 1 => same_step T n (ok_same T n)
theorem ok_law_same (T : TA1 K mg) : FnOk P w K mg base CX0 9 T.law_same.a T.law_same.fd ["told", "due"] (spSame K 8) := ok_same T 9
end
end L2.U


set_option Elab.async false
set_option linter.all false
set_option maxRecDepth 100000
set_option maxHeartbeats 4000000
namespace L2.U
open PySem PySem.Spec PyProof.Rows Evl
abbrev s_is_spec : Stmt := top 13
theorem sc_is_spec : FnScope ["value"] ["value"] (defScope s_is_spec) := ⟨rfl, rfl, rfl, by decide +kernel, rfl, by decide +kernel, by decide +kernel⟩
abbrev s_check_side : Stmt := top 15
theorem sc_check_side : FnScope ["side"] ["side"] (defScope s_check_side) := ⟨rfl, rfl, rfl, by decide +kernel, rfl, by decide +kernel, by decide +kernel⟩
abbrev s_Line_init : Stmt := inClass (top 14) 0
theorem sc_Line_init : FnScope ["self", "spec"] ["self", "spec"] (defScope s_Line_init) := ⟨rfl, rfl, rfl, by decide +kernel, rfl, by decide +kernel, by decide +kernel⟩
abbrev s_Line_kinds : Stmt := inClass (top 14) 1
theorem sc_Line_kinds : FnScope ["self", "side"] ["self", "side"] (defScope s_Line_kinds) := ⟨rfl, rfl, rfl, by decide +kernel, rfl, by decide +kernel, by decide +kernel⟩
abbrev s_Line_send : Stmt := inClass (top 14) 2
theorem sc_Line_send : FnScope ["self", "side", "kind"] ["self", "side", "kind"] (defScope s_Line_send) := ⟨rfl, rfl, rfl, by decide +kernel, rfl, by decide +kernel, by decide +kernel⟩
abbrev s_Line_come : Stmt := inClass (top 14) 3
theorem sc_Line_come : FnScope ["self", "side", "kind"] ["self", "side", "kind"] (defScope s_Line_come) := ⟨rfl, rfl, rfl, by decide +kernel, rfl, by decide +kernel, by decide +kernel⟩
abbrev s_Line_sent : Stmt := inClass (top 14) 4
theorem sc_Line_sent : FnScope ["self", "side"] ["self", "side"] (defScope s_Line_sent) := ⟨rfl, rfl, rfl, by decide +kernel, rfl, by decide +kernel, by decide +kernel⟩
abbrev s_Line_come_to : Stmt := inClass (top 14) 5
theorem sc_Line_come_to : FnScope ["self", "side"] ["self", "side"] (defScope s_Line_come_to) := ⟨rfl, rfl, rfl, by decide +kernel, rfl, by decide +kernel, by decide +kernel⟩
abbrev s_Line_under_way : Stmt := inClass (top 14) 6
theorem sc_Line_under_way : FnScope ["self", "side", "kind"] ["self", "side"] (defScope s_Line_under_way) := ⟨rfl, rfl, rfl, by decide +kernel, rfl, by decide +kernel, by decide +kernel⟩
abbrev s_Line_unsent : Stmt := inClass (top 14) 7
theorem sc_Line_unsent : FnScope ["self", "side", "kinds", "kind"] ["self", "side"] (defScope s_Line_unsent) := ⟨rfl, rfl, rfl, by decide +kernel, rfl, by decide +kernel, by decide +kernel⟩
abbrev s_Line_left : Stmt := inClass (top 14) 8
theorem sc_Line_left : FnScope ["self", "raised"] ["self"] (defScope s_Line_left) := ⟨rfl, rfl, rfl, by decide +kernel, rfl, by decide +kernel, by decide +kernel⟩
abbrev s_Line_copy : Stmt := inClass (top 14) 9
theorem sc_Line_copy : FnScope ["self", "line", "sent", "come"] ["self"] (defScope s_Line_copy) := ⟨rfl, rfl, rfl, by decide +kernel, rfl, by decide +kernel, by decide +kernel⟩
abbrev s_Line_has_wires : Stmt := inClass (top 14) 10
theorem sc_Line_has_wires : FnScope ["self"] ["self"] (defScope s_Line_has_wires) := ⟨rfl, rfl, rfl, by decide +kernel, rfl, by decide +kernel, by decide +kernel⟩
abbrev s_Line_can_be_sent : Stmt := inClass (top 14) 11
theorem sc_Line_can_be_sent : FnScope ["self", "side", "kind"] ["self", "side", "kind"] (defScope s_Line_can_be_sent) := ⟨rfl, rfl, rfl, by decide +kernel, rfl, by decide +kernel, by decide +kernel⟩
abbrev s_Line_can_come : Stmt := inClass (top 14) 12
theorem sc_Line_can_come : FnScope ["self", "side", "kind"] ["self", "side", "kind"] (defScope s_Line_can_come) := ⟨rfl, rfl, rfl, by decide +kernel, rfl, by decide +kernel, by decide +kernel⟩
abbrev s_init_InvalidSpec : Stmt := inClass (top 6) 0
theorem sc_init_InvalidSpec : FnScope ["self", "given"] ["self", "given"] (defScope s_init_InvalidSpec) := ⟨rfl, rfl, rfl, by decide +kernel, rfl, by decide +kernel, by decide +kernel⟩
abbrev s_init_InvalidSide : Stmt := inClass (top 7) 0
theorem sc_init_InvalidSide : FnScope ["self", "given"] ["self", "given"] (defScope s_init_InvalidSide) := ⟨rfl, rfl, rfl, by decide +kernel, rfl, by decide +kernel, by decide +kernel⟩
abbrev s_init_InvalidKind : Stmt := inClass (top 8) 0
theorem sc_init_InvalidKind : FnScope ["self", "given"] ["self", "given"] (defScope s_init_InvalidKind) := ⟨rfl, rfl, rfl, by decide +kernel, rfl, by decide +kernel, by decide +kernel⟩
abbrev s_init_NotSent : Stmt := inClass (top 9) 0
theorem sc_init_NotSent : FnScope ["self", "kind"] ["self", "kind"] (defScope s_init_NotSent) := ⟨rfl, rfl, rfl, by decide +kernel, rfl, by decide +kernel, by decide +kernel⟩
structure TL (K : PySem.W.Frag) (mg : Str → Option Value) extends TA1 K mg where
  is_spec : DefAt K mg "is_spec" s_is_spec ["value"]
  check_side : DefAt K mg "_check_side" s_check_side ["side"]
  InvalidSpec : ErrAt K mg "InvalidSpec" "InvalidSpec.__init__" s_init_InvalidSpec "given"
  InvalidSide : ErrAt K mg "InvalidSide" "InvalidSide.__init__" s_init_InvalidSide "given"
  InvalidKind : ErrAt K mg "InvalidKind" "InvalidKind.__init__" s_init_InvalidKind "given"
  NotSent : ErrAt K mg "NotSent" "NotSent.__init__" s_init_NotSent "kind"
  C : Addr
  gL : mg "Line" = some (.ref C)
  cl : Cls K C
  m_init : MethAt K C "__init__" "Line.__init__" s_Line_init ["self", "spec"]
  m_kinds : MethAt K C "kinds" "Line.kinds" s_Line_kinds ["self", "side"]
  m_send : MethAt K C "send" "Line.send" s_Line_send ["self", "side", "kind"]
  m_come : MethAt K C "come" "Line.come" s_Line_come ["self", "side", "kind"]
  m_sent : MethAt K C "sent" "Line.sent" s_Line_sent ["self", "side"]
  m_come_to : MethAt K C "come_to" "Line.come_to" s_Line_come_to ["self", "side"]
  m_under_way : MethAt K C "under_way" "Line.under_way" s_Line_under_way ["self", "side"]
  m_unsent : MethAt K C "unsent" "Line.unsent" s_Line_unsent ["self", "side"]
  m_left : MethAt K C "left" "Line.left" s_Line_left ["self"]
  m_copy : MethAt K C "copy" "Line.copy" s_Line_copy ["self"]
  m_has_wires : MethAt K C "_has_wires" "Line._has_wires" s_Line_has_wires ["self"]
  m_can_be_sent : MethAt K C "_can_be_sent" "Line._can_be_sent" s_Line_can_be_sent ["self", "side", "kind"]
  m_can_come : MethAt K C "_can_come" "Line._can_come" s_Line_can_come ["self", "side", "kind"]
  mkc : Mk K C m_init.a
  n_spec : NoAttr K C "spec"
  n_sent : NoAttr K C "_sent_by"
  n_came : NoAttr K C "_came_to"
  t_MOST_LETTERS : Tok
  c_MOST_LETTERS : mg "MOST_LETTERS" = some (.int 8 t_MOST_LETTERS)
  t_MOST_WIRES : Tok
  c_MOST_WIRES : mg "MOST_WIRES" = some (.int 10 t_MOST_WIRES)
  z_sorted : mg "sorted" = none
  z_set : mg "set" = none
section
variable {P : Program} {w : World} {K : PySem.W.Frag} {mg : Str → Option Value} {base : Heap}
theorem ok_init_InvalidSpec (T : ErrAt K mg "InvalidSpec" "InvalidSpec.__init__" s_init_InvalidSpec "given") : FnOk P w K mg base CX0 1 T.fI T.fd ["self", "given"] (spInit T.C "given") := by
  refine T.F.ok sc_init_InvalidSpec (fun vs H Q E h => ?_) (fun cdv A outer s H vs Q E hr h => ?_)
  · obtain ⟨a, y, rfl, _⟩ := h; rfl
  obtain ⟨a, y, rfl, ha, q⟩ := h
  exact ⟨_, pss_one (ps_ost (pv 0) (pv 1)), _, rfl, _, rfl, a, T.C, rfl, T.T, T.nf, .inl ⟨ha, fun d hd nd => q d hd nd⟩⟩
theorem ok_init_InvalidSide (T : ErrAt K mg "InvalidSide" "InvalidSide.__init__" s_init_InvalidSide "given") : FnOk P w K mg base CX0 1 T.fI T.fd ["self", "given"] (spInit T.C "given") := by
  refine T.F.ok sc_init_InvalidSide (fun vs H Q E h => ?_) (fun cdv A outer s H vs Q E hr h => ?_)
  · obtain ⟨a, y, rfl, _⟩ := h; rfl
  obtain ⟨a, y, rfl, ha, q⟩ := h
  exact ⟨_, pss_one (ps_ost (pv 0) (pv 1)), _, rfl, _, rfl, a, T.C, rfl, T.T, T.nf, .inl ⟨ha, fun d hd nd => q d hd nd⟩⟩
theorem ok_init_InvalidKind (T : ErrAt K mg "InvalidKind" "InvalidKind.__init__" s_init_InvalidKind "given") : FnOk P w K mg base CX0 1 T.fI T.fd ["self", "given"] (spInit T.C "given") := by
  refine T.F.ok sc_init_InvalidKind (fun vs H Q E h => ?_) (fun cdv A outer s H vs Q E hr h => ?_)
  · obtain ⟨a, y, rfl, _⟩ := h; rfl
  obtain ⟨a, y, rfl, ha, q⟩ := h
  exact ⟨_, pss_one (ps_ost (pv 0) (pv 1)), _, rfl, _, rfl, a, T.C, rfl, T.T, T.nf, .inl ⟨ha, fun d hd nd => q d hd nd⟩⟩
theorem ok_init_NotSent (T : ErrAt K mg "NotSent" "NotSent.__init__" s_init_NotSent "kind") : FnOk P w K mg base CX0 1 T.fI T.fd ["self", "kind"] (spInit T.C "kind") := by
  refine T.F.ok sc_init_NotSent (fun vs H Q E h => ?_) (fun cdv A outer s H vs Q E hr h => ?_)
  · obtain ⟨a, y, rfl, _⟩ := h; rfl
  obtain ⟨a, y, rfl, ha, q⟩ := h
  exact ⟨_, pss_one (ps_ost (pv 0) (pv 1)), _, rfl, _, rfl, a, T.C, rfl, T.T, T.nf, .inl ⟨ha, fun d hd nd => q d hd nd⟩⟩
/-! ## a line, and what it knows -/
inductive Knd where
  | letr (m b : Int)
  | wir (k : Int)
def Knd.vals : Knd → List V
  | .letr m b => [.str "letters", .int m, .int b]
  | .wir k => [.str "wires", .int k]
def Knd.many : Knd → Int → Int
  | .letr m b, s => if s = 0 then m else b
  | .wir k, _ => k
def Knd.wires : Knd → Bool
  | .letr _ _ => false
  | .wir _ => true
def Knd.Ok : Knd → Prop
  | .letr m b => (0 ≤ m ∧ m ≤ 8) ∧ 0 ≤ b ∧ b ≤ 8
  | .wir k => 0 ≤ k ∧ k ≤ 10
theorem Knd.many_le {k : Knd} (h : k.Ok) (s : Int) : 0 ≤ k.many s ∧ k.many s ≤ 10 := by
  cases k with
  | letr m b =>
    have h' : (0 ≤ m ∧ m ≤ 8) ∧ 0 ≤ b ∧ b ≤ 8 := h
    show 0 ≤ (if s = 0 then m else b) ∧ (if s = 0 then m else b) ≤ 10
    split <;> omega
  | wir k =>
    have h' : 0 ≤ k ∧ k ≤ 10 := h
    exact h'
structure Ln where
  p : Addr
  dx : Addr
  sp : Addr
  sb : Addr
  cb : Addr
  a0 : Addr
  a1 : Addr
  d0 : Addr
  d1 : Addr
def Ln.a (A : Ln) (s : Int) : Addr := if s = 0 then A.a0 else A.a1
def Ln.d (A : Ln) (s : Int) : Addr := if s = 0 then A.d0 else A.d1
structure LS where
  kd : Knd
  s0 : List Int
  s1 : List Int
  c0 : List Int
  c1 : List Int
def LS.s (L : LS) (s : Int) : List Int := if s = 0 then L.s0 else L.s1
def LS.c (L : LS) (s : Int) : List Int := if s = 0 then L.c0 else L.c1
def Side (s : Int) : Prop := 0 ≤ s ∧ s ≤ 1
structure LineAt (C : Addr) (A : Ln) (L : LS) (H : Hp) : Prop where
  obj : H A.p = some (.ins C A.dx [("spec", .ref A.sp), ("_sent_by", .ref A.sb), ("_came_to", .ref A.cb)])
  sp : H A.sp = some (.tup L.kd.vals)
  sb : H A.sb = some (.lst [.ref A.a0, .ref A.a1])
  cb : H A.cb = some (.lst [.ref A.d0, .ref A.d1])
  a0 : H A.a0 = some (.lst (L.s0.map V.int))
  a1 : H A.a1 = some (.lst (L.s1.map V.int))
  d0 : H A.d0 = some (.lst (L.c0.map V.int))
  d1 : H A.d1 = some (.lst (L.c1.map V.int))
  ok : L.kd.Ok
theorem LineAt.ex {C : Addr} {A : Ln} {L : LS} {H H' : Hp} (l : LineAt C A L H) (e : Ex H H') : LineAt C A L H' :=
  ⟨e _ _ l.obj, e _ _ l.sp, e _ _ l.sb, e _ _ l.cb, e _ _ l.a0, e _ _ l.a1, e _ _ l.d0, e _ _ l.d1, l.ok⟩
theorem LineAt.a {C : Addr} {A : Ln} {L : LS} {H : Hp} (l : LineAt C A L H) (s : Int) : H (A.a s) = some (.lst ((L.s s).map V.int)) := by
  unfold Ln.a LS.s; split
  · exact l.a0
  · exact l.a1
theorem LineAt.d {C : Addr} {A : Ln} {L : LS} {H : Hp} (l : LineAt C A L H) (s : Int) : H (A.d s) = some (.lst ((L.c s).map V.int)) := by
  unfold Ln.d LS.c; split
  · exact l.d0
  · exact l.d1
theorem at_a {A : Ln} {s : Int} (h : Side s) : atI [V.ref A.a0, V.ref A.a1] s = some (.ref (A.a s)) := by
  rcases (by unfold Side at h; omega : s = 0 ∨ s = 1) with rfl | rfl <;> rfl
theorem at_d {A : Ln} {s : Int} (h : Side s) : atI [V.ref A.d0, V.ref A.d1] s = some (.ref (A.d s)) := by
  rcases (by unfold Side at h; omega : s = 0 ∨ s = 1) with rfl | rfl <;> rfl
theorem Side.other {s : Int} (h : Side s) : Side (1 - s) := by unfold Side at *; omega
def sideD (d : PyData) : Bool := betwD 0 1 d
/-- a check of any data: it lets what is right, else raises the error of C with the very value -/
def spChkD (K : PySem.W.Frag) (C : Addr) (okD : PyData → Bool) : Sp := fun vs H Q E => ∃ x d n ok, vs = [x] ∧ Rd K ok H n x d ∧ (okD d = true → ∀ H', Ex H H' → Q .non H') ∧
  (okD d = false → ∀ e H', Ex H H' → H' e = some (.xd [("given", x)]) → E (.ref C) (some e) H')
theorem side_int {ok : Addr → Prop} {H : Hp} {n : Nat} {x : V} {d : PyData} (h : Rd K ok H n x d) (c : sideD d = true) : ∃ i, x = .int i ∧ d = .int i ∧ Side i := by
  obtain ⟨i, h1, h2, h3⟩ := betw_int h c
  exact ⟨i, h1, h2, h3⟩
theorem side_ok {s : Int} (h : Side s) : sideD (.int s) = true := decide_eq_true h
theorem ok_check_side (T : TL K mg) : FnOk P w K mg base (L2.CX P w) 4 T.check_side.a T.check_side.fd ["side"] (spChkD K T.InvalidSide.C sideD) := by
  refine T.check_side.F.okX sc_check_side (fun vs H Q E h => ?_) (fun cdv A outer s H vs Q E hr h => ?_)
  · obtain ⟨x, d, n, ok, rfl, _⟩ := h; rfl
  obtain ⟨x, d, n, ok, rfl, h, q1, q2⟩ := h
  refine ⟨_, (pss_one (ps_if (pt_not (pt_val (pe_call (ok_is_between T.toTA1) (hr.mono (by decide)) rfl T.is_between.m T.is_between.F.kp T.is_between.b .nil pass0 (pa_cons (pv 0) (pa_cons pe_int (pa_cons pe_int pa_nil)))))) (pss_one (ps_raise rfl (takes_of rfl rfl rfl rfl) (pmk_oex T.InvalidSide.T T.InvalidSide.iC T.InvalidSide.tI (ok_init_InvalidSide T.InvalidSide) (hr.mono (by decide)) T.InvalidSide.b .nil pass0 rfl T.InvalidSide.gC (by exact (pa_cons (pv 0) pa_nil))))) pss_nil)), ?_⟩
  refine ⟨_, rfl, _, _, _, rfl, h.dat, fun b h1 h2 => ⟨b, rfl, ?_⟩⟩
  have hb := rd_betw h h1 h2
  subst hb
  cases c : betwD 0 1 d with
  | true => exact q1 c _ (Ex.refl _)
  | false => exact ⟨_, rfl, (by show 1 ≤ 1000; decide), fun a ha => raised ha fun e H' ex he => q2 c e H' ex he⟩
def spWires (C : Addr) : Sp := fun vs H Q _ => ∃ (A : Ln) (L : LS), vs = [.ref A.p] ∧ LineAt C A L H ∧ Q (.bl L.kd.wires) H
theorem ok_Line_has_wires (T : TL K mg) : FnOk P w K mg base CX0 1 T.m_has_wires.a T.m_has_wires.fd ["self"] (spWires T.C) := by
  refine T.m_has_wires.F.ok sc_Line_has_wires (fun vs H Q E h => ?_) (fun cdv A outer s H vs Q E hr h => ?_)
  · obtain ⟨A, L, rfl, _⟩ := h; rfl
  obtain ⟨A, L, rfl, l, q⟩ := h
  refine ⟨_, (pss_one (ps_ret (pe_cmpR op_eq (pe_ix (kixt K) (pe_fld (pv 0) rfl) pe_int (fun _ _ => rfl)) pe_str (nomark _)))), ?_⟩
  have hv : ∃ x, atI L.kd.vals 0 = some (.str x) ∧ decide (V.str x = V.str "wires") = L.kd.wires := by
    cases L.kd with
    | letr m b => exact ⟨"letters", rfl, (show decide (V.str "letters" = V.str "wires") = false by decide +kernel)⟩
    | wir k => exact ⟨"wires", rfl, (show decide (V.str "wires" = V.str "wires") = true by decide +kernel)⟩
  obtain ⟨x, hx, hd⟩ := hv
  refine ⟨_, rfl, A.p, T.C, A.dx, _, _, rfl, l.obj, T.cl, T.n_spec, rfl, _, _, _, _, rfl, rfl, st_of l.sp, hx, rfl, ?_⟩
  rw [hd]
  exact q
def canS (L : LS) (s k : Int) : Bool := !(L.kd.wires && decide (k ∈ L.c s)) && !decide (k ∈ L.s s)
def canC (L : LS) (s k : Int) : Bool := !(L.kd.wires && decide (k ∈ L.s s)) && !decide (k ∈ L.c s)
def spCanS (C : Addr) : Sp := fun vs H Q _ => ∃ (A : Ln) (L : LS) (s k : Int), vs = [.ref A.p, .int s, .int k] ∧ Side s ∧ LineAt C A L H ∧ Q (.bl (canS L s k)) H
def spCanC (C : Addr) : Sp := fun vs H Q _ => ∃ (A : Ln) (L : LS) (s k : Int), vs = [.ref A.p, .int s, .int k] ∧ Side s ∧ LineAt C A L H ∧ Q (.bl (canC L s k)) H
theorem ok_Line_can_be_sent (T : TL K mg) : FnOk P w K mg base CX0 2 T.m_can_be_sent.a T.m_can_be_sent.fd ["self", "side", "kind"] (spCanS T.C) := by
  refine T.m_can_be_sent.F.ok sc_Line_can_be_sent (fun vs H Q E h => ?_) (fun cdv A outer s H vs Q E hr h => ?_)
  · obtain ⟨A, L, s, k, rfl, _⟩ := h; rfl
  obtain ⟨A, L, s, k, rfl, hs, l, q⟩ := h
  refine ⟨_, (pss_cut (ps_if (PW.pt (pw_and (pt_val (by exact (pe_mX0 (pv 0) T.cl T.m_has_wires.M (ok_Line_has_wires T) (hr.mono (by decide)) T.m_has_wires.b (fun σ => pass0At)))) (pw_and1 (pt_cmpR (kin K) (pv 2) (pe_ix (kixl K) (pe_fld (pv 0) rfl) (pv 1) (fun _ _ => rfl)) (by rfl))))) (pss_one (ps_ret pe_bl)) pss_nil)
    (pss_one (ps_ret (pe_cmpR (knotin K) (pv 2) (pe_ix (kixl K) (pe_fld (pv 0) rfl) (pv 1) (fun _ _ => rfl)) (by rfl))))), ?_⟩
  refine ⟨fun σ' H' => σ' = start ["self", "side", "kind"] [.ref A.p, .int s, .int k] ∧ H' = H ∧ (L.kd.wires && decide (k ∈ L.c s)) = false, ?_, ?_⟩
  · refine ⟨_, rfl, A.p, A.dx, _, rfl, l.obj, rfl, A, L, rfl, l, L.kd.wires, rfl, ?_⟩
    cases hw : L.kd.wires with
    | false => exact ⟨rfl, rfl, rfl⟩
    | true =>
      refine ⟨_, rfl, _, rfl, A.p, T.C, A.dx, _, _, rfl, l.obj, T.cl, T.n_came, rfl, _, rfl, _, _, _, _, rfl, rfl, SqL.of l.cb, at_d hs, _, _, rfl, .inl (SqL.of (l.d s)), rfl, flat_ints, _, rfl, ?_⟩
      rw [if_neg (by decide), inV_ints]
      by_cases c : k ∈ L.c s
      · rw [decide_eq_true c]
        have z : canS L s k = false := by unfold canS; rw [hw, decide_eq_true c]; rfl
        rw [z] at q
        exact q
      · rw [decide_eq_false c]
        exact ⟨rfl, rfl, rfl⟩
  · rintro σ' H' ⟨rfl, rfl, z⟩
    refine ⟨_, rfl, _, rfl, A.p, T.C, A.dx, _, _, rfl, l.obj, T.cl, T.n_sent, rfl, _, rfl, _, _, _, _, rfl, rfl, SqL.of l.sb, at_a hs, _, _, rfl, .inl (SqL.of (l.a s)), rfl, flat_ints, ?_⟩
    rw [if_pos rfl, inV_ints]
    unfold canS at q
    rw [z] at q
    exact q
theorem ok_Line_can_come (T : TL K mg) : FnOk P w K mg base CX0 2 T.m_can_come.a T.m_can_come.fd ["self", "side", "kind"] (spCanC T.C) := by
  refine T.m_can_come.F.ok sc_Line_can_come (fun vs H Q E h => ?_) (fun cdv A outer s H vs Q E hr h => ?_)
  · obtain ⟨A, L, s, k, rfl, _⟩ := h; rfl
  obtain ⟨A, L, s, k, rfl, hs, l, q⟩ := h
  refine ⟨_, (pss_cut (ps_if (PW.pt (pw_and (pt_val (by exact (pe_mX0 (pv 0) T.cl T.m_has_wires.M (ok_Line_has_wires T) (hr.mono (by decide)) T.m_has_wires.b (fun σ => pass0At)))) (pw_and1 (pt_cmpR (kin K) (pv 2) (pe_ix (kixl K) (pe_fld (pv 0) rfl) (pv 1) (fun _ _ => rfl)) (by rfl))))) (pss_one (ps_ret pe_bl)) pss_nil)
    (pss_one (ps_ret (pe_cmpR (knotin K) (pv 2) (pe_ix (kixl K) (pe_fld (pv 0) rfl) (pv 1) (fun _ _ => rfl)) (by rfl))))), ?_⟩
  refine ⟨fun σ' H' => σ' = start ["self", "side", "kind"] [.ref A.p, .int s, .int k] ∧ H' = H ∧ (L.kd.wires && decide (k ∈ L.s s)) = false, ?_, ?_⟩
  · refine ⟨_, rfl, A.p, A.dx, _, rfl, l.obj, rfl, A, L, rfl, l, L.kd.wires, rfl, ?_⟩
    cases hw : L.kd.wires with
    | false => exact ⟨rfl, rfl, rfl⟩
    | true =>
      refine ⟨_, rfl, _, rfl, A.p, T.C, A.dx, _, _, rfl, l.obj, T.cl, T.n_sent, rfl, _, rfl, _, _, _, _, rfl, rfl, SqL.of l.sb, at_a hs, _, _, rfl, .inl (SqL.of (l.a s)), rfl, flat_ints, _, rfl, ?_⟩
      rw [if_neg (by decide), inV_ints]
      by_cases c : k ∈ L.s s
      · rw [decide_eq_true c]
        have z : canC L s k = false := by unfold canC; rw [hw, decide_eq_true c]; rfl
        rw [z] at q
        exact q
      · rw [decide_eq_false c]
        exact ⟨rfl, rfl, rfl⟩
  · rintro σ' H' ⟨rfl, rfl, z⟩
    refine ⟨_, rfl, _, rfl, A.p, T.C, A.dx, _, _, rfl, l.obj, T.cl, T.n_came, rfl, _, rfl, _, _, _, _, rfl, rfl, SqL.of l.cb, at_d hs, _, _, rfl, .inl (SqL.of (l.d s)), rfl, flat_ints, ?_⟩
    rw [if_pos rfl, inV_ints]
    unfold canC at q
    rw [z] at q
    exact q
def spKinds (K : PySem.W.Frag) (C D : Addr) : Sp := fun vs H Q E => ∃ (A : Ln) (L : LS) (x : V) (dx : PyData) (n : Nat) (ok : Addr → Prop), vs = [.ref A.p, x] ∧ Rd K ok H n x dx ∧ LineAt C A L H ∧ (∀ s, dx = .int s → Side s → ∀ H', Ex H H' → Q (.int (L.kd.many s)) H') ∧
  (sideD dx = false → ∀ d H', Ex H H' → H' d = some (.xd [("given", x)]) → E (.ref D) (some d) H')
theorem ok_Line_kinds (T : TL K mg) : FnOk P w K mg base (L2.CX P w) 5 T.m_kinds.a T.m_kinds.fd ["self", "side"] (spKinds K T.C T.InvalidSide.C) := by
  refine T.m_kinds.F.okX sc_Line_kinds (fun vs H Q E h => ?_) (fun cdv A outer s H vs Q E hr h => ?_)
  · obtain ⟨A, L, x, dx, n, okA, rfl, _⟩ := h; rfl
  obtain ⟨A, L, x, dx, n, okA, rfl, hx, l, q1, q2⟩ := h
  refine ⟨_, (pss_cons (ps_expr (by exact (pe_callS (ok_check_side T) (hr.mono (by decide)) rfl T.check_side.m T.check_side.F.kp T.check_side.b (fun σ => passAt (takes_of rfl rfl rfl rfl) σ) (pa_cons (pv 1) pa_nil))))
    (pss_cons (ps_if (pt_val (by exact (pe_mX0 (pv 0) T.cl T.m_has_wires.M (ok_Line_has_wires T) (hr.mono (by decide)) T.m_has_wires.b (fun σ => pass0At)))) (pss_one (ps_ret (pe_ix (kixt K) (pe_fld (pv 0) rfl) pe_int (fun _ _ => rfl)))) pss_nil)
    (pss_one (ps_ret (pe_ix (kixt K) (pe_fld (pv 0) rfl) (pe_op op_add pe_int (pv 1)) (fun _ _ => rfl)))))), ?_⟩
  refine ⟨_, rfl, x, dx, n, okA, rfl, hx, fun c H1 e1 => ?_, fun no d H1 e1 hd => q2 no d H1 e1 hd⟩
  obtain ⟨s, rfl, rfl, ok⟩ := side_int hx c
  have l1 := l.ex e1
  have q := q1 s rfl ok H1 e1
  refine ⟨_, rfl, A.p, A.dx, _, rfl, l1.obj, rfl, A, L, rfl, l1, L.kd.wires, rfl, ?_⟩
  have sp := l1.sp
  cases hk : L.kd with
  | wir k =>
    rw [hk] at q sp
    exact ⟨_, rfl, A.p, T.C, A.dx, _, _, rfl, l1.obj, T.cl, T.n_spec, rfl, _, _, _, _, rfl, rfl, st_of sp, rfl, q⟩
  | letr m b =>
    rw [hk] at q sp
    refine ⟨_, rfl, A.p, T.C, A.dx, _, _, rfl, l1.obj, T.cl, T.n_spec, rfl, _, rfl, _, _, rfl, rfl, ?_⟩
    rcases (by unfold Side at ok; omega : s = 0 ∨ s = 1) with rfl | rfl
    · exact ⟨_, _, _, _, rfl, rfl, st_of sp, rfl, q⟩
    · exact ⟨_, _, _, _, rfl, rfl, st_of sp, rfl, q⟩
end
end L2.U


set_option Elab.async false
set_option linter.all false
set_option maxRecDepth 100000
set_option maxHeartbeats 4000000
namespace L2.U
open PySem PySem.Spec PyProof.Rows Evl
section
variable {P : Program} {w : World} {K : PySem.W.Frag} {mg : Str → Option Value} {base : Heap}
def Kin (L : LS) (s k : Int) : Prop := 1 ≤ k ∧ k ≤ L.kd.many s
def spSend (K : PySem.W.Frag) (C D DK : Addr) : Sp := fun vs H Q E => ∃ (A : Ln) (L : LS) (x y : V) (dx dy : PyData) (n : Nat) (okA : Addr → Prop), vs = [.ref A.p, x, y] ∧ Rd K okA H n x dx ∧ Rd K okA H n y dy ∧ LineAt C A L H ∧ (∀ s, (L.s s).length ≤ 900) ∧
  (sideD dx = false → ∀ d H', Ex H H' → H' d = some (.xd [("given", x)]) → E (.ref D) (some d) H') ∧
  (∀ s, dx = .int s → Side s → betwD 1 (L.kd.many s) dy = false → ∀ d H', Ex H H' → H' d = some (.xd [("given", y)]) → E (.ref DK) (some d) H') ∧
  (∀ s k, dx = .int s → dy = .int k → Side s → Kin L s k → canS L s k = false → ∀ H', Ex H H' → Q (.bl false) H') ∧
  (∀ s k, dx = .int s → dy = .int k → Side s → Kin L s k → canS L s k = true → ∀ H', But (A.a s) H H' → H' (A.a s) = some (.lst ((L.s s ++ [k]).map V.int)) → Q (.bl true) H')
theorem ok_Line_send (T : TL K mg) : FnOk P w K mg base (L2.CX P w) 6 T.m_send.a T.m_send.fd ["self", "side", "kind"] (spSend K T.C T.InvalidSide.C T.InvalidKind.C) := by
  refine T.m_send.F.okX sc_Line_send (fun vs H Q E h => ?_) (fun cdv A outer s H vs Q E hr h => ?_)
  · obtain ⟨A, L, x, y, dx, dy, n, okA, rfl, _⟩ := h; rfl
  obtain ⟨A, L, x, y, dx, dy, n, okA, rfl, hx, hy, l, hz', q1, q2, q3, q4⟩ := h
  refine ⟨_, (pss_cons (ps_expr (by exact (pe_callS (ok_check_side T) (hr.mono (by decide)) rfl T.check_side.m T.check_side.F.kp T.check_side.b (fun σ => passAt (takes_of rfl rfl rfl rfl) σ) (pa_cons (pv 1) pa_nil))))
    (pss_cons (ps_if (pt_not (pt_val (pe_call (ok_is_between T.toTA1) (hr.mono (by decide)) rfl T.is_between.m T.is_between.F.kp T.is_between.b .nil pass0 (pa_cons (pv 2) (pa_cons pe_int (pa_cons (by exact (pe_mX (pv 0) T.cl T.m_kinds.M (ok_Line_kinds T) (hr.mono (by decide)) T.m_kinds.b (fun σ => passAt (takes_of rfl rfl rfl rfl) σ) (pa_cons (pv 1) pa_nil))) pa_nil)))))) (pss_one (ps_raise rfl (takes_of rfl rfl rfl rfl) (pmk_oex T.InvalidKind.T T.InvalidKind.iC T.InvalidKind.tI (ok_init_InvalidKind T.InvalidKind) (hr.mono (by decide)) T.InvalidKind.b .nil pass0 rfl T.InvalidKind.gC (by exact (pa_cons (pv 2) pa_nil))))) pss_nil)
    (pss_cons (ps_if (pt_not (pt_val (by exact (pe_mX (pv 0) T.cl T.m_can_be_sent.M (ok_Line_can_be_sent T) (hr.mono (by decide)) T.m_can_be_sent.b (fun σ => pass0At) (pa_cons (pv 1) (pa_cons (pv 2) pa_nil)))))) (pss_one (ps_ret pe_bl)) pss_nil)
    (pss_cons (ps_expr (pe_bm PySem.F.plainAttrs_list PySem.F.slot_list_append PySem.F.type_list_append mt_append (pe_ix (kixl K) (pe_fld (pv 0) rfl) (pv 1) (fun _ _ => rfl)) (pa_cons (pv 2) pa_nil)))
    (pss_one (ps_ret pe_bl)))))), ?_⟩
  refine ⟨_, rfl, x, dx, n, okA, rfl, hx, fun c H1 e1 => ?_, fun no d H1 e1 hd => q1 no d H1 e1 hd⟩
  obtain ⟨s, rfl, rfl, ok⟩ := side_int hx c
  have hz := hz' s
  have l1 := l.ex e1
  refine ⟨_, rfl, _, rfl, A.p, A.dx, _, rfl, l1.obj, rfl, _, rfl, A, L, .int s, .int s, 0, (fun _ => True), rfl, .int s, l1, fun s' es _ H2 e2 => ?_, fun no => absurd (side_ok ok) (by rw [no]; decide)⟩
  obtain rfl : s = s' := PyData.int.inj es
  have l2 := l1.ex e2
  have hy2 := hy.ex (e1.trans e2)
  refine ⟨_, _, _, rfl, hy2.dat, fun b h1 h2 => ⟨b, rfl, ?_⟩⟩
  have hb := rd_betw hy2 h1 h2
  subst hb
  cases c : betwD 1 (L.kd.many s) dy with
  | true =>
    obtain ⟨k, rfl, rfl, ck⟩ := betw_int hy c
    refine ⟨_, rfl, A.p, A.dx, _, rfl, l2.obj, rfl, _, rfl, _, rfl, A, L, s, k, rfl, ok, l2, canS L s k, rfl, ?_⟩
    cases hc : canS L s k with
    | false => exact q3 s k rfl rfl ok ck hc H2 (e1.trans e2)
    | true =>
      refine ⟨_, rfl, A.p, T.C, A.dx, _, _, rfl, l2.obj, T.cl, T.n_sent, rfl, _, rfl, _, _, _, _, rfl, rfl, SqL.of l2.sb, at_a ok, .inl ⟨rfl, _, SqL.of (l2.a s)⟩, _, rfl, A.a s, _, _, rfl, rfl, l2.a s, small1000 (by rw [List.length_map]; omega), ?_⟩
      refine q4 s k rfl rfl ok ck hc _ (But.pre (e1.trans e2) But.upd) ?_
      rw [upd_same, List.map_append]
      rfl
  | false => exact ⟨_, rfl, (by show 1 ≤ 1000; decide), fun a ha => raised ha fun d H' e h => q2 s rfl ok c d H' ((e1.trans e2).trans e) h⟩
def spCome (K : PySem.W.Frag) (C D DK DN : Addr) : Sp := fun vs H Q E => ∃ (A : Ln) (L : LS) (x y : V) (dx dy : PyData) (n : Nat) (okA : Addr → Prop), vs = [.ref A.p, x, y] ∧ Rd K okA H n x dx ∧ Rd K okA H n y dy ∧ LineAt C A L H ∧ (∀ s, (L.c s).length ≤ 900) ∧
  (sideD dx = false → ∀ d H', Ex H H' → H' d = some (.xd [("given", x)]) → E (.ref D) (some d) H') ∧
  (∀ s, dx = .int s → Side s → betwD 1 (L.kd.many (1 - s)) dy = false → ∀ d H', Ex H H' → H' d = some (.xd [("given", y)]) → E (.ref DK) (some d) H') ∧
  (∀ s k, dx = .int s → dy = .int k → Side s → Kin L (1 - s) k → k ∉ L.s (1 - s) → ∀ d H', Ex H H' → H' d = some (.xd [("kind", .int k)]) → E (.ref DN) (some d) H') ∧
  (∀ s k, dx = .int s → dy = .int k → Side s → Kin L (1 - s) k → k ∈ L.s (1 - s) → canC L s k = false → ∀ H', Ex H H' → Q (.bl false) H') ∧
  (∀ s k, dx = .int s → dy = .int k → Side s → Kin L (1 - s) k → k ∈ L.s (1 - s) → canC L s k = true → ∀ H', But (A.d s) H H' → H' (A.d s) = some (.lst ((L.c s ++ [k]).map V.int)) → Q (.bl true) H')
theorem ok_Line_come (T : TL K mg) : FnOk P w K mg base (L2.CX P w) 6 T.m_come.a T.m_come.fd ["self", "side", "kind"] (spCome K T.C T.InvalidSide.C T.InvalidKind.C T.NotSent.C) := by
  refine T.m_come.F.okX sc_Line_come (fun vs H Q E h => ?_) (fun cdv A outer s H vs Q E hr h => ?_)
  · obtain ⟨A, L, x, y, dx, dy, n, okA, rfl, _⟩ := h; rfl
  obtain ⟨A, L, x, y, dx, dy, n, okA, rfl, hx, hy, l, hz', q1, q2, qn, q3, q4⟩ := h
  refine ⟨_, (pss_cons (ps_expr (by exact (pe_callS (ok_check_side T) (hr.mono (by decide)) rfl T.check_side.m T.check_side.F.kp T.check_side.b (fun σ => passAt (takes_of rfl rfl rfl rfl) σ) (pa_cons (pv 1) pa_nil))))
    (pss_cons (ps_if (pt_not (pt_val (pe_call (ok_is_between T.toTA1) (hr.mono (by decide)) rfl T.is_between.m T.is_between.F.kp T.is_between.b .nil pass0 (pa_cons (pv 2) (pa_cons pe_int (pa_cons (by exact (pe_mX (pv 0) T.cl T.m_kinds.M (ok_Line_kinds T) (hr.mono (by decide)) T.m_kinds.b (fun σ => passAt (takes_of rfl rfl rfl rfl) σ) (pa_cons (pe_op op_sub pe_int (pv 1)) pa_nil))) pa_nil)))))) (pss_one (ps_raise rfl (takes_of rfl rfl rfl rfl) (pmk_oex T.InvalidKind.T T.InvalidKind.iC T.InvalidKind.tI (ok_init_InvalidKind T.InvalidKind) (hr.mono (by decide)) T.InvalidKind.b .nil pass0 rfl T.InvalidKind.gC (by exact (pa_cons (pv 2) pa_nil))))) pss_nil)
    (pss_cons (ps_if (pt_cmpR (knotin K) (pv 2) (pe_ix (kixl K) (pe_fld (pv 0) rfl) (pe_op op_sub pe_int (pv 1)) (fun _ _ => rfl)) (by rfl)) (pss_one (ps_raise rfl (takes_of rfl rfl rfl rfl) (pmk_oex T.NotSent.T T.NotSent.iC T.NotSent.tI (ok_init_NotSent T.NotSent) (hr.mono (by decide)) T.NotSent.b .nil pass0 rfl T.NotSent.gC (by exact (pa_cons (pv 2) pa_nil))))) pss_nil)
    (pss_cons (ps_if (pt_not (pt_val (by exact (pe_mX (pv 0) T.cl T.m_can_come.M (ok_Line_can_come T) (hr.mono (by decide)) T.m_can_come.b (fun σ => pass0At) (pa_cons (pv 1) (pa_cons (pv 2) pa_nil)))))) (pss_one (ps_ret pe_bl)) pss_nil)
    (pss_cons (ps_expr (pe_bm PySem.F.plainAttrs_list PySem.F.slot_list_append PySem.F.type_list_append mt_append (pe_ix (kixl K) (pe_fld (pv 0) rfl) (pv 1) (fun _ _ => rfl)) (pa_cons (pv 2) pa_nil)))
    (pss_one (ps_ret pe_bl))))))), ?_⟩
  refine ⟨_, rfl, x, dx, n, okA, rfl, hx, fun c H1 e1 => ?_, fun no d H1 e1 hd => q1 no d H1 e1 hd⟩
  obtain ⟨s, rfl, rfl, ok⟩ := side_int hx c
  have hz := hz' s
  have l1 := l.ex e1
  have ok2 := ok.other
  refine ⟨_, rfl, _, rfl, A.p, A.dx, _, rfl, l1.obj, rfl, _, rfl, _, _, rfl, rfl, A, L, .int (1 - s), .int (1 - s), 0, (fun _ => True), rfl, .int _, l1, fun s' es _ H2 e2 => ?_, fun no => absurd (side_ok ok2) (by rw [no]; decide)⟩
  obtain rfl : 1 - s = s' := PyData.int.inj es
  have l2 := l1.ex e2
  have hy2 := hy.ex (e1.trans e2)
  refine ⟨_, _, _, rfl, hy2.dat, fun b h1 h2 => ⟨b, rfl, ?_⟩⟩
  have hb := rd_betw hy2 h1 h2
  subst hb
  cases c : betwD 1 (L.kd.many (1 - s)) dy with
  | true =>
    obtain ⟨k, rfl, rfl, ck⟩ := betw_int hy c
    refine ⟨_, rfl, _, rfl, A.p, T.C, A.dx, _, _, rfl, l2.obj, T.cl, T.n_sent, rfl, _, rfl, _, _, rfl, rfl, _, _, _, _, rfl, rfl, SqL.of l2.sb, at_a ok2, _, _, rfl, .inl (SqL.of (l2.a (1 - s))), rfl, flat_ints, _, rfl, ?_⟩
    rw [if_pos rfl, inV_ints]
    by_cases m : k ∈ L.s (1 - s)
    · rw [decide_eq_true m]
      refine ⟨_, rfl, A.p, A.dx, _, rfl, l2.obj, rfl, _, rfl, _, rfl, A, L, s, k, rfl, ok, l2, canC L s k, rfl, ?_⟩
      cases hc : canC L s k with
      | false => exact q3 s k rfl rfl ok ck m hc H2 (e1.trans e2)
      | true =>
        refine ⟨_, rfl, A.p, T.C, A.dx, _, _, rfl, l2.obj, T.cl, T.n_came, rfl, _, rfl, _, _, _, _, rfl, rfl, SqL.of l2.cb, at_d ok, .inl ⟨rfl, _, SqL.of (l2.d s)⟩, _, rfl, A.d s, _, _, rfl, rfl, l2.d s, small1000 (by rw [List.length_map]; omega), ?_⟩
        refine q4 s k rfl rfl ok ck m hc _ (But.pre (e1.trans e2) But.upd) ?_
        rw [upd_same, List.map_append]
        rfl
    · rw [decide_eq_false m]
      exact ⟨_, rfl, (by show 1 ≤ 1000; decide), fun a ha => raised ha fun d H' e h => qn s k rfl rfl ok ck m d H' ((e1.trans e2).trans e) h⟩
  | false => exact ⟨_, rfl, (by show 1 ≤ 1000; decide), fun a ha => raised ha fun d H' e h => q2 s rfl ok c d H' ((e1.trans e2).trans e) h⟩
/-- a new list of ints -/
def spList (K : PySem.W.Frag) (C D : Addr) (small : LS → Int → Prop) (r : LS → Int → List Int → Prop) : Sp := fun vs H Q E => ∃ (A : Ln) (L : LS) (x : V) (dx : PyData) (n : Nat) (okA : Addr → Prop), vs = [.ref A.p, x] ∧ Rd K okA H n x dx ∧ LineAt C A L H ∧ (∀ s, Side s → small L s) ∧
  (∀ s, dx = .int s → Side s → ∀ (p : Addr) (ys : List Int) H', Ex H H' → H p = none → H' p = some (.lst (ys.map V.int)) → r L s ys → Q (.ref p) H') ∧
  (sideD dx = false → ∀ d H', Ex H H' → H' d = some (.xd [("given", x)]) → E (.ref D) (some d) H')
def Rise (xs ys : List Int) : Prop := ys.Perm xs ∧ ys.Pairwise (fun a b => a ≤ b)
theorem ok_Line_sent (T : TL K mg) : FnOk P w K mg base (L2.CX P w) 5 T.m_sent.a T.m_sent.fd ["self", "side"] (spList K T.C T.InvalidSide.C (fun L s => (L.s s).length < 64) fun L s ys => Rise (L.s s) ys) := by
  refine T.m_sent.F.okX sc_Line_sent (fun vs H Q E h => ?_) (fun cdv A outer s H vs Q E hr h => ?_)
  · obtain ⟨A, L, x, dx, n, okA, rfl, _⟩ := h; rfl
  obtain ⟨A, L, x, dx, n, okA, rfl, hx, l, hz', q1', q2⟩ := h
  refine ⟨_, (pss_cons (ps_expr (by exact (pe_callS (ok_check_side T) (hr.mono (by decide)) rfl T.check_side.m T.check_side.F.kp T.check_side.b (fun σ => passAt (takes_of rfl rfl rfl rfl) σ) (pa_cons (pv 1) pa_nil))))
    (pss_one (ps_ret (pe_callB cr_sorted (by rfl) T.z_sorted (by decide +kernel) (pa_cons (pe_ix (kixl K) (pe_fld (pv 0) rfl) (pv 1) (fun _ _ => rfl)) pa_nil))))), ?_⟩
  refine ⟨_, rfl, x, dx, n, okA, rfl, hx, fun c H1 e1 => ?_, fun no d H1 e1 hd => q2 no d H1 e1 hd⟩
  obtain ⟨s, rfl, rfl, ok⟩ := side_int hx c
  have hz := hz' s ok
  have q1 := q1' s rfl
  have l1 := l.ex e1
  refine ⟨_, rfl, A.p, T.C, A.dx, _, _, rfl, l1.obj, T.cl, T.n_sent, rfl, _, rfl, _, _, _, _, rfl, rfl, SqL.of l1.sb, at_a ok, ?_⟩
  refine ⟨A.a s, L.s s, rfl, SqL.of (l1.a s), hz, fun ys p h1 h2 h3 => ?_⟩
  exact q1 ok p ys _ (e1.trans (Ex.new h3)) (fresh_back e1 h3) upd_same ⟨h1, h2⟩
end
end L2.U


set_option Elab.async false
set_option linter.all false
set_option maxRecDepth 100000
set_option maxHeartbeats 4000000
namespace L2.U
open PySem PySem.Spec PyProof.Rows Evl
section
variable {P : Program} {w : World} {K : PySem.W.Frag} {mg : Str → Option Value} {base : Heap}
theorem ok_Line_come_to (T : TL K mg) : FnOk P w K mg base (L2.CX P w) 5 T.m_come_to.a T.m_come_to.fd ["self", "side"] (spList K T.C T.InvalidSide.C (fun L s => (L.c s).length < 64) fun L s ys => Rise (L.c s) ys) := by
  refine T.m_come_to.F.okX sc_Line_come_to (fun vs H Q E h => ?_) (fun cdv A outer s H vs Q E hr h => ?_)
  · obtain ⟨A, L, x, dx, n, okA, rfl, _⟩ := h; rfl
  obtain ⟨A, L, x, dx, n, okA, rfl, hx, l, hz', q1', q2⟩ := h
  refine ⟨_, (pss_cons (ps_expr (by exact (pe_callS (ok_check_side T) (hr.mono (by decide)) rfl T.check_side.m T.check_side.F.kp T.check_side.b (fun σ => passAt (takes_of rfl rfl rfl rfl) σ) (pa_cons (pv 1) pa_nil))))
    (pss_one (ps_ret (pe_callB cr_sorted (by rfl) T.z_sorted (by decide +kernel) (pa_cons (pe_ix (kixl K) (pe_fld (pv 0) rfl) (pv 1) (fun _ _ => rfl)) pa_nil))))), ?_⟩
  refine ⟨_, rfl, x, dx, n, okA, rfl, hx, fun c H1 e1 => ?_, fun no d H1 e1 hd => q2 no d H1 e1 hd⟩
  obtain ⟨s, rfl, rfl, ok⟩ := side_int hx c
  have hz := hz' s ok
  have q1 := q1' s rfl
  have l1 := l.ex e1
  refine ⟨_, rfl, A.p, T.C, A.dx, _, _, rfl, l1.obj, T.cl, T.n_came, rfl, _, rfl, _, _, _, _, rfl, rfl, SqL.of l1.cb, at_d ok, ?_⟩
  refine ⟨A.d s, L.c s, rfl, SqL.of (l1.d s), hz, fun ys p h1 h2 h3 => ?_⟩
  exact q1 ok p ys _ (e1.trans (Ex.new h3)) (fresh_back e1 h3) upd_same ⟨h1, h2⟩
theorem filter_take {α : Type} {f : α → Bool} {xs : List α} {i : Nat} {x : α} (h : xs[i]? = some x) : (xs.take (i + 1)).filter f = (xs.take i).filter f ++ (if f x = true then [x] else []) := by
  rw [List.take_add_one, h, List.filter_append]
  congr 1
  show List.filter f [x] = _
  rw [List.filter_cons]
  split <;> rfl
theorem filter_take_le {α : Type} {f : α → Bool} {xs : List α} {i : Nat} : ((xs.take i).filter f).length ≤ xs.length :=
  Nat.le_trans (List.length_filter_le _ _) (List.length_take_le' _ _)
theorem ok_Line_under_way (T : TL K mg) : FnOk P w K mg base (L2.CX P w) 5 T.m_under_way.a T.m_under_way.fd ["self", "side"] (spList K T.C T.InvalidSide.C (fun L s => (L.s (1 - s)).length < 64) fun L s ys => Rise ((L.s (1 - s)).filter (canC L s)) ys) := by
  refine T.m_under_way.F.okX sc_Line_under_way (fun vs H Q E h => ?_) (fun cdv A outer s H vs Q E hr h => ?_)
  · obtain ⟨A, L, x, dx, n, okA, rfl, _⟩ := h; rfl
  obtain ⟨A, L, x, dx, n, okA, rfl, hx, l, hz', q1', q2⟩ := h
  refine ⟨_, (pss_cons (ps_expr (by exact (pe_callS (ok_check_side T) (hr.mono (by decide)) rfl T.check_side.m T.check_side.F.kp T.check_side.b (fun σ => passAt (takes_of rfl rfl rfl rfl) σ) (pa_cons (pv 1) pa_nil))))
    (pss_one (ps_ret (pe_lc (own := [("kind", 2)]) (g := gName 2) (by rfl) sc_Line_under_way.nd (kpil K (pe_callB cr_sorted (by rfl) T.z_sorted (by decide +kernel) (pa_cons (pe_ix (kixl K) (pe_fld (pv 0) rfl) (pe_op op_sub pe_int (pv 1)) (fun _ _ => rfl)) pa_nil))) (blkOk_by (own := [("kind", 2)]) (N := ["self", "side", "kind"]) (sc := defScope s_Line_under_way) (by decide +kernel)) (fun _ _ _ _ _ => (pg_name (i := 2) sc_Line_under_way.nd rfl (Or.inl rfl))) (fun _ _ _ _ _ => (pts_one (pt_val (by exact (pe_mX (pv 0) T.cl T.m_can_come.M (ok_Line_can_come T) (hr.mono (by decide)) T.m_can_come.b (fun σ => pass0At) (pa_cons (pv 1) (pa_cons (pv 2) pa_nil))))))) (fun _ _ _ _ _ => (pv 2)))))), ?_⟩
  refine ⟨_, rfl, x, dx, n, okA, rfl, hx, fun c H1 e1 => ?_, fun no d H1 e1 hd => q2 no d H1 e1 hd⟩
  obtain ⟨s, rfl, rfl, ok⟩ := side_int hx c
  have hz := hz' s ok
  have q1 := q1' s rfl
  have l1 := l.ex e1
  have ok2 := ok.other
  refine ⟨_, rfl, A.p, T.C, A.dx, _, _, rfl, l1.obj, T.cl, T.n_sent, rfl, _, rfl, _, _, rfl, rfl, _, _, _, _, rfl, rfl, SqL.of l1.sb, at_a ok2, ?_⟩
  refine ⟨A.a (1 - s), L.s (1 - s), rfl, SqL.of (l1.a (1 - s)), hz, fun ys p h1 h2 h3 => ?_⟩
  have hzy : ys.length < 64 := by rw [h1.length_eq]; exact hz
  have e2 : Ex H1 (upd H1 p (.lst (ys.map V.int))) := Ex.new h3
  refine ⟨p, rfl, ⟨_, SqL.of upd_same⟩, fun D hD => lc_list (xs := ys.map V.int) (fun i H' => Ex (upd H1 p (.lst (ys.map V.int))) H' ∧ H' D = some (.lst (((ys.take i).filter (canC L s)).map V.int))) ⟨Ex.new hD, upd_same⟩
    (fun i H' _ p => SqL.of (p.1 _ _ upd_same)) ?_ ?_⟩
  · rintro i x H' hx ⟨e, hd⟩
    obtain ⟨z, hz1, rfl⟩ := ints_get hx
    have lz : ((ys.take i).filter (canC L s)).length ≤ ys.length := filter_take_le
    refine ⟨rfl, _, rfl, A.p, A.dx, _, rfl, (l1.ex (e2.trans e)).obj, rfl, _, rfl, _, rfl, A, L, s, z, rfl, ok, l1.ex (e2.trans e), canC L s z, rfl, ?_⟩
    cases hc : canC L s z with
    | false =>
      refine ⟨e, ?_⟩
      rw [hd, filter_take hz1, hc]
      simp
    | true =>
      rw [if_pos rfl]
      refine ⟨_, rfl, _, hd, small1000 (by rw [List.length_map]; omega), e.mut hD, ?_⟩
      rw [upd_same, filter_take hz1, hc]
      simp
  · rintro H' ⟨e, hd⟩
    rw [List.length_map, List.take_length] at hd
    refine q1 ok D _ H' (e1.trans (e2.trans e)) (fresh_back (e1.trans e2) hD) hd ⟨h1.filter _, h2.filter _⟩
/-- 1 .. n -/
def upTo (n : Int) : List Int := (List.range n.toNat).map fun (i : Nat) => 1 + (i : Int)
theorem upTo_len (n : Int) : (upTo n).length = n.toNat := by unfold upTo; rw [List.length_map, List.length_range]
theorem upTo_get {n : Int} {i : Nat} (h : i < n.toNat) : (upTo n)[i]? = some (1 + (i : Int)) := by
  unfold upTo
  rw [List.getElem?_map, List.getElem?_range h]
  rfl
theorem ok_Line_unsent (T : TL K mg) : FnOk P w K mg base (L2.CX P w) 6 T.m_unsent.a T.m_unsent.fd ["self", "side"] (spList K T.C T.InvalidSide.C (fun _ _ => True) fun L s ys => ys = (upTo (L.kd.many s)).filter (canS L s)) := by
  refine T.m_unsent.F.okX sc_Line_unsent (fun vs H Q E h => ?_) (fun cdv A outer s H vs Q E hr h => ?_)
  · obtain ⟨A, L, x, dx, n, okA, rfl, _⟩ := h; rfl
  obtain ⟨A, L, x, dx, n, okA, rfl, hx, l, hz', q1', q2⟩ := h
  refine ⟨_, (pss_cons (ps_expr (by exact (pe_callS (ok_check_side T) (hr.mono (by decide)) rfl T.check_side.m T.check_side.F.kp T.check_side.b (fun σ => passAt (takes_of rfl rfl rfl rfl) σ) (pa_cons (pv 1) pa_nil))))
    (pss_cons (ps_set (i := 2) sc_Line_unsent.nd rfl (Or.inl rfl) (pe_callTy cr_range2 (by rfl) T.z_range (by decide +kernel) (pa_cons pe_int (pa_cons (pe_op op_add (by exact (pe_mX (pv 0) T.cl T.m_kinds.M (ok_Line_kinds T) (hr.mono (by decide)) T.m_kinds.b (fun σ => passAt (takes_of rfl rfl rfl rfl) σ) (pa_cons (pv 1) pa_nil))) pe_int) pa_nil))))
    (pss_one (ps_ret (pe_lc (own := [("kind", 3)]) (g := gName 3) (by rfl) sc_Line_unsent.nd (pi_rngv (pv 2)) (blkOk_by (own := [("kind", 3)]) (N := ["self", "side", "kinds", "kind"]) (sc := defScope s_Line_unsent) (by decide +kernel)) (fun _ _ _ _ _ => (pg_name (i := 3) sc_Line_unsent.nd rfl (Or.inl rfl))) (fun _ _ _ _ _ => (pts_one (pt_val (by exact (pe_mX (pv 0) T.cl T.m_can_be_sent.M (ok_Line_can_be_sent T) (hr.mono (by decide)) T.m_can_be_sent.b (fun σ => pass0At) (pa_cons (pv 1) (pa_cons (pv 3) pa_nil))))))) (fun _ _ _ _ _ => (pv 3))))))), ?_⟩
  refine ⟨_, rfl, x, dx, n, okA, rfl, hx, fun c H1 e1 => ?_, fun no d H1 e1 hd => q2 no d H1 e1 hd⟩
  obtain ⟨s, rfl, rfl, ok⟩ := side_int hx c
  have hz := hz' s ok
  have q1 := q1' s rfl
  have l1 := l.ex e1
  have hm := Knd.many_le l1.ok s
  refine ⟨_, rfl, A.p, A.dx, _, rfl, l1.obj, rfl, _, rfl, A, L, .int s, .int s, 0, (fun _ => True), rfl, .int s, l1, fun s' es _ H2 e2 => ?_, fun no => absurd (side_ok ok) (by rw [no]; decide)⟩
  obtain rfl : s = s' := PyData.int.inj es
  have l2 := l1.ex e2
  refine ⟨_, _, rfl, rfl, _, _, rfl, fun p hp => ?_⟩
  have e3 : Ex H2 (upd H2 p (.rng 1 (L.kd.many s + 1))) := Ex.new hp
  refine ⟨_, rfl, p, _, _, rfl, upd_same, ⟨by omega, by omega, by omega, by omega⟩, fun D hD => lc_range (fun i H' => Ex (upd H2 p (.rng 1 (L.kd.many s + 1))) H' ∧ H' D = some (.lst ((((upTo (L.kd.many s)).take i).filter (canS L s)).map V.int))) ⟨Ex.new hD, upd_same⟩ ?_ ?_⟩
  · rintro i H' hi ⟨e, hd⟩
    have hi' : i < (L.kd.many s).toNat := by omega
    have hz1 := upTo_get hi'
    have lz : (((upTo (L.kd.many s)).take i).filter (canS L s)).length ≤ (upTo (L.kd.many s)).length := filter_take_le
    rw [upTo_len] at lz
    have l3 := l2.ex (e3.trans e)
    refine ⟨rfl, _, rfl, A.p, A.dx, _, rfl, l3.obj, rfl, _, rfl, _, rfl, A, L, s, 1 + (i : Int), rfl, ok, l3, canS L s (1 + (i : Int)), rfl, ?_⟩
    cases hc : canS L s (1 + (i : Int)) with
    | false =>
      refine ⟨e, ?_⟩
      rw [hd, filter_take hz1, hc]
      simp
    | true =>
      rw [if_pos rfl]
      refine ⟨_, rfl, _, hd, small1000 (by rw [List.length_map]; omega), e.mut hD, ?_⟩
      rw [upd_same, filter_take hz1, hc]
      simp
  · rintro H' ⟨e, hd⟩
    rw [show (L.kd.many s + 1 - 1).toNat = (upTo (L.kd.many s)).length by rw [upTo_len]; congr 1; omega, List.take_length] at hd
    exact q1 ok D _ H' (e1.trans (e2.trans (e3.trans e))) (fresh_back (e1.trans (e2.trans e3)) hD) hd rfl
def leftOf (L : LS) : List V :=
  match L.kd with
  | .letr m b => [.int (m - L.s0.length), .int (b - L.s1.length)]
  | .wir k => [.int (k - (diffs (L.s0 ++ L.s1)).length)]
def spLeft (C : Addr) : Sp := fun vs H Q _ => ∃ (A : Ln) (L : LS), vs = [.ref A.p] ∧ LineAt C A L H ∧ L.s0.length ≤ 32 ∧ L.s1.length ≤ 32 ∧
  ∀ p H', Ex H H' → H p = none → H' p = some (.tup (leftOf L)) → Q (.ref p) H'
theorem ok_Line_left (T : TL K mg) : FnOk P w K mg base CX0 2 T.m_left.a T.m_left.fd ["self"] (spLeft T.C) := by
  refine T.m_left.F.ok sc_Line_left (fun vs H Q E h => ?_) (fun cdv A outer s H vs Q E hr h => ?_)
  · obtain ⟨A, L, rfl, _⟩ := h; rfl
  obtain ⟨A, L, rfl, l, z0, z1, h⟩ := h
  refine ⟨_, (pss_cons (ps_if (pt_val (by exact (pe_mX0 (pv 0) T.cl T.m_has_wires.M (ok_Line_has_wires T) (hr.mono (by decide)) T.m_has_wires.b (fun σ => pass0At)))) (pss_cons (ps_set (i := 1) sc_Line_left.nd rfl (Or.inl rfl) (pe_countI (by rfl) rfl T.z_len rfl T.z_set (pe_op op_cat (pe_ix (kixl K) (pe_fld (pv 0) rfl) pe_int (fun _ _ => rfl)) (pe_ix (kixl K) (pe_fld (pv 0) rfl) pe_int (fun _ _ => rfl)))))
    (pss_one (ps_ret (pe_tup (pa_cons (pe_op op_sub (pe_ix (kixt K) (pe_fld (pv 0) rfl) pe_int (fun _ _ => rfl)) (pv 1)) pa_nil))))) pss_nil)
    (pss_one (ps_ret (pe_tup (pa_cons (pe_op op_sub (pe_ix (kixt K) (pe_fld (pv 0) rfl) pe_int (fun _ _ => rfl)) (pe_callB (klen K) (by rfl) T.z_len (by decide +kernel) (pa_cons (pe_ix (kixl K) (pe_fld (pv 0) rfl) pe_int (fun _ _ => rfl)) pa_nil))) (pa_cons (pe_op op_sub (pe_ix (kixt K) (pe_fld (pv 0) rfl) pe_int (fun _ _ => rfl)) (pe_callB (klen K) (by rfl) T.z_len (by decide +kernel) (pa_cons (pe_ix (kixl K) (pe_fld (pv 0) rfl) pe_int (fun _ _ => rfl)) pa_nil))) pa_nil)))))), ?_⟩
  refine ⟨_, rfl, A.p, A.dx, _, rfl, l.obj, rfl, A, L, rfl, l, L.kd.wires, rfl, ?_⟩
  have sp := l.sp
  have h' : (∃ m b, L.kd = .letr m b ∧ ∀ p H', Ex H H' → H p = none → H' p = some (.tup [.int (m - L.s0.length), .int (b - L.s1.length)]) → Q (.ref p) H') ∨
      (∃ k, L.kd = .wir k ∧ ∀ p H', Ex H H' → H p = none → H' p = some (.tup [.int (k - (diffs (L.s0 ++ L.s1)).length)]) → Q (.ref p) H') := by
    unfold leftOf at h
    cases hk : L.kd with
    | letr m b => rw [hk] at h; exact .inl ⟨m, b, rfl, h⟩
    | wir k => rw [hk] at h; exact .inr ⟨k, rfl, h⟩
  rcases h' with ⟨m, b, hk, q⟩ | ⟨k, hk, q⟩
  · rw [hk] at sp ⊢
    refine ⟨_, rfl, A.p, T.C, A.dx, _, _, rfl, l.obj, T.cl, T.n_spec, rfl, _, _, _, _, rfl, rfl, st_of sp, rfl, ?_⟩
    refine ⟨_, rfl, A.p, T.C, A.dx, _, _, rfl, l.obj, T.cl, T.n_sent, rfl, _, _, _, _, rfl, rfl, SqL.of l.sb, rfl, ?_⟩
    refine ⟨_, _, rfl, .inl ⟨_, SqL.of l.a0, rfl⟩, _, _, rfl, rfl, ?_⟩
    refine ⟨_, rfl, A.p, T.C, A.dx, _, _, rfl, l.obj, T.cl, T.n_spec, rfl, _, _, _, _, rfl, rfl, st_of sp, rfl, ?_⟩
    refine ⟨_, rfl, A.p, T.C, A.dx, _, _, rfl, l.obj, T.cl, T.n_sent, rfl, _, _, _, _, rfl, rfl, SqL.of l.sb, rfl, ?_⟩
    refine ⟨_, _, rfl, .inl ⟨_, SqL.of l.a1, rfl⟩, _, _, rfl, rfl, ?_⟩
    refine ⟨(by show 2 ≤ sizeLine; decide), fun p hp => q p _ (Ex.new hp) hp ?_⟩
    rw [upd_same, List.length_map, List.length_map]
  · rw [hk] at sp ⊢
    refine ⟨_, rfl, A.p, T.C, A.dx, _, _, rfl, l.obj, T.cl, T.n_sent, rfl, _, _, _, _, rfl, rfl, SqL.of l.sb, rfl, ?_⟩
    refine ⟨_, rfl, A.p, T.C, A.dx, _, _, rfl, l.obj, T.cl, T.n_sent, rfl, _, _, _, _, rfl, rfl, SqL.of l.sb, rfl, ?_⟩
    refine ⟨A.a0, A.a1, _, _, rfl, rfl, l.a0, l.a1, Nat.le_of_lt (small1000 (by rw [List.length_map, List.length_map]; omega)), fun p hp => ?_⟩
    have e1 : Ex H (upd H p (.lst (L.s0.map V.int ++ L.s1.map V.int))) := Ex.new hp
    refine ⟨p, L.s0 ++ L.s1, rfl, SqL.of (by rw [upd_same, List.map_append]), by rw [List.length_append]; omega, ?_⟩
    have l1 := l.ex e1
    refine ⟨_, rfl, A.p, T.C, A.dx, _, _, rfl, l1.obj, T.cl, T.n_spec, rfl, _, _, _, _, rfl, rfl, st_of (e1 _ _ sp), rfl, _, rfl, _, _, rfl, rfl, ?_⟩
    exact ⟨(by show 1 ≤ sizeLine; decide), fun p2 hp2 => q p2 _ (e1.trans (Ex.new hp2)) (fresh_back e1 hp2) upd_same⟩
end
end L2.U


set_option Elab.async false
set_option linter.all false
set_option maxRecDepth 100000
set_option maxHeartbeats 4000000
namespace L2.U
open PySem PySem.Spec PyProof.Rows Evl
section
variable {P : Program} {w : World} {K : PySem.W.Frag} {mg : Str → Option Value} {base : Heap}
theorem shaped0 : SeqAt.shaped (PyData.tuple []) = true := by
  simp only [SeqAt.shaped, PyData.canLay0, PyData.canLayAll0, PyData.depth, PyData.depthAll]
  decide
def eqS (d : PyData) (z : Str) : Bool := PyData.eqv d (.str z)
def specL : List PyData → Bool
  | [] => false
  | d :: r => if eqS d "letters" = true then decide (r.length = 2) && r.all (betwD 0 8) else if eqS d "wires" = true then decide (r.length = 1) && r.all (betwD 0 10) else false
def specD : PyData → Bool
  | .tuple ds => specL ds
  | _ => false
/-- any value that is passed: data, or a dict -/
def AnyV (K : PySem.W.Frag) (H : Hp) (x : V) : Prop := (∃ d n ok, Rd K ok H n x d ∧ n ≤ 20) ∨ ∃ a kvs, x = .ref a ∧ H a = some (.dK kvs)
theorem AnyV.ex {H H' : Hp} {x : V} (h : AnyV K H x) (e : Ex H H') : AnyV K H' x := by
  rcases h with ⟨d, n, ok, h, hn⟩ | ⟨a, kvs, rfl, h⟩
  · exact .inl ⟨d, n, ok, h.ex e, hn⟩
  · exact .inr ⟨a, kvs, rfl, e _ _ h⟩
theorem eqS_str {d : PyData} {z : Str} (h : eqS d z = true) : d = .str z := by
  cases d with
  | str y =>
    have h2 : decide (y = z) = true := h
    rw [of_decide_eq_true h2]
  | none => cases h
  | bool _ => cases h
  | int _ => cases h
  | list _ => cases h
  | tuple _ => cases h
  | dict _ => cases h
theorem all_one {lo hi : Int} {r : List PyData} (h : (decide (r.length = 1) && r.all (betwD lo hi)) = true) : ∃ i, r = [.int i] ∧ lo ≤ i ∧ i ≤ hi := by
  rw [Bool.and_eq_true] at h
  have hl := of_decide_eq_true h.1
  match r, hl, h.2 with
  | [d], _, h =>
    simp only [List.all_cons, List.all_nil, Bool.and_true] at h
    cases d <;> first | (exact ⟨_, rfl, of_decide_eq_true h⟩) | cases h
theorem all_two {lo hi : Int} {r : List PyData} (h : (decide (r.length = 2) && r.all (betwD lo hi)) = true) : ∃ i j, r = [.int i, .int j] ∧ (lo ≤ i ∧ i ≤ hi) ∧ lo ≤ j ∧ j ≤ hi := by
  rw [Bool.and_eq_true] at h
  have hl := of_decide_eq_true h.1
  match r, hl, h.2 with
  | [d, e], _, h =>
    simp only [List.all_cons, List.all_nil, Bool.and_true, Bool.and_eq_true] at h
    cases d <;> first | (cases e <;> first | (exact ⟨_, _, rfl, of_decide_eq_true h.1, of_decide_eq_true h.2⟩) | cases h.2) | cases h.1
/-- a spec, in the heap -/
theorem spec_knd {ok : Addr → Prop} {H : Hp} {n : Nat} {x : V} {d : PyData} (h : Rd K ok H n x d) (c : specD d = true) : ∃ (sp : Addr) (kd : Knd), x = .ref sp ∧ H sp = some (.tup kd.vals) ∧ kd.Ok := by
  cases h with
  | @tup n a xs ds h1 ha hl hz all =>
    match ds, c, hl, all with
    | d0 :: r, c, hl, all =>
      have c' : (if eqS d0 "letters" = true then decide (r.length = 2) && r.all (betwD 0 8) else if eqS d0 "wires" = true then decide (r.length = 1) && r.all (betwD 0 10) else false) = true := c
      split at c'
      · rename_i hd
        obtain ⟨i, j, rfl, hi, hj⟩ := all_two c'
        obtain rfl := eqS_str hd
        match xs, hl, all, h1 with
        | [x0, x1, x2], _, all, h1 =>
          have a0 := all 0 _ _ rfl rfl
          have a1 := all 1 _ _ rfl rfl
          have a2 := all 2 _ _ rfl rfl
          cases a0; cases a1; cases a2
          exact ⟨a, .letr i j, rfl, h1, hi, hj⟩
      · split at c'
        · rename_i hd
          obtain ⟨i, rfl, hi⟩ := all_one c'
          obtain rfl := eqS_str hd
          match xs, hl, all, h1 with
          | [x0, x1], _, all, h1 =>
            have a0 := all 0 _ _ rfl rfl
            have a1 := all 1 _ _ rfl rfl
            cases a0; cases a1
            exact ⟨a, .wir i, rfl, h1, hi⟩
        · cases c'
  | non => cases c
  | bl _ => cases c
  | int _ => cases c
  | str _ _ _ => cases c
  | lst _ _ _ _ _ => cases c
theorem Rd.det {ok : Addr → Prop} {H : Hp} {n : Nat} {x : V} {d : PyData} (h : Rd K ok H n x d) : ∀ {ok' : Addr → Prop} {n' : Nat} {d' : PyData}, Rd K ok' H n' x d' → d = d' := by
  have go : ∀ {xs : List V} {ds es : List PyData}, xs.length = ds.length → xs.length = es.length → (∀ (i : Nat) (x : V) (d e : PyData), xs[i]? = some x → ds[i]? = some d → es[i]? = some e → d = e) → ds = es := by
    intro xs ds es h1 h2 h3
    apply List.ext_getElem?
    intro i
    by_cases c : i < xs.length
    · rw [List.getElem?_eq_getElem (show i < ds.length by omega), List.getElem?_eq_getElem (show i < es.length by omega)]
      exact congrArg _ (h3 i _ _ _ (List.getElem?_eq_getElem c) (List.getElem?_eq_getElem _) (List.getElem?_eq_getElem _))
    · rw [List.getElem?_eq_none (by omega), List.getElem?_eq_none (by omega)]
  induction h with
  | non => intro ok' n' d' h2; cases h2; rfl
  | bl b => intro ok' n' d' h2; cases h2; rfl
  | int i => intro ok' n' d' h2; cases h2; rfl
  | str z _ _ => intro ok' n' d' h2; cases h2; rfl
  | lst h1 ha hl hz all ih =>
    intro ok' n' d' h2
    cases h2 with
    | lst h1' _ hl' _ all' =>
      rw [h1] at h1'
      have e := HO.lst.inj (Option.some.inj h1')
      subst e
      exact congrArg _ (go hl hl' fun i x d e hx hd he => ih i x d hx hd (all' i x e hx he))
    | tup h1' => rw [h1] at h1'; cases h1'
  | tup h1 ha hl hz all ih =>
    intro ok' n' d' h2
    cases h2 with
    | tup h1' _ hl' _ all' =>
      rw [h1] at h1'
      have e := HO.tup.inj (Option.some.inj h1')
      subst e
      exact congrArg _ (go hl hl' fun i x d e hx hd he => ih i x d hx hd (all' i x e hx he))
    | lst h1' => rw [h1] at h1'; cases h1'
theorem len_two {ys : List V} {r : List PyData} (h : ys.length = r.length) (c : r.length = 2) : ∃ x1 x2 d1 d2, ys = [x1, x2] ∧ r = [d1, d2] := by
  match r, c, ys, h with
  | [d1, d2], _, [x1, x2], _ => exact ⟨x1, x2, d1, d2, rfl, rfl⟩
theorem len_one {ys : List V} {r : List PyData} (h : ys.length = r.length) (c : r.length = 1) : ∃ x1 d1, ys = [x1] ∧ r = [d1] := by
  match r, c, ys, h with
  | [d1], _, [x1], _ => exact ⟨x1, d1, rfl, rfl⟩
theorem shapedS {z : Str} (h : PyData.strOk z = true) : SeqAt.shaped (PyData.str z) = true := by
  simp only [SeqAt.shaped, PyData.canLay0, PyData.depth, h]
  rfl
def spIsSpec (K : PySem.W.Frag) : Sp := fun vs H Q _ => ∃ x, vs = [x] ∧ AnyV K H x ∧ ∀ b, (b = true → ∃ (sp : Addr) (kd : Knd), x = .ref sp ∧ H sp = some (.tup kd.vals) ∧ kd.Ok) → (b = false → ∀ d n ok, Rd K ok H n x d → specD d = false) → ∀ H', Ex H H' → Q (.bl b) H'
theorem ok_is_spec (T : TL K mg) : FnOk P w K mg base CX0 4 T.is_spec.a T.is_spec.fd ["value"] (spIsSpec K) := by
  refine T.is_spec.F.ok sc_is_spec (fun vs H Q E h => ?_) (fun cdv A outer s H vs Q E hr h => ?_)
  · obtain ⟨x, rfl, _⟩ := h; rfl
  obtain ⟨x, rfl, av, q⟩ := h
  refine ⟨_, (pss_cons (ps_if (PW.pt (pw_or (pt_not (pt_val (pe_callB (kisi K) (by rfl) T.z_isinstance (by decide +kernel) (pa_cons (pv 0) (pa_cons (pe_bltn (v := .ty "tuple") rfl T.z_tuple (by decide +kernel) rfl) pa_nil))))) (pw_or1 (pt_cmpR (keqD K hr.units) (pv 0) (pe_tup pa_nil) (nomark _))))) (pss_one (ps_ret pe_bl)) pss_nil)
    (pss_cons (ps_if (pt_cmpR (keqD K hr.units) (pe_ix (kixt K) (pv 0) pe_int (fun _ _ => rfl)) pe_str (nomark _)) (pss_one (ps_ret (pe_and (pe_cmpR op_eq (pe_callB (klen K) (by rfl) T.z_len (by decide +kernel) (pa_cons (pv 0) pa_nil)) pe_int (nomark _)) (pe_one (pe_call (ok_are_between T.toTA1) (hr.mono (by decide)) rfl T.are_between.m T.are_between.F.kp T.are_between.b .nil pass0 (pa_cons (pe_slice (kslT K) (pv 0) (po_some pe_int) po_none) (pa_cons pe_int (pa_cons (pe_glob (v := .int 8) rfl T.c_MOST_LETTERS ⟨_, rfl⟩) pa_nil)))))))) pss_nil)
    (pss_cons (ps_if (pt_cmpR (keqD K hr.units) (pe_ix (kixt K) (pv 0) pe_int (fun _ _ => rfl)) pe_str (nomark _)) (pss_one (ps_ret (pe_and (pe_cmpR op_eq (pe_callB (klen K) (by rfl) T.z_len (by decide +kernel) (pa_cons (pv 0) pa_nil)) pe_int (nomark _)) (pe_one (pe_call (ok_is_between T.toTA1) (hr.mono (by decide)) rfl T.is_between.m T.is_between.F.kp T.is_between.b .nil pass0 (pa_cons (pe_ix (kixt K) (pv 0) pe_int (fun _ _ => rfl)) (pa_cons pe_int (pa_cons (pe_glob (v := .int 10) rfl T.c_MOST_WIRES ⟨_, rfl⟩) pa_nil)))))))) pss_nil)
    (pss_one (ps_ret pe_bl))))), ?_⟩
  rcases av with ⟨d, n, ok, h, hn⟩ | ⟨a, kvs, rfl, ha⟩
  case inr =>
    refine ⟨_, rfl, _, _, _, _, _, rfl, .ty "tuple", .base (.dK ha), kit_ty (r := false) (by decide +kernel), false, rfl, iteT ?_⟩
    refine q false (fun z => by cases z) (fun _ d n ok h => ?_) _ (Ex.refl _)
    cases h with
    | lst h1 => rw [ha] at h1; cases h1
    | tup h1 => rw [ha] at h1; cases h1
  have fin : ∀ H', Ex H H' → ∀ b, specD d = b → Q (.bl b) H' := fun H' e b hb => q b (fun z => spec_knd h (hb.trans z)) (fun z d' n' ok' h' => by rw [← h.det h', hb, z]) H' e
  have h0 := h
  cases h with
  | non => exact ⟨_, rfl, _, _, _, _, _, rfl, .ty "tuple", .base .non, kit_ty (r := false) (by decide +kernel), false, rfl, iteT (fin _ (Ex.refl _) false rfl)⟩
  | bl b => exact ⟨_, rfl, _, _, _, _, _, rfl, .ty "tuple", .base (.bl b), kit_ty (r := false) (by decide +kernel), false, rfl, iteT (fin _ (Ex.refl _) false rfl)⟩
  | int i => exact ⟨_, rfl, _, _, _, _, _, rfl, .ty "tuple", .base (.int i), kit_ty (r := false) (by decide +kernel), false, rfl, iteT (fin _ (Ex.refl _) false rfl)⟩
  | str z _ _ => exact ⟨_, rfl, _, _, _, _, _, rfl, .ty "tuple", .base (.str z), kit_ty (r := false) (by decide +kernel), false, rfl, iteT (fin _ (Ex.refl _) false rfl)⟩
  | lst h1 => exact ⟨_, rfl, _, _, _, _, _, rfl, .ty "tuple", .base (.lst h1), kit_ty (r := false) (by decide +kernel), false, rfl, iteT (fin _ (Ex.refl _) false rfl)⟩
  | @tup n a xs ds h1 ha hl hz all =>
    refine ⟨_, rfl, _, _, _, _, _, rfl, .ty "tuple", .base (.tup h1), kit_ty (r := true) (by decide +kernel), true, rfl, ?_⟩
    refine iteF ?_
    refine ⟨_, rfl, (by show 0 ≤ sizeLine; decide), fun e he => ?_⟩
    have n1 : Ex H (upd H e (.tup [])) := Ex.new he
    have ha1 := n1 _ _ h1
    have hr1 := h0.ex n1
    have un : upd H e (.tup []) e = some (.tup []) := upd_same
    generalize upd H e (.tup []) = H1 at *
    refine ⟨.tuple ds, .tuple [], hr1.dp, .tup (SqT.of un) .nil, hr1.shaped (by omega), shaped0, ?_⟩
    match ds, hl, all, fin, hr1 with
    | [], _, _, fin, _ => exact ⟨_, rfl, iteT (fin _ n1 false rfl)⟩
    | d0 :: r, hl, all, fin, hr1 =>
      refine ⟨_, rfl, iteF ?_⟩
      match xs, hl, all, ha1 with
      | x0 :: ys, hl, all, ha1 =>
        have r0 := (all 0 x0 d0 rfl rfl).ex n1
        have hly : ys.length = r.length := Nat.succ.inj hl
        have rdy : RdL K ok H1 n ys r := ⟨hly, fun i x e hx he => (all (i + 1) x e hx he).ex n1⟩
        have sp : specD (.tuple (d0 :: r)) = (if eqS d0 "letters" = true then decide (r.length = 2) && r.all (betwD 0 8) else if eqS d0 "wires" = true then decide (r.length = 1) && r.all (betwD 0 10) else false) := rfl
        rw [sp] at fin
        refine ⟨_, rfl, _, _, _, _, rfl, rfl, SqT.of ha1, at_of (show (0 : Int) = ((0 : Nat) : Int) from rfl) rfl, d0, .str "letters", r0.dp, .str _, r0.shaped (by omega), shapedS (by decide +kernel), ?_⟩
        cases c1 : eqS d0 "letters" with
        | true =>
          rw [c1, if_pos rfl] at fin
          rw [show PyData.eqv d0 (.str "letters") = true from c1]
          refine ⟨_, rfl, iteT ?_⟩
          refine ⟨_, rfl, _, _, rfl, .inr ⟨_, SqT.of ha1, rfl⟩, rfl, ?_⟩
          refine ⟨_, rfl, ?_⟩
          by_cases c2 : r.length = 2
          · rw [decide_eq_true c2, Bool.true_and] at fin
            obtain ⟨x1, x2, d1, d2, rfl, rfl⟩ := len_two hly c2
            · rw [if_pos (show decide (V.int ↑([x0, x1, x2] : List V).length = V.int 3) = true from decide_eq_true rfl)]
              refine ⟨_, rfl, 1, rfl, a, _, rfl, SqT.of ha1, fun z => ?_, fun _ p hp => ?_⟩
              · exact absurd z.1 (by show ¬ HT.sIx 3 0 (some 1) = 0; decide)
              have hc : cutV [x0, x1, x2] (some 1) none = [x1, x2] := rfl
              rw [hc]
              exact ⟨p, [x1, x2], [d1, d2], n, ok, 0, 8, rfl, SqT.of upd_same, rdy.ex (Ex.new hp), (by show 2 ≤ 1000; decide), fun H' e' => fin H' (n1.trans ((Ex.new hp).trans e')) _ rfl⟩
          · rw [decide_eq_false c2, Bool.false_and] at fin
            rw [if_neg (by
              intro z
              have := V.int.inj (of_decide_eq_true z)
              rw [List.length_cons] at this
              omega)]
            exact fin _ n1 _ rfl
        | false =>
          rw [c1, if_neg (by decide)] at fin
          rw [show PyData.eqv d0 (.str "letters") = false from c1]
          refine ⟨_, rfl, iteF ?_⟩
          refine ⟨_, rfl, _, _, _, _, rfl, rfl, SqT.of ha1, at_of (show (0 : Int) = ((0 : Nat) : Int) from rfl) rfl, d0, .str "wires", r0.dp, .str _, r0.shaped (by omega), shapedS (by decide +kernel), ?_⟩
          cases c3 : eqS d0 "wires" with
          | true =>
            rw [c3, if_pos rfl] at fin
            rw [show PyData.eqv d0 (.str "wires") = true from c3]
            refine ⟨_, rfl, iteT ?_⟩
            refine ⟨_, rfl, _, _, rfl, .inr ⟨_, SqT.of ha1, rfl⟩, rfl, ?_⟩
            refine ⟨_, rfl, ?_⟩
            by_cases c2 : r.length = 1
            · rw [decide_eq_true c2, Bool.true_and] at fin
              obtain ⟨x1, d1, rfl, rfl⟩ := len_one hly c2
              · rw [if_pos (show decide (V.int ↑([x0, x1] : List V).length = V.int 2) = true from decide_eq_true rfl)]
                have r1 := rdy.2 0 x1 d1 rfl rfl
                refine ⟨_, rfl, _, _, _, _, rfl, rfl, SqT.of ha1, rfl, _, _, _, rfl, r1.dat, fun b h1 h2 => ?_⟩
                rw [rd_betw r1 h1 h2]
                exact fin _ n1 _ (by simp)
            · rw [decide_eq_false c2, Bool.false_and] at fin
              rw [if_neg (by
                intro z
                have := V.int.inj (of_decide_eq_true z)
                rw [List.length_cons] at this
                omega)]
              exact fin _ n1 _ rfl
          | false =>
            rw [c3, if_neg (by decide)] at fin
            rw [show PyData.eqv d0 (.str "wires") = false from c3]
            exact ⟨_, rfl, iteF (fin _ n1 _ rfl)⟩
def spLnInit (K : PySem.W.Frag) (C D : Addr) : Sp := fun vs H Q E => ∃ (p dx : Addr) (x : V), vs = [.ref p, x] ∧ H p = some (.ins C dx []) ∧ AnyV K H x ∧
  ((∀ d n ok, Rd K ok H n x d → specD d = false) → ∀ e H', But p H H' → H' e = some (.xd [("given", x)]) → E (.ref D) (some e) H') ∧
  ∀ (sp : Addr) (kd : Knd), x = .ref sp → H sp = some (.tup kd.vals) → kd.Ok → ∀ (A : Ln) H', A.p = p → A.dx = dx → A.sp = sp → LineAt C A ⟨kd, [], [], [], []⟩ H' → [A.a0, A.a1, A.d0, A.d1].Nodup → (∀ a ∈ [A.a0, A.a1, A.d0, A.d1, A.sb, A.cb], H a = none) → But p H H' → Q .non H'
theorem ok_Line_init (T : TL K mg) : FnOk P w K mg base (L2.CX P w) 5 T.m_init.a T.m_init.fd ["self", "spec"] (spLnInit K T.C T.InvalidSpec.C) := by
  refine T.m_init.F.okX sc_Line_init (fun vs H Q E h => ?_) (fun cdv A outer s H vs Q E hr h => ?_)
  · obtain ⟨p, dx, x, rfl, _⟩ := h; rfl
  obtain ⟨p, dx, x, rfl, hp, av, qno, q'⟩ := h
  refine ⟨_, (pss_cons (ps_if (pt_not (pt_val (pe_call (ok_is_spec T) (hr.mono (by decide)) rfl T.is_spec.m T.is_spec.F.kp T.is_spec.b .nil pass0 (pa_cons (pv 1) pa_nil)))) (pss_one (ps_raise rfl (takes_of rfl rfl rfl rfl) (pmk_oex T.InvalidSpec.T T.InvalidSpec.iC T.InvalidSpec.tI (ok_init_InvalidSpec T.InvalidSpec) (hr.mono (by decide)) T.InvalidSpec.b .nil pass0 rfl T.InvalidSpec.gC (by exact (pa_cons (pv 1) pa_nil))))) pss_nil)
    (pss_cons (ps_fld (pv 0) (pv 1) rfl)
    (pss_cons (ps_fld (pv 0) (pe_lst (pa_cons (pe_lst pa_nil) (pa_cons (pe_lst pa_nil) pa_nil))) rfl)
    (pss_one (ps_fld (pv 0) (pe_lst (pa_cons (pe_lst pa_nil) (pa_cons (pe_lst pa_nil) pa_nil))) rfl))))), ?_⟩
  refine ⟨_, rfl, x, rfl, av, fun b hb hno H1 e1 => ?_⟩
  refine ⟨b, rfl, ?_⟩
  cases b with
  | false => exact iteT ⟨_, rfl, (by show 1 ≤ 1000; decide), fun a ha => raised ha fun e H' ex he => qno (hno rfl) e H' (But.of (e1.trans ex)) he⟩
  | true =>
  obtain ⟨sp, kd, rfl, hs, hk⟩ := hb rfl
  have q := q' sp kd rfl hs hk
  refine iteF ?_
  refine ⟨_, rfl, _, rfl, _, _, _, _, rfl, e1 _ _ hp, T.cl, T.n_spec, by decide, ?_⟩
  refine ⟨(by show 0 ≤ sizeLine; decide), fun a0 h0 => ⟨(by show 0 ≤ sizeLine; decide), fun a1 h1 => ⟨(by show 2 ≤ sizeLine; decide), fun sb h2 => ?_⟩⟩⟩
  generalize hg1 : upd H1 p (HO.ins T.C dx (putF (Str.ofString "spec") (V.ref sp) [])) = G1 at h0 h1 h2 ⊢
  have g1p : G1 p = some (.ins T.C dx [("spec", .ref sp)]) := by rw [← hg1, upd_same]; rfl
  have k1 : But p H G1 := by rw [← hg1]; exact But.pre e1 But.upd
  have f4 : Ex G1 (upd (upd (upd G1 a0 (.lst [])) a1 (.lst [])) sb (.lst [.ref a0, .ref a1])) := ((Ex.new h0).trans (Ex.new h1)).trans (Ex.new h2)
  have x0 : G1 a0 = none := h0
  have x1 : G1 a1 = none := fresh_back (Ex.new h0) h1
  have xs : G1 sb = none := fresh_back ((Ex.new h0).trans (Ex.new h1)) h2
  have n01 : a0 ≠ a1 := ne_of_none upd_same h1
  have r0 : upd (upd (upd G1 a0 (.lst [])) a1 (.lst [])) sb (.lst [.ref a0, .ref a1]) a0 = some (.lst []) := (Ex.new h2) _ _ ((Ex.new h1) _ _ upd_same)
  have r1 : upd (upd (upd G1 a0 (.lst [])) a1 (.lst [])) sb (.lst [.ref a0, .ref a1]) a1 = some (.lst []) := (Ex.new h2) _ _ upd_same
  have rs : upd (upd (upd G1 a0 (.lst [])) a1 (.lst [])) sb (.lst [.ref a0, .ref a1]) sb = some (.lst [.ref a0, .ref a1]) := upd_same
  generalize upd (upd (upd G1 a0 (.lst [])) a1 (.lst [])) sb (.lst [.ref a0, .ref a1]) = G4 at f4 r0 r1 rs ⊢
  refine ⟨_, rfl, _, _, _, _, rfl, f4 _ _ g1p, T.cl, T.n_sent, (by show 1 < 1000; decide), ?_⟩
  refine ⟨(by show 0 ≤ sizeLine; decide), fun d0 h5 => ⟨(by show 0 ≤ sizeLine; decide), fun d1 h6 => ⟨(by show 2 ≤ sizeLine; decide), fun cb h7 => ?_⟩⟩⟩
  generalize hg5 : upd G4 p (HO.ins T.C dx (putF (Str.ofString "_sent_by") (V.ref sb) [(Str.ofString "spec", V.ref sp)])) = G5 at h5 h6 h7 ⊢
  have g5p : G5 p = some (.ins T.C dx [("spec", .ref sp), ("_sent_by", .ref sb)]) := by rw [← hg5, upd_same]; rfl
  have k5 : But p G4 G5 := by rw [← hg5]; exact But.upd
  have f8 : Ex G5 (upd (upd (upd G5 d0 (.lst [])) d1 (.lst [])) cb (.lst [.ref d0, .ref d1])) := ((Ex.new h5).trans (Ex.new h6)).trans (Ex.new h7)
  have y0 : G5 d0 = none := h5
  have y1 : G5 d1 = none := fresh_back (Ex.new h5) h6
  have ys : G5 cb = none := fresh_back ((Ex.new h5).trans (Ex.new h6)) h7
  have m01 : d0 ≠ d1 := ne_of_none upd_same h6
  have t0 : upd (upd (upd G5 d0 (.lst [])) d1 (.lst [])) cb (.lst [.ref d0, .ref d1]) d0 = some (.lst []) := (Ex.new h7) _ _ ((Ex.new h6) _ _ upd_same)
  have t1 : upd (upd (upd G5 d0 (.lst [])) d1 (.lst [])) cb (.lst [.ref d0, .ref d1]) d1 = some (.lst []) := (Ex.new h7) _ _ upd_same
  have ts : upd (upd (upd G5 d0 (.lst [])) d1 (.lst [])) cb (.lst [.ref d0, .ref d1]) cb = some (.lst [.ref d0, .ref d1]) := upd_same
  generalize upd (upd (upd G5 d0 (.lst [])) d1 (.lst [])) cb (.lst [.ref d0, .ref d1]) = G8 at f8 t0 t1 ts ⊢
  refine ⟨_, rfl, _, _, _, _, rfl, f8 _ _ g5p, T.cl, T.n_came, (by show 2 < 1000; decide), ?_⟩
  have k9 : But p G8 (upd G8 p (.ins T.C dx (putF "_came_to" (.ref cb) [("spec", .ref sp), ("_sent_by", .ref sb)]))) := But.upd
  have k49 := k5.trans (But.trans (But.of f8) k9)
  have k19 := But.trans (But.of f4) k49
  have px0 : a0 ≠ p := (ne_of_none g1p x0).symm
  have px1 : a1 ≠ p := (ne_of_none g1p x1).symm
  have pxs : sb ≠ p := (ne_of_none g1p xs).symm
  have py0 : d0 ≠ p := (ne_of_none g5p y0).symm
  have py1 : d1 ≠ p := (ne_of_none g5p y1).symm
  have pys : cb ≠ p := (ne_of_none g5p ys).symm
  have spp : sp ≠ p := ne_of hs hp (by intro z; cases z)
  have back : ∀ {x : Addr}, x ≠ p → G5 x = none → G1 x = none := fun {x} hx h => fresh_back f4 (k5.none (f4 _ _ g1p) h hx)
  refine q ⟨p, dx, sp, sb, cb, a0, a1, d0, d1⟩ _ rfl rfl rfl ⟨by rw [upd_same]; rfl, (k1.trans k19) _ _ spp hs, k49 _ _ pxs rs, k9 _ _ pys ts, k49 _ _ px0 r0, k49 _ _ px1 r1, k9 _ _ py0 t0, k9 _ _ py1 t1, hk⟩ ?_ ?_ (k1.trans k19)
  · have q5 : ∀ {x y : Addr} {o : HO}, G4 x = some o → x ≠ p → G5 y = none → x ≠ y := fun h hx hy => ne_of_none (k5 _ _ hx h) hy
    simp only [List.nodup_cons, List.mem_cons, List.not_mem_nil, or_false, not_or, not_false_eq_true, List.nodup_nil, and_true]
    exact ⟨⟨n01, q5 r0 px0 y0, q5 r0 px0 y1⟩, ⟨q5 r1 px1 y0, q5 r1 px1 y1⟩, m01⟩
  · have b1 : ∀ {x : Addr}, x ≠ p → G1 x = none → H x = none := fun hx h => k1.none hp h hx
    intro a ha
    simp only [List.mem_cons, List.not_mem_nil, or_false] at ha
    rcases ha with rfl | rfl | rfl | rfl | rfl | rfl
    · exact b1 px0 x0
    · exact b1 px1 x1
    · exact b1 py0 (back py0 y0)
    · exact b1 py1 (back py1 y1)
    · exact b1 pxs xs
    · exact b1 pys (back pys ys)
end
end L2.U


set_option Elab.async false
set_option linter.all false
set_option maxRecDepth 100000
set_option maxHeartbeats 4000000
namespace L2.U
open PySem PySem.Spec PyProof.Rows Evl
section
variable {P : Program} {w : World} {K : PySem.W.Frag} {mg : Str → Option Value} {base : Heap}
theorem knd_inj {a b : Knd} (h : a.vals = b.vals) : a = b := by
  cases a <;> cases b <;> simp [Knd.vals] at h
  · rw [h.1, h.2]
  · rw [h]
theorem knd_rd {H : Hp} {sp : Addr} {kd : Knd} (h : H sp = some (.tup kd.vals)) (ok : kd.Ok) : ∃ d, Rd K (fun _ => True) H 1 (.ref sp) d ∧ specD d = true := by
  cases kd with
  | letr m b =>
    have hk : (0 ≤ m ∧ m ≤ 8) ∧ 0 ≤ b ∧ b ≤ 8 := ok
    refine ⟨.tuple [.str "letters", .int m, .int b], .tup h trivial rfl (by show 3 ≤ 900; decide) fun i x d hx hd => ?_, ?_⟩
    · match i, hx, hd with
      | 0, hx, hd => cases Option.some.inj hx; cases Option.some.inj hd; exact .str _ (by decide +kernel) (by decide +kernel)
      | 1, hx, hd => cases Option.some.inj hx; cases Option.some.inj hd; exact .int _
      | 2, hx, hd => cases Option.some.inj hx; cases Option.some.inj hd; exact .int _
    · have e : specD (.tuple [.str "letters", .int m, .int b]) = (if eqS (.str "letters") "letters" = true then decide (([.int m, .int b] : List PyData).length = 2) && ([.int m, .int b] : List PyData).all (betwD 0 8) else if eqS (.str "letters") "wires" = true then decide (([.int m, .int b] : List PyData).length = 1) && ([.int m, .int b] : List PyData).all (betwD 0 10) else false) := rfl
      rw [e, if_pos (show eqS (.str "letters") "letters" = true by decide +kernel)]
      simp [betwD, hk]
  | wir k =>
    have hk : 0 ≤ k ∧ k ≤ 10 := ok
    refine ⟨.tuple [.str "wires", .int k], .tup h trivial rfl (by show 2 ≤ 900; decide) fun i x d hx hd => ?_, ?_⟩
    · match i, hx, hd with
      | 0, hx, hd => cases Option.some.inj hx; cases Option.some.inj hd; exact .str _ (by decide +kernel) (by decide +kernel)
      | 1, hx, hd => cases Option.some.inj hx; cases Option.some.inj hd; exact .int _
    · have e : specD (.tuple [.str "wires", .int k]) = (if eqS (.str "wires") "letters" = true then decide (([.int k] : List PyData).length = 2) && ([.int k] : List PyData).all (betwD 0 8) else if eqS (.str "wires") "wires" = true then decide (([.int k] : List PyData).length = 1) && ([.int k] : List PyData).all (betwD 0 10) else false) := rfl
      rw [e, if_neg (show ¬ eqS (.str "wires") "letters" = true by decide +kernel), if_pos (show eqS (.str "wires") "wires" = true by decide +kernel)]
      simp [betwD, hk]
/-- [list(y) for y in two lists of ints] -/
theorem cp_two {K : PySem.W.Frag} {σ : L2.St} {H1 : Hp} {D b a0 a1 : Addr} {n0 n1 : List Int} {i : Nat} {y : Str} {Qd : Hp → Prop} (hb : SqL K H1 b [.ref a0, .ref a1]) (h0 : H1 a0 = some (.lst (n0.map V.int))) (h1 : H1 a1 = some (.lst (n1.map V.int)))
    (z0 : n0.length ≤ 64) (z1 : n1.length ≤ 64) (hi : i < σ.length) (hD : H1 D = none)
    (hq : ∀ e0 e1 H', Ex H1 H' → H1 e0 = none → H1 e1 = none → e0 ≠ e1 → H' e0 = some (.lst (n0.map V.int)) → H' e1 = some (.lst (n1.map V.int)) → H' D = some (.lst [.ref e0, .ref e1]) → Qd H') :
    ∃ W : Nat → Nat → Hp → Prop, (∃ m, W 0 m (upd H1 D (.lst []))) ∧ ∀ i' m H, W i' m H →
      ((Itl K b).stop i' H ∧ Qd H) ∨ ((Itl K b).go i' H ∧ ∃ Nx : Hp → Prop, (∀ H', Nx H' → ∃ m', m' < m ∧ W (i' + 1) m' H') ∧ ∀ x H', (Itl K b).yld i' H x H' → gName i x (wipe σ ([(y, i)].map (fun x => x.2))) H' fun σ2 H2 => wipe σ2 ([(y, i)].map (fun x => x.2)) = wipe σ ([(y, i)].map (fun x => x.2)) ∧ tYes σ2 H2 fun b H3 =>
        if b = true then tCB (rListOf K) (tCons (tVar i) tNil) σ2 H3 fun y H4 => ∃ acc, H4 D = some (.lst acc) ∧ acc.length < sizeLine ∧ Nx (upd H4 D (.lst (acc ++ [y]))) else Nx H3) := by
  have ws : ∀ x : V, wipe ((wipe σ [i]).set i (some x)) [i] = wipe σ [i] := fun x => by simp [wipe]
  have ln : ∀ x : V, ((wipe σ [i]).set i (some x))[i]? = some (some x) := fun x => by simp [wipe, hi]
  refine lc_list (xs := [.ref a0, .ref a1]) (fun k H' => Ex H1 H' ∧ ∃ es : List Addr, es.length = k ∧ H' D = some (.lst (es.map V.ref)) ∧ (∀ e ∈ es, H1 e = none ∧ e ≠ D) ∧ es.Nodup ∧
    (∀ e, es[0]? = some e → H' e = some (.lst (n0.map V.int))) ∧ (∀ e, es[1]? = some e → H' e = some (.lst (n1.map V.int)))) ⟨Ex.new hD, [], rfl, upd_same, (fun e h => absurd h (by simp)), .nil, (fun e h => by cases h), (fun e h => by cases h)⟩
    (fun k H' _ p => ex_l p.1 hb) ?_ ?_
  · rintro k x H' hx ⟨e, es, hl, hd, hes, hn, g0, g1⟩
    refine ⟨ws x, tyes ?_⟩
    have main : ∀ (a : Addr) (ns : List Int), x = .ref a → H1 a = some (.lst (ns.map V.int)) → ns.length ≤ 64 → (k = 0 → ns = n0) → (k = 1 → ns = n1) → tCB (rListOf K) (tCons (tVar i) tNil) ((wipe σ [i]).set i (some x)) H' fun y H4 => ∃ acc, H4 D = some (.lst acc) ∧ acc.length < sizeLine ∧
        (fun k H' => Ex H1 H' ∧ ∃ es : List Addr, es.length = k ∧ H' D = some (.lst (es.map V.ref)) ∧ (∀ e ∈ es, H1 e = none ∧ e ≠ D) ∧ es.Nodup ∧
    (∀ e, es[0]? = some e → H' e = some (.lst (n0.map V.int))) ∧ (∀ e, es[1]? = some e → H' e = some (.lst (n1.map V.int)))) (k + 1) (upd H4 D (.lst (acc ++ [y]))) := by
      rintro a ns rfl ha hz k0 k1
      refine ⟨_, ln _, a, ns.map V.int, rfl, .inl (ex_l e (SqL.of ha)), fun l hl => ?_⟩
      have lD : D ≠ l := ne_of_none hd hl
      have x2 : Ex H' (upd H' l (.lst (ns.map V.int))) := Ex.new hl
      refine ⟨_, x2 _ _ hd, small1000 (by rw [List.length_map, ‹es.length = k›]; have := (List.getElem?_eq_some_iff.mp hx).1; simp only [List.length_cons, List.length_nil] at this; omega), (e.trans x2).mut hD, es ++ [l], ?_, ?_, ?_, ?_, ?_, ?_⟩
      · rw [List.length_append, ‹es.length = k›]; rfl
      · rw [upd_same, List.map_append]; rfl
      · intro e' he'
        rcases List.mem_append.mp he' with h | h
        · exact hes e' h
        · obtain rfl := List.mem_singleton.mp h
          exact ⟨fresh_back e hl, lD.symm⟩
      · refine List.nodup_append.mpr ⟨hn, by simp, ?_⟩
        intro e' he' e'' he''
        obtain rfl := List.mem_singleton.mp he''
        rintro rfl
        match es, he', hl, g0, g1, hn, ‹es.length = k› with
        | [e1], h, hl, g0, g1, hn, hk =>
          obtain rfl := List.mem_singleton.mp h
          rw [g0 _ rfl] at hl; cases hl
        | [e1, e2], h, hl, g0, g1, hn, hk => have := (List.getElem?_eq_some_iff.mp hx).1; simp only [List.length_cons, List.length_nil] at this hk; omega
        | e1 :: e2 :: e3 :: r, h, hl, g0, g1, hn, hk => have := (List.getElem?_eq_some_iff.mp hx).1; simp only [List.length_cons, List.length_nil] at this hk; omega
      · intro e' he'
        match es, he', hes, g0, ‹es.length = k› with
        | [], h, _, _, hk =>
          obtain rfl := Option.some.inj h
          rw [upd_ne lD.symm, upd_same, k0 hk.symm]
        | e1 :: r, h, hes, g0, hk =>
          obtain rfl := Option.some.inj h
          rw [upd_ne (hes e1 (by simp)).2]
          exact x2 _ _ (g0 _ rfl)
      · intro e' he'
        match es, he', hes, g1, ‹es.length = k› with
        | [], h, _, _, hk => cases h
        | [e1], h, _, _, hk =>
          obtain rfl := Option.some.inj h
          rw [upd_ne lD.symm, upd_same, k1 hk.symm]
        | e1 :: e2 :: r, h, hes, g1, hk =>
          obtain rfl := Option.some.inj h
          rw [upd_ne (hes e2 (by simp)).2]
          exact x2 _ _ (g1 _ rfl)
    match k, hx with
    | 0, hx => exact main a0 n0 (Option.some.inj hx).symm h0 z0 (fun _ => rfl) (fun h => by omega)
    | 1, hx => exact main a1 n1 (Option.some.inj hx).symm h1 z1 (fun h => by omega) (fun _ => rfl)
    | k + 2, hx => cases hx
  · rintro H' ⟨e, es, hl, hd, hes, hn, g0, g1⟩
    match es, hl with
    | [e0, e1], _ =>
      have nn : e0 ≠ e1 := by
        have := hn
        simp only [List.nodup_cons, List.mem_cons, List.not_mem_nil, or_false] at this
        exact this.1
      exact hq e0 e1 H' e (hes e0 (by simp)).1 (hes e1 (by simp)).1 nn (g0 _ rfl) (g1 _ rfl) hd
def spCopy (C : Addr) : Sp := fun vs H Q _ => ∃ (A : Ln) (L : LS), vs = [.ref A.p] ∧ LineAt C A L H ∧ (∀ s, Side s → (L.s s).length ≤ 64 ∧ (L.c s).length ≤ 64) ∧
  ∀ (B : Ln) H', LineAt C B L H' → [B.a0, B.a1, B.d0, B.d1].Nodup → (∀ a ∈ [B.a0, B.a1, B.d0, B.d1], H a = none) → Ex H H' → Q (.ref B.p) H'
theorem ok_Line_copy (T : TL K mg) : FnOk P w K mg base (L2.CX P w) 7 T.m_copy.a T.m_copy.fd ["self"] (spCopy T.C) := by
  refine T.m_copy.F.okX sc_Line_copy (fun vs H Q E h => ?_) (fun cdv A outer s H vs Q E hr h => ?_)
  · obtain ⟨A, L, rfl, _⟩ := h; rfl
  obtain ⟨A, L, rfl, l, hz, q⟩ := h
  refine ⟨_, (pss_cons (ps_set (i := 1) sc_Line_copy.nd rfl (Or.inl rfl) (by exact (pe_makeX T.mkc (ok_Line_init T) (hr.mono (by decide)) rfl T.gL T.m_init.b (fun σ => passLAt) (pa_cons (pe_fld (pv 0) rfl) pa_nil))))
    (pss_cons (ps_fld (pv 1) (pe_lc (own := [("sent", 2)]) (g := gName 2) (by rfl) sc_Line_copy.nd (kpil K (pe_fld (pv 0) rfl)) (blkOk_by (own := [("sent", 2)]) (N := ["self", "line", "sent", "come"]) (sc := defScope s_Line_copy) (by decide +kernel)) (fun _ _ _ _ _ => (pg_name (i := 2) sc_Line_copy.nd rfl (Or.inl rfl))) (fun _ _ _ _ _ => pts_nil) (fun _ _ _ _ _ => (pe_callTy (klist K) (by rfl) T.z_list (by decide +kernel) (pa_cons (pv 2) pa_nil)))) rfl)
    (pss_cons (ps_fld (pv 1) (pe_lc (own := [("come", 3)]) (g := gName 3) (by rfl) sc_Line_copy.nd (kpil K (pe_fld (pv 0) rfl)) (blkOk_by (own := [("come", 3)]) (N := ["self", "line", "sent", "come"]) (sc := defScope s_Line_copy) (by decide +kernel)) (fun _ _ _ _ _ => (pg_name (i := 3) sc_Line_copy.nd rfl (Or.inl rfl))) (fun _ _ _ _ _ => pts_nil) (fun _ _ _ _ _ => (pe_callTy (klist K) (by rfl) T.z_list (by decide +kernel) (pa_cons (pv 3) pa_nil)))) rfl)
    (pss_one (ps_ret (pv 1)))))), ?_⟩
  refine ⟨_, rfl, A.p, T.C, A.dx, _, _, rfl, l.obj, T.cl, T.n_spec, rfl, ?_⟩
  intro x dx hx hdx nxd
  have hsp2 : upd (upd H dx (.own x)) x (.ins T.C dx []) A.sp = some (.tup L.kd.vals) := (Ex.new (by rw [upd_ne nxd.symm]; exact hx)) _ _ ((Ex.new hdx) _ _ l.sp)
  obtain ⟨dsp, rsp, csp⟩ := knd_rd (K := K) hsp2 l.ok
  refine ⟨x, dx, .ref A.sp, rfl, upd_same, .inl ⟨dsp, 1, _, rsp, by decide⟩, fun no => absurd (no _ _ _ rsp) (by rw [csp]; decide), fun sp' kd' es hs' _ B H' bp bdx bsp lB nd fr k => ⟨rfl, ?_⟩⟩
  obtain rfl : A.sp = sp' := V.ref.inj es
  obtain rfl : kd' = L.kd := knd_inj (HO.tup.inj (Option.some.inj (hs'.symm.trans hsp2)))
  subst bp
  have e1 : Ex H H' := fun a o h => k a o (ne_of_none h hx) (by rw [upd_ne (ne_of_none h hx), upd_ne (ne_of_none h hdx)]; exact h)
  have l1 := l.ex e1
  have hxo := lB.obj
  refine ⟨_, rfl, A.p, T.C, A.dx, _, _, rfl, l1.obj, T.cl, T.n_sent, rfl, A.sb, rfl, ⟨_, SqL.of l1.sb⟩, fun D hD => cp_two (SqL.of l1.sb) l1.a0 l1.a1 (hz 0 (by unfold Side; omega)).1 (hz 1 (by unfold Side; omega)).1 (by show 2 < 4; decide) hD fun c0 c1 H2 x2 f0 f1 n01 r0 r1 rD => ?_⟩
  rw [bsp] at hxo
  refine ⟨_, rfl, _, _, _, _, rfl, x2 _ _ hxo, T.cl, T.n_sent, (by show 3 < 1000; decide), ?_⟩
  have s1 : Ex H (upd H2 B.p (.ins T.C B.dx (putF "_sent_by" (.ref D) [("spec", .ref A.sp), ("_sent_by", .ref B.sb), ("_came_to", .ref B.cb)]))) := (e1.trans x2).mut hx
  have g5p : upd H2 B.p (.ins T.C B.dx (putF "_sent_by" (.ref D) [("spec", .ref A.sp), ("_sent_by", .ref B.sb), ("_came_to", .ref B.cb)])) B.p = some (.ins T.C B.dx [("spec", .ref A.sp), ("_sent_by", .ref D), ("_came_to", .ref B.cb)]) := by rw [upd_same]; rfl
  have k5 : But B.p H2 (upd H2 B.p (.ins T.C B.dx (putF "_sent_by" (.ref D) [("spec", .ref A.sp), ("_sent_by", .ref B.sb), ("_came_to", .ref B.cb)]))) := But.upd
  generalize upd H2 B.p (.ins T.C B.dx (putF "_sent_by" (.ref D) [("spec", .ref A.sp), ("_sent_by", .ref B.sb), ("_came_to", .ref B.cb)])) = G5 at s1 g5p k5 ⊢
  have l5 := l.ex s1
  have pc0 : c0 ≠ B.p := (ne_of_none hxo f0).symm
  have pc1 : c1 ≠ B.p := (ne_of_none hxo f1).symm
  have pD : D ≠ B.p := (ne_of_none hxo hD).symm
  refine ⟨_, rfl, A.p, T.C, A.dx, _, _, rfl, l5.obj, T.cl, T.n_came, rfl, A.cb, rfl, ⟨_, SqL.of l5.cb⟩, fun D2 hD2 => cp_two (SqL.of l5.cb) l5.d0 l5.d1 (hz 0 (by unfold Side; omega)).2 (hz 1 (by unfold Side; omega)).2 (by show 3 < 4; decide) hD2 fun c2 c3 H3 x3 f2 f3 n23 r2 r3 rD2 => ?_⟩
  refine ⟨_, rfl, _, _, _, _, rfl, x3 _ _ g5p, T.cl, T.n_came, (by show 3 < 1000; decide), ?_⟩
  have k9 : But B.p H3 (upd H3 B.p (.ins T.C B.dx (putF "_came_to" (.ref D2) [("spec", .ref A.sp), ("_sent_by", .ref D), ("_came_to", .ref B.cb)]))) := But.upd
  have k59 := But.trans (But.of x3) k9
  have s9 : Ex H (upd H3 B.p (.ins T.C B.dx (putF "_came_to" (.ref D2) [("spec", .ref A.sp), ("_sent_by", .ref D), ("_came_to", .ref B.cb)]))) := (s1.trans x3).mut hx
  have pc2 : c2 ≠ B.p := (ne_of_none g5p f2).symm
  have pc3 : c3 ≠ B.p := (ne_of_none g5p f3).symm
  have pD2 : D2 ≠ B.p := (ne_of_none g5p hD2).symm
  refine ⟨_, rfl, q ⟨B.p, B.dx, A.sp, D, D2, c0, c1, c2, c3⟩ _ ⟨by rw [upd_same]; rfl, s9 _ _ l.sp, (k5.trans k59) _ _ pD rD, k9 _ _ pD2 rD2, (k5.trans k59) _ _ pc0 r0, (k5.trans k59) _ _ pc1 r1, k9 _ _ pc2 r2, k9 _ _ pc3 r3, l.ok⟩ ?_ ?_ s9⟩
  · have z : ∀ {x y : Addr} {o : HO}, H2 x = some o → x ≠ B.p → G5 y = none → x ≠ y := fun h hx hy => ne_of_none (k5 _ _ hx h) hy
    simp only [List.nodup_cons, List.mem_cons, List.not_mem_nil, or_false, not_or, not_false_eq_true, List.nodup_nil, and_true]
    exact ⟨⟨n01, z r0 pc0 f2, z r0 pc0 f3⟩, ⟨z r1 pc1 f2, z r1 pc1 f3⟩, n23⟩
  · intro a ha
    simp only [List.mem_cons, List.not_mem_nil, or_false] at ha
    rcases ha with rfl | rfl | rfl | rfl
    · exact fresh_back e1 f0
    · exact fresh_back e1 f1
    · exact fresh_back s1 f2
    · exact fresh_back s1 f3
end
end L2.U


set_option Elab.async false
set_option linter.all false
set_option maxRecDepth 100000
set_option maxHeartbeats 4000000
namespace L2.U
open PySem PySem.Spec PyProof.Rows Evl

abbrev s_law_is_between : Stmt := top 21
theorem sc_law_is_between : FnScope ["value", "least", "most"] ["value", "least", "most"] (defScope s_law_is_between) := ⟨rfl, rfl, rfl, by decide +kernel, rfl, by decide +kernel, by decide +kernel⟩
abbrev s_law_is_spec : Stmt := top 22
theorem sc_law_is_spec : FnScope ["value"] ["value"] (defScope s_law_is_spec) := ⟨rfl, rfl, rfl, by decide +kernel, rfl, by decide +kernel, by decide +kernel⟩
abbrev s_law_made : Stmt := top 23
theorem sc_law_made : FnScope ["way", "spec", "error"] ["way", "spec"] (defScope s_law_made) := ⟨rfl, rfl, rfl, by decide +kernel, rfl, by decide +kernel, by decide +kernel⟩
abbrev s_law_specs_right : Stmt := top 24
theorem sc_law_specs_right : FnScope ["box", "named", "m", "b", "many", "odd", "word", "asked", "k", "way", "value", "due", "told"] ["box", "named"] (defScope s_law_specs_right) := ⟨rfl, rfl, rfl, by decide +kernel, rfl, by decide +kernel, by decide +kernel⟩
abbrev s_law_all : Stmt := top 25
theorem sc_law_all : FnScope ["line", "found", "side"] ["line"] (defScope s_law_all) := ⟨rfl, rfl, rfl, by decide +kernel, rfl, by decide +kernel, by decide +kernel⟩
abbrev s_law_call : Stmt := top 26
theorem sc_law_call : FnScope ["line", "method", "named", "side", "kind"] ["line", "method", "named", "side", "kind"] (defScope s_law_call) := ⟨rfl, rfl, rfl, by decide +kernel, rfl, by decide +kernel, by decide +kernel⟩
abbrev s_law_told : Stmt := top 27
theorem sc_law_told : FnScope ["line", "method", "named", "side", "kind", "error"] ["line", "method", "named", "side", "kind"] (defScope s_law_told) := ⟨rfl, rfl, rfl, by decide +kernel, rfl, by decide +kernel, by decide +kernel⟩
abbrev s_law_refused : Stmt := top 28
theorem sc_law_refused : FnScope ["spec", "sent", "method", "side", "kind", "sender"] ["spec", "sent", "method", "side", "kind"] (defScope s_law_refused) := ⟨rfl, rfl, rfl, by decide +kernel, rfl, by decide +kernel, by decide +kernel⟩
abbrev s_law_many : Stmt := top 29
theorem sc_law_many : FnScope ["model", "side", "spec"] ["model", "side"] (defScope s_law_many) := ⟨rfl, rfl, rfl, by decide +kernel, rfl, by decide +kernel, by decide +kernel⟩
abbrev s_law_is_up : Stmt := top 30
theorem sc_law_is_up : FnScope ["model", "side", "kind"] ["model", "side", "kind"] (defScope s_law_is_up) := ⟨rfl, rfl, rfl, by decide +kernel, rfl, by decide +kernel, by decide +kernel⟩
abbrev s_law_waits : Stmt := top 31
theorem sc_law_waits : FnScope ["model", "side", "kind"] ["model", "side"] (defScope s_law_waits) := ⟨rfl, rfl, rfl, by decide +kernel, rfl, by decide +kernel, by decide +kernel⟩
abbrev s_law_free : Stmt := top 32
theorem sc_law_free : FnScope ["model", "side", "free", "kind"] ["model", "side"] (defScope s_law_free) := ⟨rfl, rfl, rfl, by decide +kernel, rfl, by decide +kernel, by decide +kernel⟩
abbrev s_law_view : Stmt := top 33
theorem sc_law_view : FnScope ["model", "spec", "sent", "come", "left", "found", "side", "wire"] ["model"] (defScope s_law_view) := ⟨rfl, rfl, rfl, by decide +kernel, rfl, by decide +kernel, by decide +kernel⟩
abbrev s_law_deed : Stmt := top 34
theorem sc_law_deed : FnScope ["box", "line", "model", "side", "first", "waits", "free", "kind", "here", "mine"] ["box", "line", "model"] (defScope s_law_deed) := ⟨rfl, rfl, rfl, by decide +kernel, rfl, by decide +kernel, by decide +kernel⟩
abbrev s_law_doors_right : Stmt := top 35
theorem sc_law_doors_right : FnScope ["box", "line", "model", "named", "turn", "way", "side", "kind", "method", "refused"] ["box", "line", "model", "named"] (defScope s_law_doors_right) := ⟨rfl, rfl, rfl, by decide +kernel, rfl, by decide +kernel, by decide +kernel⟩
abbrev s_law_very : Stmt := top 36
theorem sc_law_very : FnScope ["line", "named", "thing", "other", "told"] ["line", "named"] (defScope s_law_very) := ⟨rfl, rfl, rfl, by decide +kernel, rfl, by decide +kernel, by decide +kernel⟩
abbrev s_law_worked : Stmt := top 37
theorem sc_law_worked : FnScope ["box", "spec", "line", "model", "turn"] ["box", "spec"] (defScope s_law_worked) := ⟨rfl, rfl, rfl, by decide +kernel, rfl, by decide +kernel, by decide +kernel⟩
abbrev s_law_copies_right : Stmt := top 38
theorem sc_law_copies_right : FnScope ["box", "line", "model", "lines", "models", "turn", "at", "other", "kinds"] ["box", "line", "model"] (defScope s_law_copies_right) := ⟨rfl, rfl, rfl, by decide +kernel, rfl, by decide +kernel, by decide +kernel⟩
abbrev s_law : Stmt := top 39
theorem sc_law : FnScope ["script", "k", "box", "named", "specs", "spec", "worked", "line", "model"] ["script"] (defScope s_law) := ⟨rfl, rfl, rfl, by decide +kernel, rfl, by decide +kernel, by decide +kernel⟩
def kmw1 {α : Type} : List α → List α → List α
  | [x], [a] => [x, a]
  | _, _ => []
def kmw21 {α : Type} : List α → List α → List α
  | [x], [a, b] => [x, b, a]
  | _, _ => []
theorem kmw1_rel {vs : List V} {us : List Value} {zs : List V} {ws : List Value} (r : Vals vs us) (t : Vals zs ws) : Vals (kmw1 vs zs) (kmw1 us ws) := by
  cases r with
  | nil => exact .nil
  | cons x r => cases r with
    | cons _ _ => exact .nil
    | nil => cases t with
      | nil => exact .nil
      | cons a t => cases t with
        | nil => exact .cons x (.cons a .nil)
        | cons _ _ => exact .nil
theorem kmw21_rel {vs : List V} {us : List Value} {zs : List V} {ws : List Value} (r : Vals vs us) (t : Vals zs ws) : Vals (kmw21 vs zs) (kmw21 us ws) := by
  cases r with
  | nil => exact .nil
  | cons x r => cases r with
    | cons _ _ => exact .nil
    | nil => cases t with
      | nil => exact .nil
      | cons a t => cases t with
        | nil => exact .nil
        | cons b t => cases t with
          | nil => exact .cons x (.cons b (.cons a .nil))
          | cons _ _ => exact .nil
theorem kbm1 {K : PySem.W.Frag} {x qual : Str} {st : Stmt} {f : Addr} {fd : FuncData} {o p k : Str} (F : Fun K x qual st f fd)
    (h : ∀ (kV doc pm : Value) (an : Option Addr) (cdv ct : Value) (z u : Value), bindArgs (PySem.W.fnOf x qual (defArgs st) (defBody st) (defScope st) .none kV doc pm an cdv ct) ⟨[z], [(k, u)]⟩ = pure [(o, z), (p, u)]) : KBinds K fd [o, p] [k] kmw1 kmw1 := by
  obtain ⟨oc, od, kV, doc, pm, an, cdv, ct, osl, rfl, lk, hcd⟩ := F.ex
  refine ⟨fun s us ws _ hl => ?_, kmw1_rel⟩
  match us, ws, hl with
  | [z], [u], _ => exact .of_eq (h kV doc pm an cdv ct z u)
theorem kbm21 {K : PySem.W.Frag} {x qual : Str} {st : Stmt} {f : Addr} {fd : FuncData} {o p q k l : Str} (F : Fun K x qual st f fd)
    (h : ∀ (kV doc pm : Value) (an : Option Addr) (cdv ct : Value) (z u w : Value), bindArgs (PySem.W.fnOf x qual (defArgs st) (defBody st) (defScope st) .none kV doc pm an cdv ct) ⟨[z], [(k, u), (l, w)]⟩ = pure [(o, z), (p, w), (q, u)]) : KBinds K fd [o, p, q] [k, l] kmw21 kmw21 := by
  obtain ⟨oc, od, kV, doc, pm, an, cdv, ct, osl, rfl, lk, hcd⟩ := F.ex
  refine ⟨fun s us ws _ hl => ?_, kmw21_rel⟩
  match us, ws, hl with
  | [z], [u, w], _ => exact .of_eq (h kV doc pm an cdv ct z u w)
theorem kbn1 {K : PySem.W.Frag} {x qual : Str} {st : Stmt} {f : Addr} {fd : FuncData} {o p k : Str} (F : Fun K x qual st f fd)
    (h : ∀ (kV doc pm : Value) (an : Option Addr) (cdv ct : Value) (z u : Value), bindArgs (PySem.W.fnOf x qual (defArgs st) (defBody st) (defScope st) .none kV doc pm an cdv ct) ⟨[z], [(k, u)]⟩ = pure [(o, z), (p, u)]) : KBn K fd [o, p] 1 [k] kmw1 kmw1 := by
  obtain ⟨oc, od, kV, doc, pm, an, cdv, ct, osl, rfl, lk, hcd⟩ := F.ex
  refine ⟨fun s us ws _ hl hm => ?_, kmw1_rel⟩
  match us, ws, hl, hm with
  | [z], [u], _, _ => exact .of_eq (h kV doc pm an cdv ct z u)

structure TK (K : PySem.W.Frag) (mg : Str → Option Value) extends TL K mg where
  law_is_between : DefAt K mg "_law_is_between" s_law_is_between ["value", "least", "most"]
  law_is_spec : DefAt K mg "_law_is_spec" s_law_is_spec ["value"]
  law_made : DefAt K mg "_law_made" s_law_made ["way", "spec"]
  law_specs_right : DefAt K mg "_law_specs_right" s_law_specs_right ["box", "named"]
  law_all : DefAt K mg "_law_all" s_law_all ["line"]
  law_call : DefAt K mg "_law_call" s_law_call ["line", "method", "named", "side", "kind"]
  law_told : DefAt K mg "_law_told" s_law_told ["line", "method", "named", "side", "kind"]
  law_refused : DefAt K mg "_law_refused" s_law_refused ["spec", "sent", "method", "side", "kind"]
  law_many : DefAt K mg "_law_many" s_law_many ["model", "side"]
  law_is_up : DefAt K mg "_law_is_up" s_law_is_up ["model", "side", "kind"]
  law_waits : DefAt K mg "_law_waits" s_law_waits ["model", "side"]
  law_free : DefAt K mg "_law_free" s_law_free ["model", "side"]
  law_view : DefAt K mg "_law_view" s_law_view ["model"]
  law_deed : DefAt K mg "_law_deed" s_law_deed ["box", "line", "model"]
  law_doors_right : DefAt K mg "_law_doors_right" s_law_doors_right ["box", "line", "model", "named"]
  law_very : DefAt K mg "_law_very" s_law_very ["line", "named"]
  law_worked : DefAt K mg "_law_worked" s_law_worked ["box", "spec"]
  law_copies_right : DefAt K mg "_law_copies_right" s_law_copies_right ["box", "line", "model"]
  law : DefAt K mg "law" s_law ["script"]
  TalkError_C : Addr
  TalkError_gC : mg "TalkError" = some (.ref TalkError_C)
  eSS : PySem.W.exmOne K (.ref InvalidSide.C) (.ref InvalidSide.C) = some true
  eKS : PySem.W.exmOne K (.ref InvalidKind.C) (.ref InvalidSide.C) = some false
  eKK : PySem.W.exmOne K (.ref InvalidKind.C) (.ref InvalidKind.C) = some true
  eNS : PySem.W.exmOne K (.ref NotSent.C) (.ref InvalidSide.C) = some false
  eNK : PySem.W.exmOne K (.ref NotSent.C) (.ref InvalidKind.C) = some false
  eNN : PySem.W.exmOne K (.ref NotSent.C) (.ref NotSent.C) = some true
  z_dict : mg "dict" = none
  z_max : mg "max" = none
  z_min : mg "min" = none
  kb_send_kind_side : KBinds K m_send.fd ["self", "side", "kind"] ["kind", "side"] kmw21 kmw21
  kb_come_kind_side : KBinds K m_come.fd ["self", "side", "kind"] ["kind", "side"] kmw21 kmw21
  kb_sent_side : KBinds K m_sent.fd ["self", "side"] ["side"] kmw1 kmw1
  kb_come_to_side : KBinds K m_come_to.fd ["self", "side"] ["side"] kmw1 kmw1
  kb_under_way_side : KBinds K m_under_way.fd ["self", "side"] ["side"] kmw1 kmw1
  kb_unsent_side : KBinds K m_unsent.fd ["self", "side"] ["side"] kmw1 kmw1
  kb_kinds_side : KBinds K m_kinds.fd ["self", "side"] ["side"] kmw1 kmw1
  kb_init_spec : KBn K m_init.fd ["self", "spec"] 1 ["spec"] kmw1 kmw1
  eXX : PySem.W.exmOne K (.ref InvalidSpec.C) (.ref InvalidSpec.C) = some true
  kb_is_spec_value : KBinds K is_spec.fd ["value"] ["value"] kw1 kw1
section
variable {P : Program} {w : World} {K : PySem.W.Frag} {mg : Str → Option Value} {base : Heap}
theorem sub_len : ∀ {xs ys : List Int}, xs.Nodup → (∀ x ∈ xs, x ∈ ys) → xs.length ≤ ys.length
  | [], _, _, _ => Nat.zero_le _
  | x :: r, ys, nd, h => by
    have n1 := List.nodup_cons.mp nd
    have m := h x (by simp)
    have := sub_len (xs := r) (ys := ys.erase x) n1.2 (fun z hz => by
      have hne : z ≠ x := fun e => n1.1 (e ▸ hz)
      exact (List.mem_erase_of_ne hne).mpr (h z (by simp [hz])))
    rw [List.length_erase_of_mem m] at this
    have := List.length_pos_of_mem m
    simp only [List.length_cons]
    omega
theorem upTo_nodup (n : Int) : (upTo n).Nodup := by
  unfold upTo List.Nodup
  rw [List.pairwise_map]
  exact List.Pairwise.imp (fun h e => h (by omega)) List.nodup_range
theorem upTo_mem {n k : Int} : k ∈ upTo n ↔ 1 ≤ k ∧ k ≤ n := by
  unfold upTo
  rw [List.mem_map]
  constructor
  · rintro ⟨i, hi, rfl⟩
    rw [List.mem_range] at hi
    omega
  · rintro ⟨h1, h2⟩
    exact ⟨(k - 1).toNat, by rw [List.mem_range]; omega, by omega⟩
theorem diffs_mem {ns : List Int} {k : Int} : k ∈ diffs ns ↔ k ∈ ns := by
  have h := PyProof.Rows.firstMet_any (fun i => ns.getD i 0) ns.length k
  have e : (List.range ns.length).map (fun i => ns.getD i 0) = ns := by
    apply List.ext_getElem?
    intro i
    rw [List.getElem?_map]
    by_cases c : i < ns.length
    · rw [List.getElem?_range c, List.getElem?_eq_getElem c]
      simp [List.getD_eq_getElem?_getD, List.getElem?_eq_getElem c]
    · rw [List.getElem?_eq_none (by rw [List.length_range]; omega), List.getElem?_eq_none (by omega)]
      rfl
  rw [e] at h
  unfold diffs
  constructor
  · intro m
    have : (PyProof.Rows.firstMet (fun i => ns.getD i 0) ns.length).any (· == k) = true := List.any_eq_true.mpr ⟨k, m, by simp⟩
    rw [h] at this
    obtain ⟨x, hx, e⟩ := List.any_eq_true.mp this
    rw [← eq_of_beq e]; exact hx
  · intro m
    have : ns.any (· == k) = true := List.any_eq_true.mpr ⟨k, m, by simp⟩
    rw [← h] at this
    obtain ⟨x, hx, e⟩ := List.any_eq_true.mp this
    rw [← eq_of_beq e]; exact hx
theorem diffs_nodup (ns : List Int) : (diffs ns).Nodup := by
  unfold diffs
  generalize (fun i => ns.getD i 0) = f
  generalize ns.length = n
  induction n with
  | zero => rw [PyProof.Rows.firstMet_zero]; exact .nil
  | succ n ih =>
    rw [PyProof.Rows.firstMet_succ]
    unfold PyProof.Rows.step_dedup
    split
    · exact ih
    · refine List.nodup_append.mpr ⟨ih, by simp, ?_⟩
      intro a ha b hb
      obtain rfl := List.mem_singleton.mp hb
      rintro rfl
      rename_i hn
      exact hn (List.any_eq_true.mpr ⟨_, ha, by simp⟩)
theorem filt_len {f : Int → Bool} : ∀ (xs : List Int), (xs.filter f).length + (xs.filter (fun z => !f z)).length = xs.length
  | [] => rfl
  | x :: r => by
    have := filt_len (f := f) r
    rw [List.filter_cons, List.filter_cons]
    cases f x <;> simp <;> omega
theorem count_left {n : Int} {xs : List Int} (h : ∀ k ∈ xs, 1 ≤ k ∧ k ≤ n) : ((upTo n).filter (fun z => !decide (z ∈ xs))).length + (diffs xs).length = n.toNat := by
  have a : ((upTo n).filter (fun z => decide (z ∈ xs))).length = (diffs xs).length := by
    refine Nat.le_antisymm (sub_len ((upTo_nodup n).filter _) fun x hx => ?_) (sub_len (diffs_nodup xs) fun x hx => ?_)
    · rw [List.mem_filter] at hx
      exact diffs_mem.mpr (of_decide_eq_true hx.2)
    · have hm := diffs_mem.mp hx
      rw [List.mem_filter]
      exact ⟨upTo_mem.mpr (h x hm), decide_eq_true hm⟩
  have b := filt_len (f := fun z => decide (z ∈ xs)) (upTo n)
  rw [upTo_len] at b
  rw [← a]
  omega
theorem two_le : 2 ≤ sizeLine := by decide
theorem three_le : 3 ≤ sizeLine := by decide
def spLawBetween (K : PySem.W.Frag) : Sp := fun vs H Q _ => ∃ x d n ok lo hi, vs = [x, .int lo, .int hi] ∧ Rd K ok H n x d ∧ Q (.bl (betwD lo hi d)) H
theorem ok_law_is_between (T : TK K mg) : FnOk P w K mg base CX0 1 T.law_is_between.a T.law_is_between.fd ["value", "least", "most"] (spLawBetween K) := by
  refine T.law_is_between.F.ok sc_law_is_between (fun vs H Q E h => ?_) (fun cdv A outer s H vs Q E hr h => ?_)
  · obtain ⟨x, d, n, ok, lo, hi, rfl, _⟩ := h; rfl
  obtain ⟨x, d, n, ok, lo, hi, rfl, h, q⟩ := h
  refine ⟨_, (pss_one (ps_ret (pe_and (pe_callB (kisi K) (by rfl) T.z_isinstance (by decide +kernel) (pa_cons (pv 0) (pa_cons (pe_bltn (v := .ty "int") rfl T.z_int (by decide +kernel) rfl) pa_nil))) (pe_and (pe_not (pe_callB (kisi K) (by rfl) T.z_isinstance (by decide +kernel) (pa_cons (pv 0) (pa_cons (pe_bltn (v := .ty "bool") rfl T.z_bool (by decide +kernel) rfl) pa_nil)))) (pe_one (pe_chain op_le op_le (pv 1) (pv 0) (pv 2))))))), ?_⟩
  cases h with
  | non => exact ⟨_, rfl, _, _, _, _, false, rfl, .ty "int", .base .non, kit_ty (by decide +kernel), ⟨_, rfl, iteF q⟩⟩
  | bl b => exact ⟨_, rfl, _, _, _, _, true, rfl, .ty "int", .base (.bl b), kit_ty (by decide +kernel), ⟨_, rfl, iteT ⟨_, rfl, _, _, _, _, true, rfl, .ty "bool", .base (.bl b), kit_ty (by decide +kernel), ⟨_, rfl, _, rfl, iteF q⟩⟩⟩⟩
  | str z _ _ => exact ⟨_, rfl, _, _, _, _, false, rfl, .ty "int", .base (.str z), kit_ty (by decide +kernel), ⟨_, rfl, iteF q⟩⟩
  | lst h1 => exact ⟨_, rfl, _, _, _, _, false, rfl, .ty "int", .base (.lst h1), kit_ty (by decide +kernel), ⟨_, rfl, iteF q⟩⟩
  | tup h1 => exact ⟨_, rfl, _, _, _, _, false, rfl, .ty "int", .base (.tup h1), kit_ty (by decide +kernel), ⟨_, rfl, iteF q⟩⟩
  | int i =>
    refine ⟨_, rfl, _, _, _, _, true, rfl, .ty "int", .base (.int i), kit_ty (by decide +kernel), ⟨_, rfl, iteT ⟨_, rfl, _, _, _, _, false, rfl, .ty "bool", .base (.int i), kit_ty (by decide +kernel), ⟨_, rfl, _, rfl, iteT ?_⟩⟩⟩⟩
    refine ⟨_, rfl, _, rfl, _, _, rfl, rfl, _, rfl, ite2 (fun c => ?_) (fun c => ?_)⟩
    · have c' := of_decide_eq_true c
      refine ⟨_, rfl, _, _, rfl, rfl, ?_⟩
      have e : betwD lo hi (.int i) = decide (i ≤ hi) := by show decide (lo ≤ i ∧ i ≤ hi) = _; simp [c']
      rw [e] at q
      exact q
    · have c' := of_decide_eq_false (Bool.eq_false_iff.mpr c)
      rw [show betwD lo hi (.int i) = false by show decide (lo ≤ i ∧ i ≤ hi) = false; simp [c']] at q
      exact q
/-! ### the law's own model of a line -/
structure Md where
  mp : Addr
  sp : Addr
  ms : Addr
  mc : Addr
  t0 : Addr
  t1 : Addr
  u0 : Addr
  u1 : Addr
def Md.t (M : Md) (s : Int) : Addr := if s = 0 then M.t0 else M.t1
def Md.u (M : Md) (s : Int) : Addr := if s = 0 then M.u0 else M.u1
structure ModAt (M : Md) (L : LS) (H : Hp) : Prop where
  mp : H M.mp = some (.lst [.ref M.sp, .ref M.ms, .ref M.mc])
  sp : H M.sp = some (.tup L.kd.vals)
  ms : H M.ms = some (.lst [.ref M.t0, .ref M.t1])
  mc : H M.mc = some (.lst [.ref M.u0, .ref M.u1])
  t0 : H M.t0 = some (.lst (L.s0.map V.int))
  t1 : H M.t1 = some (.lst (L.s1.map V.int))
  u0 : H M.u0 = some (.lst (L.c0.map V.int))
  u1 : H M.u1 = some (.lst (L.c1.map V.int))
  ok : L.kd.Ok
theorem ModAt.ex {M : Md} {L : LS} {H H' : Hp} (l : ModAt M L H) (e : Ex H H') : ModAt M L H' :=
  ⟨e _ _ l.mp, e _ _ l.sp, e _ _ l.ms, e _ _ l.mc, e _ _ l.t0, e _ _ l.t1, e _ _ l.u0, e _ _ l.u1, l.ok⟩
theorem ModAt.t {M : Md} {L : LS} {H : Hp} (l : ModAt M L H) (s : Int) : H (M.t s) = some (.lst ((L.s s).map V.int)) := by
  unfold Md.t LS.s; split
  · exact l.t0
  · exact l.t1
theorem ModAt.u {M : Md} {L : LS} {H : Hp} (l : ModAt M L H) (s : Int) : H (M.u s) = some (.lst ((L.c s).map V.int)) := by
  unfold Md.u LS.c; split
  · exact l.u0
  · exact l.u1
theorem at_t {M : Md} {s : Int} (h : Side s) : atI [V.ref M.t0, V.ref M.t1] s = some (.ref (M.t s)) := by
  rcases (by unfold Side at h; omega : s = 0 ∨ s = 1) with rfl | rfl <;> rfl
theorem at_u {M : Md} {s : Int} (h : Side s) : atI [V.ref M.u0, V.ref M.u1] s = some (.ref (M.u s)) := by
  rcases (by unfold Side at h; omega : s = 0 ∨ s = 1) with rfl | rfl <;> rfl
theorem kd_word (kd : Knd) : ∃ z : Str, atI kd.vals 0 = some (.str z) ∧ decide (V.str z = V.str "wires") = kd.wires ∧ decide (V.str z = V.str "letters") = !kd.wires := by
  cases kd with
  | letr m b => exact ⟨"letters", rfl, (show decide (V.str "letters" = V.str "wires") = false by decide +kernel), (show decide (V.str "letters" = V.str "letters") = true by decide +kernel)⟩
  | wir k => exact ⟨"wires", rfl, (show decide (V.str "wires" = V.str "wires") = true by decide +kernel), (show decide (V.str "wires" = V.str "letters") = false by decide +kernel)⟩
def spMany : Sp := fun vs H Q _ => ∃ (M : Md) (L : LS) (s : Int), vs = [.ref M.mp, .int s] ∧ ModAt M L H ∧ Side s ∧ Q (.int (L.kd.many s)) H
theorem ok_law_many (T : TK K mg) : FnOk P w K mg base CX0 1 T.law_many.a T.law_many.fd ["model", "side"] spMany := by
  refine T.law_many.F.ok sc_law_many (fun vs H Q E h => ?_) (fun cdv A outer s H vs Q E hr h => ?_)
  · obtain ⟨M, L, s, rfl, _⟩ := h; rfl
  obtain ⟨M, L, s, rfl, l, ok, q⟩ := h
  refine ⟨_, (pss_cons (ps_set (i := 2) sc_law_many.nd rfl (Or.inl rfl) (pe_ix (kixl K) (pv 0) pe_int (fun _ _ => rfl)))
    (pss_one (ps_ret (pe_ifExp (PW.pt (pw_or (pt_cmpR op_eq (pe_ix (kixt K) (pv 2) pe_int (fun _ _ => rfl)) pe_str (nomark _)) (pw_or1 (pt_cmpR op_eq (pv 1) pe_int (nomark _))))) (pe_ix (kixt K) (pv 2) pe_int (fun _ _ => rfl)) (pe_ix (kixt K) (pv 2) pe_int (fun _ _ => rfl)))))), ?_⟩
  refine ⟨_, rfl, _, _, _, _, rfl, rfl, SqL.of l.mp, rfl, ?_⟩
  obtain ⟨z, hz, hw, _⟩ := kd_word L.kd
  refine ⟨_, rfl, _, _, _, _, rfl, rfl, SqT.of l.sp, hz, rfl, ?_⟩
  have sp := l.sp
  rw [hw]
  refine ⟨_, rfl, ?_⟩
  cases hk : L.kd with
  | wir k =>
    rw [hk] at q sp
    exact iteT (iteT ⟨_, rfl, _, _, _, _, rfl, rfl, SqT.of sp, rfl, q⟩)
  | letr m b =>
    rw [hk] at q sp
    refine iteF ⟨_, rfl, rfl, _, rfl, ?_⟩
    rcases (by unfold Side at ok; omega : s = 0 ∨ s = 1) with rfl | rfl
    · exact iteT ⟨_, rfl, _, _, _, _, rfl, rfl, SqT.of sp, rfl, q⟩
    · exact iteF ⟨_, rfl, _, _, _, _, rfl, rfl, SqT.of sp, rfl, q⟩
def isUp (L : LS) (s k : Int) : Bool := L.kd.wires && (decide (k ∈ L.s s) || decide (k ∈ L.c s))
def spIsUp : Sp := fun vs H Q _ => ∃ (M : Md) (L : LS) (s k : Int), vs = [.ref M.mp, .int s, .int k] ∧ ModAt M L H ∧ Side s ∧ Q (.bl (isUp L s k)) H
theorem ok_law_is_up (T : TK K mg) : FnOk P w K mg base CX0 1 T.law_is_up.a T.law_is_up.fd ["model", "side", "kind"] spIsUp := by
  refine T.law_is_up.F.ok sc_law_is_up (fun vs H Q E h => ?_) (fun cdv A outer s H vs Q E hr h => ?_)
  · obtain ⟨M, L, s, k, rfl, _⟩ := h; rfl
  obtain ⟨M, L, s, k, rfl, l, ok, q⟩ := h
  refine ⟨_, (pss_one (ps_ret (pe_and (pe_cmpR op_eq (pe_ix (kixt K) (pe_ix (kixl K) (pv 0) pe_int (fun _ _ => rfl)) pe_int (fun _ _ => rfl)) pe_str (nomark _)) (pe_one (pe_or (pe_cmpR (kin K) (pv 2) (pe_ix (kixl K) (pe_ix (kixl K) (pv 0) pe_int (fun _ _ => rfl)) (pv 1) (fun _ _ => rfl)) (by rfl)) (pe_one (pe_cmpR (kin K) (pv 2) (pe_ix (kixl K) (pe_ix (kixl K) (pv 0) pe_int (fun _ _ => rfl)) (pv 1) (fun _ _ => rfl)) (by rfl)))))))), ?_⟩
  obtain ⟨z, hz, hw, _⟩ := kd_word L.kd
  refine ⟨_, rfl, _, _, _, _, rfl, rfl, SqL.of l.mp, rfl, _, _, _, _, rfl, rfl, SqT.of l.sp, hz, rfl, ?_⟩
  rw [hw]
  refine ⟨_, rfl, ?_⟩
  unfold isUp at q
  cases c : L.kd.wires with
  | false => rw [c] at q; exact iteF q
  | true =>
    rw [c, Bool.true_and] at q
    refine iteT ⟨_, rfl, _, rfl, _, _, _, _, rfl, rfl, SqL.of l.mp, rfl, _, rfl, _, _, _, _, rfl, rfl, SqL.of l.ms, at_t ok, _, _, rfl, .inl (SqL.of (l.t s)), rfl, flat_ints, ?_⟩
    rw [if_neg (by decide), inV_ints]
    by_cases m : k ∈ L.s s
    · rw [decide_eq_true m] at q ⊢
      exact ⟨_, rfl, iteT q⟩
    · rw [decide_eq_false m] at q ⊢
      refine ⟨_, rfl, iteF ⟨_, rfl, _, rfl, _, _, _, _, rfl, rfl, SqL.of l.mp, rfl, _, rfl, _, _, _, _, rfl, rfl, SqL.of l.mc, at_u ok, _, _, rfl, .inl (SqL.of (l.u s)), rfl, flat_ints, ?_⟩⟩
      rw [if_neg (by decide), inV_ints]
      exact q
theorem waits_f {L : LS} {s z : Int} : (!decide (z ∈ L.c s) && !isUp L s z) = canC L s z := by
  unfold isUp canC
  cases L.kd.wires <;> by_cases a : z ∈ L.s s <;> by_cases b : z ∈ L.c s <;> simp [a, b]
theorem free_f {L : LS} {s z : Int} : (!decide (z ∈ L.s s) && !isUp L s z) = canS L s z := by
  unfold isUp canS
  cases L.kd.wires <;> by_cases a : z ∈ L.s s <;> by_cases b : z ∈ L.c s <;> simp [a, b]
def spLawList (small : LS → Int → Prop) (r : LS → Int → List Int → Prop) : Sp := fun vs H Q _ => ∃ (M : Md) (L : LS) (s : Int), vs = [.ref M.mp, .int s] ∧ ModAt M L H ∧ Side s ∧ small L s ∧
  ∀ (p : Addr) (ys : List Int) H', Ex H H' → H p = none → H' p = some (.lst (ys.map V.int)) → r L s ys → Q (.ref p) H'
theorem ok_law_waits (T : TK K mg) : FnOk P w K mg base CX0 2 T.law_waits.a T.law_waits.fd ["model", "side"] (spLawList (fun L s => (L.s (1 - s)).length < 64) fun L s ys => Rise ((L.s (1 - s)).filter (canC L s)) ys) := by
  refine T.law_waits.F.ok sc_law_waits (fun vs H Q E h => ?_) (fun cdv A outer s H vs Q E hr h => ?_)
  · obtain ⟨M, L, s, rfl, _⟩ := h; rfl
  obtain ⟨M, L, s, rfl, l, ok, hz, q⟩ := h
  refine ⟨_, (pss_one (ps_ret (pe_lc (own := [("kind", 2)]) (g := gName 2) (by rfl) sc_law_waits.nd (kpil K (pe_callB cr_sorted (by rfl) T.z_sorted (by decide +kernel) (pa_cons (pe_ix (kixl K) (pe_ix (kixl K) (pv 0) pe_int (fun _ _ => rfl)) (pe_op op_sub pe_int (pv 1)) (fun _ _ => rfl)) pa_nil))) (blkOk_by (own := [("kind", 2)]) (N := ["model", "side", "kind"]) (sc := defScope s_law_waits) (by decide +kernel)) (fun _ _ _ _ _ => (pg_name (i := 2) sc_law_waits.nd rfl (Or.inl rfl))) (fun _ _ _ _ _ => (pts_one (PW.pt (pw_and (pt_cmpR (knotin K) (pv 2) (pe_ix (kixl K) (pe_ix (kixl K) (pv 0) pe_int (fun _ _ => rfl)) (pv 1) (fun _ _ => rfl)) (by rfl)) (pw_and1 (pt_not (pt_val (pe_call (ok_law_is_up T) (hr.mono (by decide)) rfl T.law_is_up.m T.law_is_up.F.kp T.law_is_up.b .nil pass0 (pa_cons (pv 0) (pa_cons (pv 1) (pa_cons (pv 2) pa_nil))))))))))) (fun _ _ _ _ _ => (pv 2))))), ?_⟩
  refine ⟨_, rfl, _, _, _, _, rfl, rfl, SqL.of l.mp, rfl, _, rfl, _, _, rfl, rfl, _, _, _, _, rfl, rfl, SqL.of l.ms, at_t ok.other, M.t (1 - s), L.s (1 - s), rfl, SqL.of (l.t (1 - s)), hz, fun ys p h1 h2 h3 => ?_⟩
  have e2 : Ex H (upd H p (.lst (ys.map V.int))) := Ex.new h3
  have hzy : ys.length < 64 := by rw [h1.length_eq]; exact hz
  refine ⟨p, rfl, ⟨_, SqL.of upd_same⟩, fun D hD => lc_list (xs := ys.map V.int) (fun i H' => Ex (upd H p (.lst (ys.map V.int))) H' ∧ H' D = some (.lst (((ys.take i).filter (canC L s)).map V.int))) ⟨Ex.new hD, upd_same⟩
    (fun i H' _ p => SqL.of (p.1 _ _ upd_same)) ?_ ?_⟩
  · rintro i x H' hx ⟨e, hd⟩
    obtain ⟨z, hz1, rfl⟩ := ints_get hx
    have lz : ((ys.take i).filter (canC L s)).length ≤ ys.length := filter_take_le
    have l3 := l.ex (e2.trans e)
    refine ⟨rfl, _, rfl, _, rfl, _, _, _, _, rfl, rfl, SqL.of l3.mp, rfl, _, rfl, _, _, _, _, rfl, rfl, SqL.of l3.mc, at_u ok, _, _, rfl, .inl (SqL.of (l3.u s)), rfl, flat_ints, _, rfl, ?_⟩
    rw [if_pos rfl, inV_ints]
    have f := @waits_f L s z
    by_cases m : z ∈ L.c s
    · rw [decide_eq_true m, Bool.not_true, Bool.false_and] at f
      rw [decide_eq_true m]
      refine iteF ⟨e, ?_⟩
      rw [hd, filter_take hz1, ← f]
      simp
    · rw [decide_eq_false m, Bool.not_false, Bool.true_and] at f
      rw [decide_eq_false m]
      refine iteT ⟨_, rfl, _, rfl, _, rfl, M, L, s, z, rfl, l3, ok, _, rfl, ?_⟩
      cases hu : isUp L s z with
      | true =>
        have hc : canC L s z = false := by rw [← f, hu]; rfl
        refine iteF ⟨e, ?_⟩
        rw [hd, filter_take hz1, hc]
        simp
      | false =>
        have hc : canC L s z = true := by rw [← f, hu]; rfl
        refine iteT ⟨_, rfl, _, hd, small1000 (by rw [List.length_map]; omega), e.mut hD, ?_⟩
        rw [upd_same, filter_take hz1, hc]
        simp
  · rintro H' ⟨e, hd⟩
    rw [List.length_map, List.take_length] at hd
    exact q D _ H' (e2.trans e) (fresh_back e2 hD) hd ⟨h1.filter _, h2.filter _⟩
theorem ok_law_free (T : TK K mg) : FnOk P w K mg base CX0 2 T.law_free.a T.law_free.fd ["model", "side"] (spLawList (fun _ _ => True) fun L s ys => ys = (upTo (L.kd.many s)).filter (canS L s)) := by
  refine T.law_free.F.ok sc_law_free (fun vs H Q E h => ?_) (fun cdv A outer s H vs Q E hr h => ?_)
  · obtain ⟨M, L, s, rfl, _⟩ := h; rfl
  obtain ⟨M, L, s, rfl, l, ok, _, q⟩ := h
  refine ⟨_, (pss_cons (ps_setLc (i := 2) (own := [("kind", 3)]) (g := gName 3) (by rfl) sc_law_free.nd rfl rfl (sw_true rfl rfl rfl (by decide +kernel)) (pi_range2 rfl T.z_range (pa_cons pe_int (pa_cons (pe_op op_add (pe_call (ok_law_many T) (hr.mono (by decide)) rfl T.law_many.m T.law_many.F.kp T.law_many.b .nil pass0 (pa_cons (pv 0) (pa_cons (pv 1) pa_nil))) pe_int) pa_nil))) (blkOk_by (own := [("kind", 3)]) (N := ["model", "side", "free", "kind"]) (sc := defScope s_law_free) (by decide +kernel)) (fun _ _ _ _ _ => (pg_name (i := 3) sc_law_free.nd rfl (Or.inl rfl))) (fun _ _ _ _ _ => (pts_one (pt_cmpR (knotin K) (pv 3) (pe_ix (kixl K) (pe_ix (kixl K) (pv 0) pe_int (fun _ _ => rfl)) (pv 1) (fun _ _ => rfl)) (by rfl)))) (fun _ _ _ _ _ => (pv 3)))
    (pss_one (ps_ret (pe_lc (own := [("kind", 3)]) (g := gName 3) (by rfl) sc_law_free.nd (kpil K (pv 2)) (blkOk_by (own := [("kind", 3)]) (N := ["model", "side", "free", "kind"]) (sc := defScope s_law_free) (by decide +kernel)) (fun _ _ _ _ _ => (pg_name (i := 3) sc_law_free.nd rfl (Or.inl rfl))) (fun _ _ _ _ _ => (pts_one (pt_not (pt_val (pe_call (ok_law_is_up T) (hr.mono (by decide)) rfl T.law_is_up.m T.law_is_up.F.kp T.law_is_up.b .nil pass0 (pa_cons (pv 0) (pa_cons (pv 1) (pa_cons (pv 3) pa_nil)))))))) (fun _ _ _ _ _ => (pv 3)))))), ?_⟩
  have hm := Knd.many_le l.ok s
  refine ⟨_, rfl, _, rfl, M, L, s, rfl, l, ok, _, _, rfl, rfl, 1, L.kd.many s + 1, rfl, ⟨by omega, by omega, by omega, by omega⟩, fun D hD => lc_range (fun i H' => Ex H H' ∧ H' D = some (.lst ((((upTo (L.kd.many s)).take i).filter (fun z => !decide (z ∈ L.s s))).map V.int))) ⟨Ex.new hD, upd_same⟩ ?_ ?_⟩
  · rintro i H' hi ⟨e, hd⟩
    have hi' : i < (L.kd.many s).toNat := by omega
    have hz1 := upTo_get hi'
    have lz : (((upTo (L.kd.many s)).take i).filter (fun z => !decide (z ∈ L.s s))).length ≤ (upTo (L.kd.many s)).length := filter_take_le
    rw [upTo_len] at lz
    have l3 := l.ex e
    refine ⟨rfl, _, rfl, _, rfl, _, _, _, _, rfl, rfl, SqL.of l3.mp, rfl, _, rfl, _, _, _, _, rfl, rfl, SqL.of l3.ms, at_t ok, _, _, rfl, .inl (SqL.of (l3.t s)), rfl, flat_ints, _, rfl, ?_⟩
    rw [if_pos rfl, inV_ints]
    by_cases m : (1 + (i : Int)) ∈ L.s s
    · rw [decide_eq_true m]
      refine iteF ⟨e, ?_⟩
      rw [hd, filter_take hz1]
      simp [m]
    · rw [decide_eq_false m]
      refine iteT ⟨_, rfl, _, hd, small1000 (by rw [List.length_map]; omega), e.mut hD, ?_⟩
      rw [upd_same, filter_take hz1]
      simp [m]
  · rintro H1 ⟨e1, hd1⟩
    rw [show (L.kd.many s + 1 - 1).toNat = (upTo (L.kd.many s)).length by rw [upTo_len]; congr 1; omega, List.take_length] at hd1
    have ff : ∀ z, canS L s z = (!decide (z ∈ L.s s) && !isUp L s z) := fun z => free_f.symm
    obtain ⟨ws, hws⟩ : ∃ ws, ws = (upTo (L.kd.many s)).filter (fun z => !decide (z ∈ L.s s)) := ⟨_, rfl⟩
    rw [← hws] at hd1
    have hw : ∀ z ∈ ws, z ∉ L.s s := fun z hz => by rw [hws, List.mem_filter] at hz; simpa using hz.2
    have hlen : ws.length ≤ 10 := by
      rw [hws]
      refine Nat.le_trans (List.length_filter_le _ _) ?_
      rw [upTo_len]; omega
    refine ⟨_, rfl, D, rfl, ⟨_, SqL.of hd1⟩, fun D2 hD2 => lc_list (xs := ws.map V.int) (fun i H' => Ex H1 H' ∧ H' D2 = some (.lst (((ws.take i).filter (fun z => !isUp L s z)).map V.int))) ⟨Ex.new hD2, upd_same⟩
      (fun i H' _ p => SqL.of (p.1 _ _ hd1)) ?_ ?_⟩
    · rintro i x H' hx ⟨e, hd⟩
      obtain ⟨z, hz1, rfl⟩ := ints_get hx
      have lz : ((ws.take i).filter (fun z => !isUp L s z)).length ≤ ws.length := filter_take_le
      refine ⟨rfl, _, rfl, _, rfl, _, rfl, M, L, s, z, rfl, l.ex (e1.trans e), ok, _, rfl, ?_⟩
      cases hu : isUp L s z with
      | true =>
        refine iteF ⟨e, ?_⟩
        rw [hd, filter_take hz1]
        simp [hu]
      | false =>
        refine iteT ⟨_, rfl, _, hd, small1000 (by rw [List.length_map]; omega), e.mut hD2, ?_⟩
        rw [upd_same, filter_take hz1]
        simp [hu]
    · rintro H' ⟨e, hd⟩
      rw [List.length_map, List.take_length] at hd
      refine q D2 _ H' (e1.trans e) (fresh_back e1 hD2) hd ?_
      rw [hws, List.filter_filter]
      apply List.filter_congr
      intro z _
      rw [ff z, Bool.and_comm]
end
end L2.U


set_option Elab.async false
set_option linter.all false
set_option maxRecDepth 100000
set_option maxHeartbeats 4000000
namespace L2.U
open PySem PySem.Spec PyProof.Rows Evl


section
variable {P : Program} {w : World} {K : PySem.W.Frag} {mg : Str → Option Value} {base : Heap}

structure LSm (L : LS) : Prop where
  s : ∀ s, (L.s s).length < 32
  c : ∀ s, (L.c s).length < 32
  rng : ∀ k ∈ L.s0 ++ L.s1, L.kd.wires = true → 1 ≤ k ∧ k ≤ L.kd.many 0
/-- what is told of one side -/
def Five (L : LS) (s : Int) (H : Hp) (its : List V) : Prop := ∃ (sa ca wa fa : Addr) (y1 y2 y3 y4 : List Int), its = [.int (L.kd.many s), .ref sa, .ref ca, .ref wa, .ref fa] ∧
  (H sa = some (.lst (y1.map V.int)) ∧ Rise (L.s s) y1) ∧ (H ca = some (.lst (y2.map V.int)) ∧ Rise (L.c s) y2) ∧ (H wa = some (.lst (y3.map V.int)) ∧ Rise ((L.s (1 - s)).filter (canC L s)) y3) ∧ (H fa = some (.lst (y4.map V.int)) ∧ y4 = (upTo (L.kd.many s)).filter (canS L s))
theorem Five.keep {L : LS} {s : Int} {H H' : Hp} {its : List V} (f : Five L s H its) (k : ∀ (a : Addr) (ns : List Int), H a = some (.lst (ns.map V.int)) → H' a = some (.lst (ns.map V.int))) : Five L s H' its := by
  obtain ⟨sa, ca, wa, fa, y1, y2, y3, y4, e, h1, h2, h3, h4⟩ := f
  exact ⟨sa, ca, wa, fa, y1, y2, y3, y4, e, ⟨k _ _ h1.1, h1.2⟩, ⟨k _ _ h2.1, h2.2⟩, ⟨k _ _ h3.1, h3.2⟩, ⟨k _ _ h4.1, h4.2⟩⟩
def Fs (L : LS) : Nat → Hp → List V → Prop
  | 0, _, its => its = []
  | n + 1, H, its => ∃ a b, its = a ++ b ∧ Fs L n H a ∧ Five L n H b
theorem Fs.keep {L : LS} {H H' : Hp} (k : ∀ (a : Addr) (ns : List Int), H a = some (.lst (ns.map V.int)) → H' a = some (.lst (ns.map V.int))) : ∀ {n : Nat} {its : List V}, Fs L n H its → Fs L n H' its
  | 0, _, h => h
  | n + 1, _, ⟨a, b, e, h1, h2⟩ => ⟨a, b, e, Fs.keep k h1, h2.keep k⟩
theorem Fs.ex {L : LS} {H H' : Hp} {n : Nat} {its : List V} (h : Fs L n H its) (e : Ex H H') : Fs L n H' its := h.keep fun a ns z => e _ _ z
theorem Fs.len {L : LS} {H : Hp} : ∀ {n : Nat} {its : List V}, Fs L n H its → its.length = 5 * n
  | 0, _, h => by rw [show _ = _ from h]; rfl
  | n + 1, _, ⟨a, b, e, h1, h2⟩ => by
    obtain ⟨sa, ca, wa, fa, _, _, _, _, eb, _⟩ := h2
    rw [e, List.length_append, Fs.len h1, eb]
    show 5 * n + 5 = _
    omega
def ViewAt (L : LS) (H : Hp) (v : V) : Prop := ∃ (F sp lf : Addr) (its : List V), v = .ref F ∧ H F = some (.lst (.ref sp :: .ref lf :: its)) ∧ H sp = some (.tup L.kd.vals) ∧ H lf = some (.tup (leftOf L)) ∧ Fs L 2 H its
theorem ViewAt.ex {L : LS} {H H' : Hp} {v : V} (h : ViewAt L H v) (e : Ex H H') : ViewAt L H' v := by
  obtain ⟨F, sp, lf, its, h1, h2, h3, h4, h5⟩ := h
  exact ⟨F, sp, lf, its, h1, e _ _ h2, e _ _ h3, e _ _ h4, h5.ex e⟩
theorem refs_ints {H : Hp} {F a c : Addr} {xs : List V} {ns : List Int} (hF : H F = some (.lst (.ref c :: xs))) (ha : H a = some (.lst (ns.map V.int))) : a ≠ F := by
  refine ne_of ha hF fun z => ?_
  have z2 := HO.lst.inj z
  match ns, z2 with
  | _ :: _, z2 => exact nomatch (List.cons.inj z2).1
def SmL (K : PySem.W.Frag) (H : Hp) (n : Nat) (xs ys : List V) : Prop := xs.length = ys.length ∧ ∀ (i : Nat) (x y : V), xs[i]? = some x → ys[i]? = some y → Sm K H n x y
theorem SmL.nil {H : Hp} {n : Nat} : SmL K H n [] [] := ⟨rfl, fun i x y h _ => by cases h⟩
theorem SmL.cons {H : Hp} {n : Nat} {x y : V} {xs ys : List V} (h : Sm K H n x y) (r : SmL K H n xs ys) : SmL K H n (x :: xs) (y :: ys) := by
  refine ⟨by rw [List.length_cons, List.length_cons, r.1], fun i u v hu hv => ?_⟩
  cases i with
  | zero => cases Option.some.inj hu; cases Option.some.inj hv; exact h
  | succ i => exact r.2 i u v hu hv
theorem SmL.append {H : Hp} {n : Nat} {xs ys us vs : List V} (h1 : SmL K H n xs ys) (h2 : SmL K H n us vs) : SmL K H n (xs ++ us) (ys ++ vs) := by
  refine ⟨by rw [List.length_append, List.length_append, h1.1, h2.1], fun i x d hx hd => ?_⟩
  by_cases c : i < xs.length
  · rw [List.getElem?_append_left c] at hx
    rw [List.getElem?_append_left (by rw [← h1.1]; exact c)] at hd
    exact h1.2 i x d hx hd
  · rw [List.getElem?_append_right (by omega)] at hx
    rw [List.getElem?_append_right (by rw [← h1.1]; omega), ← h1.1] at hd
    exact h2.2 _ x d hx hd
theorem rise_uniq {xs ys zs : List Int} (h : Rise xs ys) (h' : Rise xs zs) : ys = zs :=
  List.Perm.eq_of_pairwise (le := fun a b => a ≤ b) (fun a b _ _ h1 h2 => Int.le_antisymm h1 h2) h.2 h'.2 (h.1.trans h'.1.symm)
theorem sm_ints {H : Hp} {n : Nat} {a b : Addr} {ns : List Int} (ha : H a = some (.lst (ns.map V.int))) (hb : H b = some (.lst (ns.map V.int))) (hz : ns.length ≤ 64) : Sm K H (n + 1) (.ref a) (.ref b) :=
  .lst (SqL.of ha) (SqL.of hb) rfl (by rw [List.length_map]; omega) fun i x y hx hy => by
    rw [hx] at hy
    obtain rfl := Option.some.inj hy
    obtain ⟨z, _, rfl⟩ := ints_get hx
    exact .int z
theorem Five.sm {L : LS} {s : Int} {H : Hp} {n : Nat} {xs ys : List V} (hz : LSm L) (ok : L.kd.Ok) (f : Five L s H xs) (g : Five L s H ys) : SmL K H (n + 1) xs ys := by
  obtain ⟨sa, ca, wa, fa, y1, y2, y3, y4, rfl, h1, h2, h3, h4⟩ := f
  obtain ⟨sa', ca', wa', fa', z1, z2, z3, z4, rfl, g1, g2, g3, g4⟩ := g
  have e1 := rise_uniq h1.2 g1.2
  have e2 := rise_uniq h2.2 g2.2
  have e3 := rise_uniq h3.2 g3.2
  have e4 := h4.2.trans g4.2.symm
  subst e1 e2 e3 e4
  have b1 := hz.s s
  have b2 := hz.c s
  have b3 := hz.s (1 - s)
  have l1 := h1.2.1.length_eq
  have l2 := h2.2.1.length_eq
  have l3 := h3.2.1.length_eq
  have l3' := List.length_filter_le (canC L s) (L.s (1 - s))
  have l4 : y4.length ≤ 10 := by
    rw [h4.2]
    refine Nat.le_trans (List.length_filter_le _ _) ?_
    rw [upTo_len]
    have := Knd.many_le ok s
    omega
  exact .cons (.int _) (.cons (sm_ints h1.1 g1.1 (by omega)) (.cons (sm_ints h2.1 g2.1 (by omega)) (.cons (sm_ints h3.1 g3.1 (by omega)) (.cons (sm_ints h4.1 g4.1 (by omega)) .nil))))
theorem Fs.sm {L : LS} {H : Hp} {m : Nat} (hz : LSm L) (ok : L.kd.Ok) : ∀ {n : Nat} {xs ys : List V}, Fs L n H xs → Fs L n H ys → SmL K H (m + 1) xs ys
  | 0, _, _, h, g => by rw [show _ = _ from h, show _ = _ from g]; exact .nil
  | n + 1, _, _, ⟨a, b, e, h1, h2⟩, ⟨a', b', e', g1, g2⟩ => by rw [e, e']; exact (Fs.sm hz ok h1 g1).append (h2.sm hz ok g2)
theorem flat_sm {H : Hp} {n : Nat} {xs : List V} (h : ∀ x ∈ xs, Sm K H n x x) : SmL K H n xs xs := ⟨rfl, fun i x y hx hy => by rw [hx] at hy; cases hy; exact h x (List.mem_of_getElem? hx)⟩
theorem vals_sm {H : Hp} {n : Nat} (kd : Knd) : SmL K H n kd.vals kd.vals := flat_sm fun x hx => by
  cases kd with
  | letr m b =>
    simp only [Knd.vals, List.mem_cons, List.not_mem_nil, or_false] at hx
    rcases hx with rfl | rfl | rfl
    · exact .str _ (by decide +kernel)
    · exact .int _
    · exact .int _
  | wir k =>
    simp only [Knd.vals, List.mem_cons, List.not_mem_nil, or_false] at hx
    rcases hx with rfl | rfl
    · exact .str _ (by decide +kernel)
    · exact .int _
theorem vals_len (kd : Knd) : kd.vals.length ≤ 3 := by cases kd <;> simp [Knd.vals]
theorem left_sm {L : LS} {H : Hp} {n : Nat} : SmL K H n (leftOf L) (leftOf L) := flat_sm fun x hx => by
  unfold leftOf at hx
  split at hx
  · simp only [List.mem_cons, List.not_mem_nil, or_false] at hx
    rcases hx with rfl | rfl <;> exact .int _
  · simp only [List.mem_cons, List.not_mem_nil, or_false] at hx
    subst hx; exact .int _
theorem left_len {L : LS} : (leftOf L).length ≤ 2 := by unfold leftOf; split <;> simp
theorem ViewAt.sm {L : LS} {H : Hp} {v u : V} (hz : LSm L) (ok : L.kd.Ok) (h : ViewAt L H v) (g : ViewAt L H u) : Sm K H 8 v u := by
  obtain ⟨F, sp, lf, its, rfl, h2, h3, h4, h5⟩ := h
  obtain ⟨F', sp', lf', its', rfl, g2, g3, g4, g5⟩ := g
  have s1 : Sm K H 7 (.ref sp) (.ref sp') := .tup (SqT.of h3) (SqT.of g3) rfl (by have := vals_len L.kd; omega) (vals_sm (n := 6) L.kd).2
  have s2 : Sm K H 7 (.ref lf) (.ref lf') := .tup (SqT.of h4) (SqT.of g4) rfl (by have := @left_len L; omega) (left_sm (n := 6)).2
  have s3 : SmL K H 7 its its' := Fs.sm (m := 6) hz ok h5 g5
  have s := SmL.cons s1 (SmL.cons s2 s3)
  refine .lst (SqL.of h2) (SqL.of g2) s.1 ?_ s.2
  rw [List.length_cons, List.length_cons, h5.len]
  decide
def spAll (C : Addr) : Sp := fun vs H Q _ => ∃ (A : Ln) (L : LS), vs = [.ref A.p] ∧ LineAt C A L H ∧ LSm L ∧ ∀ v H', Ex H H' → ViewAt L H' v → Q v H'
theorem ok_law_all (T : TK K mg) : FnOk P w K mg base CX0 7 T.law_all.a T.law_all.fd ["line"] (spAll T.C) := by
  refine T.law_all.F.ok sc_law_all (fun vs H Q E h => ?_) (fun cdv A outer s H vs Q E hr h => ?_)
  · obtain ⟨A, L, rfl, _⟩ := h; rfl
  obtain ⟨A, L, rfl, l, hz, q⟩ := h
  refine ⟨_, (pss_cons (ps_set (i := 1) sc_law_all.nd rfl (Or.inl rfl) (pe_lst (pa_cons (pe_fld (pv 0) rfl) (pa_cons (by exact (pe_mX0 (pv 0) T.cl T.m_left.M (ok_Line_left T.toTL) (hr.mono (by decide)) T.m_left.b (fun σ => pass0At))) pa_nil))))
    (pss_cons (ps_for PassesOwn.never rfl (pi_range1 rfl T.z_range (pa_cons pe_int pa_nil)) (pg_name (i := 2) sc_law_all.nd rfl (Or.inl rfl)) (pss_one (ps_expr (pe_bm PySem.F.plainAttrs_list PySem.F.slot_list_extend PySem.F.type_list_extend mt_extend (pv 1) (pa_cons (pe_lst (pa_cons (by exact (pe_mX (pv 0) T.cl T.m_kinds.M (ok_Line_kinds T.toTL) (hr.mono (by decide)) T.m_kinds.b (fun σ => passLAt) (pa_cons (pv 2) pa_nil))) (pa_cons (by exact (pe_mX (pv 0) T.cl T.m_sent.M (ok_Line_sent T.toTL) (hr.mono (by decide)) T.m_sent.b (fun σ => passLAt) (pa_cons (pv 2) pa_nil))) (pa_cons (by exact (pe_mX (pv 0) T.cl T.m_come_to.M (ok_Line_come_to T.toTL) (hr.mono (by decide)) T.m_come_to.b (fun σ => passLAt) (pa_cons (pv 2) pa_nil))) (pa_cons (by exact (pe_mX (pv 0) T.cl T.m_under_way.M (ok_Line_under_way T.toTL) (hr.mono (by decide)) T.m_under_way.b (fun σ => passLAt) (pa_cons (pv 2) pa_nil))) (pa_cons (by exact (pe_mX (pv 0) T.cl T.m_unsent.M (ok_Line_unsent T.toTL) (hr.mono (by decide)) T.m_unsent.b (fun σ => passLAt) (pa_cons (pv 2) pa_nil))) pa_nil)))))) pa_nil)))))
    (pss_one (ps_ret (pv 1))))), ?_⟩
  refine ⟨_, rfl, A.p, T.C, A.dx, _, _, rfl, l.obj, T.cl, T.n_spec, rfl, ?_⟩
  refine ⟨_, rfl, A.p, A.dx, _, rfl, l.obj, rfl, A, L, rfl, l, Nat.le_of_lt (hz.s 0), Nat.le_of_lt (hz.s 1), ?_⟩
  refine fun lf H1 e1 _ hlf => ⟨two_le, fun F hF => ?_⟩
  have e2 : Ex H1 (upd H1 F (.lst [.ref A.sp, .ref lf])) := Ex.new hF
  have e12 := e1.trans e2
  have F0 : H F = none := fresh_back e1 hF
  refine ⟨2, rfl, by decide, by decide, for_range (lo := 0) (n := (2 : Int).toNat) (fun i σ H' => Ex H H' ∧ H' lf = some (.tup (leftOf L)) ∧ (∃ its, H' F = some (.lst (.ref A.sp :: .ref lf :: its)) ∧ Fs L i H' its) ∧ ∃ x2, σ = [some (.ref A.p), some (.ref F), x2])
    ⟨e12, e2 _ _ hlf, ⟨[], upd_same, rfl⟩, _, rfl⟩ ?_ ?_⟩
  · rintro i σ H' hi ⟨e, hlf', ⟨its, hF', fs⟩, x2, rfl⟩
    have hi2 : i < 2 := hi
    have sd : Side (0 + (i : Int)) := by unfold Side; omega
    have l' := l.ex e
    refine ⟨_, rfl, .inl ⟨rfl, _, SqL.of hF'⟩, ?_⟩
    refine ⟨_, rfl, A.p, A.dx, _, rfl, l'.obj, rfl, _, rfl, A, L, _, .int (0 + (i : Int)), 0, (fun _ => True), rfl, .int _, l', fun s' es _ G0 E0' => ?_, fun no => absurd (side_ok sd) (by rw [no]; decide)⟩
    obtain rfl : 0 + (i : Int) = s' := PyData.int.inj es
    refine ⟨_, rfl, A.p, A.dx, _, rfl, (l'.ex E0').obj, rfl, _, rfl, A, L, _, .int (0 + (i : Int)), 0, (fun _ => True), rfl, .int _, l'.ex E0', fun s _ => Nat.lt_trans (hz.s s) (by decide), fun s' es _ a ysa Ga ga na hpa ra => ?_, fun no => absurd (side_ok sd) (by rw [no]; decide)⟩
    obtain rfl : 0 + (i : Int) = s' := PyData.int.inj es
    have Ea := E0'.trans ga
    refine ⟨_, rfl, A.p, A.dx, _, rfl, (l'.ex Ea).obj, rfl, _, rfl, A, L, _, .int (0 + (i : Int)), 0, (fun _ => True), rfl, .int _, l'.ex Ea, fun s _ => Nat.lt_trans (hz.c s) (by decide), fun s' es _ b ysb Gb gb nb hpb rb => ?_, fun no => absurd (side_ok sd) (by rw [no]; decide)⟩
    obtain rfl : 0 + (i : Int) = s' := PyData.int.inj es
    have Eb := Ea.trans gb
    refine ⟨_, rfl, A.p, A.dx, _, rfl, (l'.ex Eb).obj, rfl, _, rfl, A, L, _, .int (0 + (i : Int)), 0, (fun _ => True), rfl, .int _, l'.ex Eb, fun s _ => Nat.lt_trans (hz.s _) (by decide), fun s' es _ c ysc Gc gc nc hpc rc => ?_, fun no => absurd (side_ok sd) (by rw [no]; decide)⟩
    obtain rfl : 0 + (i : Int) = s' := PyData.int.inj es
    have Ec := Eb.trans gc
    refine ⟨_, rfl, A.p, A.dx, _, rfl, (l'.ex Ec).obj, rfl, _, rfl, A, L, _, .int (0 + (i : Int)), 0, (fun _ => True), rfl, .int _, l'.ex Ec, fun s _ => trivial, fun s' es _ d ysd Gd gd nd hpd rd => ?_, fun no => absurd (side_ok sd) (by rw [no]; decide)⟩
    obtain rfl : 0 + (i : Int) = s' := PyData.int.inj es
    have Ed := Ec.trans gd
    refine ⟨(by show 5 ≤ sizeLine; decide), fun p hp => ?_⟩
    have ep := Ex.new (o := .lst [.int (L.kd.many (0 + (i : Int))), .ref a, .ref b, .ref c, .ref d]) hp
    have hF2 := ep _ _ (Ed _ _ hF')
    have lts := fs.len
    refine ⟨F, p, _, _, rfl, rfl, hF2, upd_same, Nat.le_of_lt (small1000 (by rw [List.length_cons, List.length_cons, lts]; show 5 * i + 1 + 1 + 5 ≤ 1000; omega)), ?_⟩
    have five : Five L (i : Int) Gd [.int (L.kd.many (0 + (i : Int))), .ref a, .ref b, .ref c, .ref d] := by
      rw [Int.zero_add] at ra rb rc rd ⊢
      exact ⟨a, b, c, d, ysa, ysb, ysc, ysd, rfl, ⟨((gb.trans gc).trans gd) _ _ hpa, ra⟩, ⟨(gc.trans gd) _ _ hpb, rb⟩, ⟨gd _ _ hpc, rc⟩, ⟨hpd, rd⟩⟩
    have kk : ∀ (x : Addr) (ns : List Int), upd Gd p (.lst [.int (L.kd.many (0 + (i : Int))), .ref a, .ref b, .ref c, .ref d]) x = some (.lst (ns.map V.int)) → upd (upd Gd p (.lst [.int (L.kd.many (0 + (i : Int))), .ref a, .ref b, .ref c, .ref d])) F (.lst ((.ref A.sp :: .ref lf :: its) ++ [.int (L.kd.many (0 + (i : Int))), .ref a, .ref b, .ref c, .ref d])) x = some (.lst (ns.map V.int)) :=
      fun x ns h => by rw [upd_ne (refs_ints hF2 h)]; exact h
    have eE := (e.trans Ed).trans ep
    refine ⟨eE.mut F0, ?_, ⟨its ++ [.int (L.kd.many (0 + (i : Int))), .ref a, .ref b, .ref c, .ref d], upd_same, its, _, rfl, (fs.ex (Ed.trans ep)).keep kk, (five.keep fun x ns h => ep _ _ h).keep kk⟩, _, rfl⟩
    rw [upd_ne (ne_of (ep _ _ (Ed _ _ hlf')) hF2 (by intro z; cases z))]
    exact ep _ _ (Ed _ _ hlf')
  · rintro σ H' ⟨e, hlf', ⟨its, hF', fs⟩, x2, rfl⟩
    exact ⟨_, rfl, q _ _ e ⟨F, A.sp, lf, its, rfl, hF', e _ _ l.sp, hlf', fs⟩⟩
end
end L2.U


set_option Elab.async false
set_option linter.all false
set_option maxRecDepth 100000
set_option maxHeartbeats 4000000
namespace L2.U
open PySem PySem.Spec PyProof.Rows Evl


section
variable {P : Program} {w : World} {K : PySem.W.Frag} {mg : Str → Option Value} {base : Heap}

def spView (K : PySem.W.Frag) : Sp := fun vs H Q _ => ∃ (M : Md) (L : LS), vs = [.ref M.mp] ∧ ModAt M L H ∧ LSm L ∧ ∀ v H', Ex H H' → ViewAt L H' v → Q v H'
theorem ok_law_view (T : TK K mg) : FnOk P w K mg base CX0 3 T.law_view.a T.law_view.fd ["model"] (spView K) := by
  refine T.law_view.F.ok sc_law_view (fun vs H Q E h => ?_) (fun cdv A outer s H vs Q E hr h => ?_)
  · obtain ⟨M, L, rfl, _⟩ := h; rfl
  obtain ⟨M, L, rfl, l, hz, q⟩ := h
  refine ⟨_, (pss_cons (ps_asg (pv 0) (pg_lst (by rfl) (pgs_cons (pg_name (i := 1) sc_law_view.nd rfl (Or.inl rfl)) (pgs_cons (pg_name (i := 2) sc_law_view.nd rfl (Or.inr rfl)) (pgs_cons (pg_name (i := 3) sc_law_view.nd rfl (Or.inl rfl)) pgs_nil)))))
    (pss_cut (ps_set (i := 4) sc_law_view.nd rfl (Or.inl rfl) (pe_ifExp (pt_cmpR op_eq (pe_ix (kixt K) (pv 1) pe_int (fun _ _ => rfl)) pe_str (nomark _)) (pe_tup (pa_cons (pe_op op_sub (pe_ix (kixt K) (pv 1) pe_int (fun _ _ => rfl)) (pe_callB (klen K) (by rfl) T.z_len (by decide +kernel) (pa_cons (pe_ix (kixl K) (pv 2) pe_int (fun _ _ => rfl)) pa_nil))) (pa_cons (pe_op op_sub (pe_ix (kixt K) (pv 1) pe_int (fun _ _ => rfl)) (pe_callB (klen K) (by rfl) T.z_len (by decide +kernel) (pa_cons (pe_ix (kixl K) (pv 2) pe_int (fun _ _ => rfl)) pa_nil))) pa_nil))) pe_non))
    (pss_cut (ps_if (pt_cmpR op_eq (pe_ix (kixt K) (pv 1) pe_int (fun _ _ => rfl)) pe_str (nomark _)) (pss_one (ps_set (i := 4) sc_law_view.nd rfl (Or.inl rfl) (pe_tup (pa_cons (pe_callB (klen K) (by rfl) T.z_len (by decide +kernel) (pa_cons (pe_lc (own := [("wire", 7)]) (g := gName 7) (by rfl) sc_law_view.nd (pi_range2 rfl T.z_range (pa_cons pe_int (pa_cons (pe_op op_add (pe_ix (kixt K) (pv 1) pe_int (fun _ _ => rfl)) pe_int) pa_nil))) (blkOk_by (own := [("wire", 7)]) (N := ["model", "spec", "sent", "come", "left", "found", "side", "wire"]) (sc := defScope s_law_view) (by decide +kernel)) (fun _ _ _ _ _ => (pg_name (i := 7) sc_law_view.nd rfl (Or.inl rfl))) (fun _ _ _ _ _ => (pts_one (pt_cmpR (knotin K) (pv 7) (pe_op op_cat (pe_ix (kixl K) (pv 2) pe_int (fun _ _ => rfl)) (pe_ix (kixl K) (pv 2) pe_int (fun _ _ => rfl))) (by rfl)))) (fun _ _ _ _ _ => (pv 7))) pa_nil)) pa_nil)))) pss_nil)
    (pss_cons (ps_set (i := 5) sc_law_view.nd rfl (Or.inl rfl) (pe_lst (pa_cons (pv 1) (pa_cons (pv 4) pa_nil))))
    (pss_cons (ps_for PassesOwn.never rfl (pi_range1 rfl T.z_range (pa_cons pe_int pa_nil)) (pg_name (i := 6) sc_law_view.nd rfl (Or.inl rfl)) (pss_one (ps_expr (pe_bm PySem.F.plainAttrs_list PySem.F.slot_list_extend PySem.F.type_list_extend mt_extend (pv 5) (pa_cons (pe_lst (pa_cons (pe_call (ok_law_many T) (hr.mono (by decide)) rfl T.law_many.m T.law_many.F.kp T.law_many.b .nil pass0 (pa_cons (pv 0) (pa_cons (pv 6) pa_nil))) (pa_cons (pe_callB cr_sorted (by rfl) T.z_sorted (by decide +kernel) (pa_cons (pe_ix (kixl K) (pv 2) (pv 6) (fun _ _ => rfl)) pa_nil)) (pa_cons (pe_callB cr_sorted (by rfl) T.z_sorted (by decide +kernel) (pa_cons (pe_ix (kixl K) (pv 3) (pv 6) (fun _ _ => rfl)) pa_nil)) (pa_cons (pe_call (ok_law_waits T) (hr.mono (by decide)) rfl T.law_waits.m T.law_waits.F.kp T.law_waits.b .nil pass0 (pa_cons (pv 0) (pa_cons (pv 6) pa_nil))) (pa_cons (pe_call (ok_law_free T) (hr.mono (by decide)) rfl T.law_free.m T.law_free.F.kp T.law_free.b .nil pass0 (pa_cons (pv 0) (pa_cons (pv 6) pa_nil))) pa_nil)))))) pa_nil)))))
    (pss_one (ps_ret (pv 5)))))))), ?_⟩
  refine ⟨_, rfl, M.mp, _, rfl, SqL.of l.mp, rfl, _, _, rfl, _, _, rfl, _, _, rfl, rfl, ?_⟩
  obtain ⟨z, hzz, hw, hlt⟩ := kd_word L.kd
  refine ⟨fun σ' H' => ∃ lv, σ' = [some (.ref M.mp), some (.ref M.sp), some (.ref M.ms), some (.ref M.mc), some lv, none, none, none] ∧ Ex H H' ∧ (L.kd.wires = false → ∃ lf, lv = .ref lf ∧ H' lf = some (.tup (leftOf L))), ?_, ?_⟩
  · refine ⟨_, rfl, _, _, _, _, rfl, rfl, SqT.of l.sp, hzz, rfl, ?_⟩
    rw [hlt]
    refine ⟨_, rfl, ?_⟩
    have sp := l.sp
    cases hk : L.kd with
    | wir k => exact iteF ⟨_, rfl, Ex.refl _, fun z => by cases z⟩
    | letr m b =>
      rw [hk] at sp
      refine iteT ?_
      refine ⟨_, rfl, _, _, _, _, rfl, rfl, SqT.of sp, rfl, _, rfl, _, _, _, _, rfl, rfl, SqL.of l.ms, rfl, _, _, rfl, .inl ⟨_, SqL.of l.t0, rfl⟩, _, _, rfl, rfl, ?_⟩
      refine ⟨_, rfl, _, _, _, _, rfl, rfl, SqT.of sp, rfl, _, rfl, _, _, _, _, rfl, rfl, SqL.of l.ms, rfl, _, _, rfl, .inl ⟨_, SqL.of l.t1, rfl⟩, _, _, rfl, rfl, two_le, fun p hp => ?_⟩
      refine ⟨_, rfl, Ex.new hp, fun _ => ⟨p, rfl, ?_⟩⟩
      rw [upd_same, List.length_map, List.length_map]
      unfold leftOf
      rw [hk]
  rintro σ' H1 ⟨lv, rfl, e1, hlv⟩
  refine ⟨fun σ' H' => ∃ lf, σ' = [some (.ref M.mp), some (.ref M.sp), some (.ref M.ms), some (.ref M.mc), some (.ref lf), none, none, none] ∧ Ex H H' ∧ H' lf = some (.tup (leftOf L)), ?_, ?_⟩
  · have l1 := l.ex e1
    refine ⟨_, rfl, _, _, _, _, rfl, rfl, SqT.of l1.sp, hzz, rfl, _, rfl, ?_⟩
    rw [hw]
    cases c : L.kd.wires with
    | false =>
      obtain ⟨lf, rfl, hlf⟩ := hlv c
      exact iteF ⟨lf, rfl, e1, hlf⟩
    | true =>
      refine iteT ?_
      obtain ⟨k, hk⟩ : ∃ k, L.kd = .wir k := by
        cases hk : L.kd with
        | wir k => exact ⟨k, rfl⟩
        | letr m b => rw [hk] at c; cases c
      have sp := l1.sp
      rw [hk] at sp
      have hm : 0 ≤ k ∧ k ≤ 10 := by have := l.ok; rw [hk] at this; exact this
      have cnt := count_left (n := k) (xs := L.s0 ++ L.s1) (fun j hj => by have := hz.rng j hj c; rw [hk] at this; exact this)
      refine ⟨_, rfl, _, _, _, _, rfl, rfl, SqT.of sp, rfl, _, _, rfl, rfl, 1, k + 1, rfl, ⟨by omega, by omega, by omega, by omega⟩, fun D hD => lc_range (fun i H' => Ex H1 H' ∧ H' D = some (.lst ((((upTo k).take i).filter (fun z => !decide (z ∈ L.s0 ++ L.s1))).map V.int))) ⟨Ex.new hD, upd_same⟩ ?_ ?_⟩
      · rintro i H' hi ⟨e, hd⟩
        have hi' : i < k.toNat := by omega
        have hz1 := upTo_get hi'
        have lz : (((upTo k).take i).filter (fun z => !decide (z ∈ L.s0 ++ L.s1))).length ≤ (upTo k).length := filter_take_le
        rw [upTo_len] at lz
        have l3 := l1.ex e
        have z0' : L.s0.length < 32 := hz.s 0
        have z1' : L.s1.length < 32 := hz.s 1
        refine ⟨rfl, _, rfl, _, rfl, _, _, _, _, rfl, rfl, SqL.of l3.ms, rfl, _, rfl, _, _, _, _, rfl, rfl, SqL.of l3.ms, rfl, M.t0, M.t1, _, _, rfl, rfl, l3.t0, l3.t1, Nat.le_of_lt (small1000 (by rw [List.length_map, List.length_map]; omega)), fun e' he' => ?_⟩
        have x5 : Ex H' (upd H' e' (.lst (L.s0.map V.int ++ L.s1.map V.int))) := Ex.new he'
        refine ⟨e', (L.s0 ++ L.s1).map V.int, rfl, .inl (SqL.of (by rw [upd_same, List.map_append])), rfl, flat_ints, _, rfl, ?_⟩
        rw [if_pos rfl, inV_ints]
        cases hc : decide ((1 + (i : Int)) ∈ L.s0 ++ L.s1) with
        | true =>
          refine ⟨e.trans x5, ?_⟩
          rw [x5 _ _ hd, filter_take hz1, hc]
          simp
        | false =>
          refine ⟨_, rfl, _, x5 _ _ hd, small1000 (by rw [List.length_map]; omega), (e.trans x5).mut hD, ?_⟩
          rw [upd_same, filter_take hz1, hc]
          simp
      · rintro H' ⟨e, hd⟩
        rw [show (k + 1 - 1).toNat = (upTo k).length by rw [upTo_len]; congr 1; omega, List.take_length] at hd
        refine ⟨_, _, rfl, .inl ⟨_, SqL.of hd, rfl⟩, (by show 1 ≤ sizeLine; decide), fun p hp => ⟨p, rfl, (e1.trans e).trans (Ex.new hp), ?_⟩⟩
        rw [upd_same, List.length_map]
        unfold leftOf
        rw [hk]
        congr 5
        omega
  rintro σ' H2 ⟨lf, rfl, e2, hlf⟩
  refine ⟨_, rfl, _, rfl, two_le, fun F hF => ?_⟩
  have x2 : Ex H2 (upd H2 F (.lst [.ref M.sp, .ref lf])) := Ex.new hF
  have e12 := e2.trans x2
  have F0 : H F = none := fresh_back e2 hF
  refine ⟨2, rfl, by decide, by decide, for_range (lo := 0) (n := (2 : Int).toNat) (fun i σ H' => Ex H H' ∧ H' lf = some (.tup (leftOf L)) ∧ (∃ its, H' F = some (.lst (.ref M.sp :: .ref lf :: its)) ∧ Fs L i H' its) ∧ ∃ x2, σ = [some (.ref M.mp), some (.ref M.sp), some (.ref M.ms), some (.ref M.mc), some (.ref lf), some (.ref F), x2, none])
    ⟨e12, x2 _ _ hlf, ⟨[], upd_same, rfl⟩, _, rfl⟩ ?_ ?_⟩
  · rintro i σ H' hi ⟨e, hlf', ⟨its, hF', fs⟩, x2, rfl⟩
    have hi2 : i < 2 := hi
    have sd : Side (0 + (i : Int)) := by unfold Side; omega
    have l' := l.ex e
    refine ⟨_, rfl, .inl ⟨rfl, _, SqL.of hF'⟩, ?_⟩
    refine ⟨_, rfl, _, rfl, M, L, _, rfl, l', sd, ?_⟩
    refine ⟨_, rfl, _, rfl, _, _, _, _, rfl, rfl, SqL.of l'.ms, at_t sd, M.t (0 + (i : Int)), L.s (0 + (i : Int)), rfl, SqL.of (l'.t _), Nat.lt_trans (hz.s _) (by decide), fun ysa a ra1 ra2 na => ?_⟩
    have Ea := Ex.new (o := .lst (ysa.map V.int)) na
    have ha : upd H' a (.lst (ysa.map V.int)) a = some (.lst (ysa.map V.int)) := upd_same
    generalize upd H' a (.lst (ysa.map V.int)) = Ga at *
    refine ⟨_, rfl, _, rfl, _, _, _, _, rfl, rfl, SqL.of (l'.ex Ea).mc, at_u sd, M.u (0 + (i : Int)), L.c (0 + (i : Int)), rfl, SqL.of ((l'.ex Ea).u _), Nat.lt_trans (hz.c _) (by decide), fun ysb b rb1 rb2 nb => ?_⟩
    have gb := Ex.new (o := .lst (ysb.map V.int)) nb
    have hb : upd Ga b (.lst (ysb.map V.int)) b = some (.lst (ysb.map V.int)) := upd_same
    generalize upd Ga b (.lst (ysb.map V.int)) = Gb at *
    have Eb := Ea.trans gb
    refine ⟨_, rfl, _, rfl, M, L, _, rfl, l'.ex Eb, sd, Nat.lt_trans (hz.s _) (by decide), fun c ysc Gc gc nc hc rc => ?_⟩
    have Ec := Eb.trans gc
    refine ⟨_, rfl, _, rfl, M, L, _, rfl, l'.ex Ec, sd, trivial, fun d ysd Gd gd nd hd rd => ?_⟩
    have Ed := Ec.trans gd
    refine ⟨(by show 5 ≤ sizeLine; decide), fun p hp => ?_⟩
    have ep := Ex.new (o := .lst [.int (L.kd.many (0 + (i : Int))), .ref a, .ref b, .ref c, .ref d]) hp
    have hF2 := ep _ _ (Ed _ _ hF')
    have lts := fs.len
    refine ⟨F, p, _, _, rfl, rfl, hF2, upd_same, Nat.le_of_lt (small1000 (by rw [List.length_cons, List.length_cons, lts]; show 5 * i + 1 + 1 + 5 ≤ 1000; omega)), ?_⟩
    have five : Five L (i : Int) Gd [.int (L.kd.many (0 + (i : Int))), .ref a, .ref b, .ref c, .ref d] := by
      rw [Int.zero_add] at ra1 rb1 rc rd ⊢
      exact ⟨a, b, c, d, ysa, ysb, ysc, ysd, rfl, ⟨((gb.trans gc).trans gd) _ _ ha, ra1, ra2⟩, ⟨(gc.trans gd) _ _ hb, rb1, rb2⟩, ⟨gd _ _ hc, rc⟩, ⟨hd, rd⟩⟩
    have kk : ∀ (x : Addr) (ns : List Int), upd Gd p (.lst [.int (L.kd.many (0 + (i : Int))), .ref a, .ref b, .ref c, .ref d]) x = some (.lst (ns.map V.int)) → upd (upd Gd p (.lst [.int (L.kd.many (0 + (i : Int))), .ref a, .ref b, .ref c, .ref d])) F (.lst ((.ref M.sp :: .ref lf :: its) ++ [.int (L.kd.many (0 + (i : Int))), .ref a, .ref b, .ref c, .ref d])) x = some (.lst (ns.map V.int)) :=
      fun x ns h => by rw [upd_ne (refs_ints hF2 h)]; exact h
    have eE := (e.trans Ed).trans ep
    refine ⟨eE.mut F0, ?_, ⟨its ++ [.int (L.kd.many (0 + (i : Int))), .ref a, .ref b, .ref c, .ref d], upd_same, its, _, rfl, (fs.ex (Ed.trans ep)).keep kk, (five.keep fun x ns h => ep _ _ h).keep kk⟩, _, rfl⟩
    rw [upd_ne (ne_of (ep _ _ (Ed _ _ hlf')) hF2 (by intro z; cases z))]
    exact ep _ _ (Ed _ _ hlf')
  · rintro σ H' ⟨e, hlf', ⟨its, hF', fs⟩, x2, rfl⟩
    exact ⟨_, rfl, q _ _ e ⟨F, M.sp, lf, its, rfl, hF', e _ _ l.sp, hlf', fs⟩⟩
end
end L2.U


set_option Elab.async false
set_option linter.all false
set_option maxRecDepth 100000
set_option maxHeartbeats 4000000
namespace L2.U
open PySem PySem.Spec PyProof.Rows Evl

section
variable {P : Program} {w : World} {K : PySem.W.Frag} {mg : Str → Option Value} {base : Heap}

def intD : PyData → Int
  | .int i => i
  | _ => 0
def sndOf (method s : Int) : Int := if method = 0 then s else 1 - s
def refD (L : LS) (method : Int) (dx dy : PyData) : Option (Str × Nat) :=
  if sideD dx = false then some (("side" : Str), 0)
  else if 1 < method then none
  else if betwD 1 (L.kd.many (sndOf method (intD dx))) dy = false then some (("kind" : Str), 1)
  else if method = 1 ∧ intD dy ∉ L.s (1 - intD dx) then some (("not sent" : Str), 1)
  else none
theorem kin_betw {L : LS} {s k : Int} (h : Kin L s k) : betwD 1 (L.kd.many s) (.int k) = true := decide_eq_true h
theorem ref_side {L : LS} {m : Int} {dx dy : PyData} (h : sideD dx = false) : refD L m dx dy = some (("side" : Str), 0) := if_pos h
theorem ref_kind {L : LS} {m s : Int} {dy : PyData} (hs : Side s) (hm : ¬ 1 < m) (h : betwD 1 (L.kd.many (sndOf m s)) dy = false) : refD L m (.int s) dy = some (("kind" : Str), 1) := by
  unfold refD
  rw [if_neg (by rw [side_ok hs]; decide), if_neg hm]; exact if_pos h
theorem ref_not {L : LS} {s k : Int} (hs : Side s) (h : Kin L (1 - s) k) (n : k ∉ L.s (1 - s)) : refD L 1 (.int s) (.int k) = some (("not sent" : Str), 1) := by
  unfold refD
  rw [if_neg (by rw [side_ok hs]; decide), if_neg (by decide), if_neg (by rw [show sndOf 1 (intD (.int s)) = 1 - s from rfl, kin_betw h]; decide), if_pos ⟨rfl, n⟩]
theorem ref_no0 {L : LS} {s k : Int} (hs : Side s) (h : Kin L s k) : refD L 0 (.int s) (.int k) = none := by
  unfold refD
  rw [if_neg (by rw [side_ok hs]; decide), if_neg (by decide), if_neg (by rw [show sndOf 0 (intD (.int s)) = s from rfl, kin_betw h]; decide), if_neg (by rintro ⟨z, _⟩; cases z)]
theorem ref_no1 {L : LS} {s k : Int} (hs : Side s) (h : Kin L (1 - s) k) (n : k ∈ L.s (1 - s)) : refD L 1 (.int s) (.int k) = none := by
  unfold refD
  rw [if_neg (by rw [side_ok hs]; decide), if_neg (by decide), if_neg (by rw [show sndOf 1 (intD (.int s)) = 1 - s from rfl, kin_betw h]; decide), if_neg (by rintro ⟨_, z⟩; exact z n)]
def spCall (K : PySem.W.Frag) (C CS CK CN : Addr) : Sp := fun vs H Q E => ∃ (A : Ln) (L : LS) (method named : Int) (x y : V) (dx dy : PyData) (n : Nat) (ok : Addr → Prop), vs = [.ref A.p, .int method, .int named, x, y] ∧ LineAt C A L H ∧ LSm L ∧ Rd K ok H n x dx ∧ Rd K ok H n y dy ∧ (0 ≤ method ∧ method ≤ 6) ∧ (refD L method dx dy = none → 1 < method) ∧
  (1 < method → sideD dx = true → ∀ v H', Ex H H' → Q v H') ∧
  (refD L method dx dy = some (("side" : Str), 0) → ∀ e H', Ex H H' → H' e = some (.xd [("given", x)]) → E (.ref CS) (some e) H') ∧
  (refD L method dx dy = some (("kind" : Str), 1) → ∀ e H', Ex H H' → H' e = some (.xd [("given", y)]) → E (.ref CK) (some e) H') ∧
  (refD L method dx dy = some (("not sent" : Str), 1) → ∀ e H', Ex H H' → H' e = some (.xd [("kind", y)]) → E (.ref CN) (some e) H')
theorem ok_law_call (T : TK K mg) : FnOk P w K mg base (L2.CX P w) 7 T.law_call.a T.law_call.fd ["line", "method", "named", "side", "kind"] (spCall K T.C T.InvalidSide.C T.InvalidKind.C T.NotSent.C) := by
  refine T.law_call.F.okX sc_law_call (fun vs H Q E h => ?_) (fun cdv A outer s H vs Q E hr h => ?_)
  · obtain ⟨A, L, method, named, x, y, dx, dy, n, ok, rfl, _⟩ := h; rfl
  obtain ⟨A, L, method, named, x, y, dx, dy, n, ok, rfl, l, hz, hx, hy, hm, hno, q, qS, qK, qN⟩ := h
  refine ⟨_, (pss_cons (ps_if (pt_cmpR op_eq (pv 1) pe_int (nomark _)) (pss_one (ps_ret (pe_ifExp (pt_cmpR op_eq (pv 2) pe_int (nomark _)) (by exact (pe_mX (pv 0) T.cl T.m_send.M (ok_Line_send T.toTL) (hr.mono (by decide)) T.m_send.b (fun σ => passAt (takes_of rfl rfl rfl rfl) σ) (pa_cons (pv 3) (pa_cons (pv 4) pa_nil)))) (by exact (pe_mKw (pv 0) T.cl T.m_send.M (ok_Line_send T.toTL) (hr.mono (by decide)) T.kb_send_kind_side (fun σ => passAt (takes_of rfl rfl rfl rfl) σ) (pk_cons (pv 4) (pk_cons (pv 3) pk_nil))))))) pss_nil)
    (pss_cons (ps_if (pt_cmpR op_eq (pv 1) pe_int (nomark _)) (pss_one (ps_ret (pe_ifExp (pt_cmpR op_eq (pv 2) pe_int (nomark _)) (by exact (pe_mX (pv 0) T.cl T.m_come.M (ok_Line_come T.toTL) (hr.mono (by decide)) T.m_come.b (fun σ => passAt (takes_of rfl rfl rfl rfl) σ) (pa_cons (pv 3) (pa_cons (pv 4) pa_nil)))) (by exact (pe_mKw (pv 0) T.cl T.m_come.M (ok_Line_come T.toTL) (hr.mono (by decide)) T.kb_come_kind_side (fun σ => passAt (takes_of rfl rfl rfl rfl) σ) (pk_cons (pv 4) (pk_cons (pv 3) pk_nil))))))) pss_nil)
    (pss_cons (ps_if (pt_cmpR op_eq (pv 1) pe_int (nomark _)) (pss_one (ps_ret (pe_ifExp (pt_cmpR op_eq (pv 2) pe_int (nomark _)) (by exact (pe_mX (pv 0) T.cl T.m_sent.M (ok_Line_sent T.toTL) (hr.mono (by decide)) T.m_sent.b (fun σ => passAt (takes_of rfl rfl rfl rfl) σ) (pa_cons (pv 3) pa_nil))) (by exact (pe_mKw (pv 0) T.cl T.m_sent.M (ok_Line_sent T.toTL) (hr.mono (by decide)) T.kb_sent_side (fun σ => passAt (takes_of rfl rfl rfl rfl) σ) (pk_cons (pv 3) pk_nil)))))) pss_nil)
    (pss_cons (ps_if (pt_cmpR op_eq (pv 1) pe_int (nomark _)) (pss_one (ps_ret (pe_ifExp (pt_cmpR op_eq (pv 2) pe_int (nomark _)) (by exact (pe_mX (pv 0) T.cl T.m_come_to.M (ok_Line_come_to T.toTL) (hr.mono (by decide)) T.m_come_to.b (fun σ => passAt (takes_of rfl rfl rfl rfl) σ) (pa_cons (pv 3) pa_nil))) (by exact (pe_mKw (pv 0) T.cl T.m_come_to.M (ok_Line_come_to T.toTL) (hr.mono (by decide)) T.kb_come_to_side (fun σ => passAt (takes_of rfl rfl rfl rfl) σ) (pk_cons (pv 3) pk_nil)))))) pss_nil)
    (pss_cons (ps_if (pt_cmpR op_eq (pv 1) pe_int (nomark _)) (pss_one (ps_ret (pe_ifExp (pt_cmpR op_eq (pv 2) pe_int (nomark _)) (by exact (pe_mX (pv 0) T.cl T.m_under_way.M (ok_Line_under_way T.toTL) (hr.mono (by decide)) T.m_under_way.b (fun σ => passAt (takes_of rfl rfl rfl rfl) σ) (pa_cons (pv 3) pa_nil))) (by exact (pe_mKw (pv 0) T.cl T.m_under_way.M (ok_Line_under_way T.toTL) (hr.mono (by decide)) T.kb_under_way_side (fun σ => passAt (takes_of rfl rfl rfl rfl) σ) (pk_cons (pv 3) pk_nil)))))) pss_nil)
    (pss_cons (ps_if (pt_cmpR op_eq (pv 1) pe_int (nomark _)) (pss_one (ps_ret (pe_ifExp (pt_cmpR op_eq (pv 2) pe_int (nomark _)) (by exact (pe_mX (pv 0) T.cl T.m_unsent.M (ok_Line_unsent T.toTL) (hr.mono (by decide)) T.m_unsent.b (fun σ => passAt (takes_of rfl rfl rfl rfl) σ) (pa_cons (pv 3) pa_nil))) (by exact (pe_mKw (pv 0) T.cl T.m_unsent.M (ok_Line_unsent T.toTL) (hr.mono (by decide)) T.kb_unsent_side (fun σ => passAt (takes_of rfl rfl rfl rfl) σ) (pk_cons (pv 3) pk_nil)))))) pss_nil)
    (pss_one (ps_ret (pe_ifExp (pt_cmpR op_eq (pv 2) pe_int (nomark _)) (by exact (pe_mX (pv 0) T.cl T.m_kinds.M (ok_Line_kinds T.toTL) (hr.mono (by decide)) T.m_kinds.b (fun σ => passAt (takes_of rfl rfl rfl rfl) σ) (pa_cons (pv 3) pa_nil))) (by exact (pe_mKw (pv 0) T.cl T.m_kinds.M (ok_Line_kinds T.toTL) (hr.mono (by decide)) T.kb_kinds_side (fun σ => passAt (takes_of rfl rfl rfl rfl) σ) (pk_cons (pv 3) pk_nil)))))))))))), ?_⟩
  have sz : ∀ s, (L.s s).length ≤ 900 := fun s => by have := hz.s s; omega
  have cz : ∀ s, (L.c s).length ≤ 900 := fun s => by have := hz.c s; omega
  rcases (by omega : method = 0 ∨ method = 1 ∨ method = 2 ∨ method = 3 ∨ method = 4 ∨ method = 5 ∨ method = 6) with rfl | rfl | rfl | rfl | rfl | rfl | rfl
  · refine ⟨_, rfl, rfl, _, rfl, iteT ⟨_, rfl, rfl, _, rfl, ite2 (fun _ => ?_) (fun _ => ?_)⟩⟩
    all_goals
      refine ⟨_, rfl, A.p, A.dx, _, rfl, l.obj, rfl, _, rfl, _, rfl, A, L, x, y, dx, dy, n, ok, rfl, hx, hy, l, sz, fun c => qS (ref_side c), fun s es hs c => ?_, fun s k es ek hs kin _ => ?_, fun s k es ek hs kin _ => ?_⟩
      · subst es; exact qK (ref_kind hs (by decide) c)
      · subst es ek; exact absurd (hno (ref_no0 hs kin)) (by decide)
      · subst es ek; exact absurd (hno (ref_no0 hs kin)) (by decide)
  · refine ⟨_, rfl, rfl, _, rfl, iteF ⟨_, rfl, rfl, _, rfl, iteT ⟨_, rfl, rfl, _, rfl, ite2 (fun _ => ?_) (fun _ => ?_)⟩⟩⟩
    all_goals
      refine ⟨_, rfl, A.p, A.dx, _, rfl, l.obj, rfl, _, rfl, _, rfl, A, L, x, y, dx, dy, n, ok, rfl, hx, hy, l, cz, fun c => qS (ref_side c), fun s es hs c => ?_, fun s k es ek hs kin m => ?_, fun s k es ek hs kin m _ => ?_, fun s k es ek hs kin m _ => ?_⟩
      · subst es; exact qK (ref_kind hs (by decide) c)
      · have ey : y = .int k := by subst ek; cases hy; rfl
        subst es ek ey; exact qN (ref_not hs kin m)
      · subst es ek; exact absurd (hno (ref_no1 hs kin m)) (by decide)
      · subst es ek; exact absurd (hno (ref_no1 hs kin m)) (by decide)
  · refine ⟨_, rfl, rfl, _, rfl, iteF ⟨_, rfl, rfl, _, rfl, iteF ⟨_, rfl, rfl, _, rfl, iteT ⟨_, rfl, rfl, _, rfl, ite2 (fun _ => ?_) (fun _ => ?_)⟩⟩⟩⟩
    all_goals
      exact ⟨_, rfl, A.p, A.dx, _, rfl, l.obj, rfl, _, rfl, A, L, x, dx, n, ok, rfl, hx, l, fun s _ => Nat.lt_trans (hz.s s) (by decide), fun s es hs p ys H' e h0 hp _ => q (by decide) (by rw [es]; exact side_ok hs) _ H' e, fun c => qS (ref_side c)⟩
  · refine ⟨_, rfl, rfl, _, rfl, iteF ⟨_, rfl, rfl, _, rfl, iteF ⟨_, rfl, rfl, _, rfl, iteF ⟨_, rfl, rfl, _, rfl, iteT ⟨_, rfl, rfl, _, rfl, ite2 (fun _ => ?_) (fun _ => ?_)⟩⟩⟩⟩⟩
    all_goals
      exact ⟨_, rfl, A.p, A.dx, _, rfl, l.obj, rfl, _, rfl, A, L, x, dx, n, ok, rfl, hx, l, fun s _ => Nat.lt_trans (hz.c s) (by decide), fun s es hs p ys H' e h0 hp _ => q (by decide) (by rw [es]; exact side_ok hs) _ H' e, fun c => qS (ref_side c)⟩
  · refine ⟨_, rfl, rfl, _, rfl, iteF ⟨_, rfl, rfl, _, rfl, iteF ⟨_, rfl, rfl, _, rfl, iteF ⟨_, rfl, rfl, _, rfl, iteF ⟨_, rfl, rfl, _, rfl, iteT ⟨_, rfl, rfl, _, rfl, ite2 (fun _ => ?_) (fun _ => ?_)⟩⟩⟩⟩⟩⟩
    all_goals
      exact ⟨_, rfl, A.p, A.dx, _, rfl, l.obj, rfl, _, rfl, A, L, x, dx, n, ok, rfl, hx, l, fun s _ => Nat.lt_trans (hz.s _) (by decide), fun s es hs p ys H' e h0 hp _ => q (by decide) (by rw [es]; exact side_ok hs) _ H' e, fun c => qS (ref_side c)⟩
  · refine ⟨_, rfl, rfl, _, rfl, iteF ⟨_, rfl, rfl, _, rfl, iteF ⟨_, rfl, rfl, _, rfl, iteF ⟨_, rfl, rfl, _, rfl, iteF ⟨_, rfl, rfl, _, rfl, iteF ⟨_, rfl, rfl, _, rfl, iteT ⟨_, rfl, rfl, _, rfl, ite2 (fun _ => ?_) (fun _ => ?_)⟩⟩⟩⟩⟩⟩⟩
    all_goals
      exact ⟨_, rfl, A.p, A.dx, _, rfl, l.obj, rfl, _, rfl, A, L, x, dx, n, ok, rfl, hx, l, fun s _ => trivial, fun s es hs p ys H' e h0 hp _ => q (by decide) (by rw [es]; exact side_ok hs) _ H' e, fun c => qS (ref_side c)⟩
  · refine ⟨_, rfl, rfl, _, rfl, iteF ⟨_, rfl, rfl, _, rfl, iteF ⟨_, rfl, rfl, _, rfl, iteF ⟨_, rfl, rfl, _, rfl, iteF ⟨_, rfl, rfl, _, rfl, iteF ⟨_, rfl, rfl, _, rfl, iteF ⟨_, rfl, rfl, _, rfl, ite2 (fun _ => ?_) (fun _ => ?_)⟩⟩⟩⟩⟩⟩⟩
    all_goals
      exact ⟨_, rfl, A.p, A.dx, _, rfl, l.obj, rfl, _, rfl, A, L, x, dx, n, ok, rfl, hx, l, fun s es hs H' e => q (by decide) (by rw [es]; exact side_ok hs) _ H' e, fun c => qS (ref_side c)⟩
def spTold (K : PySem.W.Frag) (C : Addr) : Sp := fun vs H Q _ => ∃ (A : Ln) (L : LS) (method named : Int) (x y : V) (dx dy : PyData) (n : Nat) (ok : Addr → Prop), vs = [.ref A.p, .int method, .int named, x, y] ∧ LineAt C A L H ∧ LSm L ∧ Rd K ok H n x dx ∧ Rd K ok H n y dy ∧ (0 ≤ method ∧ method ≤ 6) ∧ (refD L method dx dy = none → 1 < method) ∧
  (refD L method dx dy = none → ∀ v t H', Ex H H' → H t = none → H' t = some (.tup [.str "done", v]) → Q (.ref t) H') ∧
  (∀ w j z, refD L method dx dy = some (w, j) → [x, y][j]? = some z → ∀ t H', Ex H H' → H t = none → H' t = some (.tup [.str w, z]) → Q (.ref t) H')
theorem ok_law_told (T : TK K mg) : FnOk P w K mg base CX0 8 T.law_told.a T.law_told.fd ["line", "method", "named", "side", "kind"] (spTold K T.C) := by
  refine T.law_told.F.ok sc_law_told (fun vs H Q E h => ?_) (fun cdv A outer s H vs Q E hr h => ?_)
  · obtain ⟨A, L, method, named, x, y, dx, dy, n, ok, rfl, _⟩ := h; rfl
  obtain ⟨A, L, method, named, x, y, dx, dy, n, ok, rfl, l, hz, hx, hy, hm, hno, q1, q2⟩ := h
  refine ⟨_, (pss_one (ps_tryC rfl rfl takes0 (fun W pn xe tk _ => (pss_one (ps_ret (pe_tup (pa_cons pe_str (pa_cons (by exact (pe_callS (ok_law_call T) (hr.mono (by decide)) rfl T.law_call.m T.law_call.F.kp T.law_call.b (fun σ => passAt tk σ) (pa_cons (pv 0) (pa_cons (pv 1) (pa_cons (pv 2) (pa_cons (pv 3) (pa_cons (pv 4) pa_nil))))))) pa_nil)))))) (ClausesOk.cons (ClauseOk.named (i := 5) sc_law_told.nd rfl rfl ⟨rfl, by decide, Or.inl T.InvalidSide.gC⟩ (fun a oe cls d pn hz hf => (pss_one (ps_ret (pe_tup (pa_cons pe_str (pa_cons (pe_xf T.InvalidSide.xf T.InvalidSide.nf hz hf (pv 5)) pa_nil)))))))
     (ClausesOk.cons (ClauseOk.named (i := 5) sc_law_told.nd rfl rfl ⟨rfl, by decide, Or.inl T.InvalidKind.gC⟩ (fun a oe cls d pn hz hf => (pss_one (ps_ret (pe_tup (pa_cons pe_str (pa_cons (pe_xf T.InvalidKind.xf T.InvalidKind.nf hz hf (pv 5)) pa_nil)))))))
     (ClausesOk.cons (ClauseOk.named (i := 5) sc_law_told.nd rfl rfl ⟨rfl, by decide, Or.inl T.NotSent.gC⟩ (fun a oe cls d pn hz hf => (pss_one (ps_ret (pe_tup (pa_cons pe_str (pa_cons (pe_xf T.NotSent.xf T.NotSent.nf hz hf (pv 5)) pa_nil)))))))
     (ClausesOk.cons (ClauseOk.bare ⟨rfl, by decide, Or.inl T.TalkError_gC⟩ (fun a oe cls d pn hz hf => (pss_one (ps_ret (pe_tup (pa_cons pe_str (pa_cons pe_non pa_nil)))))))
     ClausesOk.nil)))))), ?_⟩
  refine ⟨_, rfl, _, rfl, _, rfl, _, rfl, _, rfl, A, L, method, named, x, y, dx, dy, n, ok, rfl, l, hz, hx, hy, hm, hno, fun h1 hs v H1 e1 => ⟨two_le, fun t ht => q1 ?_ v t _ (e1.trans (Ex.new ht)) (fresh_back e1 ht) upd_same⟩, fun c d H1 e1 hd => ?_, fun c d H1 e1 hd => ?_, fun c d H1 e1 hd => ?_⟩
  · unfold refD; rw [if_neg (by rw [hs]; decide), if_pos h1]
  · exact ⟨true, T.eSS, fun _ u hu => ⟨_, rfl, rfl, rfl, d, _, _, rfl, hd, rfl, two_le, fun t ht => q2 _ _ x c rfl t _ (e1.trans (Ex.new ht)) (fresh_back e1 ht) upd_same⟩, fun z => nomatch z⟩
  · exact ⟨false, T.eKS, (fun z => nomatch z), fun _ => ⟨true, T.eKK, fun _ u hu => ⟨_, rfl, rfl, rfl, d, _, _, rfl, hd, rfl, two_le, fun t ht => q2 _ _ y c rfl t _ (e1.trans (Ex.new ht)) (fresh_back e1 ht) upd_same⟩, fun z => nomatch z⟩⟩
  · exact ⟨false, T.eNS, (fun z => nomatch z), fun _ => ⟨false, T.eNK, (fun z => nomatch z), fun _ => ⟨true, T.eNN, fun _ u hu => ⟨_, rfl, rfl, rfl, d, _, _, rfl, hd, rfl, two_le, fun t ht => q2 _ _ y c rfl t _ (e1.trans (Ex.new ht)) (fresh_back e1 ht) upd_same⟩, fun z => nomatch z⟩⟩⟩
def spRefused (K : PySem.W.Frag) : Sp := fun vs H Q _ => ∃ (M : Md) (L : LS) (method : Int) (x y : V) (dx dy : PyData) (n : Nat) (ok : Addr → Prop), vs = [.ref M.sp, .ref M.ms, .int method, x, y] ∧ ModAt M L H ∧ Rd K ok H n x dx ∧ Rd K ok H n y dy ∧ (0 ≤ method ∧ method ≤ 6) ∧
  (refD L method dx dy = none → Q .non H) ∧
  (∀ w j z, refD L method dx dy = some (w, j) → [x, y][j]? = some z → ∀ t H', Ex H H' → H' t = some (.tup [.str w, z]) → Q (.ref t) H')
theorem ok_law_refused (T : TK K mg) : FnOk P w K mg base CX0 2 T.law_refused.a T.law_refused.fd ["spec", "sent", "method", "side", "kind"] (spRefused K) := by
  refine T.law_refused.F.ok sc_law_refused (fun vs H Q E h => ?_) (fun cdv A outer s H vs Q E hr h => ?_)
  · obtain ⟨M, L, method, x, y, dx, dy, n, ok, rfl, _⟩ := h; rfl
  obtain ⟨M, L, method, x, y, dx, dy, n, ok, rfl, l, hx, hy, hm, q1, q2⟩ := h
  refine ⟨_, (pss_cons (ps_if (pt_not (pt_val (pe_call (ok_law_is_between T) (hr.mono (by decide)) rfl T.law_is_between.m T.law_is_between.F.kp T.law_is_between.b .nil pass0 (pa_cons (pv 3) (pa_cons pe_int (pa_cons pe_int pa_nil)))))) (pss_one (ps_ret (pe_tup (pa_cons pe_str (pa_cons (pv 3) pa_nil))))) pss_nil)
    (pss_cons (ps_if (pt_cmpR op_gt (pv 2) pe_int (nomark _)) (pss_one (ps_ret pe_non)) pss_nil)
    (pss_cons (ps_set (i := 5) sc_law_refused.nd rfl (Or.inl rfl) (pe_ifExp (pt_cmpR op_eq (pv 2) pe_int (nomark _)) (pv 3) (pe_op op_sub pe_int (pv 3))))
    (pss_cons (ps_if (pt_not (pt_val (pe_call (ok_law_is_between T) (hr.mono (by decide)) rfl T.law_is_between.m T.law_is_between.F.kp T.law_is_between.b .nil pass0 (pa_cons (pv 4) (pa_cons pe_int (pa_cons (pe_ifExp (PW.pt (pw_or (pt_cmpR op_eq (pe_ix (kixt K) (pv 0) pe_int (fun _ _ => rfl)) pe_str (nomark _)) (pw_or1 (pt_cmpR op_eq (pv 5) pe_int (nomark _))))) (pe_ix (kixt K) (pv 0) pe_int (fun _ _ => rfl)) (pe_ix (kixt K) (pv 0) pe_int (fun _ _ => rfl))) pa_nil)))))) (pss_one (ps_ret (pe_tup (pa_cons pe_str (pa_cons (pv 4) pa_nil))))) pss_nil)
    (pss_one (ps_ret (pe_ifExp (PW.pt (pw_and (pt_cmpR op_eq (pv 2) pe_int (nomark _)) (pw_and1 (pt_cmpR (knotin K) (pv 4) (pe_ix (kixl K) (pv 1) (pv 5) (fun _ _ => rfl)) (by rfl))))) (pe_tup (pa_cons pe_str (pa_cons (pv 4) pa_nil))) pe_non))))))), ?_⟩
  refine ⟨_, rfl, _, _, _, _, _, _, rfl, hx, ⟨_, rfl, ?_⟩⟩
  cases c : betwD 0 1 dx with
  | false => exact iteT ⟨_, rfl, two_le, fun t ht => q2 _ _ x (ref_side c) rfl t _ (Ex.new ht) upd_same⟩
  | true =>
    obtain ⟨s, rfl, rfl, hs⟩ := side_int hx c
    refine iteF ⟨_, rfl, _, _, rfl, rfl, _, rfl, ite2 (fun c1 => ?_) (fun c1 => ?_)⟩
    · have h1 : 1 < method := of_decide_eq_true c1
      exact q1 (by unfold refD; rw [if_neg (by rw [side_ok hs]; decide), if_pos h1])
    · have h1 : ¬ 1 < method := of_decide_eq_false (Bool.eq_false_iff.mpr c1)
      have b1 : betwD 1 (L.kd.many (sndOf method s)) dy = false → refD L method (.int s) dy = some (("kind" : Str), 1) := ref_kind hs h1
      obtain ⟨z, hz, hw, _⟩ := kd_word L.kd
      have sp := l.sp
      rcases (by omega : method = 0 ∨ method = 1) with rfl | rfl
      · refine ⟨_, rfl, rfl, _, rfl, iteT ⟨_, rfl, ?_⟩⟩
        refine ⟨_, rfl, _, rfl, _, _, _, _, rfl, rfl, SqT.of l.sp, hz, rfl, ?_⟩
        rw [hw]
        refine ⟨_, rfl, ?_⟩
        cases hk : L.kd with
        | wir k =>
          rw [hk] at sp
          refine iteT (iteT ⟨_, rfl, _, _, _, _, rfl, rfl, SqT.of sp, rfl, ?_⟩)
          refine ⟨y, dy, n, ok, 1, k, rfl, hy, _, rfl, ?_⟩
          have e : k = L.kd.many (sndOf 0 s) := (by rw [hk]; rfl)
          cases c2 : betwD 1 k dy with
          | false => exact iteT ⟨_, rfl, two_le, fun t ht => q2 _ _ y (b1 (e ▸ c2)) rfl t _ (Ex.new ht) upd_same⟩
          | true =>
            obtain ⟨i, rfl, rfl, l1, l2⟩ := betw_int hy c2
            exact iteF ⟨_, rfl, rfl, _, rfl, iteF (iteF (q1 (ref_no0 hs ⟨l1, by rw [e] at l2; exact l2⟩)))⟩
        | letr m b =>
          rw [hk] at sp
          refine iteF ⟨_, rfl, rfl, _, rfl, ?_⟩
          rcases (by unfold Side at hs; omega : s = 0 ∨ s = 1) with rfl | rfl
          · refine iteT ⟨_, rfl, _, _, _, _, rfl, rfl, SqT.of sp, rfl, ?_⟩
            refine ⟨y, dy, n, ok, 1, m, rfl, hy, _, rfl, ?_⟩
            have e : m = L.kd.many (sndOf 0 0) := (by rw [hk]; rfl)
            cases c2 : betwD 1 m dy with
            | false => exact iteT ⟨_, rfl, two_le, fun t ht => q2 _ _ y (b1 (e ▸ c2)) rfl t _ (Ex.new ht) upd_same⟩
            | true =>
              obtain ⟨i, rfl, rfl, l1, l2⟩ := betw_int hy c2
              exact iteF ⟨_, rfl, rfl, _, rfl, iteF (iteF (q1 (ref_no0 hs ⟨l1, by rw [e] at l2; exact l2⟩)))⟩
          · refine iteF ⟨_, rfl, _, _, _, _, rfl, rfl, SqT.of sp, rfl, ?_⟩
            refine ⟨y, dy, n, ok, 1, b, rfl, hy, _, rfl, ?_⟩
            have e : b = L.kd.many (sndOf 0 1) := (by rw [hk]; rfl)
            cases c2 : betwD 1 b dy with
            | false => exact iteT ⟨_, rfl, two_le, fun t ht => q2 _ _ y (b1 (e ▸ c2)) rfl t _ (Ex.new ht) upd_same⟩
            | true =>
              obtain ⟨i, rfl, rfl, l1, l2⟩ := betw_int hy c2
              exact iteF ⟨_, rfl, rfl, _, rfl, iteF (iteF (q1 (ref_no0 hs ⟨l1, by rw [e] at l2; exact l2⟩)))⟩
      · refine ⟨_, rfl, rfl, _, rfl, iteF ⟨_, rfl, _, _, rfl, rfl, ?_⟩⟩
        refine ⟨_, rfl, _, rfl, _, _, _, _, rfl, rfl, SqT.of l.sp, hz, rfl, ?_⟩
        rw [hw]
        refine ⟨_, rfl, ?_⟩
        cases hk : L.kd with
        | wir k =>
          rw [hk] at sp
          refine iteT (iteT ⟨_, rfl, _, _, _, _, rfl, rfl, SqT.of sp, rfl, ?_⟩)
          refine ⟨y, dy, n, ok, 1, k, rfl, hy, _, rfl, ?_⟩
          have e : k = L.kd.many (sndOf 1 s) := (by rw [hk]; rfl)
          cases c2 : betwD 1 k dy with
          | false => exact iteT ⟨_, rfl, two_le, fun t ht => q2 _ _ y (b1 (e ▸ c2)) rfl t _ (Ex.new ht) upd_same⟩
          | true =>
            obtain ⟨i, rfl, rfl, l1, l2⟩ := betw_int hy c2
            have kn : Kin L (1 - s) i := ⟨l1, by rw [e] at l2; exact l2⟩
            refine iteF ⟨_, rfl, rfl, _, rfl, iteT ⟨_, rfl, _, rfl, _, rfl, _, _, _, _, rfl, rfl, SqL.of l.ms, at_t hs.other, _, _, rfl, .inl (SqL.of (l.t (1 - s))), rfl, flat_ints, _, rfl, ?_⟩⟩
            rw [if_pos rfl, inV_ints]
            by_cases m : i ∈ L.s (1 - s)
            · rw [decide_eq_true m]
              exact iteF (q1 (ref_no1 hs kn m))
            · rw [decide_eq_false m]
              exact iteT ⟨_, rfl, two_le, fun t ht => q2 _ _ (.int i) (ref_not hs kn m) rfl t _ (Ex.new ht) upd_same⟩
        | letr m b =>
          rw [hk] at sp
          refine iteF ⟨_, rfl, rfl, _, rfl, ?_⟩
          rcases (by unfold Side at hs; omega : s = 0 ∨ s = 1) with rfl | rfl
          · refine iteF ⟨_, rfl, _, _, _, _, rfl, rfl, SqT.of sp, rfl, ?_⟩
            refine ⟨y, dy, n, ok, 1, b, rfl, hy, _, rfl, ?_⟩
            have e : b = L.kd.many (sndOf 1 0) := (by rw [hk]; rfl)
            cases c2 : betwD 1 b dy with
            | false => exact iteT ⟨_, rfl, two_le, fun t ht => q2 _ _ y (b1 (e ▸ c2)) rfl t _ (Ex.new ht) upd_same⟩
            | true =>
              obtain ⟨i, rfl, rfl, l1, l2⟩ := betw_int hy c2
              have kn : Kin L (1 - 0) i := ⟨l1, by rw [e] at l2; exact l2⟩
              refine iteF ⟨_, rfl, rfl, _, rfl, iteT ⟨_, rfl, _, rfl, _, rfl, _, _, _, _, rfl, rfl, SqL.of l.ms, at_t hs.other, _, _, rfl, .inl (SqL.of (l.t (1 - 0))), rfl, flat_ints, _, rfl, ?_⟩⟩
              rw [if_pos rfl, inV_ints]
              by_cases m : i ∈ L.s (1 - 0)
              · rw [decide_eq_true m]
                exact iteF (q1 (ref_no1 hs kn m))
              · rw [decide_eq_false m]
                exact iteT ⟨_, rfl, two_le, fun t ht => q2 _ _ (.int i) (ref_not hs kn m) rfl t _ (Ex.new ht) upd_same⟩
          · refine iteT ⟨_, rfl, _, _, _, _, rfl, rfl, SqT.of sp, rfl, ?_⟩
            refine ⟨y, dy, n, ok, 1, m, rfl, hy, _, rfl, ?_⟩
            have e : m = L.kd.many (sndOf 1 1) := (by rw [hk]; rfl)
            cases c2 : betwD 1 m dy with
            | false => exact iteT ⟨_, rfl, two_le, fun t ht => q2 _ _ y (b1 (e ▸ c2)) rfl t _ (Ex.new ht) upd_same⟩
            | true =>
              obtain ⟨i, rfl, rfl, l1, l2⟩ := betw_int hy c2
              have kn : Kin L (1 - 1) i := ⟨l1, by rw [e] at l2; exact l2⟩
              refine iteF ⟨_, rfl, rfl, _, rfl, iteT ⟨_, rfl, _, rfl, _, rfl, _, _, _, _, rfl, rfl, SqL.of l.ms, at_t hs.other, _, _, rfl, .inl (SqL.of (l.t (1 - 1))), rfl, flat_ints, _, rfl, ?_⟩⟩
              rw [if_pos rfl, inV_ints]
              by_cases m : i ∈ L.s (1 - 1)
              · rw [decide_eq_true m]
                exact iteF (q1 (ref_no1 hs kn m))
              · rw [decide_eq_false m]
                exact iteT ⟨_, rfl, two_le, fun t ht => q2 _ _ (.int i) (ref_not hs kn m) rfl t _ (Ex.new ht) upd_same⟩
end
end L2.U


set_option Elab.async false
set_option linter.all false
set_option maxRecDepth 100000
set_option maxHeartbeats 4000000
namespace L2.U
open PySem PySem.Spec PyProof.Rows Evl

section
variable {P : Program} {w : World} {K : PySem.W.Frag} {mg : Str → Option Value} {base : Heap}

theorem pe_fldK {X : Cx} {e : Expr} {ta : TE} {f : Str} {pos : Pos} (K : PySem.W.Frag) (he : PE X e ta) (hb : attributeBase e f X.env (eval e X.env) = eval e X.env) (h : X.K = K := by rfl) : PE X (.Attribute e f pos) (tFld K ta f) := by subst h; exact pe_fld he hb
theorem iteT' {c : Bool} {a b : Prop} (h : c = true) (x : a) : (if c = true then a else b) := by rw [if_pos h]; exact x
theorem iteF' {c : Bool} {a b : Prop} (h : c = false) (x : b) : (if c = true then a else b) := by rw [if_neg (by rw [h]; decide)]; exact x
theorem ok_law_is_spec (T : TK K mg) : FnOk P w K mg base CX0 2 T.law_is_spec.a T.law_is_spec.fd ["value"] (spIsSpec K) := by
  refine T.law_is_spec.F.ok sc_law_is_spec (fun vs H Q E h => ?_) (fun cdv A outer s H vs Q E hr h => ?_)
  · obtain ⟨x, rfl, _⟩ := h; rfl
  obtain ⟨x, rfl, av, q⟩ := h
  refine ⟨_, (pss_cons (ps_if (PW.pt (pw_or (pt_not (pt_val (pe_callB (kisi K) (by rfl) T.z_isinstance (by decide +kernel) (pa_cons (pv 0) (pa_cons (pe_bltn (v := .ty "tuple") rfl T.z_tuple (by decide +kernel) rfl) pa_nil))))) (pw_or (pt_cmpR op_lt (pe_callB (klen K) (by rfl) T.z_len (by decide +kernel) (pa_cons (pv 0) pa_nil)) pe_int (nomark _)) (pw_or1 (pt_not (pt_val (pe_callB (kisi K) (by rfl) T.z_isinstance (by decide +kernel) (pa_cons (pe_ix (kixt K) (pv 0) pe_int (fun _ _ => rfl)) (pa_cons (pe_bltn (v := .ty "str") rfl T.z_str (by decide +kernel) rfl) pa_nil))))))))) (pss_one (ps_ret pe_bl)) pss_nil)
    (pss_cons (ps_if (pt_cmpR op_eq (pe_ix (kixt K) (pv 0) pe_int (fun _ _ => rfl)) pe_str (nomark _)) (pss_one (ps_ret (pe_and (pe_cmpR op_eq (pe_callB (klen K) (by rfl) T.z_len (by decide +kernel) (pa_cons (pv 0) pa_nil)) pe_int (nomark _)) (pe_one (pe_call (ok_law_is_between T) (hr.mono (by decide)) rfl T.law_is_between.m T.law_is_between.F.kp T.law_is_between.b .nil pass0 (pa_cons (pe_ix (kixt K) (pv 0) pe_int (fun _ _ => rfl)) (pa_cons pe_int (pa_cons pe_int pa_nil)))))))) pss_nil)
    (pss_one (ps_ret (pe_and (pe_cmpR op_eq (pe_ix (kixt K) (pv 0) pe_int (fun _ _ => rfl)) pe_str (nomark _)) (pe_and (pe_cmpR op_eq (pe_callB (klen K) (by rfl) T.z_len (by decide +kernel) (pa_cons (pv 0) pa_nil)) pe_int (nomark _)) (pe_and (pe_call (ok_law_is_between T) (hr.mono (by decide)) rfl T.law_is_between.m T.law_is_between.F.kp T.law_is_between.b .nil pass0 (pa_cons (pe_ix (kixt K) (pv 0) pe_int (fun _ _ => rfl)) (pa_cons pe_int (pa_cons pe_int pa_nil)))) (pe_one (pe_call (ok_law_is_between T) (hr.mono (by decide)) rfl T.law_is_between.m T.law_is_between.F.kp T.law_is_between.b .nil pass0 (pa_cons (pe_ix (kixt K) (pv 0) pe_int (fun _ _ => rfl)) (pa_cons pe_int (pa_cons pe_int pa_nil)))))))))))), ?_⟩
  rcases av with ⟨d, n, ok, h, hn⟩ | ⟨a, kvs, rfl, ha⟩
  case inr =>
    refine ⟨_, rfl, _, _, _, _, false, rfl, .ty "tuple", .base (.dK ha), kit_ty (by decide +kernel), ?_⟩
    refine ⟨_, rfl, iteT ?_⟩
    refine q false (fun z => by cases z) (fun _ d n ok h => ?_) _ (Ex.refl _)
    cases h with
    | lst h1 => rw [ha] at h1; cases h1
    | tup h1 => rw [ha] at h1; cases h1
  have fin : ∀ b, specD d = b → Q (.bl b) H := fun b hb => q b (fun z => spec_knd h (hb.trans z)) (fun z d' n' ok' h' => by rw [← h.det h', hb, z]) H (Ex.refl _)
  have h0 := h
  cases h with
  | non => exact ⟨_, rfl, _, _, _, _, false, rfl, .ty "tuple", .base .non, kit_ty (by decide +kernel), _, rfl, iteT (fin false rfl)⟩
  | bl b => exact ⟨_, rfl, _, _, _, _, false, rfl, .ty "tuple", .base (.bl b), kit_ty (by decide +kernel), _, rfl, iteT (fin false rfl)⟩
  | int i => exact ⟨_, rfl, _, _, _, _, false, rfl, .ty "tuple", .base (.int i), kit_ty (by decide +kernel), _, rfl, iteT (fin false rfl)⟩
  | str z _ _ => exact ⟨_, rfl, _, _, _, _, false, rfl, .ty "tuple", .base (.str z), kit_ty (by decide +kernel), _, rfl, iteT (fin false rfl)⟩
  | lst h1 => exact ⟨_, rfl, _, _, _, _, false, rfl, .ty "tuple", .base (.lst h1), kit_ty (by decide +kernel), _, rfl, iteT (fin false rfl)⟩
  | @tup n a xs ds h1 ha hl hz all =>
    refine ⟨_, rfl, _, _, _, _, true, rfl, .ty "tuple", .base (.tup h1), kit_ty (by decide +kernel), _, rfl, iteF ?_⟩
    refine ⟨_, rfl, _, _, rfl, .inr ⟨_, SqT.of h1, rfl⟩, _, _, rfl, rfl, _, rfl, ?_⟩
    have no : ∀ d1 r, (∀ z, eqS d1 z = false) → specD (.tuple (d1 :: r)) = false := fun d1 r e => by
      show (if eqS d1 "letters" = true then _ else if eqS d1 "wires" = true then _ else false) = false
      rw [e, e]; rfl
    match xs, ds, hl, all, h1, fin, h0 with
    | [], [], _, _, h1, fin, _ => exact iteT (iteT (fin false rfl))
    | [x0], [d0], _, _, h1, fin, _ =>
      refine iteT (iteT (fin false ?_))
      show (if eqS d0 "letters" = true then (decide (([] : List PyData).length = 2) && _) else if eqS d0 "wires" = true then (decide (([] : List PyData).length = 1) && _) else false) = false
      split
      · rfl
      · split <;> rfl
    | x0 :: x1 :: ys, d0 :: d1 :: r, hl, all, h1, fin, h0 =>
      refine iteF' (by simp; omega) ?_
      have hly : ys.length = r.length := Nat.succ.inj (Nat.succ.inj hl)
      have r0 := all 0 x0 d0 rfl rfl
      have r1 := all 1 x1 d1 rfl rfl
      cases r0 with
      | non => exact ⟨_, rfl, _, _, _, _, rfl, rfl, SqT.of h1, (at_of (show (0 : Int) = ((0 : Nat) : Int) from rfl) rfl), _, _, _, _, false, rfl, .ty "str", .base .non, kit_ty (by decide +kernel), _, rfl, iteT (fin false (no _ _ fun _ => rfl))⟩
      | bl b => exact ⟨_, rfl, _, _, _, _, rfl, rfl, SqT.of h1, (at_of (show (0 : Int) = ((0 : Nat) : Int) from rfl) rfl), _, _, _, _, false, rfl, .ty "str", .base (.bl b), kit_ty (by decide +kernel), _, rfl, iteT (fin false (no _ _ fun _ => rfl))⟩
      | int i => exact ⟨_, rfl, _, _, _, _, rfl, rfl, SqT.of h1, (at_of (show (0 : Int) = ((0 : Nat) : Int) from rfl) rfl), _, _, _, _, false, rfl, .ty "str", .base (.int i), kit_ty (by decide +kernel), _, rfl, iteT (fin false (no _ _ fun _ => rfl))⟩
      | lst h2 => exact ⟨_, rfl, _, _, _, _, rfl, rfl, SqT.of h1, (at_of (show (0 : Int) = ((0 : Nat) : Int) from rfl) rfl), _, _, _, _, false, rfl, .ty "str", .base (.lst h2), kit_ty (by decide +kernel), _, rfl, iteT (fin false (no _ _ fun _ => rfl))⟩
      | tup h2 => exact ⟨_, rfl, _, _, _, _, rfl, rfl, SqT.of h1, (at_of (show (0 : Int) = ((0 : Nat) : Int) from rfl) rfl), _, _, _, _, false, rfl, .ty "str", .base (.tup h2), kit_ty (by decide +kernel), _, rfl, iteT (fin false (no _ _ fun _ => rfl))⟩
      | str z hz1 hz2 =>
        refine ⟨_, rfl, _, _, _, _, rfl, rfl, SqT.of h1, (at_of (show (0 : Int) = ((0 : Nat) : Int) from rfl) rfl), _, _, _, _, true, rfl, .ty "str", .base (.str z), kit_ty (by decide +kernel), _, rfl, iteF ?_⟩
        have sp : specD (.tuple (.str z :: d1 :: r)) = (if decide (z = ("letters" : Str)) = true then decide ((d1 :: r).length = 2) && (d1 :: r).all (betwD 0 8) else if decide (z = ("wires" : Str)) = true then decide ((d1 :: r).length = 1) && (d1 :: r).all (betwD 0 10) else false) := rfl
        rw [sp] at fin
        refine ⟨_, rfl, _, _, _, _, rfl, rfl, SqT.of h1, (at_of (show (0 : Int) = ((0 : Nat) : Int) from rfl) rfl), rfl, _, rfl, ?_⟩
        by_cases cw : z = ("wires" : Str)
        · subst cw
          rw [if_neg (show ¬ decide (("wires" : Str) = ("letters" : Str)) = true by decide), if_pos (show decide (("wires" : Str) = ("wires" : Str)) = true by decide)] at fin
          refine iteT' (decide_eq_true rfl) ⟨_, rfl, _, _, rfl, .inr ⟨_, SqT.of h1, rfl⟩, rfl, ?_⟩
          refine ⟨_, rfl, ?_⟩
          match ys, r, hly, all, h1, fin with
          | [], [], _, _, h1, fin =>
            refine iteT' (decide_eq_true rfl) ⟨_, rfl, _, _, _, _, rfl, rfl, SqT.of h1, rfl, x1, d1, n, ok, 0, 10, rfl, r1, ?_⟩
            exact fin _ (by simp)
          | y :: ys', e :: r', _, _, h1, fin =>
            refine iteF' (by simp; omega) (fin _ (by simp))
        · rw [if_neg (show ¬ decide (z = ("wires" : Str)) = true by simpa using cw)] at fin
          refine iteF' (by simpa using cw) ⟨_, rfl, _, _, _, _, rfl, rfl, SqT.of h1, (at_of (show (0 : Int) = ((0 : Nat) : Int) from rfl) rfl), rfl, _, rfl, ?_⟩
          by_cases cl : z = ("letters" : Str)
          · subst cl
            rw [if_pos (show decide (("letters" : Str) = ("letters" : Str)) = true by decide)] at fin
            refine iteT' (decide_eq_true rfl) ⟨_, rfl, _, _, rfl, .inr ⟨_, SqT.of h1, rfl⟩, rfl, ?_⟩
            refine ⟨_, rfl, ?_⟩
            match ys, r, hly, all, h1, fin with
            | [], [], _, _, h1, fin =>
              exact iteF' (by simp) (fin _ (by simp))
            | [x2], [d2], _, all, h1, fin =>
              have r2 := all 2 x2 d2 rfl rfl
              refine iteT' (decide_eq_true rfl) ⟨_, rfl, _, _, _, _, rfl, rfl, SqT.of h1, rfl, x1, d1, n, ok, 0, 8, rfl, r1, _, rfl, ?_⟩
              cases c1 : betwD 0 8 d1 with
              | false => exact iteF (fin _ (by simp [c1]))
              | true => exact iteT ⟨_, rfl, _, _, _, _, rfl, rfl, SqT.of h1, rfl, x2, d2, n, ok, 0, 8, rfl, r2, fin _ (by simp [c1])⟩
            | y :: y2 :: ys', e :: e2 :: r', _, _, h1, fin =>
              refine iteF' (by simp; omega) (fin _ (by simp))
          · rw [if_neg (show ¬ decide (z = ("letters" : Str)) = true by simpa using cl)] at fin
            exact iteF' (by simpa using cl) (fin _ rfl)
theorem mk_ex {H : Hp} {p dx : Addr} {u : HO} (hp : H p = none) (hdx : H dx = none) (hne : dx ≠ p) {o : HO} : Ex H (upd (upd H dx u) p o) :=
  fun a v h => by rw [upd_ne (ne_of_none h hp), upd_ne (ne_of_none h hdx)]; exact h
theorem mk_but {H H' : Hp} {p dx : Addr} {u o : HO} (hp : H p = none) (hdx : H dx = none) (hne : dx ≠ p) (k : But p (upd (upd H dx u) p o) H') : Ex H H' :=
  fun a v h => k a v (ne_of_none h hp) (by rw [upd_ne (ne_of_none h hp), upd_ne (ne_of_none h hdx)]; exact h)
theorem mk_back {H : Hp} {p dx a : Addr} {u o v : HO} (hp : H p = none) (hdx : H dx = none) (h : upd (upd H dx u) p o a = some v) (h1 : o ≠ v) (h2 : u ≠ v) : H a = some v := by
  by_cases c : a = p
  · subst c; rw [upd_same] at h; exact absurd (Option.some.inj h) h1
  · rw [upd_ne c] at h
    by_cases c2 : a = dx
    · subst c2; rw [upd_same] at h; exact absurd (Option.some.inj h) h2
    · rw [upd_ne c2] at h; exact h
def spMade (K : PySem.W.Frag) : Sp := fun vs H Q _ => ∃ (way : Int) (x : V), vs = [.int way, x] ∧ AnyV K H x ∧
  ((∀ d n ok, Rd K ok H n x d → specD d = false) → ∀ t H', Ex H H' → H t = none → H' t = some (.tup [.str "spec", x]) → Q (.ref t) H') ∧
  (∀ (sp : Addr) (kd : Knd), x = .ref sp → H sp = some (.tup kd.vals) → kd.Ok → ∀ t H', Ex H H' → H t = none → H' t = some (.tup [.str "done", x]) → Q (.ref t) H')
theorem ok_law_made (T : TK K mg) : FnOk P w K mg base CX0 7 T.law_made.a T.law_made.fd ["way", "spec"] (spMade K) := by
  refine T.law_made.F.ok sc_law_made (fun vs H Q E h => ?_) (fun cdv A outer s H vs Q E hr h => ?_)
  · obtain ⟨way, x, rfl, _⟩ := h; rfl
  obtain ⟨way, x, rfl, av, q1, q2⟩ := h
  refine ⟨_, (pss_one (ps_tryC rfl rfl takes0 (fun W pn xe tk _ => (pss_one (ps_ret (pe_tup (pa_cons pe_str (pa_cons (by exact (pe_fldK K (pe_ifExp (pt_cmpR op_eq (pv 0) pe_int (nomark _)) (by exact (pe_makeX T.mkc (ok_Line_init T.toTL) (hr.mono (by decide)) rfl T.gL T.m_init.b (fun σ => passAt tk σ) (pa_cons (pv 1) pa_nil))) (by exact (pe_makeKX T.mkc (ok_Line_init T.toTL) (hr.mono (by decide)) rfl T.gL T.kb_init_spec (fun σ => passAt tk σ) (pk_cons (pv 1) pk_nil)))) (by rfl))) pa_nil)))))) (ClausesOk.cons (ClauseOk.named (i := 2) sc_law_made.nd rfl rfl ⟨rfl, by decide, Or.inl T.InvalidSpec.gC⟩ (fun a oe cls d pn hz hf => (pss_one (ps_ret (pe_tup (pa_cons pe_str (pa_cons (pe_xf T.InvalidSpec.xf T.InvalidSpec.nf hz hf (pv 2)) pa_nil)))))))
     (ClausesOk.cons (ClauseOk.bare ⟨rfl, by decide, Or.inl T.TalkError_gC⟩ (fun a oe cls d pn hz hf => (pss_one (ps_ret (pe_tup (pa_cons pe_str (pa_cons pe_non pa_nil)))))))
     ClausesOk.nil)))), ?_⟩
  have no' : ∀ {H1 : Hp}, (∀ d n ok, Rd K ok H1 n x d → specD d = false) → Ex H H1 → ∀ d n ok, Rd K ok H n x d → specD d = false := fun h e d n ok r => h d n ok (r.ex e)
  refine ⟨_, rfl, rfl, _, rfl, ite2 (fun _ => ?_) (fun _ => ?_)⟩
  · refine ⟨x, rfl, fun p dx hp hdx hne => ⟨p, dx, x, rfl, upd_same, av.ex (mk_ex hp hdx hne), fun no e H' k he => ?_, fun sp kd es hs ok A H' bp bdx bsp lB nd fr k => ⟨rfl, ?_⟩⟩⟩
    · exact ⟨true, T.eXX, fun _ u hu => ⟨_, rfl, rfl, rfl, e, _, _, rfl, he, rfl, two_le, fun t ht => q1 (no' no (mk_ex hp hdx hne)) t _ ((mk_but hp hdx hne k).trans (Ex.new ht)) (fresh_back (mk_but hp hdx hne k) ht) upd_same⟩, fun z => nomatch z⟩
    · subst bp bsp es
      have hs0 : H A.sp = some (.tup kd.vals) := mk_back hp hdx hs (by intro z; cases z) (by intro z; cases z)
      exact ⟨A.p, T.C, A.dx, _, _, rfl, lB.obj, T.cl, T.n_spec, rfl, two_le, fun t ht => q2 _ kd rfl hs0 ok t _ ((mk_but hp hdx hne k).trans (Ex.new ht)) (fresh_back (mk_but hp hdx hne k) ht) upd_same⟩
  · refine ⟨x, rfl, rfl, fun p dx hp hdx hne => ⟨p, dx, x, rfl, upd_same, av.ex (mk_ex hp hdx hne), fun no e H' k he => ?_, fun sp kd es hs ok A H' bp bdx bsp lB nd fr k => ⟨rfl, ?_⟩⟩⟩
    · exact ⟨true, T.eXX, fun _ u hu => ⟨_, rfl, rfl, rfl, e, _, _, rfl, he, rfl, two_le, fun t ht => q1 (no' no (mk_ex hp hdx hne)) t _ ((mk_but hp hdx hne k).trans (Ex.new ht)) (fresh_back (mk_but hp hdx hne k) ht) upd_same⟩, fun z => nomatch z⟩
    · subst bp bsp es
      have hs0 : H A.sp = some (.tup kd.vals) := mk_back hp hdx hs (by intro z; cases z) (by intro z; cases z)
      exact ⟨A.p, T.C, A.dx, _, _, rfl, lB.obj, T.cl, T.n_spec, rfl, two_le, fun t ht => q2 _ kd rfl hs0 ok t _ ((mk_but hp hdx hne k).trans (Ex.new ht)) (fresh_back (mk_but hp hdx hne k) ht) upd_same⟩
end
end L2.U


set_option Elab.async false
set_option linter.all false
set_option maxRecDepth 100000
set_option maxHeartbeats 4000000
namespace L2.U
open PySem PySem.Spec PyProof.Rows Evl

section
variable {P : Program} {w : World} {K : PySem.W.Frag} {mg : Str → Option Value} {base : Heap}

/-! ## literals of data -/
def okO (o : Addr) (H : Hp) (a : Addr) : Prop := a = o ∨ ∃ vs, H a = some (.tup vs)
def Dg (K : PySem.W.Frag) (o : Addr) (n : Nat) (H : Hp) (x : V) : Prop := ∃ d, Rd K (okO o H) H n x d
theorem okO.ex {o : Addr} {H H' : Hp} (e : Ex H H') : ∀ a, okO o H a → okO o H' a := fun a h => h.imp id fun ⟨vs, h⟩ => ⟨vs, e _ _ h⟩
theorem okO.but {o p : Addr} {H H' : Hp} {xs : List V} (k : But p H H') (hp : H p = some (.lst xs)) (po : p ≠ o) : ∀ a, okO o H a → okO o H' a ∧ a ≠ p := by
  rintro a (rfl | ⟨vs, h⟩)
  · exact ⟨.inl rfl, fun e => po e.symm⟩
  · have n : a ≠ p := fun e => by subst e; rw [hp] at h; cases h
    exact ⟨.inr ⟨vs, k _ _ n h⟩, n⟩
theorem rdO_ex {o : Addr} {H H' : Hp} {n : Nat} {x : V} {d : PyData} (e : Ex H H') (h : Rd K (okO o H) H n x d) : Rd K (okO o H') H' n x d := (h.ex e).of (okO.ex e)
theorem rdO_but {o p : Addr} {H H' : Hp} {xs : List V} {n : Nat} {x : V} {d : PyData} (k : But p H H') (hp : H p = some (.lst xs)) (po : p ≠ o) (h : Rd K (okO o H) H n x d) : Rd K (okO o H') H' n x d :=
  (h.but k fun a ha => (okO.but k hp po a ha).2).of fun a ha => (okO.but k hp po a ha).1
theorem Dg.ex {o : Addr} {n : Nat} {H H' : Hp} {x : V} (h : Dg K o n H x) (e : Ex H H') : Dg K o n H' x := h.imp fun _ h => rdO_ex e h
theorem Dg.but {o p : Addr} {n : Nat} {H H' : Hp} {x : V} {xs : List V} (h : Dg K o n H x) (k : But p H H') (hp : H p = some (.lst xs)) (po : p ≠ o) : Dg K o n H' x := h.imp fun _ h => rdO_but k hp po h
theorem Dg.le {o : Addr} {n m : Nat} {H : Hp} {x : V} (h : Dg K o n H x) (l : n ≤ m) : Dg K o m H x := h.imp fun _ h => h.le l
theorem Dg.int {o : Addr} {n : Nat} {H : Hp} {i : Int} : Dg K o n H (.int i) := ⟨_, .int i⟩
theorem dg_list {o : Addr} {n : Nat} {H : Hp} : ∀ {xs : List V}, (∀ x ∈ xs, Dg K o n H x) → ∃ ds, RdL K (okO o H) H n xs ds
  | [], _ => ⟨[], rfl, fun i x d hx => by cases hx⟩
  | x :: xs, h => by
    obtain ⟨d, hd⟩ := h x (by simp)
    obtain ⟨ds, hl, hs⟩ := dg_list fun z hz => h z (List.mem_cons_of_mem _ hz)
    refine ⟨d :: ds, by simp [hl], fun i y e hy he => ?_⟩
    cases i with
    | zero => cases hy; cases he; exact hd
    | succ i => exact hs i y e hy he
def EvD (K : PySem.W.Frag) (o : Addr) (n : Nat) (ta : TE) (σ : St) (H : Hp) : Prop := ∀ H1, Ex H H1 → ∀ Q : VK, (∀ x H2, Ex H1 H2 → Dg K o n H2 x → Q x H2) → ta σ H1 Q
def EvDA (K : PySem.W.Frag) (o : Addr) (n k : Nat) (t : TA) (σ : St) (H : Hp) : Prop := ∀ H1, Ex H H1 → ∀ Q : List V → Hp → Prop, (∀ xs H2, Ex H1 H2 → xs.length = k → (∀ x ∈ xs, Dg K o n H2 x) → Q xs H2) → t σ H1 Q
section
variable {o : Addr} {n k : Nat} {σ : St} {H : Hp} {ta : TE} {t : TA} {v : V}
theorem ed_c (h : ∀ H, Dg K o n H v) : EvD K o n (tC v) σ H := fun H1 _ _ q => q v H1 (Ex.refl _) (h H1)
theorem ed_int {i : Int} : EvD K o n (tC (.int i)) σ H := ed_c fun _ => ⟨_, .int i⟩
theorem ed_str {z : Str} (h1 : z.length ≤ 1000) (h2 : PyData.strOk z = true) : EvD K o n (tC (.str z)) σ H := ed_c fun _ => ⟨_, .str z h1 h2⟩
theorem ed_v {i : Nat} (hx : σ[i]? = some (some v)) (h : Dg K o n H v) : EvD K o n (tVar i) σ H := fun H1 e _ q => ⟨v, hx, q v H1 (Ex.refl _) (h.ex e)⟩
theorem ed_neg {i : Int} : EvD K o n (tUn (rU fun i => .int (-i)) (tC (.int i))) σ H := fun H1 _ _ q => ⟨i, rfl, q _ H1 (Ex.refl _) ⟨_, .int _⟩⟩
theorem ed_pow {i j : Int} (c : CPow i j) : EvD K o n (tOp (rI CPow fun i j => .int (i ^ j.toNat)) (tC (.int i)) (tC (.int j))) σ H := fun H1 _ _ q => ⟨i, j, rfl, rfl, c, q _ H1 (Ex.refl _) ⟨_, .int _⟩⟩
theorem ea_nil : EvDA K o n 0 tNil σ H := fun H1 _ _ q => q [] H1 (Ex.refl _) rfl (fun x hx => by cases hx)
theorem ea_cons (ha : EvD K o n ta σ H) (hb : EvDA K o n k t σ H) : EvDA K o n (k + 1) (tCons ta t) σ H := fun H1 e _ q =>
  ha H1 e _ fun x H2 e2 hx => hb H2 (e.trans e2) _ fun xs H3 e3 hl hs => q (x :: xs) H3 (e2.trans e3) (by simp [hl]) (fun y hy => by
    rcases List.mem_cons.mp hy with rfl | hy
    · exact hx.ex e3
    · exact hs y hy)
theorem ed_tup0 (hk : k ≤ 900) (ha : EvDA K o n k t σ H) : ∀ H1, Ex H H1 → ∀ Q : VK, (∀ x H2, Ex H1 H2 → (∃ ds, Rd K (okO o H2) H2 (n + 1) x (.tuple ds)) → Q x H2) → tTup t σ H1 Q := fun H1 e _ q =>
  ha H1 e _ fun xs H2 e2 hl hs => ⟨Nat.le_trans (by omega) (show 900 ≤ sizeLine by decide), fun p hp => by
    obtain ⟨ds, hd, hs⟩ := dg_list fun x hx => (hs x hx).ex (Ex.new (o := .tup xs) hp)
    exact q _ _ (e2.trans (Ex.new hp)) ⟨ds, .tup upd_same (.inr ⟨_, upd_same⟩) hd (by omega) hs⟩⟩
theorem ed_tup (hk : k ≤ 900) (ha : EvDA K o n k t σ H) : EvD K o (n + 1) (tTup t) σ H := fun H1 e _ q => ed_tup0 hk ha H1 e _ fun x H2 e2 ⟨ds, h⟩ => q x H2 e2 ⟨_, h⟩
/-- what is asked: data that is no list; a dict; a list of its own -/
def VOk (K : PySem.W.Frag) (o : Addr) (av : Addr → Prop) (c : Nat) (H : Hp) (x : V) : Prop :=
  (∃ d, Rd K (okO o H) H 3 x d ∧ ∀ ds, d ≠ .list ds) ∨ (∃ a kvs, x = .ref a ∧ H a = some (.dK kvs)) ∨ ∃ a ys, x = .ref a ∧ av a ∧ H a = some (.lst ys) ∧ ys.length ≤ c ∧ ∀ y ∈ ys, Dg K o 2 H y
theorem VOk.ex {av : Addr → Prop} {c : Nat} {H H' : Hp} {x : V} (h : VOk K o av c H x) (e : Ex H H') : VOk K o av c H' x := by
  rcases h with ⟨d, h, n⟩ | ⟨a, kvs, rfl, h⟩ | ⟨a, ys, rfl, h1, h2, h3, h4⟩
  · exact .inl ⟨d, rdO_ex e h, n⟩
  · exact .inr (.inl ⟨a, kvs, rfl, e _ _ h⟩)
  · exact .inr (.inr ⟨a, ys, rfl, h1, e _ _ h2, h3, fun y hy => (h4 y hy).ex e⟩)
theorem VOk.av {av av' : Addr → Prop} {c : Nat} {H : Hp} {x : V} (h : VOk K o av c H x) (w : ∀ a ys, H a = some (.lst ys) → av a → av' a) : VOk K o av' c H x := by
  rcases h with h | h | ⟨a, ys, rfl, h1, h2, h3, h4⟩
  · exact .inl h
  · exact .inr (.inl h)
  · exact .inr (.inr ⟨a, ys, rfl, w a ys h2 h1, h2, h3, h4⟩)
theorem VOk.any {av : Addr → Prop} {c : Nat} {H : Hp} {x : V} (h : VOk K o av c H x) (hc : c ≤ 900) : AnyV K H x := by
  rcases h with ⟨d, h, n⟩ | ⟨a, kvs, rfl, h⟩ | ⟨a, ys, rfl, h1, h2, h3, h4⟩
  · exact .inl ⟨d, 3, _, h, by decide⟩
  · exact .inr ⟨a, kvs, rfl, h⟩
  · obtain ⟨ds, hl, hs⟩ := dg_list h4
    exact .inl ⟨.list ds, 3, _, .lst h2 trivial hl (by omega) (fun i x d hx hd => (hs i x d hx hd).of (ok' := fun _ => True) fun _ _ => trivial), by decide⟩
def EvW (K : PySem.W.Frag) (o : Addr) (av : Addr → Prop) (c : Nat) (ta : TE) (σ : St) (H : Hp) : Prop := ∀ H1, Ex H H1 → ∀ Q : VK, (∀ x H2, Ex H1 H2 → VOk K o av c H2 x → Q x H2) → ta σ H1 Q
def EvWA (K : PySem.W.Frag) (o : Addr) (av : Addr → Prop) (c k : Nat) (t : TA) (σ : St) (H : Hp) : Prop := ∀ H1, Ex H H1 → ∀ Q : List V → Hp → Prop, (∀ xs H2, Ex H1 H2 → xs.length = k → (∀ x ∈ xs, VOk K o av c H2 x) → Q xs H2) → t σ H1 Q
variable {av : Addr → Prop} {c : Nat}
theorem ew_c (h : ∃ d, (∀ H, Rd K (okO o H) H 3 v d) ∧ ∀ ds, d ≠ .list ds) : EvW K o av c (tC v) σ H := fun H1 _ _ q => q v H1 (Ex.refl _) (.inl (h.imp fun _ h => ⟨h.1 H1, h.2⟩))
theorem ew_int {i : Int} : EvW K o av c (tC (.int i)) σ H := ew_c ⟨_, fun _ => .int i, fun _ z => by cases z⟩
theorem ew_non : EvW K o av c (tC .non) σ H := ew_c ⟨_, fun _ => .non, fun _ z => by cases z⟩
theorem ew_bl {b : Bool} : EvW K o av c (tC (.bl b)) σ H := ew_c ⟨_, fun _ => .bl b, fun _ z => by cases z⟩
theorem ew_str {z : Str} (h1 : z.length ≤ 1000) (h2 : PyData.strOk z = true) : EvW K o av c (tC (.str z)) σ H := ew_c ⟨_, fun _ => .str z h1 h2, fun _ z => by cases z⟩
theorem ew_tup (hk : k ≤ 900) (ha : EvDA K o 2 k t σ H) : EvW K o av c (tTup t) σ H := fun H1 e _ q => ed_tup0 hk ha H1 e _ fun x H2 e2 ⟨ds, h⟩ => q x H2 e2 (.inl ⟨_, h, fun _ z => by cases z⟩)
theorem ew_lst (hk : k ≤ c) (hc : c ≤ 900) (hav : ∀ H1 a, Ex H H1 → H1 a = none → av a) (ha : EvDA K o 2 k t σ H) : EvW K o av c (tLst t) σ H := fun H1 e _ q =>
  ha H1 e _ fun xs H2 e2 hl hs => ⟨Nat.le_trans (by omega) (show 900 ≤ sizeLine by decide), fun p hp => q _ _ (e2.trans (Ex.new hp)) (.inr (.inr ⟨p, xs, rfl, hav H2 p (e.trans e2) hp, upd_same, by omega, fun y hy => (hs y hy).ex (Ex.new hp)⟩))⟩
theorem ew_dict : EvW K o av c tDNewK σ H := fun H1 _ _ q p hp => q _ _ (Ex.new hp) (.inr (.inl ⟨p, [], rfl, upd_same⟩))
theorem ewa_nil : EvWA K o av c 0 tNil σ H := fun H1 _ _ q => q [] H1 (Ex.refl _) rfl (fun x hx => by cases hx)
theorem ewa_cons (ha : EvW K o av c ta σ H) (hb : EvWA K o av c k t σ H) : EvWA K o av c (k + 1) (tCons ta t) σ H := fun H1 e _ q =>
  ha H1 e _ fun x H2 e2 hx => hb H2 (e.trans e2) _ fun xs H3 e3 hl hs => q (x :: xs) H3 (e2.trans e3) (by simp [hl]) (fun y hy => by
    rcases List.mem_cons.mp hy with rfl | hy
    · exact hx.ex e3
    · exact hs y hy)
theorem st_lst {i : Nat} {D : Ends} {rest : TS} (h : EvWA K o av c k t σ H) (hk : k ≤ 100)
    (q : ∀ z xs H', Ex H H' → H z = none → H' z = some (.lst xs) → xs.length = k → (∀ x ∈ xs, VOk K o (fun a => av a ∧ a ≠ z) c H' x) → rest D (σ.set i (some (.ref z))) H') : tSeq (tAsg (tLst t) (gName i)) rest D σ H :=
  h H (Ex.refl H) _ fun xs H2 e2 hl hs => ⟨Nat.le_trans (by omega) (show 100 ≤ sizeLine by decide), fun z hz => q z xs _ (e2.trans (Ex.new hz)) (fresh_back e2 hz) upd_same hl fun x hx =>
    ((hs x hx).av (av' := fun a => av a ∧ a ≠ z) fun a ys ha h => ⟨h, ne_of_none ha hz⟩).ex (Ex.new hz)⟩
theorem st_cat {i : Nat} {D : Ends} {rest : TS} {z0 : Addr} {xs0 : List V} (h : EvWA K o av c k t σ H) (hv : σ[i]? = some (some (.ref z0))) (hz : H z0 = some (.lst xs0)) (h0 : ∀ x ∈ xs0, VOk K o av c H x) (hk : xs0.length + k ≤ 100)
    (q : ∀ z xs H', Ex H H' → H z = none → H' z = some (.lst xs) → xs.length = xs0.length + k → (∀ x ∈ xs, VOk K o (fun a => av a ∧ a ≠ z) c H' x) → rest D (σ.set i (some (.ref z))) H') : tSeq (tAsg (tOp rCat (tVar i) (tLst t)) (gName i)) rest D σ H :=
  ⟨_, hv, h H (Ex.refl H) _ fun xs H2 e2 hl hs => ⟨Nat.le_trans (by omega) (show 100 ≤ sizeLine by decide), fun b hb => ⟨z0, b, xs0, xs, rfl, rfl, (Ex.new hb) _ _ (e2 _ _ hz), upd_same, Nat.le_trans (by omega) (show 100 ≤ sizeLine by decide), fun z hz' => by
    have e3 : Ex H (upd H2 b (.lst xs)) := e2.trans (Ex.new hb)
    refine q z _ _ (e3.trans (Ex.new hz')) (fresh_back e3 hz') upd_same (by simp [hl]) fun x hx => ?_
    have h1 : VOk K o av c (upd H2 b (.lst xs)) x := by
      rcases List.mem_append.mp hx with hx | hx
      · exact (h0 x hx).ex e3
      · exact (hs x hx).ex (Ex.new hb)
    exact (h1.av (av' := fun a => av a ∧ a ≠ z) fun a ys ha h => ⟨h, ne_of_none ha hz'⟩).ex (Ex.new hz')⟩⟩⟩
end
end
end L2.U


set_option Elab.async false
set_option linter.all false
set_option maxRecDepth 100000
set_option maxHeartbeats 4000000
namespace L2.U
open PySem PySem.Spec PyProof.Rows Evl

section
variable {P : Program} {w : World} {K : PySem.W.Frag} {mg : Str → Option Value} {base : Heap}

theorem isi_dict {ok : Addr → Prop} {H : Hp} {n : Nat} {x : V} {d : PyData} (h : Rd K ok H n x d) : ∃ t, TyX K H x t ∧ PySem.W.kitOne K t (.type "dict") = some false := by
  cases h with
  | non => exact ⟨_, .base .non, kit_ty (by decide +kernel)⟩
  | bl b => exact ⟨_, .base (.bl b), kit_ty (by decide +kernel)⟩
  | int i => exact ⟨_, .base (.int i), kit_ty (by decide +kernel)⟩
  | str z _ _ => exact ⟨_, .base (.str z), kit_ty (by decide +kernel)⟩
  | lst h1 => exact ⟨_, .base (.lst h1), kit_ty (by decide +kernel)⟩
  | tup h1 => exact ⟨_, .base (.tup h1), kit_ty (by decide +kernel)⟩
theorem isi_list {ok : Addr → Prop} {H : Hp} {n : Nat} {x : V} {d : PyData} (h : Rd K ok H n x d) (nl : ∀ ds, d ≠ .list ds) : ∃ t, TyX K H x t ∧ PySem.W.kitOne K t (.type "list") = some false := by
  cases h with
  | non => exact ⟨_, .base .non, kit_ty (by decide +kernel)⟩
  | bl b => exact ⟨_, .base (.bl b), kit_ty (by decide +kernel)⟩
  | int i => exact ⟨_, .base (.int i), kit_ty (by decide +kernel)⟩
  | str z _ _ => exact ⟨_, .base (.str z), kit_ty (by decide +kernel)⟩
  | lst h1 => exact absurd rfl (nl _)
  | tup h1 => exact ⟨_, .base (.tup h1), kit_ty (by decide +kernel)⟩
theorem sm_pair {H : Hp} {t u : Addr} {w : Str} {x : V} (ht : H t = some (.tup [.str w, x])) (hu : H u = some (.tup [.str w, x])) (hw : w.length ≤ 1000) (h : Sm K H 3 x x) : Sm K H 8 (.ref t) (.ref u) := by
  have h4 : Sm K H 7 x x := (((h.succ).succ).succ).succ
  refine .tup (SqT.of ht) (SqT.of hu) rfl (by show 2 ≤ 1000; decide) fun i a b ha hb => ?_
  match i, ha, hb with
  | 0, ha, hb => cases ha; cases hb; exact .str w hw
  | 1, ha, hb => cases ha; cases hb; exact h4
theorem spec_one {H H1 : Hp} {x : V} {b1 b2 : Bool} (e : Ex H H1) (h1 : b1 = true → ∃ (sp : Addr) (kd : Knd), x = .ref sp ∧ H sp = some (.tup kd.vals) ∧ kd.Ok) (n1 : b1 = false → ∀ d n ok, Rd K ok H n x d → specD d = false)
    (h2 : b2 = true → ∃ (sp : Addr) (kd : Knd), x = .ref sp ∧ H1 sp = some (.tup kd.vals) ∧ kd.Ok) (n2 : b2 = false → ∀ d n ok, Rd K ok H1 n x d → specD d = false) (av : AnyV K H x) : b2 = b1 := by
  cases b1 with
  | true =>
    obtain ⟨sp, kd, rfl, hs, hk⟩ := h1 rfl
    obtain ⟨d, rd, sd⟩ := knd_rd (K := K) (e _ _ hs) hk
    cases b2 with
    | true => rfl
    | false => exact absurd (n2 rfl _ _ _ rd) (by rw [sd]; decide)
  | false =>
    cases b2 with
    | false => rfl
    | true =>
      obtain ⟨sp, kd, rfl, hs, hk⟩ := h2 rfl
      rcases av with ⟨d, n, ok, rd, _⟩ | ⟨a, kvs, ea, ha⟩
      · have hd := n1 rfl _ _ _ rd
        obtain ⟨d', rd', sd'⟩ := knd_rd (K := K) hs hk
        rw [(rd.ex e).det rd', sd'] at hd
        cases hd
      · cases ea
        rw [e _ _ ha] at hs
        cases hs
theorem VOk.le {o : Addr} {av : Addr → Prop} {c c' : Nat} {H : Hp} {x : V} (h : VOk K o av c H x) (l : c ≤ c') : VOk K o av c' H x := by
  rcases h with h | h | ⟨a, ys, rfl, h1, h2, h3, h4⟩
  · exact .inl h
  · exact .inr (.inl h)
  · exact .inr (.inr ⟨a, ys, rfl, h1, h2, Nat.le_trans h3 l, h4⟩)
theorem VOk.mut {o a : Addr} {av : Addr → Prop} {c : Nat} {H : Hp} {x : V} {ys zs : List V} (h : VOk K o av c H x) (ha : H a = some (.lst ys)) (ao : a ≠ o) (hl : zs.length ≤ c + 1) (hs : ∀ y ∈ zs, Dg K o 2 (upd H a (.lst zs)) y) : VOk K o av (c + 1) (upd H a (.lst zs)) x := by
  have k : But a H (upd H a (.lst zs)) := But.upd
  rcases h with ⟨d, h, n⟩ | ⟨b, kvs, rfl, h⟩ | ⟨b, us, rfl, h1, h2, h3, h4⟩
  · exact .inl ⟨d, rdO_but k ha ao h, n⟩
  · exact .inr (.inl ⟨b, kvs, rfl, k _ _ (fun e => by subst e; rw [ha] at h; cases h) h⟩)
  · by_cases e : b = a
    · subst e
      exact .inr (.inr ⟨b, zs, rfl, h1, upd_same, hl, hs⟩)
    · exact .inr (.inr ⟨b, us, rfl, h1, k _ _ e h2, by omega, fun y hy => (h4 y hy).but k ha ao⟩)
def spSR : Sp := fun vs H Q _ => ∃ (p : Addr) (named : Int) (n : Nat), vs = [.ref p, .int named] ∧ BoxAt H p (n + 5) ∧ ∀ H', But p H H' → BoxAt H' p n → Q (.bl true) H'
theorem ok_law_specs_right (T : TK K mg) : FnOk P w K mg base CX0 11 T.law_specs_right.a T.law_specs_right.fd ["box", "named"] spSR := by
  refine T.law_specs_right.F.ok sc_law_specs_right (fun vs H Q E h => ?_) (fun cdv A outer s H vs Q E hr h => ?_)
  · obtain ⟨p, named, n, rfl, _⟩ := h; rfl
  obtain ⟨p, named, n, rfl, bx, q⟩ := h
  refine ⟨_, (pss_cons (ps_par3 (i := 2) (j := 3) (l := 4) (by rfl) sc_law_specs_right.nd rfl rfl rfl (by decide) (by decide) (by decide) rfl rfl rfl (pa_cons (pe_op op_sub (pe_call (ok_law_take T.toTA1) (hr.mono (by decide)) rfl T.law_take.m T.law_take.F.kp T.law_take.b .nil pass0 (pa_cons (pv 0) (pa_cons pe_int pa_nil))) pe_int) (pa_cons (pe_op op_sub (pe_call (ok_law_take T.toTA1) (hr.mono (by decide)) rfl T.law_take.m T.law_take.F.kp T.law_take.b .nil pass0 (pa_cons (pv 0) (pa_cons pe_int pa_nil))) pe_int) (pa_cons (pe_op op_sub (pe_call (ok_law_take T.toTA1) (hr.mono (by decide)) rfl T.law_take.m T.law_take.F.kp T.law_take.b .nil pass0 (pa_cons (pv 0) (pa_cons pe_int pa_nil))) pe_int) pa_nil))) (by rfl))
    (pss_cons (ps_set (i := 5) sc_law_specs_right.nd rfl (Or.inl rfl) (pe_ix (kixl K) (pe_lst (pa_cons pe_bl (pa_cons pe_bl (pa_cons pe_non (pa_cons pe_str (pa_cons (pe_tup (pa_cons pe_int pa_nil)) (pa_cons (pe_lst (pa_cons pe_int pa_nil)) (pa_cons (pe_op op_pow pe_int pe_int) (pa_cons (pe_un un_neg (pe_op op_pow pe_int pe_int)) pa_nil))))))))) (pe_call (ok_law_take T.toTA1) (hr.mono (by decide)) rfl T.law_take.m T.law_take.F.kp T.law_take.b .nil pass0 (pa_cons (pv 0) (pa_cons pe_int pa_nil))) (fun _ _ => rfl)))
    (pss_cons (ps_set (i := 6) sc_law_specs_right.nd rfl (Or.inl rfl) (pe_ix (kixl K) (pe_lst (pa_cons pe_str (pa_cons pe_str (pa_cons pe_str (pa_cons pe_str (pa_cons pe_str (pa_cons pe_str (pa_cons pe_str pa_nil)))))))) (pe_call (ok_law_take T.toTA1) (hr.mono (by decide)) rfl T.law_take.m T.law_take.F.kp T.law_take.b .nil pass0 (pa_cons (pv 0) (pa_cons pe_int pa_nil))) (fun _ _ => rfl)))
    (pss_cons (ps_set (i := 7) sc_law_specs_right.nd rfl (Or.inl rfl) (pe_lst (pa_cons (pe_tup (pa_cons pe_str (pa_cons (pv 2) (pa_cons (pv 3) pa_nil)))) (pa_cons (pe_tup (pa_cons pe_str (pa_cons (pv 3) (pa_cons (pv 2) pa_nil)))) (pa_cons (pe_tup (pa_cons pe_str (pa_cons (pv 4) pa_nil))) (pa_cons (pe_tup (pa_cons pe_str (pa_cons pe_int (pa_cons pe_int pa_nil)))) (pa_cons (pe_tup (pa_cons pe_str (pa_cons pe_int (pa_cons pe_int pa_nil)))) (pa_cons (pe_tup (pa_cons pe_str (pa_cons pe_int (pa_cons pe_int pa_nil)))) (pa_cons (pe_tup (pa_cons pe_str (pa_cons pe_int pa_nil))) pa_nil)))))))))
    (pss_cons (ps_set (i := 7) sc_law_specs_right.nd rfl (Or.inl rfl) (pe_op op_cat (pv 7) (pe_lst (pa_cons (pe_tup (pa_cons pe_str (pa_cons pe_int pa_nil))) (pa_cons (pe_tup (pa_cons pe_str (pa_cons (pe_un un_neg pe_int) pa_nil))) (pa_cons (pe_tup (pa_cons pe_str (pa_cons (pe_un un_neg pe_int) (pa_cons pe_int pa_nil)))) (pa_cons (pe_tup (pa_cons pe_str (pa_cons pe_int (pa_cons (pe_un un_neg pe_int) pa_nil)))) (pa_cons (pe_tup (pa_cons pe_str (pa_cons pe_int (pa_cons pe_int pa_nil)))) (pa_cons (pe_tup (pa_cons pe_str (pa_cons pe_int pa_nil))) (pa_cons (pe_tup (pa_cons pe_str (pa_cons (pv 5) (pa_cons pe_int pa_nil)))) pa_nil))))))))))
    (pss_cons (ps_set (i := 7) sc_law_specs_right.nd rfl (Or.inl rfl) (pe_op op_cat (pv 7) (pe_lst (pa_cons (pe_tup (pa_cons pe_str (pa_cons pe_int (pa_cons (pv 5) pa_nil)))) (pa_cons (pe_tup (pa_cons pe_str (pa_cons (pv 5) pa_nil))) (pa_cons (pe_tup (pa_cons (pv 6) (pa_cons pe_int (pa_cons pe_int pa_nil)))) (pa_cons (pe_tup (pa_cons (pv 6) (pa_cons pe_int pa_nil))) (pa_cons (pe_lst (pa_cons pe_str (pa_cons pe_int (pa_cons pe_int pa_nil)))) (pa_cons (pe_lst (pa_cons pe_str (pa_cons pe_int pa_nil))) (pa_cons (pe_tup (pa_cons pe_str (pa_cons pe_int pa_nil))) (pa_cons (pe_tup (pa_cons pe_str (pa_cons pe_int (pa_cons pe_int pa_nil)))) pa_nil)))))))))))
    (pss_cons (ps_set (i := 7) sc_law_specs_right.nd rfl (Or.inl rfl) (pe_op op_cat (pv 7) (pe_lst (pa_cons (pe_tup (pa_cons pe_str (pa_cons pe_int (pa_cons pe_int (pa_cons pe_int pa_nil))))) (pa_cons (pe_tup (pa_cons pe_str pa_nil)) (pa_cons (pe_tup (pa_cons pe_str pa_nil)) (pa_cons (pe_tup pa_nil) (pa_cons (pe_lst pa_nil) (pa_cons pe_non (pa_cons pe_int (pa_cons pe_str (pa_cons pe_str (pa_cons pe_dnewK (pa_cons (pe_tup (pa_cons (pv 5) (pa_cons pe_int (pa_cons pe_int pa_nil)))) (pa_cons (pe_tup (pa_cons (pv 5) (pa_cons pe_int pa_nil))) (pa_cons (pe_tup (pa_cons pe_str (pa_cons (pe_tup (pa_cons pe_int (pa_cons pe_int pa_nil))) pa_nil))) pa_nil))))))))))))))))
    (pss_cons (ps_set (i := 7) sc_law_specs_right.nd rfl (Or.inl rfl) (pe_op op_cat (pv 7) (pe_lst (pa_cons (pe_tup (pa_cons pe_str (pa_cons (pe_op op_pow pe_int pe_int) pa_nil))) (pa_cons (pe_tup (pa_cons (pe_tup (pa_cons pe_str (pa_cons pe_int pa_nil))) pa_nil)) (pa_cons (pe_tup (pa_cons pe_str (pa_cons pe_str pa_nil))) (pa_cons (pe_callTy (call_dictP rfl) (by rfl) T.z_dict (by decide +kernel) (pa_cons (pe_lst (pa_cons (pe_tup (pa_cons pe_str (pa_cons pe_int pa_nil))) pa_nil)) pa_nil)) (pa_cons pe_bl pa_nil))))))))
    (pss_cons (ps_for PassesOwn.never rfl (pi_range1 rfl T.z_range (pa_cons (pe_callB (klen K) (by rfl) T.z_len (by decide +kernel) (pa_cons (pv 7) pa_nil)) pa_nil)) (pg_name (i := 8) sc_law_specs_right.nd rfl (Or.inl rfl)) (pss_cons (ps_par (i := 9) (j := 10) (by rfl) sc_law_specs_right.nd rfl rfl (by decide) rfl rfl (pa_cons (pe_op op_mod (pe_callTy call_int1 (by rfl) T.z_int (by decide +kernel) (pa_cons (pe_op op_add (pv 8) (pv 1)) pa_nil)) pe_int) (pa_cons (pe_ix (kixl K) (pv 7) (pv 8) (fun _ _ => rfl)) pa_nil)) (by rfl))
    (pss_cons (ps_set (i := 11) sc_law_specs_right.nd rfl (Or.inl rfl) (pe_call (ok_law_is_spec T) (hr.mono (by decide)) rfl T.law_is_spec.m T.law_is_spec.F.kp T.law_is_spec.b .nil pass0 (pa_cons (pv 10) pa_nil)))
    (pss_cons (ps_if (pt_not (pt_val (pe_call (ok_law_same T.toTA1) (hr.mono (by decide)) rfl T.law_same.m T.law_same.F.kp T.law_same.b .nil pass0 (pa_cons (pe_ifExp (pt_cmpR op_eq (pv 9) pe_int (nomark _)) (pe_call (ok_is_spec T.toTL) (hr.mono (by decide)) rfl T.is_spec.m T.is_spec.F.kp T.is_spec.b .nil pass0 (pa_cons (pv 10) pa_nil)) (by exact (pe_callKw (ok_is_spec T.toTL) (hr.mono (by decide)) rfl T.is_spec.m T.is_spec.F.kp T.kb_is_spec_value (fun σ => pass0At) (pk_cons (pv 10) pk_nil)))) (pa_cons (pv 11) pa_nil))))) (pss_one (ps_ret pe_bl)) pss_nil)
    (pss_cons (ps_set (i := 12) sc_law_specs_right.nd rfl (Or.inl rfl) (pe_call (ok_law_made T) (hr.mono (by decide)) rfl T.law_made.m T.law_made.F.kp T.law_made.b .nil pass0 (pa_cons (pv 9) (pa_cons (pv 10) pa_nil))))
    (pss_cons (ps_if (pt_val (pe_callB (kisi K) (by rfl) T.z_isinstance (by decide +kernel) (pa_cons (pv 10) (pa_cons (pe_bltn (v := .ty "dict") rfl T.z_dict (by decide +kernel) rfl) pa_nil)))) (pss_one (ps_if (PW.pt (pw_or (pt_cmpR op_ne (pe_ix (kixt K) (pv 12) pe_int (fun _ _ => rfl)) pe_str (nomark _)) (pw_or1 (pt_not (pt_val (pe_callB (kisi K) (by rfl) T.z_isinstance (by decide +kernel) (pa_cons (pe_ix (kixt K) (pv 12) pe_int (fun _ _ => rfl)) (pa_cons (pe_bltn (v := .ty "dict") rfl T.z_dict (by decide +kernel) rfl) pa_nil)))))))) (pss_one (ps_ret pe_bl)) pss_nil)) (pss_one (ps_if (pt_not (pt_val (pe_call (ok_law_same T.toTA1) (hr.mono (by decide)) rfl T.law_same.m T.law_same.F.kp T.law_same.b .nil pass0 (pa_cons (pv 12) (pa_cons (pe_tup (pa_cons (pe_ifExp (pt_val (pv 11)) pe_str pe_str) (pa_cons (pv 10) pa_nil))) pa_nil))))) (pss_one (ps_ret pe_bl)) pss_nil)))
    (pss_one (ps_if (pt_val (pe_callB (kisi K) (by rfl) T.z_isinstance (by decide +kernel) (pa_cons (pv 10) (pa_cons (pe_bltn (v := .ty "list") rfl T.z_list (by decide +kernel) rfl) pa_nil)))) (pss_cons (ps_expr (pe_bm PySem.F.plainAttrs_list PySem.F.slot_list_append PySem.F.type_list_append mt_append (pv 10) (pa_cons pe_str pa_nil)))
    (pss_one (ps_if (pt_not (pt_val (pe_call (ok_law_same T.toTA1) (hr.mono (by decide)) rfl T.law_same.m T.law_same.F.kp T.law_same.b .nil pass0 (pa_cons (pe_ix (kixt K) (pv 12) pe_int (fun _ _ => rfl)) (pa_cons (pv 10) pa_nil))))) (pss_one (ps_ret pe_bl)) pss_nil))) pss_nil))))))))
    (pss_one (ps_ret pe_bl))))))))))), ?_⟩
  refine ⟨_, rfl, p, 10, n + 4, rfl, by decide, by decide, bx, fun m H1 _ _ bx1 k1 => ⟨m, 1, rfl, rfl, _, rfl, p, 11, n + 3, rfl, by decide, by decide, bx1, fun b H2 _ _ bx2 k2 => ⟨b, 1, rfl, rfl, _, rfl, p, 13, n + 2, rfl, by decide, by decide, bx2, fun many H3 _ _ bx3 k3 => ⟨many, 1, rfl, rfl, _, _, _, rfl, ?_⟩⟩⟩⟩
  have k03 : But p H H3 := (k1.trans k2).trans k3
  refine ⟨by decide, fun t1 ht1 => ⟨by decide, fun o ho => ⟨10, 39, rfl, rfl, by unfold CPow; decide, 10, 39, rfl, rfl, by unfold CPow; decide, _, rfl, (by show 8 ≤ sizeLine; decide), fun z hz => ⟨_, rfl, p, 8, n + 1, rfl, by decide, by decide, ?_, fun r H4 hr0 hr1 bx4 k4 => ?_⟩⟩⟩⟩
  · exact bx3.ex (((Ex.new ht1).trans (Ex.new ho)).trans (Ex.new hz))
  obtain ⟨bo, hbo⟩ := bx3.some
  have y1 : t1 ≠ p := (ne_of_none hbo ht1).symm
  have yo : o ≠ p := (ne_of_none ((Ex.new ht1) _ _ hbo) ho).symm
  have yz : z ≠ p := (ne_of_none ((Ex.new ho) _ _ ((Ex.new ht1) _ _ hbo)) hz).symm
  have xz := k4 z _ yz upd_same
  have xo : H4 o = some (.lst [.int 3]) := k4 o _ yo ((Ex.new hz) _ _ upd_same)
  have x1 : H4 t1 = some (.tup [.int 3]) := k4 t1 _ y1 ((Ex.new hz) _ _ ((Ex.new ho) _ _ upd_same))
  have k04 : But p H H4 := k03.trans (But.pre (((Ex.new ht1).trans (Ex.new ho)).trans (Ex.new hz)) k4)
  clear k4 hz ht1
  obtain ⟨ds3, hl3, hs3⟩ := dg_list (K := K) (o := o) (n := 0) (H := H4) (xs := [.int 3]) (fun x hx => by rw [List.mem_singleton] at hx; subst hx; exact Dg.int)
  obtain ⟨odd, hat, hodd⟩ : ∃ x, atI [V.bl true, V.bl false, V.non, V.str "3", V.ref t1, V.ref o, V.int (10 ^ (39 : Int).toNat), V.int (-(10 ^ (39 : Int).toNat))] r = some x ∧ Dg K o 1 H4 x := by
    rcases (by omega : r = 0 ∨ r = 1 ∨ r = 2 ∨ r = 3 ∨ r = 4 ∨ r = 5 ∨ r = 6 ∨ r = 7) with rfl | rfl | rfl | rfl | rfl | rfl | rfl | rfl
    · exact ⟨_, rfl, _, .bl _⟩
    · exact ⟨_, rfl, _, .bl _⟩
    · exact ⟨_, rfl, _, .non⟩
    · exact ⟨_, rfl, _, .str _ (by decide +kernel) (by decide +kernel)⟩
    · exact ⟨_, rfl, _, .tup x1 (.inr ⟨_, x1⟩) hl3 (by decide) hs3⟩
    · exact ⟨_, rfl, _, .lst xo (.inl rfl) hl3 (by decide) hs3⟩
    · exact ⟨_, rfl, _, .int _⟩
    · exact ⟨_, rfl, _, .int _⟩
  refine ⟨z, _, r, odd, rfl, rfl, SqL.of xz, hat, ?_⟩
  refine ⟨(by show 7 ≤ sizeLine; decide), fun z2 hz2 => ⟨_, rfl, p, 7, n, rfl, by decide, by decide, bx4.ex (Ex.new hz2), fun r2 H5 hr20 hr21 bx5 k5 => ?_⟩⟩
  obtain ⟨bo4, hbo4⟩ := bx4.some
  have yz2 : z2 ≠ p := (ne_of_none hbo4 hz2).symm
  have xz2 := k5 z2 _ yz2 upd_same
  obtain ⟨word, hat2, hw1, hw2⟩ : ∃ x : Str, atI [V.str "letter", V.str "wire", V.str "Letters", V.str "", V.str " wires", V.str "lettersx", V.str "kinds"] r2 = some (.str x) ∧ x.length ≤ 1000 ∧ PyData.strOk x = true := by
    rcases (by omega : r2 = 0 ∨ r2 = 1 ∨ r2 = 2 ∨ r2 = 3 ∨ r2 = 4 ∨ r2 = 5 ∨ r2 = 6) with rfl | rfl | rfl | rfl | rfl | rfl | rfl <;> exact ⟨_, rfl, by decide +kernel, by decide +kernel⟩
  refine ⟨z2, _, r2, .str word, rfl, rfl, SqL.of xz2, hat2, ?_⟩
  have hword : ∀ {m : Nat} {H : Hp}, Dg K o m H (.str word) := ⟨_, .str _ hw1 hw2⟩
  have x5o : H5 o = some (.lst [.int 3]) := k5 o _ yo ((Ex.new hz2) _ _ xo)
  have k05 : But p H H5 := k04.trans (But.pre (Ex.new hz2) k5)
  have hodd5 : Dg K o 1 H5 odd := by
    obtain ⟨d, m, c, f, hb, _⟩ := bx4
    exact (hodd.ex (Ex.new hz2)).but k5 ((Ex.new hz2) _ _ hb) yo.symm
  clear k5 hz2 xz2 xz x1 xo hs3 hl3
  replace hodd := hodd5
  clear hodd5
  obtain ⟨bo5, hbo5⟩ := bx5.some
  obtain ⟨bo0, hbo0⟩ := bx.some
  have hav : ∀ H1 a, Ex H5 H1 → H1 a = none → H a = none ∧ a ≠ o ∧ a ≠ p := fun H1 a e h => by
    have ap : a ≠ p := (ne_of_none (e _ _ hbo5) h).symm
    exact ⟨k05.none hbo0 (fresh_back e h) ap, (ne_of_none (e _ _ x5o) h).symm, ap⟩
  obtain ⟨av0, hav0⟩ : ∃ av : Addr → Prop, av = fun a => H a = none ∧ a ≠ o ∧ a ≠ p := ⟨_, rfl⟩
  rw [show (∀ H1 a, Ex H5 H1 → H1 a = none → H a = none ∧ a ≠ o ∧ a ≠ p) = ∀ H1 a, Ex H5 H1 → H1 a = none → av0 a by rw [hav0]] at hav
  change (fun (v : V) (σ : St) (H : Hp) (Q : St → Hp → Prop) => Q (σ.set 6 (some v)) H) _ _ _ _
  dsimp only
  refine st_lst (K := K) (o := o) (av := av0) (c := 5) (k := 7) (by (repeat' (first | exact ewa_nil | exact ea_nil | apply ewa_cons | apply ea_cons | exact ew_int | exact ew_non | exact ew_bl | exact ew_str (by decide +kernel) (by decide +kernel) | exact ew_dict | exact hav | apply ew_lst | apply ew_tup | apply ed_tup | exact ed_int | exact ed_str (by decide +kernel) (by decide +kernel) | exact ed_neg | exact ed_pow (by unfold CPow; decide) | exact ed_v rfl Dg.int | exact ed_v rfl (hodd.le (by decide)) | exact ed_v rfl hword)) <;> decide) (by decide) fun z7 xs7 H7 e7 f7 h7 l7 v7 => ?_
  have bx7 := bx5.ex e7
  replace hodd := hodd.ex e7
  have hav7 : ∀ H1 a, Ex H7 H1 → H1 a = none → av0 a ∧ a ≠ z7 := fun H1 a e h => ⟨hav H1 a (e7.trans e) h, (ne_of_none (e _ _ h7) h).symm⟩
  clear hav
  have hav := hav7
  refine st_cat (K := K) (o := o) (av := fun a => av0 a ∧ a ≠ z7) (c := 5) (k := 7) (by (repeat' (first | exact ewa_nil | exact ea_nil | apply ewa_cons | apply ea_cons | exact ew_int | exact ew_non | exact ew_bl | exact ew_str (by decide +kernel) (by decide +kernel) | exact ew_dict | exact hav | apply ew_lst | apply ew_tup | apply ed_tup | exact ed_int | exact ed_str (by decide +kernel) (by decide +kernel) | exact ed_neg | exact ed_pow (by unfold CPow; decide) | exact ed_v rfl Dg.int | exact ed_v rfl (hodd.le (by decide)) | exact ed_v rfl hword)) <;> decide) rfl h7 v7 (by omega) fun z8 xs8 H8 e8 f8 h8 l8 v8 => ?_
  have bx8 := bx7.ex e8
  replace hodd := hodd.ex e8
  clear hav
  have hav8 : ∀ H1 a, Ex H8 H1 → H1 a = none → (fun a => av0 a ∧ a ≠ z7) a ∧ a ≠ z8 := fun H1 a e h => ⟨hav7 H1 a (e8.trans e) h, (ne_of_none (e _ _ h8) h).symm⟩
  clear hav7
  have hav := hav8
  refine st_cat (K := K) (o := o) (av := fun a => (fun a => av0 a ∧ a ≠ z7) a ∧ a ≠ z8) (c := 5) (k := 8) (by (repeat' (first | exact ewa_nil | exact ea_nil | apply ewa_cons | apply ea_cons | exact ew_int | exact ew_non | exact ew_bl | exact ew_str (by decide +kernel) (by decide +kernel) | exact ew_dict | exact hav | apply ew_lst | apply ew_tup | apply ed_tup | exact ed_int | exact ed_str (by decide +kernel) (by decide +kernel) | exact ed_neg | exact ed_pow (by unfold CPow; decide) | exact ed_v rfl Dg.int | exact ed_v rfl (hodd.le (by decide)) | exact ed_v rfl hword)) <;> decide) rfl h8 v8 (by omega) fun z9 xs9 H9 e9 f9 h9 l9 v9 => ?_
  have bx9 := bx8.ex e9
  replace hodd := hodd.ex e9
  clear hav
  have hav9 : ∀ H1 a, Ex H9 H1 → H1 a = none → (fun a => (fun a => av0 a ∧ a ≠ z7) a ∧ a ≠ z8) a ∧ a ≠ z9 := fun H1 a e h => ⟨hav8 H1 a (e9.trans e) h, (ne_of_none (e _ _ h9) h).symm⟩
  clear hav8
  have hav := hav9
  refine st_cat (K := K) (o := o) (av := fun a => (fun a => (fun a => av0 a ∧ a ≠ z7) a ∧ a ≠ z8) a ∧ a ≠ z9) (c := 5) (k := 13) (by (repeat' (first | exact ewa_nil | exact ea_nil | apply ewa_cons | apply ea_cons | exact ew_int | exact ew_non | exact ew_bl | exact ew_str (by decide +kernel) (by decide +kernel) | exact ew_dict | exact hav | apply ew_lst | apply ew_tup | apply ed_tup | exact ed_int | exact ed_str (by decide +kernel) (by decide +kernel) | exact ed_neg | exact ed_pow (by unfold CPow; decide) | exact ed_v rfl Dg.int | exact ed_v rfl (hodd.le (by decide)) | exact ed_v rfl hword)) <;> decide) rfl h9 v9 (by omega) fun z10 xs10 H10 e10 f10 h10 l10 v10 => ?_
  have bx10 := bx9.ex e10
  replace hodd := hodd.ex e10
  clear hav
  have hav10 : ∀ H1 a, Ex H10 H1 → H1 a = none → (fun a => (fun a => (fun a => av0 a ∧ a ≠ z7) a ∧ a ≠ z8) a ∧ a ≠ z9) a ∧ a ≠ z10 := fun H1 a e h => ⟨hav9 H1 a (e10.trans e) h, (ne_of_none (e _ _ h10) h).symm⟩
  clear hav9
  have ew_dp : ∀ {av : Addr → Prop} {c : Nat} {σ : St} {H : Hp}, EvW K o av c (tCB (fun xs H Q => ∃ (a : Addr) (ps : List Addr) (kvs : List (Key × V)), xs = [.ref a] ∧ SqL K H a (ps.map V.ref) ∧ Paired (fun p kv => SqT K H p [kV kv.1, kv.2]) ps kvs ∧
    ∀ p, H p = none → Q (.ref p) (upd H p (.dK (mergeK [] kvs)))) (tCons (tLst (tCons (tTup (tCons (tC (.str "wires")) (tCons (tC (.int 3)) tNil))) tNil)) tNil)) σ H := fun H1 e Q q =>
    ⟨(by show 2 ≤ sizeLine; decide), fun t ht => ⟨(by show 1 ≤ sizeLine; decide), fun l hl => ⟨l, [t], [(.inr "wires", .int 3)], rfl, SqL.of upd_same, .cons (SqT.of ((Ex.new hl) _ _ upd_same)) .nil, fun d hd => q _ _ (((Ex.new ht).trans (Ex.new hl)).trans (Ex.new hd)) (.inr (.inl ⟨d, _, rfl, upd_same⟩))⟩⟩⟩
  have hav := hav10
  refine st_cat (K := K) (o := o) (av := fun a => (fun a => (fun a => (fun a => av0 a ∧ a ≠ z7) a ∧ a ≠ z8) a ∧ a ≠ z9) a ∧ a ≠ z10) (c := 5) (k := 5) (by (repeat' (first | exact ew_dp | exact ewa_nil | exact ea_nil | apply ewa_cons | apply ea_cons | exact ew_int | exact ew_non | exact ew_bl | exact ew_str (by decide +kernel) (by decide +kernel) | exact ew_dict | exact hav | apply ew_lst | apply ew_tup | apply ed_tup | exact ed_int | exact ed_str (by decide +kernel) (by decide +kernel) | exact ed_neg | exact ed_pow (by unfold CPow; decide) | exact ed_v rfl Dg.int | exact ed_v rfl (hodd.le (by decide)) | exact ed_v rfl hword)) <;> decide) rfl h10 v10 (by omega) fun z11 xs11 H11 e11 f11 h11 l11 v11 => ?_
  have bx11 := bx10.ex e11
  replace hodd := hodd.ex e11
  have l40 : xs11.length = 40 := by omega
  have k011 : But p H H11 := But.ex k05 ((((e7.trans e8).trans e9).trans e10).trans e11)
  obtain ⟨av, hav⟩ : ∃ av : Addr → Prop, av = fun a => H a = none ∧ a ≠ o ∧ a ≠ p ∧ a ≠ z11 := ⟨_, rfl⟩
  have vk : ∀ x ∈ xs11, VOk K o av (5 + 0) H11 x := fun x hx => (v11 x hx).av fun a ys _ h => by
    rw [hav]
    have h0 : av0 a := h.1.1.1.1.1
    rw [hav0] at h0
    exact ⟨h0.1, h0.2.1, h0.2.2, h.2⟩
  refine ⟨_, rfl, _, _, rfl, .inl ⟨_, SqL.of h11, rfl⟩, _, rfl, by omega, by omega, for_range (lo := 0) (n := (xs11.length : Int).toNat) (fun i σ H' => (∃ y2 y3 y4 y5 y6 y8 y9 y10 y11 y12, σ = [some (.ref p), some (.int named), y2, y3, y4, y5, y6, some (.ref z11), y8, y9, y10, y11, y12]) ∧
    H' z11 = some (.lst xs11) ∧ (∀ x ∈ xs11, VOk K o av (5 + i) H' x) ∧ But p H H' ∧ BoxAt H' p n) ⟨⟨_, _, _, _, _, _, _, _, _, _, rfl⟩, h11, vk, k011, bx11⟩ ?_ ?_⟩
  case refine_2 =>
    rintro σ H' ⟨⟨y2, y3, y4, y5, y6, y8, y9, y10, y11, y12, rfl⟩, _, _, k, b⟩
    exact q H' k b
  rintro i σ H' hi ⟨⟨y2, y3, y4, y5, y6, y8, y9, y10, y11, y12, rfl⟩, hz, hv, k, b⟩
  have hi' : i < xs11.length := by omega
  have hx := List.getElem?_eq_getElem hi'
  have hxv := hv _ (List.getElem_mem hi')
  generalize xs11[i] = x at hx hxv
  have hat : atI xs11 (0 + (i : Int)) = some x := at_of (show (0 + (i : Int)) = ((i : Nat) : Int) by omega) hx
  refine ⟨_, rfl, _, rfl, _, _, rfl, rfl, .inl ⟨_, rfl, _, 2, rfl, rfl, (by show (0 : Int) < 2; decide), _, rfl, _, rfl, z11, xs11, _, x, rfl, rfl, SqL.of hz, hat, _, _, rfl, ?_⟩⟩
  have hany := hxv.any (by omega)
  refine ⟨_, rfl, x, rfl, hany, fun b1 hb1 hn1 H1 e1 => ?_⟩
  refine ⟨_, rfl, rfl, _, rfl, ite2 (fun _ => ?_) (fun _ => ?_)⟩
  all_goals
    refine ⟨_, rfl, x, rfl, hany.ex e1, fun b2 hb2 hn2 H2 e2 => ?_⟩
    obtain rfl : b2 = b1 := spec_one e1 hb1 hn1 hb2 hn2 hany
    refine ⟨_, rfl, _, _, rfl, .bl _, fun H3 e3 => ⟨true, rfl, iteF ?_⟩⟩
    have e13 := (e1.trans e2).trans e3
    have hv3 := fun y hy => (hv y hy).ex e13
    have hxv3 := hxv.ex e13
    have hz3 := e13 _ _ hz
    have k3 := But.ex k e13
    have bb3 := b.ex e13
    refine ⟨_, rfl, _, rfl, _, x, rfl, hany.ex e13, fun no t H4 e4 f4 h4 => ?_, fun sp kd ex hs ok t H4 e4 f4 h4 => ?_⟩
    · obtain rfl : false = b2 := spec_one e13 hb1 hn1 (fun z => by cases z) (fun _ => no) hany
      rcases hxv3.ex e4 with ⟨d, hd, nl⟩ | ⟨a, kvs, rfl, ha⟩ | ⟨a, ys, rfl, hva, ha, hl, hys⟩
      · skip
        obtain ⟨tyd, hty, hkt⟩ := isi_dict hd
        refine ⟨_, rfl, _, _, _, _, false, rfl, .ty "dict", hty, hkt, _, rfl, iteF ?_⟩
        refine ⟨_, rfl, _, rfl, _, rfl, iteF ⟨_, rfl, two_le, fun u hu => ⟨_, _, rfl, sm_pair ((Ex.new hu) _ _ h4) upd_same (by decide +kernel) ((hd.ex (Ex.new hu)).sm (hd.ex (Ex.new hu))), fun H5 e5 => ⟨true, rfl, iteF ?_⟩⟩⟩⟩
        have e35 := (e4.trans (Ex.new hu)).trans e5
        obtain ⟨tyl, htl, hkl⟩ := isi_list (hd.ex ((Ex.new hu).trans e5)) nl
        refine ⟨_, rfl, _, _, _, _, false, rfl, .ty "list", htl, hkl, _, rfl, iteF ?_⟩
        exact ⟨⟨_, _, _, _, _, _, _, _, _, _, rfl⟩, e35 _ _ hz3, fun y hy => ((hv3 y hy).ex e35).le (by omega), But.ex k3 e35, bb3.ex e35⟩
      · refine ⟨_, rfl, _, _, _, _, true, rfl, .ty "dict", .base (.dK ha), kit_ty (by decide +kernel), _, rfl, iteT ?_⟩
        refine ⟨_, rfl, _, _, _, _, rfl, rfl, SqT.of h4, rfl, rfl, _, rfl, iteF ⟨_, rfl, _, _, _, _, rfl, rfl, SqT.of h4, rfl, _, _, _, _, true, rfl, .ty "dict", .base (.dK ha), kit_ty (by decide +kernel), _, rfl, iteF ?_⟩⟩
        refine ⟨_, rfl, _, _, _, _, false, rfl, .ty "list", .base (.dK ha), kit_ty (by decide +kernel), _, rfl, iteF ?_⟩
        exact ⟨⟨_, _, _, _, _, _, _, _, _, _, rfl⟩, e4 _ _ hz3, fun y hy => ((hv3 y hy).ex e4).le (by omega), But.ex k3 e4, bb3.ex e4⟩
      · obtain ⟨ds, hdl, hds⟩ := dg_list hys
        have hd : Rd K (fun _ => True) H4 3 (.ref a) (.list ds) := .lst ha trivial hdl (by omega) (fun i x d hx hd => (hds i x d hx hd).of fun _ _ => trivial)
        obtain ⟨tyd, hty, hkt⟩ := isi_dict hd
        refine ⟨_, rfl, _, _, _, _, false, rfl, .ty "dict", hty, hkt, _, rfl, iteF ?_⟩
        refine ⟨_, rfl, _, rfl, _, rfl, iteF ⟨_, rfl, two_le, fun u hu => ⟨_, _, rfl, sm_pair ((Ex.new hu) _ _ h4) upd_same (by decide +kernel) ((hd.ex (Ex.new hu)).sm (hd.ex (Ex.new hu))), fun H5 e5 => ⟨true, rfl, iteF ?_⟩⟩⟩⟩
        have e45 := (Ex.new (o := .tup [.str "spec", .ref a]) hu).trans e5
        have e35 := e4.trans e45
        have ha5 := e45 _ _ ha
        have h45 := e45 _ _ h4
        rw [hav] at hva
        obtain ⟨hn0, ao, ap, az⟩ := hva
        have nt : t ≠ a := fun e => by subst e; rw [h4] at ha; cases ha
        have kb : But a H5 (upd H5 a (.lst (ys ++ [.str "more"]))) := But.upd
        have hs5 : ∀ y ∈ ys ++ [V.str "more"], Dg K o 2 (upd H5 a (.lst (ys ++ [.str "more"]))) y := fun y hy => by
          rcases List.mem_append.mp hy with hy | hy
          · exact ((hys y hy).ex e45).but kb ha5 ao
          · rw [List.mem_singleton] at hy; subst hy; exact ⟨_, .str _ (by decide +kernel) (by decide +kernel)⟩
        refine ⟨_, rfl, _, _, _, _, true, rfl, .ty "list", .base (.lst ha5), kit_ty (by decide +kernel), _, rfl, iteT ?_⟩
        refine ⟨_, rfl, .inl ⟨rfl, _, SqL.of ha5⟩, a, ys, _, rfl, rfl, ha5, Nat.lt_of_le_of_lt hl (Nat.lt_of_lt_of_le (show 5 + i < 900 by omega) (show 900 ≤ sizeLine by decide)), ?_⟩
        obtain ⟨ds6, hdl6, hds6⟩ := dg_list hs5
        have hd6 : Rd K (fun _ => True) (upd H5 a (.lst (ys ++ [.str "more"]))) 3 (.ref a) (.list ds6) := .lst upd_same trivial hdl6 (by simp; omega) (fun i x d hx hd => (hds6 i x d hx hd).of fun _ _ => trivial)
        have s3 := hd6.sm hd6
        refine ⟨_, rfl, _, _, _, _, rfl, rfl, SqT.of (kb _ _ nt h45), rfl, _, rfl, _, _, rfl, ((((s3.succ).succ).succ).succ).succ, fun H6 e6 => ⟨true, rfl, iteF ?_⟩⟩
        have k06 : But p H (upd H5 a (.lst (ys ++ [.str "more"]))) := fun b v nb hb => by
          rw [upd_ne (ne_of_none hb hn0)]
          exact (But.ex k3 e35) _ _ nb hb
        refine ⟨⟨_, _, _, _, _, _, _, _, _, _, rfl⟩, e6 _ _ (kb _ _ az.symm (e35 _ _ hz3)), fun y hy => (((hv3 y hy).ex e35).mut ha5 ao (by simp; omega) hs5).ex e6, But.ex k06 e6, ?_⟩
        obtain ⟨d, m, c, f, hb, r⟩ := bb3.ex e35
        exact ⟨d, m, c, f, e6 _ _ (kb _ _ ap.symm hb), r⟩
    · obtain rfl : true = b2 := spec_one e13 hb1 hn1 (fun _ => ⟨sp, kd, ex, hs, ok⟩) (fun z => by cases z) hany
      rcases hxv3.ex e4 with ⟨d, hd, nl⟩ | ⟨a, kvs, rfl, ha⟩ | ⟨a, ys, rfl, hva, ha, hl, hys⟩
      · skip
        obtain ⟨tyd, hty, hkt⟩ := isi_dict hd
        refine ⟨_, rfl, _, _, _, _, false, rfl, .ty "dict", hty, hkt, _, rfl, iteF ?_⟩
        refine ⟨_, rfl, _, rfl, _, rfl, iteT ⟨_, rfl, two_le, fun u hu => ⟨_, _, rfl, sm_pair ((Ex.new hu) _ _ h4) upd_same (by decide +kernel) ((hd.ex (Ex.new hu)).sm (hd.ex (Ex.new hu))), fun H5 e5 => ⟨true, rfl, iteF ?_⟩⟩⟩⟩
        have e35 := (e4.trans (Ex.new hu)).trans e5
        obtain ⟨tyl, htl, hkl⟩ := isi_list (hd.ex ((Ex.new hu).trans e5)) nl
        refine ⟨_, rfl, _, _, _, _, false, rfl, .ty "list", htl, hkl, _, rfl, iteF ?_⟩
        exact ⟨⟨_, _, _, _, _, _, _, _, _, _, rfl⟩, e35 _ _ hz3, fun y hy => ((hv3 y hy).ex e35).le (by omega), But.ex k3 e35, bb3.ex e35⟩
      · cases ex
        rw [e4 _ _ hs] at ha
        cases ha
      · cases ex
        rw [e4 _ _ hs] at ha
        cases ha
end
end L2.U


set_option Elab.async false
set_option linter.all false
set_option maxRecDepth 100000
set_option maxHeartbeats 4000000
namespace L2.U
open PySem PySem.Spec PyProof.Rows Evl

section
variable {P : Program} {w : World} {K : PySem.W.Frag} {mg : Str → Option Value} {base : Heap}

def Ln.cells (A : Ln) : List Addr := [A.a0, A.a1, A.d0, A.d1]
def Md.cells (M : Md) : List Addr := [M.t0, M.t1, M.u0, M.u1]
def Ln.cell (A : Ln) (deed s : Int) : Addr := if deed = 0 then A.a s else A.d s
def LS.cell (L : LS) (deed s : Int) : List Int := if deed = 0 then L.s s else L.c s
def Md.cell (M : Md) (deed s : Int) : Addr := if deed = 0 then M.t s else M.u s
def LS.put (L : LS) (deed s k : Int) : LS :=
  if deed = 0 then (if s = 0 then { L with s0 := L.s0 ++ [k] } else { L with s1 := L.s1 ++ [k] }) else (if s = 0 then { L with c0 := L.c0 ++ [k] } else { L with c1 := L.c1 ++ [k] })
theorem bx_ints {H : Hp} {b : Addr} {n : Nat} {a : Addr} {ns : List Int} (h : BoxAt H b n) (ha : H a = some (.lst (ns.map V.int))) : a ≠ b := by
  obtain ⟨d, m, c, f, hb, _⟩ := h
  refine ne_of ha hb fun z => ?_
  have z2 := HO.lst.inj z
  match ns, z2 with
  | _ :: _ :: _, z2 => exact nomatch (List.cons.inj (List.cons.inj z2).2).1
theorem bx_refs {H : Hp} {b : Addr} {n : Nat} {a c : Addr} {xs : List V} (h : BoxAt H b n) (ha : H a = some (.lst (.ref c :: xs))) : a ≠ b := by
  obtain ⟨d, m, c, f, hb, _⟩ := h
  exact ne_of ha hb fun z => nomatch (List.cons.inj (HO.lst.inj z)).1
theorem bx_tup {H : Hp} {b : Addr} {n : Nat} {a : Addr} {xs : List V} (h : BoxAt H b n) (ha : H a = some (.tup xs)) : a ≠ b := by
  obtain ⟨d, m, c, f, hb, _⟩ := h
  exact ne_of ha hb fun z => nomatch z
theorem bx_ins {H : Hp} {b : Addr} {n : Nat} {a c d : Addr} {xs : List (Str × V)} (h : BoxAt H b n) (ha : H a = some (.ins c d xs)) : a ≠ b := by
  obtain ⟨d, m, c, f, hb, _⟩ := h
  exact ne_of ha hb fun z => nomatch z
theorem ModAt.box {M : Md} {L : LS} {H H' : Hp} {b : Addr} {n : Nat} (l : ModAt M L H) (hb : BoxAt H b n) (k : But b H H') : ModAt M L H' :=
  ⟨k _ _ (bx_refs hb l.mp) l.mp, k _ _ (bx_tup hb l.sp) l.sp, k _ _ (bx_refs hb l.ms) l.ms, k _ _ (bx_refs hb l.mc) l.mc, k _ _ (bx_ints hb l.t0) l.t0, k _ _ (bx_ints hb l.t1) l.t1,
    k _ _ (bx_ints hb l.u0) l.u0, k _ _ (bx_ints hb l.u1) l.u1, l.ok⟩
theorem LineAt.box {C : Addr} {A : Ln} {L : LS} {H H' : Hp} {b : Addr} {n : Nat} (l : LineAt C A L H) (hb : BoxAt H b n) (k : But b H H') : LineAt C A L H' :=
  ⟨k _ _ (bx_ins hb l.obj) l.obj, k _ _ (bx_tup hb l.sp) l.sp, k _ _ (bx_refs hb l.sb) l.sb, k _ _ (bx_refs hb l.cb) l.cb, k _ _ (bx_ints hb l.a0) l.a0, k _ _ (bx_ints hb l.a1) l.a1,
    k _ _ (bx_ints hb l.d0) l.d0, k _ _ (bx_ints hb l.d1) l.d1, l.ok⟩
theorem but_fresh {H H' : Hp} {b f : Addr} {n m : Nat} (k : But b H H') (hb : BoxAt H b n) (hb2 : BoxAt H' b m) (h : H' f = none) : H f = none := by
  obtain ⟨o, ho⟩ := hb.some
  exact k.none ho h (hb2.ne h)
theorem dp_ints {K : PySem.W.Frag} {H : Hp} : ∀ (ns : List Int), DpAll K H (ns.map V.int) (ns.map PyData.int)
  | [] => .nil
  | n :: r => .cons (.int n) (dp_ints r)
theorem lay_ints : ∀ (ns : List Int), PyData.canLayAll0 (ns.map PyData.int) = true ∧ PyData.depthAll (ns.map PyData.int) = 0
  | [] => by simp [PyData.canLayAll0, PyData.depthAll]
  | n :: r => by
    have h := lay_ints r
    simp only [List.map_cons, PyData.canLayAll0, PyData.depthAll, PyData.canLay0, PyData.depth, h.1, h.2]
    exact ⟨rfl, rfl⟩
theorem shaped_ints (ns : List Int) : SeqAt.shaped (PyData.list (ns.map PyData.int)) = true := by
  have h := lay_ints ns
  simp only [SeqAt.shaped, PyData.canLay0, PyData.depth, h.1, h.2]
  rfl
/-- xs != [] of a list of ints -/
theorem ne_nil {K : PySem.W.Frag} {H : Hp} {p e : Addr} {ns : List Int} {R : VK} (hp : H p = some (.lst (ns.map V.int))) (he : H e = none) (h : R (.bl (!decide (ns = []))) (upd H e (.lst []))) : rNeD K (.ref p) (.ref e) (upd H e (.lst [])) R := by
  refine ⟨.list (ns.map PyData.int), .list [], .lst (SqL.of ((Ex.new he) _ _ hp)) (dp_ints ns), .lst (SqL.of upd_same) .nil, shaped_ints ns, shaped_ints [], ?_⟩
  cases ns with
  | nil => exact h
  | cons n r => exact h
def IsInts (H : Hp) (x : Addr) : Prop := ∃ ns : List Int, H x = some (.lst (ns.map V.int))
theorem IsInts.refs {H : Hp} {x a c : Addr} {xs : List V} (h : IsInts H x) (ha : H a = some (.lst (.ref c :: xs))) : a ≠ x := by
  obtain ⟨ns, hx⟩ := h
  refine ne_of ha hx fun z => ?_
  have z2 := HO.lst.inj z
  match ns, z2 with
  | _ :: _, z2 => exact nomatch (List.cons.inj z2).1
theorem IsInts.tup {H : Hp} {x a : Addr} {xs : List V} (h : IsInts H x) (ha : H a = some (.tup xs)) : a ≠ x := by
  obtain ⟨ns, hx⟩ := h
  exact ne_of ha hx fun z => nomatch z
theorem IsInts.ins {H : Hp} {x a c d : Addr} {xs : List (Str × V)} (h : IsInts H x) (ha : H a = some (.ins c d xs)) : a ≠ x := by
  obtain ⟨ns, hx⟩ := h
  exact ne_of ha hx fun z => nomatch z
theorem LineAt.keep {C : Addr} {A : Ln} {L : LS} {H H' : Hp} {x : Addr} (l : LineAt C A L H) (h : IsInts H x) (k : But x H H') (n : x ∉ A.cells) : LineAt C A L H' := by
  have nn : ∀ {a : Addr}, a ∈ A.cells → a ≠ x := fun ha e => n (e ▸ ha)
  refine ⟨k _ _ (h.ins l.obj) l.obj, k _ _ (h.tup l.sp) l.sp, k _ _ (h.refs l.sb) l.sb, k _ _ (h.refs l.cb) l.cb, k _ _ (nn ?_) l.a0, k _ _ (nn ?_) l.a1, k _ _ (nn ?_) l.d0, k _ _ (nn ?_) l.d1, l.ok⟩ <;> simp [Ln.cells]
theorem ModAt.keep {M : Md} {L : LS} {H H' : Hp} {x : Addr} (l : ModAt M L H) (h : IsInts H x) (k : But x H H') (n : x ∉ M.cells) : ModAt M L H' := by
  have nn : ∀ {a : Addr}, a ∈ M.cells → a ≠ x := fun ha e => n (e ▸ ha)
  refine ⟨k _ _ (h.refs l.mp) l.mp, k _ _ (h.tup l.sp) l.sp, k _ _ (h.refs l.ms) l.ms, k _ _ (h.refs l.mc) l.mc, k _ _ (nn ?_) l.t0, k _ _ (nn ?_) l.t1, k _ _ (nn ?_) l.u0, k _ _ (nn ?_) l.u1, l.ok⟩ <;> simp [Md.cells]
theorem Ln.cell_mem {A : Ln} {deed s : Int} : A.cell deed s ∈ A.cells := by
  unfold Ln.cell Ln.cells Ln.a Ln.d
  split <;> split <;> simp
theorem Md.cell_mem {M : Md} {deed s : Int} : M.cell deed s ∈ M.cells := by
  unfold Md.cell Md.cells Md.t Md.u
  split <;> split <;> simp
theorem LineAt.cell {C : Addr} {A : Ln} {L : LS} {H : Hp} (l : LineAt C A L H) (deed s : Int) : H (A.cell deed s) = some (.lst ((L.cell deed s).map V.int)) := by
  unfold Ln.cell LS.cell
  split
  · exact l.a s
  · exact l.d s
theorem ModAt.cell {M : Md} {L : LS} {H : Hp} (l : ModAt M L H) (deed s : Int) : H (M.cell deed s) = some (.lst ((L.cell deed s).map V.int)) := by
  unfold Md.cell LS.cell
  split
  · exact l.t s
  · exact l.u s
theorem LineAt.put {C : Addr} {A : Ln} {L : LS} {H H' : Hp} {deed s k : Int} (l : LineAt C A L H) (hs : Side s) (nd : A.cells.Nodup) (kk : But (A.cell deed s) H H') (hc : H' (A.cell deed s) = some (.lst ((L.cell deed s ++ [k]).map V.int))) : LineAt C A (L.put deed s k) H' := by
  have h : IsInts H (A.cell deed s) := ⟨_, l.cell deed s⟩
  have o := kk _ _ (h.ins l.obj) l.obj
  have sp := kk _ _ (h.tup l.sp) l.sp
  have sb := kk _ _ (h.refs l.sb) l.sb
  have cb := kk _ _ (h.refs l.cb) l.cb
  have nd' : [A.a0, A.a1, A.d0, A.d1].Nodup := nd
  simp only [List.nodup_cons, List.mem_cons, List.not_mem_nil, or_false, not_or, not_false_eq_true, List.nodup_nil, and_true] at nd'
  obtain ⟨⟨n1, n2, n3⟩, ⟨n4, n5⟩, n6⟩ := nd'
  unfold LS.put
  unfold Ln.cell Ln.a Ln.d at kk
  unfold Ln.cell Ln.a Ln.d LS.cell LS.s LS.c at hc
  by_cases c : deed = 0
  · simp only [if_pos c] at kk hc ⊢
    rcases (by unfold Side at hs; omega : s = 0 ∨ s = 1) with rfl | rfl
    · simp only [if_pos] at kk hc ⊢
      exact ⟨o, sp, sb, cb, hc, kk _ _ (Ne.symm n1) l.a1, kk _ _ (Ne.symm n2) l.d0, kk _ _ (Ne.symm n3) l.d1, l.ok⟩
    · simp only [if_neg (show ¬ (1 : Int) = 0 by decide)] at kk hc ⊢
      exact ⟨o, sp, sb, cb, kk _ _ n1 l.a0, hc, kk _ _ (Ne.symm n4) l.d0, kk _ _ (Ne.symm n5) l.d1, l.ok⟩
  · simp only [if_neg c] at kk hc ⊢
    rcases (by unfold Side at hs; omega : s = 0 ∨ s = 1) with rfl | rfl
    · simp only [if_pos] at kk hc ⊢
      exact ⟨o, sp, sb, cb, kk _ _ n2 l.a0, kk _ _ n4 l.a1, hc, kk _ _ (Ne.symm n6) l.d1, l.ok⟩
    · simp only [if_neg (show ¬ (1 : Int) = 0 by decide)] at kk hc ⊢
      exact ⟨o, sp, sb, cb, kk _ _ n3 l.a0, kk _ _ n5 l.a1, kk _ _ n6 l.d0, hc, l.ok⟩
theorem put_kd {L : LS} {deed s k : Int} : (L.put deed s k).kd = L.kd := by
  unfold LS.put
  split <;> split <;> rfl
theorem ModAt.put {M : Md} {L : LS} {H H' : Hp} {deed s k : Int} (l : ModAt M L H) (hs : Side s) (nd : M.cells.Nodup) (kk : But (M.cell deed s) H H') (hc : H' (M.cell deed s) = some (.lst ((L.cell deed s ++ [k]).map V.int))) : ModAt M (L.put deed s k) H' := by
  have h : IsInts H (M.cell deed s) := ⟨_, l.cell deed s⟩
  have o := kk _ _ (h.refs l.mp) l.mp
  have sb := kk _ _ (h.refs l.ms) l.ms
  have cb := kk _ _ (h.refs l.mc) l.mc
  have sp := kk _ _ (h.tup l.sp) l.sp
  have nd' : [M.t0, M.t1, M.u0, M.u1].Nodup := nd
  simp only [List.nodup_cons, List.mem_cons, List.not_mem_nil, or_false, not_or, not_false_eq_true, List.nodup_nil, and_true] at nd'
  obtain ⟨⟨n1, n2, n3⟩, ⟨n4, n5⟩, n6⟩ := nd'
  unfold LS.put
  unfold Md.cell Md.t Md.u at kk
  unfold Md.cell Md.t Md.u LS.cell LS.s LS.c at hc
  by_cases c : deed = 0
  · simp only [if_pos c] at kk hc ⊢
    rcases (by unfold Side at hs; omega : s = 0 ∨ s = 1) with rfl | rfl
    · simp only [if_pos] at kk hc ⊢
      exact ⟨o, sp, sb, cb, hc, kk _ _ (Ne.symm n1) l.t1, kk _ _ (Ne.symm n2) l.u0, kk _ _ (Ne.symm n3) l.u1, l.ok⟩
    · simp only [if_neg (show ¬ (1 : Int) = 0 by decide)] at kk hc ⊢
      exact ⟨o, sp, sb, cb, kk _ _ n1 l.t0, hc, kk _ _ (Ne.symm n4) l.u0, kk _ _ (Ne.symm n5) l.u1, l.ok⟩
  · simp only [if_neg c] at kk hc ⊢
    rcases (by unfold Side at hs; omega : s = 0 ∨ s = 1) with rfl | rfl
    · simp only [if_pos] at kk hc ⊢
      exact ⟨o, sp, sb, cb, kk _ _ n2 l.t0, kk _ _ n4 l.t1, hc, kk _ _ (Ne.symm n6) l.u1, l.ok⟩
    · simp only [if_neg (show ¬ (1 : Int) = 0 by decide)] at kk hc ⊢
      exact ⟨o, sp, sb, cb, kk _ _ n3 l.t0, kk _ _ n5 l.t1, kk _ _ n6 l.u0, hc, l.ok⟩

/-- what is true of a line that is well used -/
structure LG (L : LS) : Prop where
  s : ∀ s, Side s → (L.s s).Nodup ∧ ∀ k ∈ L.s s, 1 ≤ k ∧ k ≤ L.kd.many s
  c : ∀ s, Side s → (L.c s).Nodup ∧ ∀ k ∈ L.c s, 1 ≤ k ∧ k ≤ L.kd.many (1 - s)
theorem nd_small {xs : List Int} {m : Int} (h : xs.Nodup ∧ ∀ k ∈ xs, 1 ≤ k ∧ k ≤ m) (hm : m ≤ 10) : xs.length < 32 := by
  have := sub_len h.1 (ys := upTo 10) fun x hx => upTo_mem.mpr ⟨(h.2 x hx).1, Int.le_trans (h.2 x hx).2 hm⟩
  rw [upTo_len] at this
  have e : ((10 : Int).toNat) = 10 := rfl
  omega
theorem side_or (s : Int) : ∃ s', Side s' ∧ ∀ L : LS, L.s s = L.s s' ∧ L.c s = L.c s' := by
  by_cases h : s = 0
  · exact ⟨0, by unfold Side; omega, fun L => by rw [h]; exact ⟨rfl, rfl⟩⟩
  · exact ⟨1, by unfold Side; omega, fun L => by unfold LS.s LS.c; rw [if_neg h, if_neg h, if_neg (by decide), if_neg (by decide)]; exact ⟨rfl, rfl⟩⟩
theorem LG.sm {L : LS} (h : LG L) (ok : L.kd.Ok) : LSm L := by
  refine ⟨fun s => ?_, fun s => ?_, fun k hk hw => ?_⟩
  · obtain ⟨s', hs, e⟩ := side_or s
    rw [(e L).1]; exact nd_small (h.s s' hs) (Knd.many_le ok _).2
  · obtain ⟨s', hs, e⟩ := side_or s
    rw [(e L).2]; exact nd_small (h.c s' hs) (Knd.many_le ok _).2
  · have h0 := (h.s 0 (by unfold Side; omega)).2
    have h1 := (h.s 1 (by unfold Side; omega)).2
    rcases List.mem_append.mp hk with m | m
    · exact h0 k m
    · have := h1 k m
      cases hk : L.kd with
      | wir n => rw [hk] at this; exact this
      | letr a b => rw [hk] at hw; cases hw
theorem LG.empty {kd : Knd} : LG ⟨kd, [], [], [], []⟩ := by
  refine ⟨fun s _ => ?_, fun s _ => ?_⟩
  · unfold LS.s; split <;> simp
  · unfold LS.c; split <;> simp
theorem nd_add {xs : List Int} {k m : Int} (h : xs.Nodup ∧ ∀ x ∈ xs, 1 ≤ x ∧ x ≤ m) (hk : k ∉ xs) (h1 : 1 ≤ k ∧ k ≤ m) : (xs ++ [k]).Nodup ∧ ∀ x ∈ xs ++ [k], 1 ≤ x ∧ x ≤ m := by
  refine ⟨List.nodup_append.mpr ⟨h.1, by simp, ?_⟩, ?_⟩
  · intro a ha b hb
    obtain rfl := List.mem_singleton.mp hb
    rintro rfl
    exact hk ha
  · intro x hx
    rcases List.mem_append.mp hx with h2 | h2
    · exact h.2 x h2
    · obtain rfl := List.mem_singleton.mp h2
      exact h1
theorem put_s {L : LS} {d s k s' : Int} (hs : Side s) (hs' : Side s') : (L.put d s k).s s' = (if d = 0 ∧ s = s' then L.s s' ++ [k] else L.s s') ∧ (L.put d s k).c s' = (if ¬ d = 0 ∧ s = s' then L.c s' ++ [k] else L.c s') := by
  unfold LS.put
  rcases (by unfold Side at hs; omega : s = 0 ∨ s = 1) with rfl | rfl <;> rcases (by unfold Side at hs'; omega : s' = 0 ∨ s' = 1) with rfl | rfl <;> by_cases c : d = 0 <;> simp [c, LS.s, LS.c]
theorem LG.put {L : LS} {d s k : Int} (h : LG L) (hs : Side s) (n : k ∉ L.cell d s) (h1 : 1 ≤ k ∧ k ≤ L.kd.many (if d = 0 then s else 1 - s)) : LG (L.put d s k) := by
  refine ⟨fun s' hs' => ?_, fun s' hs' => ?_⟩
  · rw [(put_s hs hs').1, put_kd]
    by_cases c : d = 0 ∧ s = s'
    · rw [if_pos c]
      obtain ⟨rfl, rfl⟩ := c
      exact nd_add (h.s s hs) n h1
    · rw [if_neg c]; exact h.s s' hs'
  · rw [(put_s hs hs').2, put_kd]
    by_cases c : ¬ d = 0 ∧ s = s'
    · rw [if_pos c]
      obtain ⟨c0, rfl⟩ := c
      unfold LS.cell at n
      rw [if_neg c0] at n h1
      exact nd_add (h.c s hs) n h1
    · rw [if_neg c]; exact h.c s' hs'
def spDeed (C : Addr) : Sp := fun vs H Q _ => ∃ (b : Addr) (A : Ln) (M : Md) (L : LS) (n : Nat), vs = [.ref b, .ref A.p, .ref M.mp] ∧ BoxAt H b (n + 3) ∧ LineAt C A L H ∧ ModAt M L H ∧ LG L ∧ (A.cells ++ M.cells).Nodup ∧
  ∀ L' H', LineAt C A L' H' → ModAt M L' H' → LG L' → BoxAt H' b n → (∀ a o, a ≠ b → a ∉ A.cells ++ M.cells → H a = some o → H' a = some o) → Q (.bl true) H'
end
end L2.U


set_option Elab.async false
set_option linter.all false
set_option maxRecDepth 100000
set_option maxHeartbeats 4000000
namespace L2.U
open PySem PySem.Spec PyProof.Rows Evl

section
variable {P : Program} {w : World} {K : PySem.W.Frag} {mg : Str → Option Value} {base : Heap}

theorem eq_nil {H : Hp} {p e : Addr} {ns : List Int} {R : VK} (hp : H p = some (.lst (ns.map V.int))) (he : H e = none) (h : R (.bl (decide (ns = []))) (upd H e (.lst []))) : rEqD K (.ref p) (.ref e) (upd H e (.lst [])) R := by
  refine ⟨.list (ns.map PyData.int), .list [], .lst (SqL.of ((Ex.new he) _ _ hp)) (dp_ints ns), .lst (SqL.of upd_same) .nil, shaped_ints ns, shaped_ints [], ?_⟩
  cases ns with
  | nil => exact h
  | cons n r => exact h
theorem deed_fin {C b : Addr} {A : Ln} {M : Md} {L : LS} {n : Nat} {H6 : Hp} {deed s k : Int} (l : LineAt C A L H6) (m : ModAt M L H6) (g : LG L) (nd : (A.cells ++ M.cells).Nodup) (hs : Side s) (nk : k ∉ L.cell deed s) (kin : Kin L (if deed = 0 then s else 1 - s) k) (B : BoxAt H6 b n) :
    LineAt C A L (upd H6 (M.cell deed s) (.lst ((L.cell deed s).map V.int ++ [.int k]))) ∧
    ∀ H8, But (A.cell deed s) (upd H6 (M.cell deed s) (.lst ((L.cell deed s).map V.int ++ [.int k]))) H8 → H8 (A.cell deed s) = some (.lst ((L.cell deed s ++ [k]).map V.int)) →
      LineAt C A (L.put deed s k) H8 ∧ ModAt M (L.put deed s k) H8 ∧ LG (L.put deed s k) ∧ BoxAt H8 b n ∧ ∀ a o, a ∉ A.cells ++ M.cells → H6 a = some o → H8 a = some o := by
  have im : IsInts H6 (M.cell deed s) := ⟨_, m.cell deed s⟩
  obtain ⟨n1, n2, n3⟩ := List.nodup_append.mp nd
  have ma : M.cell deed s ∉ A.cells := fun h => n3 _ h _ Md.cell_mem rfl
  have am : A.cell deed s ∉ M.cells := fun h => n3 _ Ln.cell_mem _ h rfl
  have kb : But (M.cell deed s) H6 (upd H6 (M.cell deed s) (.lst ((L.cell deed s).map V.int ++ [.int k]))) := But.upd
  have hc : upd H6 (M.cell deed s) (.lst ((L.cell deed s).map V.int ++ [.int k])) (M.cell deed s) = some (.lst ((L.cell deed s ++ [k]).map V.int)) := by rw [upd_same, List.map_append]; rfl
  have l7 := l.keep im kb ma
  have m7 := m.put hs n2 kb hc
  have b7 : (M.cell deed s) ≠ b := bx_ints B (m.cell deed s)
  have ba : (A.cell deed s) ≠ b := bx_ints B (l.cell deed s)
  refine ⟨l7, fun H8 k8 h8 => ⟨l7.put hs n1 k8 h8, m7.keep ⟨_, l7.cell deed s⟩ k8 am, g.put hs nk kin, ?_, fun a o na ha => k8 _ _ (fun e => na (List.mem_append.mpr (.inl (e ▸ Ln.cell_mem)))) (kb _ _ (fun e => na (List.mem_append.mpr (.inr (e ▸ Md.cell_mem)))) ha)⟩⟩
  obtain ⟨d, mm, c, f, hb, r⟩ := B
  exact ⟨d, mm, c, f, k8 _ _ ba.symm (kb _ _ b7.symm hb), r⟩
theorem ok_law_deed (T : TK K mg) : FnOk P w K mg base CX0 10 T.law_deed.a T.law_deed.fd ["box", "line", "model"] (spDeed T.C) := by
  refine T.law_deed.F.ok sc_law_deed (fun vs H Q E h => ?_) (fun cdv A0 outer s0 H vs Q E hr h => ?_)
  · obtain ⟨b, A, M, L, n, rfl, _⟩ := h; rfl
  obtain ⟨b, A, M, L, n, rfl, hB, l, m, g, nd, q⟩ := h
  refine ⟨_, (pss_cons (ps_par (i := 3) (j := 4) (by rfl) sc_law_deed.nd rfl rfl (by decide) rfl rfl (pa_cons (pe_call (ok_law_take T.toTA1) (hr.mono (by decide)) rfl T.law_take.m T.law_take.F.kp T.law_take.b .nil pass0 (pa_cons (pv 0) (pa_cons pe_int pa_nil))) (pa_cons (pe_call (ok_law_take T.toTA1) (hr.mono (by decide)) rfl T.law_take.m T.law_take.F.kp T.law_take.b .nil pass0 (pa_cons (pv 0) (pa_cons pe_int pa_nil))) pa_nil)) (by rfl))
    (pss_cons (ps_par (i := 5) (j := 6) (by rfl) sc_law_deed.nd rfl rfl (by decide) rfl rfl (pa_cons (pe_call (ok_law_waits T) (hr.mono (by decide)) rfl T.law_waits.m T.law_waits.F.kp T.law_waits.b .nil pass0 (pa_cons (pv 2) (pa_cons (pv 3) pa_nil))) (pa_cons (pe_call (ok_law_free T) (hr.mono (by decide)) rfl T.law_free.m T.law_free.F.kp T.law_free.b .nil pass0 (pa_cons (pv 2) (pa_cons (pv 3) pa_nil))) pa_nil)) (by rfl))
    (pss_cons (ps_if (PW.pt (pw_and (pt_cmpR (kneD K hr.units) (pv 5) (pe_lst pa_nil) (nomark _)) (pw_and1 (PW.pt (pw_or (pt_cmpR op_eq (pv 4) pe_int (nomark _)) (pw_or1 (pt_cmpR (keqD K hr.units) (pv 6) (pe_lst pa_nil) (nomark _)))))))) (pss_cons (ps_par (i := 7) (j := 8) (by rfl) sc_law_deed.nd rfl rfl (by decide) rfl rfl (pa_cons (pe_ix (kixl K) (pv 5) (pe_call (ok_law_take T.toTA1) (hr.mono (by decide)) rfl T.law_take.m T.law_take.F.kp T.law_take.b .nil pass0 (pa_cons (pv 0) (pa_cons (pe_callB (klen K) (by rfl) T.z_len (by decide +kernel) (pa_cons (pv 5) pa_nil)) pa_nil))) (fun _ _ => rfl)) (pa_cons (pe_ix (kixl K) (pe_ix (kixl K) (pv 2) pe_int (fun _ _ => rfl)) (pv 3) (fun _ _ => rfl)) pa_nil)) (by rfl))
    (pss_cons (ps_expr (pe_bm PySem.F.plainAttrs_list PySem.F.slot_list_append PySem.F.type_list_append mt_append (pv 8) (pa_cons (pv 7) pa_nil)))
    (pss_one (ps_ret (pe_call (ok_law_same T.toTA1) (hr.mono (by decide)) rfl T.law_same.m T.law_same.F.kp T.law_same.b .nil pass0 (pa_cons (by exact (pe_mX (pv 1) T.cl T.m_come.M (ok_Line_come T.toTL) (hr.mono (by decide)) T.m_come.b (fun σ => passLAt) (pa_cons (pv 3) (pa_cons (pv 7) pa_nil)))) (pa_cons pe_bl pa_nil))))))) pss_nil)
    (pss_cons (ps_if (pt_cmpR (keqD K hr.units) (pv 6) (pe_lst pa_nil) (nomark _)) (pss_one (ps_ret pe_bl)) pss_nil)
    (pss_cons (ps_par (i := 7) (j := 9) (by rfl) sc_law_deed.nd rfl rfl (by decide) rfl rfl (pa_cons (pe_ix (kixl K) (pv 6) (pe_call (ok_law_take T.toTA1) (hr.mono (by decide)) rfl T.law_take.m T.law_take.F.kp T.law_take.b .nil pass0 (pa_cons (pv 0) (pa_cons (pe_callB (klen K) (by rfl) T.z_len (by decide +kernel) (pa_cons (pv 6) pa_nil)) pa_nil))) (fun _ _ => rfl)) (pa_cons (pe_ix (kixl K) (pe_ix (kixl K) (pv 2) pe_int (fun _ _ => rfl)) (pv 3) (fun _ _ => rfl)) pa_nil)) (by rfl))
    (pss_cons (ps_expr (pe_bm PySem.F.plainAttrs_list PySem.F.slot_list_append PySem.F.type_list_append mt_append (pv 9) (pa_cons (pv 7) pa_nil)))
    (pss_one (ps_ret (pe_call (ok_law_same T.toTA1) (hr.mono (by decide)) rfl T.law_same.m T.law_same.F.kp T.law_same.b .nil pass0 (pa_cons (by exact (pe_mX (pv 1) T.cl T.m_send.M (ok_Line_send T.toTL) (hr.mono (by decide)) T.m_send.b (fun σ => passLAt) (pa_cons (pv 3) (pa_cons (pv 7) pa_nil)))) (pa_cons pe_bl pa_nil))))))))))), ?_⟩
  refine ⟨_, rfl, b, 2, n + 2, rfl, by decide, by decide, hB, fun sd H1 s0 s1 B1 k1 => ⟨_, rfl, b, 3, n + 1, rfl, by decide, by decide, B1, fun ft H2 f0 f1 B2 k2 => ⟨_, _, rfl, ?_⟩⟩⟩
  have ok : Side sd := ⟨s0, by omega⟩
  have l2 := (l.box hB k1).box B1 k2
  have m2 := (m.box hB k1).box B1 k2
  have K2 : But b H H2 := k1.trans k2
  have sm := g.sm l.ok
  have hs1 := sm.s (1 - sd)
  have hs0 := sm.s sd
  have hc0 := sm.c sd
  have hm := Knd.many_le l.ok sd
  refine ⟨_, rfl, _, rfl, M, L, sd, rfl, m2, ok, by omega, fun pw ws H3 e3 _ hw rw3 => ⟨_, rfl, _, rfl, M, L, sd, rfl, m2.ex e3, ok, trivial, fun pf fs H4 e4 _ hf rf => ⟨_, _, rfl, ?_⟩⟩⟩
  have lws : ws.length < 32 := by
    have h1 := rw3.1.length_eq
    have h2 := List.length_filter_le (canC L sd) (L.s (1 - sd))
    omega
  have lfs : fs.length ≤ 10 := by
    have h2 := List.length_filter_le (canS L sd) (upTo (L.kd.many sd))
    rw [upTo_len] at h2
    rw [rf]; omega
  refine ⟨_, rfl, (by show 0 ≤ sizeLine; decide), fun e he => ne_nil (e4 _ _ hw) he ⟨_, rfl, ?_⟩⟩
  have e25a : Ex H2 (upd H4 e (.lst [])) := (e3.trans e4).trans (Ex.new he)
  have hwa : upd H4 e (.lst []) pw = some (.lst (ws.map V.int)) := (Ex.new he) _ _ (e4 _ _ hw)
  have hfa : upd H4 e (.lst []) pf = some (.lst (fs.map V.int)) := (Ex.new he) _ _ hf
  generalize upd H4 e (.lst []) = Ha at e25a hwa hfa ⊢
  -- behind the first question
  by_cases hne : ws = []
  · rw [decide_eq_true hne]
    refine iteF ?_
    refine ⟨_, rfl, (by show 0 ≤ sizeLine; decide), fun e2 he2 => eq_nil hfa he2 ⟨_, rfl, ?_⟩⟩
    have e25 : Ex H2 (upd Ha e2 (.lst [])) := e25a.trans (Ex.new he2)
    have hf5 : upd Ha e2 (.lst []) pf = some (.lst (fs.map V.int)) := (Ex.new he2) _ _ hfa
    generalize upd Ha e2 (.lst []) = H5 at e25 hf5 ⊢
    have l5 := l2.ex e25
    have m5 := m2.ex e25
    have B5 := B2.ex e25
    clear hne
    by_cases hne : fs = []
    · rw [decide_eq_true hne]
      exact iteT (q L H5 l5 m5 g (B5.le (by omega)) fun a o ab _ ha => e25 _ _ (K2 _ _ ab ha))
    · rw [decide_eq_false hne]
      refine iteF ?_
      have pos : 0 < fs.length := by
        match fs, hne with
        | _ :: _, _ => simp
      refine ⟨_, rfl, _, rfl, _, rfl, _, _, rfl, .inl ⟨_, SqL.of hf5, rfl⟩, b, (fs.map V.int).length, n, rfl, by rw [List.length_map]; omega, by rw [List.length_map]; omega, B5, fun r H6 r0 r1 B6 k6 => ?_⟩
      rw [List.length_map] at r1
      obtain ⟨v, hv, hg⟩ := at_get (xs := fs.map V.int) r0 (by rw [List.length_map]; exact r1)
      obtain ⟨k, hk, rfl⟩ := ints_get hg
      have km : k ∈ fs := List.mem_of_getElem? hk
      have m6 := m5.box B5 k6
      have l6 := l5.box B5 k6
      refine ⟨pf, _, r, _, rfl, rfl, SqL.of (k6 _ _ (bx_ints B5 hf5) hf5), hv, ?_⟩
      refine ⟨_, rfl, _, _, _, _, rfl, rfl, SqL.of m6.mp, rfl, _, rfl, _, _, _, _, rfl, rfl, SqL.of m6.ms, at_t ok, _, _, rfl, ?_⟩
      refine ⟨_, rfl, .inl ⟨rfl, _, SqL.of (m6.t sd)⟩, _, rfl, _, _, _, rfl, rfl, m6.t sd, small1000 (by rw [List.length_map]; omega), ?_⟩
      have km0 : k ∈ (upTo (L.kd.many sd)).filter (canS L sd) := by rw [← rf]; exact km
      obtain ⟨km1, can⟩ := List.mem_filter.mp km0
      have kin : Kin L sd k := upTo_mem.mp km1
      have nk : k ∉ L.cell 0 sd := by
        show k ∉ (if (0 : Int) = 0 then L.s sd else L.c sd)
        rw [if_pos rfl]; unfold canS at can; simp at can; exact can.2
      have D := deed_fin (deed := 0) l6 m6 g nd ok nk kin B6
      have l7 : LineAt T.C A L (upd H6 (M.t sd) (.lst ((L.s sd).map V.int ++ [.int k]))) := D.1
      refine ⟨_, rfl, A.p, A.dx, _, rfl, l7.obj, rfl, _, rfl, _, rfl, A, L, .int sd, .int k, .int sd, .int k, 0, (fun _ => True), rfl, .int _, .int _, l7, fun s => by have := sm.s s; omega, fun c => ?_, fun s es hs c => ?_, fun s k' es ek hs kn cf => ?_, fun s k' es ek hs kn ct H8 k8 h8 => ?_⟩
      · rw [side_ok ok] at c; cases c
      · cases es
        rw [kin_betw kin] at c; cases c
      · cases es; cases ek; rw [can] at cf; cases cf
      · cases es; cases ek
        obtain ⟨r1, r2, r3, r4, r5⟩ := D.2 H8 k8 h8
        refine ⟨_, _, rfl, .bl _, fun H9 e9 => q (L.put 0 sd k) H9 (r1.ex e9) (r2.ex e9) r3 (r4.ex e9) fun a o ab ac ha => e9 _ _ (r5 a o ac (k6 _ _ ab (e25 _ _ (K2 _ _ ab ha))))⟩
  · rw [decide_eq_false hne]
    refine iteT ⟨_, rfl, rfl, _, rfl, ite2 (fun _ => ?_) (fun _ => ?_)⟩
    · have e25 := e25a
      have hw5 := hwa
      have l5 := l2.ex e25
      have m5 := m2.ex e25
      have B5 := B2.ex e25
      have pos : 0 < ws.length := by
        match ws, hne with
        | _ :: _, _ => simp
      refine ⟨_, rfl, _, rfl, _, rfl, _, _, rfl, .inl ⟨_, SqL.of hw5, rfl⟩, b, (ws.map V.int).length, n, rfl, by rw [List.length_map]; omega, by rw [List.length_map]; omega, B5, fun r H6 r0 r1 B6 k6 => ?_⟩
      rw [List.length_map] at r1
      obtain ⟨v, hv, hg⟩ := at_get (xs := ws.map V.int) r0 (by rw [List.length_map]; exact r1)
      obtain ⟨k, hk, rfl⟩ := ints_get hg
      have km : k ∈ ws := List.mem_of_getElem? hk
      have m6 := m5.box B5 k6
      have l6 := l5.box B5 k6
      refine ⟨pw, _, r, _, rfl, rfl, SqL.of (k6 _ _ (bx_ints B5 hw5) hw5), hv, ?_⟩
      refine ⟨_, rfl, _, _, _, _, rfl, rfl, SqL.of m6.mp, rfl, _, rfl, _, _, _, _, rfl, rfl, SqL.of m6.mc, at_u ok, _, _, rfl, ?_⟩
      refine ⟨_, rfl, .inl ⟨rfl, _, SqL.of (m6.u sd)⟩, _, rfl, _, _, _, rfl, rfl, m6.u sd, small1000 (by rw [List.length_map]; omega), ?_⟩
      obtain ⟨km1, can⟩ := List.mem_filter.mp (rw3.1.mem_iff.mp km)
      have kin : Kin L (1 - sd) k := (g.s (1 - sd) ok.other).2 k km1
      have nk : k ∉ L.cell 1 sd := by
        show k ∉ (if (1 : Int) = 0 then L.s sd else L.c sd)
        rw [if_neg (by decide)]; unfold canC at can; simp at can; exact can.2
      have D := deed_fin (deed := 1) l6 m6 g nd ok nk kin B6
      have l7 : LineAt T.C A L (upd H6 (M.u sd) (.lst ((L.c sd).map V.int ++ [.int k]))) := D.1
      refine ⟨_, rfl, A.p, A.dx, _, rfl, l7.obj, rfl, _, rfl, _, rfl, A, L, .int sd, .int k, .int sd, .int k, 0, (fun _ => True), rfl, .int _, .int _, l7, fun s => by have := sm.c s; omega, fun c => ?_, fun s es hs c => ?_, fun s k' es ek hs kn nm => ?_, fun s k' es ek hs kn mm cf => ?_, fun s k' es ek hs kn mm ct H8 k8 h8 => ?_⟩
      · rw [side_ok ok] at c; cases c
      · cases es
        rw [kin_betw kin] at c; cases c
      · cases es; cases ek; exact absurd km1 nm
      · cases es; cases ek; rw [can] at cf; cases cf
      · cases es; cases ek
        obtain ⟨r1, r2, r3, r4, r5⟩ := D.2 H8 k8 h8
        refine ⟨_, _, rfl, .bl _, fun H9 e9 => q (L.put 1 sd k) H9 (r1.ex e9) (r2.ex e9) r3 (r4.ex e9) fun a o ab ac ha => e9 _ _ (r5 a o ac (k6 _ _ ab (e25 _ _ (K2 _ _ ab ha))))⟩
    · refine ⟨_, rfl, (by show 0 ≤ sizeLine; decide), fun e2 he2 => eq_nil hfa he2 ⟨_, rfl, ?_⟩⟩
      have e25b : Ex H2 (upd Ha e2 (.lst [])) := e25a.trans (Ex.new he2)
      have hwb : upd Ha e2 (.lst []) pw = some (.lst (ws.map V.int)) := (Ex.new he2) _ _ hwa
      have hfb : upd Ha e2 (.lst []) pf = some (.lst (fs.map V.int)) := (Ex.new he2) _ _ hfa
      generalize upd Ha e2 (.lst []) = Hb at e25b hwb hfb ⊢
      by_cases hnf : fs = []
      · rw [decide_eq_true hnf]
        refine iteT ?_
        have e25 := e25b
        have hw5 := hwb
        have l5 := l2.ex e25
        have m5 := m2.ex e25
        have B5 := B2.ex e25
        have pos : 0 < ws.length := by
          match ws, hne with
          | _ :: _, _ => simp
        refine ⟨_, rfl, _, rfl, _, rfl, _, _, rfl, .inl ⟨_, SqL.of hw5, rfl⟩, b, (ws.map V.int).length, n, rfl, by rw [List.length_map]; omega, by rw [List.length_map]; omega, B5, fun r H6 r0 r1 B6 k6 => ?_⟩
        rw [List.length_map] at r1
        obtain ⟨v, hv, hg⟩ := at_get (xs := ws.map V.int) r0 (by rw [List.length_map]; exact r1)
        obtain ⟨k, hk, rfl⟩ := ints_get hg
        have km : k ∈ ws := List.mem_of_getElem? hk
        have m6 := m5.box B5 k6
        have l6 := l5.box B5 k6
        refine ⟨pw, _, r, _, rfl, rfl, SqL.of (k6 _ _ (bx_ints B5 hw5) hw5), hv, ?_⟩
        refine ⟨_, rfl, _, _, _, _, rfl, rfl, SqL.of m6.mp, rfl, _, rfl, _, _, _, _, rfl, rfl, SqL.of m6.mc, at_u ok, _, _, rfl, ?_⟩
        refine ⟨_, rfl, .inl ⟨rfl, _, SqL.of (m6.u sd)⟩, _, rfl, _, _, _, rfl, rfl, m6.u sd, small1000 (by rw [List.length_map]; omega), ?_⟩
        obtain ⟨km1, can⟩ := List.mem_filter.mp (rw3.1.mem_iff.mp km)
        have kin : Kin L (1 - sd) k := (g.s (1 - sd) ok.other).2 k km1
        have nk : k ∉ L.cell 1 sd := by
          show k ∉ (if (1 : Int) = 0 then L.s sd else L.c sd)
          rw [if_neg (by decide)]; unfold canC at can; simp at can; exact can.2
        have D := deed_fin (deed := 1) l6 m6 g nd ok nk kin B6
        have l7 : LineAt T.C A L (upd H6 (M.u sd) (.lst ((L.c sd).map V.int ++ [.int k]))) := D.1
        refine ⟨_, rfl, A.p, A.dx, _, rfl, l7.obj, rfl, _, rfl, _, rfl, A, L, .int sd, .int k, .int sd, .int k, 0, (fun _ => True), rfl, .int _, .int _, l7, fun s => by have := sm.c s; omega, fun c => ?_, fun s es hs c => ?_, fun s k' es ek hs kn nm => ?_, fun s k' es ek hs kn mm cf => ?_, fun s k' es ek hs kn mm ct H8 k8 h8 => ?_⟩
        · rw [side_ok ok] at c; cases c
        · cases es
          rw [kin_betw kin] at c; cases c
        · cases es; cases ek; exact absurd km1 nm
        · cases es; cases ek; rw [can] at cf; cases cf
        · cases es; cases ek
          obtain ⟨r1, r2, r3, r4, r5⟩ := D.2 H8 k8 h8
          refine ⟨_, _, rfl, .bl _, fun H9 e9 => q (L.put 1 sd k) H9 (r1.ex e9) (r2.ex e9) r3 (r4.ex e9) fun a o ab ac ha => e9 _ _ (r5 a o ac (k6 _ _ ab (e25 _ _ (K2 _ _ ab ha))))⟩
      · rw [decide_eq_false hnf]
        refine iteF ⟨_, rfl, (by show 0 ≤ sizeLine; decide), fun e3 he3 => eq_nil hfb he3 ⟨_, rfl, ?_⟩⟩
        rw [decide_eq_false hnf]
        refine iteF ?_
        have e25 : Ex H2 (upd Hb e3 (.lst [])) := e25b.trans (Ex.new he3)
        have hf5 : upd Hb e3 (.lst []) pf = some (.lst (fs.map V.int)) := (Ex.new he3) _ _ hfb
        generalize upd Hb e3 (.lst []) = H5 at e25 hf5 ⊢
        have l5 := l2.ex e25
        have m5 := m2.ex e25
        have B5 := B2.ex e25
        clear hne
        have hne := hnf
        have pos : 0 < fs.length := by
          match fs, hne with
          | _ :: _, _ => simp
        refine ⟨_, rfl, _, rfl, _, rfl, _, _, rfl, .inl ⟨_, SqL.of hf5, rfl⟩, b, (fs.map V.int).length, n, rfl, by rw [List.length_map]; omega, by rw [List.length_map]; omega, B5, fun r H6 r0 r1 B6 k6 => ?_⟩
        rw [List.length_map] at r1
        obtain ⟨v, hv, hg⟩ := at_get (xs := fs.map V.int) r0 (by rw [List.length_map]; exact r1)
        obtain ⟨k, hk, rfl⟩ := ints_get hg
        have km : k ∈ fs := List.mem_of_getElem? hk
        have m6 := m5.box B5 k6
        have l6 := l5.box B5 k6
        refine ⟨pf, _, r, _, rfl, rfl, SqL.of (k6 _ _ (bx_ints B5 hf5) hf5), hv, ?_⟩
        refine ⟨_, rfl, _, _, _, _, rfl, rfl, SqL.of m6.mp, rfl, _, rfl, _, _, _, _, rfl, rfl, SqL.of m6.ms, at_t ok, _, _, rfl, ?_⟩
        refine ⟨_, rfl, .inl ⟨rfl, _, SqL.of (m6.t sd)⟩, _, rfl, _, _, _, rfl, rfl, m6.t sd, small1000 (by rw [List.length_map]; omega), ?_⟩
        have km0 : k ∈ (upTo (L.kd.many sd)).filter (canS L sd) := by rw [← rf]; exact km
        obtain ⟨km1, can⟩ := List.mem_filter.mp km0
        have kin : Kin L sd k := upTo_mem.mp km1
        have nk : k ∉ L.cell 0 sd := by
          show k ∉ (if (0 : Int) = 0 then L.s sd else L.c sd)
          rw [if_pos rfl]; unfold canS at can; simp at can; exact can.2
        have D := deed_fin (deed := 0) l6 m6 g nd ok nk kin B6
        have l7 : LineAt T.C A L (upd H6 (M.t sd) (.lst ((L.s sd).map V.int ++ [.int k]))) := D.1
        refine ⟨_, rfl, A.p, A.dx, _, rfl, l7.obj, rfl, _, rfl, _, rfl, A, L, .int sd, .int k, .int sd, .int k, 0, (fun _ => True), rfl, .int _, .int _, l7, fun s => by have := sm.s s; omega, fun c => ?_, fun s es hs c => ?_, fun s k' es ek hs kn cf => ?_, fun s k' es ek hs kn ct H8 k8 h8 => ?_⟩
        · rw [side_ok ok] at c; cases c
        · cases es
          rw [kin_betw kin] at c; cases c
        · cases es; cases ek; rw [can] at cf; cases cf
        · cases es; cases ek
          obtain ⟨r1, r2, r3, r4, r5⟩ := D.2 H8 k8 h8
          refine ⟨_, _, rfl, .bl _, fun H9 e9 => q (L.put 0 sd k) H9 (r1.ex e9) (r2.ex e9) r3 (r4.ex e9) fun a o ab ac ha => e9 _ _ (r5 a o ac (k6 _ _ ab (e25 _ _ (K2 _ _ ab ha))))⟩
end
end L2.U


set_option Elab.async false
set_option linter.all false
set_option maxRecDepth 100000
set_option maxHeartbeats 4000000
namespace L2.U
open PySem PySem.Spec PyProof.Rows Evl

section
variable {P : Program} {w : World} {K : PySem.W.Frag} {mg : Str → Option Value} {base : Heap}

theorem ref_w {L : LS} {m : Int} {dx dy : PyData} {w : Str} {j : Nat} (h : refD L m dx dy = some (w, j)) : w.length ≤ 1000 := by
  unfold refD at h
  split at h
  · cases h; decide +kernel
  · split at h
    · cases h
    · split at h
      · cases h; decide +kernel
      · split at h
        · cases h; decide +kernel
        · cases h
theorem at_all {xs : List V} {R : V → Prop} {r : Int} (h : ∀ x ∈ xs, R x) (r0 : 0 ≤ r) (r1 : r < (xs.length : Int)) : ∃ x, atI xs r = some x ∧ R x := by
  obtain ⟨v, hv, hg⟩ := at_get r0 r1
  exact ⟨v, hv, h v (List.mem_of_getElem? hg)⟩
theorem pick2 {σ : St} {H : Hp} {Q : VK} {b : Addr} {wy : Int} {m : Nat} (h5 : σ[5]? = some (some (.int wy))) (h0 : σ[0]? = some (some (.ref b))) (hB : BoxAt H b (m + 1)) (q : ∀ r H', 0 ≤ r → r < 13 → BoxAt H' b m → But b H H' → Q (.int r) H') :
    tIf (tTest (tOp (rI0 fun i j => .bl (decide (i < j))) (tVar 5) (tC (.int 2)))) (tCall spTake [] E0 (tCons (tVar 0) (tCons (tC (.int 13)) tNil))) (tCall spTake [] E0 (tCons (tVar 0) (tCons (tC (.int 2)) tNil))) σ H Q := by
  refine ⟨_, h5, _, _, rfl, rfl, _, rfl, ite2 (fun _ => ?_) (fun _ => ?_)⟩
  · exact ⟨_, h0, b, 13, m, rfl, by decide, by decide, hB, fun r H' a c B k => q r H' a c B k⟩
  · exact ⟨_, h0, b, 2, m, rfl, by decide, by decide, hB, fun r H' a c B k => q r H' a (by omega) B k⟩
theorem one_rd {ok : Addr → Prop} {H : Hp} {i : Int} : RdL K ok H 0 [.int i] [.int i] := by
  refine ⟨rfl, fun k x d hx hd => ?_⟩
  cases k with
  | zero => cases hx; cases hd; exact .int _
  | succ k => cases hx
theorem rd_l1 {ok : Addr → Prop} {H : Hp} {i : Int} {a : Addr} (h : H a = some (.lst [.int i])) (ha : ok a) : Rd K ok H 1 (.ref a) (.list [.int i]) := .lst h ha rfl (by show 1 ≤ 900; decide) (one_rd (K := K) (ok := ok) (H := H)).2
theorem rd_t1 {ok : Addr → Prop} {H : Hp} {i : Int} {a : Addr} (h : H a = some (.tup [.int i])) (ha : ok a) : Rd K ok H 1 (.ref a) (.tuple [.int i]) := .tup h ha rfl (by show 1 ≤ 900; decide) (one_rd (K := K) (ok := ok) (H := H)).2
def spDoors (C : Addr) : Sp := fun vs H Q _ => ∃ (b : Addr) (A : Ln) (M : Md) (L : LS) (named : Int) (n : Nat), vs = [.ref b, .ref A.p, .ref M.mp, .int named] ∧ BoxAt H b (n + 80) ∧ LineAt C A L H ∧ ModAt M L H ∧ LG L ∧
  ∀ H', But b H H' → BoxAt H' b n → Q (.bl true) H'
theorem ok_law_doors_right (T : TK K mg) : FnOk P w K mg base CX0 11 T.law_doors_right.a T.law_doors_right.fd ["box", "line", "model", "named"] (spDoors T.C) := by
  refine T.law_doors_right.F.ok sc_law_doors_right (fun vs H Q E h => ?_) (fun cdv A0 outer s0 H vs Q E hr h => ?_)
  · obtain ⟨b, A, M, L, named, n, rfl, _⟩ := h; rfl
  obtain ⟨b, A, M, L, named, n, rfl, hB, l0, md0, g, q⟩ := h
  refine ⟨_, (pss_cons (ps_for PassesOwn.never rfl (pi_range1 rfl T.z_range (pa_cons pe_int pa_nil)) (pg_name (i := 4) sc_law_doors_right.nd rfl (Or.inl rfl)) (pss_cons (ps_set (i := 5) sc_law_doors_right.nd rfl (Or.inl rfl) (pe_call (ok_law_take T.toTA1) (hr.mono (by decide)) rfl T.law_take.m T.law_take.F.kp T.law_take.b .nil pass0 (pa_cons (pv 0) (pa_cons pe_int pa_nil))))
    (pss_cons (ps_set (i := 6) sc_law_doors_right.nd rfl (Or.inl rfl) (pe_ix (kixl K) (pe_lst (pa_cons pe_int (pa_cons pe_int (pa_cons pe_int (pa_cons (pe_un un_neg pe_int) (pa_cons pe_bl (pa_cons pe_bl (pa_cons pe_non (pa_cons pe_str (pa_cons (pe_lst (pa_cons pe_int pa_nil)) (pa_cons (pe_tup (pa_cons pe_int pa_nil)) (pa_cons (pe_op op_pow pe_int pe_int) (pa_cons pe_int (pa_cons pe_int pa_nil)))))))))))))) (pe_ifExp (pt_cmpR op_lt (pv 5) pe_int (nomark _)) (pe_call (ok_law_take T.toTA1) (hr.mono (by decide)) rfl T.law_take.m T.law_take.F.kp T.law_take.b .nil pass0 (pa_cons (pv 0) (pa_cons pe_int pa_nil))) (pe_call (ok_law_take T.toTA1) (hr.mono (by decide)) rfl T.law_take.m T.law_take.F.kp T.law_take.b .nil pass0 (pa_cons (pv 0) (pa_cons pe_int pa_nil)))) (fun _ _ => rfl)))
    (pss_cons (ps_set (i := 7) sc_law_doors_right.nd rfl (Or.inl rfl) (pe_ix (kixl K) (pe_lst (pa_cons pe_int (pa_cons (pe_un un_neg pe_int) (pa_cons pe_int (pa_cons pe_int (pa_cons (pe_op op_pow pe_int pe_int) (pa_cons pe_bl (pa_cons pe_bl (pa_cons pe_non (pa_cons pe_str (pa_cons (pe_lst (pa_cons pe_int pa_nil)) (pa_cons (pe_tup (pa_cons pe_int pa_nil)) (pa_cons pe_int (pa_cons pe_int pa_nil)))))))))))))) (pe_call (ok_law_take T.toTA1) (hr.mono (by decide)) rfl T.law_take.m T.law_take.F.kp T.law_take.b .nil pass0 (pa_cons (pv 0) (pa_cons pe_int pa_nil))) (fun _ _ => rfl)))
    (pss_cons (ps_if (pt_cmpR op_gt (pv 5) pe_int (nomark _)) (pss_one (ps_set (i := 7) sc_law_doors_right.nd rfl (Or.inl rfl) (pe_op op_add pe_int (pe_call (ok_law_take T.toTA1) (hr.mono (by decide)) rfl T.law_take.m T.law_take.F.kp T.law_take.b .nil pass0 (pa_cons (pv 0) (pa_cons pe_int pa_nil)))))) pss_nil)
    (pss_one (ps_for PassesOwn.never rfl (kpil K (pe_lst (pa_cons (pe_op op_mod (pe_callTy call_int1 (by rfl) T.z_int (by decide +kernel) (pa_cons (pv 4) pa_nil)) pe_int) (pa_cons (pe_call (ok_law_take T.toTA1) (hr.mono (by decide)) rfl T.law_take.m T.law_take.F.kp T.law_take.b .nil pass0 (pa_cons (pv 0) (pa_cons pe_int pa_nil))) pa_nil)))) (pg_name (i := 8) sc_law_doors_right.nd rfl (Or.inl rfl)) (pss_cons (ps_set (i := 9) sc_law_doors_right.nd rfl (Or.inl rfl) (pe_call (ok_law_refused T) (hr.mono (by decide)) rfl T.law_refused.m T.law_refused.F.kp T.law_refused.b .nil pass0 (pa_cons (pe_ix (kixl K) (pv 2) pe_int (fun _ _ => rfl)) (pa_cons (pe_ix (kixl K) (pv 2) pe_int (fun _ _ => rfl)) (pa_cons (pv 8) (pa_cons (pv 6) (pa_cons (pv 7) pa_nil)))))))
    (pss_one (ps_if (pt_cmpR op_notN (pv 9) pe_non (nomark _)) (pss_one (ps_if (pt_not (pt_val (pe_call (ok_law_same T.toTA1) (hr.mono (by decide)) rfl T.law_same.m T.law_same.F.kp T.law_same.b .nil pass0 (pa_cons (pe_call (ok_law_told T) (hr.mono (by decide)) rfl T.law_told.m T.law_told.F.kp T.law_told.b .nil pass0 (pa_cons (pv 1) (pa_cons (pv 8) (pa_cons (pe_op op_mod (pe_callTy call_int1 (by rfl) T.z_int (by decide +kernel) (pa_cons (pe_op op_add (pv 3) (pv 4)) pa_nil)) pe_int) (pa_cons (pv 6) (pa_cons (pv 7) pa_nil)))))) (pa_cons (pv 9) pa_nil))))) (pss_one (ps_ret pe_bl)) pss_nil)) (pss_one (ps_if (PW.pt (pw_and (pt_cmpR op_gt (pv 8) pe_int (nomark _)) (pw_and1 (pt_cmpR op_ne (pe_ix (kixt K) (pe_call (ok_law_told T) (hr.mono (by decide)) rfl T.law_told.m T.law_told.F.kp T.law_told.b .nil pass0 (pa_cons (pv 1) (pa_cons (pv 8) (pa_cons (pe_op op_mod (pe_callTy call_int1 (by rfl) T.z_int (by decide +kernel) (pa_cons (pe_op op_add (pv 3) (pv 4)) pa_nil)) pe_int) (pa_cons (pv 6) (pa_cons (pv 7) pa_nil)))))) pe_int (fun _ _ => rfl)) pe_str (nomark _))))) (pss_one (ps_ret pe_bl)) pss_nil))))))))))))
    (pss_one (ps_ret (pe_call (ok_law_same T.toTA1) (hr.mono (by decide)) rfl T.law_same.m T.law_same.F.kp T.law_same.b .nil pass0 (pa_cons (pe_call (ok_law_all T) (hr.mono (by decide)) rfl T.law_all.m T.law_all.F.kp T.law_all.b .nil pass0 (pa_cons (pv 1) pa_nil)) (pa_cons (pe_call (ok_law_view T) (hr.mono (by decide)) rfl T.law_view.m T.law_view.F.kp T.law_view.b .nil pass0 (pa_cons (pv 2) pa_nil)) pa_nil)))))), ?_⟩
  refine ⟨16, rfl, by decide, by decide, for_range (lo := 0) (n := (16 : Int).toNat) (fun i σ H' => (∃ v4 v5 v6 v7 v8 v9, σ = [some (.ref b), some (.ref A.p), some (.ref M.mp), some (.int named), v4, v5, v6, v7, v8, v9]) ∧
    BoxAt H' b (n + 5 * (16 - i)) ∧ But b H H' ∧ LineAt T.C A L H' ∧ ModAt M L H') ⟨⟨_, _, _, _, _, _, rfl⟩, hB, But.of (Ex.refl H), l0, md0⟩ ?_ ?_⟩
  case refine_2 =>
    rintro σ H' ⟨⟨v4, v5, v6, v7, v8, v9, rfl⟩, B, k, l, m⟩
    have sm := g.sm l.ok
    exact ⟨_, rfl, A, L, rfl, l, sm, fun v H8 e8 hv => ⟨_, rfl, M, L, rfl, m.ex e8, sm, fun u H9 e9 hu => ⟨_, _, rfl, ViewAt.sm sm l.ok (hv.ex e9) hu, fun H10 e10 => q H10 (But.ex k ((e8.trans e9).trans e10)) ((B.ex ((e8.trans e9).trans e10)).le (by omega))⟩⟩⟩
  rintro i σ H1 hi ⟨⟨v4, v5, v6, v7, v8, v9, rfl⟩, B, kk, l, m⟩
  have hi' : i < 16 := hi
  obtain ⟨nn, hnn, hn2⟩ : ∃ nn, n + 5 * (16 - i) = nn + 5 ∧ n + 5 * (16 - (i + 1)) = nn := ⟨n + 5 * (16 - (i + 1)), by omega, rfl⟩
  rw [hnn] at B
  refine ⟨_, rfl, b, 4, nn + 4, rfl, by decide, by decide, B, fun wy H2 w0 w1 B2 k2 => ?_⟩
  refine ⟨1, rfl, (by show 1 ≤ sizeLine; decide), fun o ho => ⟨(by show 1 ≤ sizeLine; decide), fun t ht => ⟨10, 39, rfl, rfl, (by unfold CPow; decide), (by show 13 ≤ sizeLine; decide), fun z hz => ?_⟩⟩⟩
  refine pick2 (b := b) (wy := wy) (m := nn + 3) rfl rfl (B2.ex (((Ex.new ho).trans (Ex.new ht)).trans (Ex.new hz))) fun r H3 r0 r1 B3 k3 => ?_
  obtain ⟨bo2, hbo2⟩ := B2.some
  have yo : o ≠ b := (ne_of_none hbo2 ho).symm
  have yt : t ≠ b := (ne_of_none ((Ex.new ho) _ _ hbo2) ht).symm
  have yz : z ≠ b := (ne_of_none ((Ex.new ht) _ _ ((Ex.new ho) _ _ hbo2)) hz).symm
  have xz := k3 z _ yz upd_same
  have xo := k3 o _ yo ((Ex.new hz) _ _ ((Ex.new ht) _ _ upd_same))
  have xt := k3 t _ yt ((Ex.new hz) _ _ upd_same)
  have k13 : But b H1 H3 := k2.trans (But.pre (((Ex.new ho).trans (Ex.new ht)).trans (Ex.new hz)) k3)
  clear k3 hz ht ho
  obtain ⟨x, hat, dx, hx⟩ := at_all (xs := [V.int 0, V.int 1, V.int 2, V.int (-1), V.bl true, V.bl false, V.non, V.str "0", V.ref o, V.ref t, V.int (10 ^ (39 : Int).toNat), V.int 0, V.int 1]) (R := fun x => ∃ d, Rd K (fun a => a ≠ b) H3 1 x d) (r := r) (fun x hx => by
    simp only [List.mem_cons, List.not_mem_nil, or_false] at hx
    rcases hx with rfl | rfl | rfl | rfl | rfl | rfl | rfl | rfl | rfl | rfl | rfl | rfl | rfl <;> first | exact ⟨_, .int _⟩ | exact ⟨_, .bl _⟩ | exact ⟨_, .non⟩ | exact ⟨_, .str _ (by decide +kernel) (by decide +kernel)⟩ | exact ⟨_, rd_l1 xo yo⟩ | exact ⟨_, rd_t1 xt yt⟩) r0 (by simpa using r1)
  refine ⟨z, _, r, x, rfl, rfl, SqL.of xz, hat, ?_⟩
  refine ⟨1, rfl, 10, 39, rfl, rfl, (by unfold CPow; decide), (by show 1 ≤ sizeLine; decide), fun o2 ho2 => ⟨(by show 1 ≤ sizeLine; decide), fun t2 ht2 => ⟨(by show 13 ≤ sizeLine; decide), fun z2 hz2 => ⟨_, rfl, b, 13, nn + 2, rfl, by decide, by decide, B3.ex (((Ex.new ho2).trans (Ex.new ht2)).trans (Ex.new hz2)), fun r2 H4 r20 r21 B4 k4 => ?_⟩⟩⟩⟩
  obtain ⟨bo3, hbo3⟩ := B3.some
  have yo2 : o2 ≠ b := (ne_of_none hbo3 ho2).symm
  have yt2 : t2 ≠ b := (ne_of_none ((Ex.new ho2) _ _ hbo3) ht2).symm
  have yz2 : z2 ≠ b := (ne_of_none ((Ex.new ht2) _ _ ((Ex.new ho2) _ _ hbo3)) hz2).symm
  have xz2 := k4 z2 _ yz2 upd_same
  have xo2 := k4 o2 _ yo2 ((Ex.new hz2) _ _ ((Ex.new ht2) _ _ upd_same))
  have xt2 := k4 t2 _ yt2 ((Ex.new hz2) _ _ upd_same)
  have k34 : But b H3 H4 := But.pre (((Ex.new ho2).trans (Ex.new ht2)).trans (Ex.new hz2)) k4
  clear k4 hz2 ht2 ho2
  have hx4 := hx.but k34 (fun a h => h)
  have k14 := k13.trans k34
  obtain ⟨y, hat2, dy, hy⟩ := at_all (xs := [V.int 0, V.int (-1), V.int 9, V.int 11, V.int (10 ^ (39 : Int).toNat), V.bl true, V.bl false, V.non, V.str "1", V.ref o2, V.ref t2, V.int 8, V.int 10]) (R := fun x => ∃ d, Rd K (fun a => a ≠ b) H4 1 x d) (r := r2) (fun x hx => by
    simp only [List.mem_cons, List.not_mem_nil, or_false] at hx
    rcases hx with rfl | rfl | rfl | rfl | rfl | rfl | rfl | rfl | rfl | rfl | rfl | rfl | rfl <;> first | exact ⟨_, .int _⟩ | exact ⟨_, .bl _⟩ | exact ⟨_, .non⟩ | exact ⟨_, .str _ (by decide +kernel) (by decide +kernel)⟩ | exact ⟨_, rd_l1 xo2 yo2⟩ | exact ⟨_, rd_t1 xt2 yt2⟩) r20 (by simpa using r21)
  refine ⟨z2, _, r2, y, rfl, rfl, SqL.of xz2, hat2, ?_⟩
  refine ⟨_, rfl, _, _, rfl, rfl, _, rfl, ite2 (fun _ => ?_) (fun _ => ?_)⟩
  · refine ⟨_, rfl, b, 8, nn + 1, rfl, by decide, by decide, B4, fun r4 H6 _ _ B6 k6 => ⟨1, r4, rfl, rfl, ?_⟩⟩
    have k16 : But b H1 H6 := k14.trans k6
    have hx6 := hx4.but k6 (fun a h => h)
    obtain ⟨dy, hy6⟩ : ∃ dy, Rd K (fun a => a ≠ b) H6 1 (.int (1 + r4)) dy := ⟨_, .int _⟩
    have l6 := l.box B k16
    have m6 := m.box B k16
    have sm := g.sm l.ok
    have m0 : 0 ≤ (0 + (i : Int)) % 7 ∧ (0 + (i : Int)) % 7 ≤ 6 := by omega
    refine ⟨_, rfl, .inl ⟨_, rfl, _, 7, rfl, rfl, (by show (0 : Int) < 7; decide), ⟨_, rfl, b, 2, nn, rfl, by decide, by decide, B6, fun r3 H7 s0 s1 B7 k7 => ⟨two_le, fun z3 hz3 => ?_⟩⟩⟩⟩
    have K7 : But b H1 H7 := k16.trans k7
    have l7 := (l6.box B6 k7).ex (Ex.new (o := .lst [.int ((0 + (i : Int)) % 7), .int r3]) hz3)
    have m7 := (m6.box B6 k7).ex (Ex.new (o := .lst [.int ((0 + (i : Int)) % 7), .int r3]) hz3)
    have hx7 := (hx6.but k7 (fun a h => h)).ex (Ex.new (o := .lst [.int ((0 + (i : Int)) % 7), .int r3]) hz3)
    have hy7 := (hy6.but k7 (fun a h => h)).ex (Ex.new (o := .lst [.int ((0 + (i : Int)) % 7), .int r3]) hz3)
    have B8 := B7.ex (Ex.new (o := .lst [.int ((0 + (i : Int)) % 7), .int r3]) hz3)
    have K8 : But b H1 (upd H7 z3 (.lst [.int ((0 + (i : Int)) % 7), .int r3])) := But.ex K7 (Ex.new hz3)
    have hzz : upd H7 z3 (.lst [.int ((0 + (i : Int)) % 7), .int r3]) z3 = some (.lst [.int ((0 + (i : Int)) % 7), .int r3]) := upd_same
    generalize upd H7 z3 (.lst [.int ((0 + (i : Int)) % 7), .int r3]) = H8 at l7 m7 hx7 hy7 B8 K8 hzz ⊢
    refine ⟨z3, rfl, ⟨_, SqL.of hzz⟩, for_list (xs := [.int ((0 + (i : Int)) % 7), .int r3]) (fun _ σ H' => Ex H8 H' ∧ ∃ v4 v5 v8 v9, σ = [some (.ref b), some (.ref A.p), some (.ref M.mp), some (.int named), some (.int (0 + (i : Int))), v5, some x, some (.int (1 + r4)), v8, v9] ∧ v4 = v5) ⟨Ex.refl _, _, _, _, _, rfl, rfl⟩ (fun _ σ H' _ h => SqL.of (h.1 _ _ hzz)) ?_ ?_⟩
    · rintro jj v σ H' hv ⟨e, v4, v5, v8, v9, rfl, _⟩
      obtain ⟨mt, rfl, mt0, mt1⟩ : ∃ mt : Int, v = .int mt ∧ 0 ≤ mt ∧ mt ≤ 6 := by
        match jj, hv with
        | 0, hv => cases hv; exact ⟨_, rfl, m0.1, m0.2⟩
        | 1, hv => cases hv; exact ⟨_, rfl, s0, by omega⟩
      have l9 := l7.ex e
      have m9 := m7.ex e
      have hx9 := hx7.ex e
      have hy9 := hy7.ex e
      refine ⟨_, rfl, _, _, _, _, rfl, rfl, SqL.of m9.mp, rfl, _, rfl, _, _, _, _, rfl, rfl, SqL.of m9.mp, rfl, _, rfl, _, rfl, _, rfl, M, L, mt, x, .int (1 + r4), dx, dy, 1, _, rfl, m9, hx9, hy9, ⟨mt0, mt1⟩, fun hn => ?_, fun w j z hs hj t H10 e10 ht => ?_⟩
      · refine ⟨_, rfl, rfl, _, rfl, iteF ⟨_, rfl, _, _, rfl, rfl, _, rfl, ite2 (fun c => ?_) (fun c => ?_)⟩⟩
        · have c1 : 1 < mt := of_decide_eq_true c
          refine ⟨_, rfl, _, rfl, _, rfl, _, rfl, _, _, rfl, rfl, .inl ⟨_, rfl, _, 2, rfl, rfl, (by show (0 : Int) < 2; decide), _, rfl, _, rfl, A, L, mt, _, x, .int (1 + r4), dx, dy, 1, _, rfl, l9, sm, hx9, hy9, ⟨mt0, mt1⟩, fun _ => c1, fun _ vv t H10 e10 _ ht => ?_, fun w j z hs => absurd (hn.symm.trans hs) (by intro z; cases z)⟩⟩
          exact ⟨t, _, 0, _, rfl, rfl, SqT.of ht, rfl, rfl, _, rfl, iteF ⟨e.trans e10, _, _, _, _, rfl, rfl⟩⟩
        · exact ⟨e, _, _, _, _, rfl, rfl⟩
      · have hz9 : Rd K (fun a => a ≠ b) H' 1 z dx ∨ Rd K (fun a => a ≠ b) H' 1 z dy := by
          match j, hj with
          | 0, hj => cases hj; exact .inl hx9
          | 1, hj => cases hj; exact .inr hy9
        have szz : ∀ {H'' : Hp}, Ex H' H'' → Sm K H'' 3 z z := fun ee => by
          rcases hz9 with h | h
          · exact ((h.ex ee).sm (h.ex ee)).le (by decide)
          · exact ((h.ex ee).sm (h.ex ee)).le (by decide)
        refine ⟨_, rfl, rfl, _, rfl, iteT ?_⟩
        refine ⟨_, rfl, _, rfl, _, rfl, _, rfl, _, _, rfl, rfl, .inl ⟨_, rfl, _, 2, rfl, rfl, (by show (0 : Int) < 2; decide), _, rfl, _, rfl, A, L, mt, _, x, .int (1 + r4), dx, dy, 1, _, rfl, l9.ex e10, sm, hx9.ex e10, hy9.ex e10, ⟨mt0, mt1⟩, fun hn => absurd (hs.symm.trans hn) (by intro z; cases z), fun hn => absurd (hs.symm.trans hn) (by intro z; cases z), fun w' j' z' hs' hj' t' H11 e11 _ ht' => ?_⟩⟩
        obtain ⟨rfl, rfl⟩ : w' = w ∧ j' = j := by
          have h := Option.some.inj (hs'.symm.trans hs)
          exact ⟨congrArg Prod.fst h, congrArg Prod.snd h⟩
        obtain rfl : z' = z := Option.some.inj (hj'.symm.trans hj)
        exact ⟨_, rfl, _, _, rfl, sm_pair ht' (e11 _ _ ht) (ref_w hs) (szz (e10.trans e11)), fun H12 e12 => ⟨true, rfl, iteF ⟨((e.trans e10).trans e11).trans e12, _, _, _, _, rfl, rfl⟩⟩⟩
    · rintro σ H' ⟨e, v4, v5, v8, v9, rfl, _⟩
      exact ⟨⟨_, _, _, _, _, _, rfl⟩, (B8.ex e).le (by omega), But.ex (kk.trans K8) e, l7.ex e, m7.ex e⟩
  · have B6 := B4.le (show nn + 1 ≤ nn + 2 by omega)
    have k16 := k14
    have hx6 := hx4
    have hy6 := hy
    have l6 := l.box B k16
    have m6 := m.box B k16
    have sm := g.sm l.ok
    have m0 : 0 ≤ (0 + (i : Int)) % 7 ∧ (0 + (i : Int)) % 7 ≤ 6 := by omega
    refine ⟨_, rfl, .inl ⟨_, rfl, _, 7, rfl, rfl, (by show (0 : Int) < 7; decide), ⟨_, rfl, b, 2, nn, rfl, by decide, by decide, B6, fun r3 H7 s0 s1 B7 k7 => ⟨two_le, fun z3 hz3 => ?_⟩⟩⟩⟩
    have K7 : But b H1 H7 := k16.trans k7
    have l7 := (l6.box B6 k7).ex (Ex.new (o := .lst [.int ((0 + (i : Int)) % 7), .int r3]) hz3)
    have m7 := (m6.box B6 k7).ex (Ex.new (o := .lst [.int ((0 + (i : Int)) % 7), .int r3]) hz3)
    have hx7 := (hx6.but k7 (fun a h => h)).ex (Ex.new (o := .lst [.int ((0 + (i : Int)) % 7), .int r3]) hz3)
    have hy7 := (hy6.but k7 (fun a h => h)).ex (Ex.new (o := .lst [.int ((0 + (i : Int)) % 7), .int r3]) hz3)
    have B8 := B7.ex (Ex.new (o := .lst [.int ((0 + (i : Int)) % 7), .int r3]) hz3)
    have K8 : But b H1 (upd H7 z3 (.lst [.int ((0 + (i : Int)) % 7), .int r3])) := But.ex K7 (Ex.new hz3)
    have hzz : upd H7 z3 (.lst [.int ((0 + (i : Int)) % 7), .int r3]) z3 = some (.lst [.int ((0 + (i : Int)) % 7), .int r3]) := upd_same
    generalize upd H7 z3 (.lst [.int ((0 + (i : Int)) % 7), .int r3]) = H8 at l7 m7 hx7 hy7 B8 K8 hzz ⊢
    refine ⟨z3, rfl, ⟨_, SqL.of hzz⟩, for_list (xs := [.int ((0 + (i : Int)) % 7), .int r3]) (fun _ σ H' => Ex H8 H' ∧ ∃ v4 v5 v8 v9, σ = [some (.ref b), some (.ref A.p), some (.ref M.mp), some (.int named), some (.int (0 + (i : Int))), v5, some x, some y, v8, v9] ∧ v4 = v5) ⟨Ex.refl _, _, _, _, _, rfl, rfl⟩ (fun _ σ H' _ h => SqL.of (h.1 _ _ hzz)) ?_ ?_⟩
    · rintro jj v σ H' hv ⟨e, v4, v5, v8, v9, rfl, _⟩
      obtain ⟨mt, rfl, mt0, mt1⟩ : ∃ mt : Int, v = .int mt ∧ 0 ≤ mt ∧ mt ≤ 6 := by
        match jj, hv with
        | 0, hv => cases hv; exact ⟨_, rfl, m0.1, m0.2⟩
        | 1, hv => cases hv; exact ⟨_, rfl, s0, by omega⟩
      have l9 := l7.ex e
      have m9 := m7.ex e
      have hx9 := hx7.ex e
      have hy9 := hy7.ex e
      refine ⟨_, rfl, _, _, _, _, rfl, rfl, SqL.of m9.mp, rfl, _, rfl, _, _, _, _, rfl, rfl, SqL.of m9.mp, rfl, _, rfl, _, rfl, _, rfl, M, L, mt, x, y, dx, dy, 1, _, rfl, m9, hx9, hy9, ⟨mt0, mt1⟩, fun hn => ?_, fun w j z hs hj t H10 e10 ht => ?_⟩
      · refine ⟨_, rfl, rfl, _, rfl, iteF ⟨_, rfl, _, _, rfl, rfl, _, rfl, ite2 (fun c => ?_) (fun c => ?_)⟩⟩
        · have c1 : 1 < mt := of_decide_eq_true c
          refine ⟨_, rfl, _, rfl, _, rfl, _, rfl, _, _, rfl, rfl, .inl ⟨_, rfl, _, 2, rfl, rfl, (by show (0 : Int) < 2; decide), _, rfl, _, rfl, A, L, mt, _, x, y, dx, dy, 1, _, rfl, l9, sm, hx9, hy9, ⟨mt0, mt1⟩, fun _ => c1, fun _ vv t H10 e10 _ ht => ?_, fun w j z hs => absurd (hn.symm.trans hs) (by intro z; cases z)⟩⟩
          exact ⟨t, _, 0, _, rfl, rfl, SqT.of ht, rfl, rfl, _, rfl, iteF ⟨e.trans e10, _, _, _, _, rfl, rfl⟩⟩
        · exact ⟨e, _, _, _, _, rfl, rfl⟩
      · have hz9 : Rd K (fun a => a ≠ b) H' 1 z dx ∨ Rd K (fun a => a ≠ b) H' 1 z dy := by
          match j, hj with
          | 0, hj => cases hj; exact .inl hx9
          | 1, hj => cases hj; exact .inr hy9
        have szz : ∀ {H'' : Hp}, Ex H' H'' → Sm K H'' 3 z z := fun ee => by
          rcases hz9 with h | h
          · exact ((h.ex ee).sm (h.ex ee)).le (by decide)
          · exact ((h.ex ee).sm (h.ex ee)).le (by decide)
        refine ⟨_, rfl, rfl, _, rfl, iteT ?_⟩
        refine ⟨_, rfl, _, rfl, _, rfl, _, rfl, _, _, rfl, rfl, .inl ⟨_, rfl, _, 2, rfl, rfl, (by show (0 : Int) < 2; decide), _, rfl, _, rfl, A, L, mt, _, x, y, dx, dy, 1, _, rfl, l9.ex e10, sm, hx9.ex e10, hy9.ex e10, ⟨mt0, mt1⟩, fun hn => absurd (hs.symm.trans hn) (by intro z; cases z), fun hn => absurd (hs.symm.trans hn) (by intro z; cases z), fun w' j' z' hs' hj' t' H11 e11 _ ht' => ?_⟩⟩
        obtain ⟨rfl, rfl⟩ : w' = w ∧ j' = j := by
          have h := Option.some.inj (hs'.symm.trans hs)
          exact ⟨congrArg Prod.fst h, congrArg Prod.snd h⟩
        obtain rfl : z' = z := Option.some.inj (hj'.symm.trans hj)
        exact ⟨_, rfl, _, _, rfl, sm_pair ht' (e11 _ _ ht) (ref_w hs) (szz (e10.trans e11)), fun H12 e12 => ⟨true, rfl, iteF ⟨((e.trans e10).trans e11).trans e12, _, _, _, _, rfl, rfl⟩⟩⟩
    · rintro σ H' ⟨e, v4, v5, v8, v9, rfl, _⟩
      exact ⟨⟨_, _, _, _, _, _, rfl⟩, (B8.ex e).le (by omega), But.ex (kk.trans K8) e, l7.ex e, m7.ex e⟩
end
end L2.U


set_option Elab.async false
set_option linter.all false
set_option maxRecDepth 100000
set_option maxHeartbeats 4000000
namespace L2.U
open PySem PySem.Spec PyProof.Rows Evl

section
variable {P : Program} {w : World} {K : PySem.W.Frag} {mg : Str → Option Value} {base : Heap}

def spVery (C : Addr) : Sp := fun vs H Q _ => ∃ (A : Ln) (L : LS) (named : Int), vs = [.ref A.p, .int named] ∧ LineAt C A L H ∧ LSm L ∧ Side named ∧ ∀ H', Ex H H' → Q (.bl true) H'
theorem sm_tw {H : Hp} {t u : Addr} {w : Str} {x y : V} {n : Nat} (ht : H t = some (.tup [.str w, x])) (hu : H u = some (.tup [.str w, y])) (hw : w.length ≤ 1000) (h : Sm K H n x y) : Sm K H (n + 1) (.ref t) (.ref u) := by
  refine .tup (SqT.of ht) (SqT.of hu) rfl (by show 2 ≤ 1000; decide) fun i a b ha hb => ?_
  match i, ha, hb with
  | 0, ha, hb => cases ha; cases hb; exact .str w hw
  | 1, ha, hb => cases ha; cases hb; exact h
theorem sm_l2 {H : Hp} {p u : Addr} {i j : Int} {n : Nat} (hp : H p = some (.lst [.int i, .int j])) (hu : H u = some (.lst [.int i, .int j])) : Sm K H (n + 1) (.ref p) (.ref u) := by
  refine .lst (SqL.of hp) (SqL.of hu) rfl (by show 2 ≤ 1000; decide) fun k a b ha hb => ?_
  match k, ha, hb with
  | 0, ha, hb => cases ha; cases hb; exact .int _
  | 1, ha, hb => cases ha; cases hb; exact .int _
theorem sm_l3 {H : Hp} {p u : Addr} {a1 a2 a3 b1 b2 b3 : V} {n : Nat} (hp : H p = some (.lst [a1, a2, a3])) (hu : H u = some (.lst [b1, b2, b3])) (h1 : Sm K H n a1 b1) (h2 : Sm K H n a2 b2) (h3 : Sm K H n a3 b3) : Sm K H (n + 1) (.ref p) (.ref u) := by
  refine .lst (SqL.of hp) (SqL.of hu) rfl (by show 3 ≤ 1000; decide) fun k a b ha hb => ?_
  match k, ha, hb with
  | 0, ha, hb => cases ha; cases hb; exact h1
  | 1, ha, hb => cases ha; cases hb; exact h2
  | 2, ha, hb => cases ha; cases hb; exact h3
theorem ok_law_very (T : TK K mg) : FnOk P w K mg base CX0 11 T.law_very.a T.law_very.fd ["line", "named"] (spVery T.C) := by
  refine T.law_very.F.ok sc_law_very (fun vs H Q E h => ?_) (fun cdv A0 outer s0 H vs Q E hr h => ?_)
  · obtain ⟨A, L, named, rfl, _⟩ := h; rfl
  obtain ⟨A, L, named, rfl, l, sm, ok, q⟩ := h
  refine ⟨_, (pss_cons (ps_par (i := 2) (j := 3) (by rfl) sc_law_very.nd rfl rfl (by decide) rfl rfl (pa_cons (pe_lst (pa_cons pe_int pa_nil)) (pa_cons (pe_lst (pa_cons pe_int pa_nil)) pa_nil)) (by rfl))
    (pss_cons (ps_set (i := 4) sc_law_very.nd rfl (Or.inl rfl) (pe_lst (pa_cons (pe_call (ok_law_told T) (hr.mono (by decide)) rfl T.law_told.m T.law_told.F.kp T.law_told.b .nil pass0 (pa_cons (pv 0) (pa_cons (pe_op op_add pe_int (pv 1)) (pa_cons (pv 1) (pa_cons (pv 2) (pa_cons pe_int pa_nil)))))) (pa_cons (pe_call (ok_law_told T) (hr.mono (by decide)) rfl T.law_told.m T.law_told.F.kp T.law_told.b .nil pass0 (pa_cons (pv 0) (pa_cons pe_int (pa_cons (pv 1) (pa_cons (pv 1) (pa_cons (pv 3) pa_nil)))))) (pa_cons (pe_call (ok_law_told T) (hr.mono (by decide)) rfl T.law_told.m T.law_told.F.kp T.law_told.b .nil pass0 (pa_cons (pv 0) (pa_cons pe_int (pa_cons (pe_op op_sub pe_int (pv 1)) (pa_cons (pv 1) (pa_cons (pv 3) pa_nil)))))) pa_nil)))))
    (pss_cons (ps_expr (pe_bm PySem.F.plainAttrs_list PySem.F.slot_list_append PySem.F.type_list_append mt_append (pv 2) (pa_cons pe_int pa_nil)))
    (pss_cons (ps_expr (pe_bm PySem.F.plainAttrs_list PySem.F.slot_list_append PySem.F.type_list_append mt_append (pv 3) (pa_cons pe_int pa_nil)))
    (pss_one (ps_ret (pe_call (ok_law_same T.toTA1) (hr.mono (by decide)) rfl T.law_same.m T.law_same.F.kp T.law_same.b .nil pass0 (pa_cons (pv 4) (pa_cons (pe_lst (pa_cons (pe_tup (pa_cons pe_str (pa_cons (pe_lst (pa_cons pe_int (pa_cons pe_int pa_nil))) pa_nil))) (pa_cons (pe_tup (pa_cons pe_str (pa_cons (pe_lst (pa_cons pe_int (pa_cons pe_int pa_nil))) pa_nil))) (pa_cons (pe_tup (pa_cons pe_str (pa_cons (pe_lst (pa_cons pe_int (pa_cons pe_int pa_nil))) pa_nil))) pa_nil)))) pa_nil))))))))), ?_⟩
  have ok' := ok
  unfold Side at ok'
  refine ⟨(by show 1 ≤ sizeLine; decide), fun p hp => ⟨(by show 1 ≤ sizeLine; decide), fun o ho => ⟨_, _, rfl, ?_⟩⟩⟩
  have hoH : H o = none := fresh_back (Ex.new hp) ho
  have po : p ≠ o := ne_of_none upd_same ho
  have xp : upd (upd H p (.lst [.int 0])) o (.lst [.int 1]) p = some (.lst [.int 0]) := (Ex.new ho) _ _ upd_same
  have xo : upd (upd H p (.lst [.int 0])) o (.lst [.int 1]) o = some (.lst [.int 1]) := upd_same
  have e2 : Ex H (upd (upd H p (.lst [.int 0])) o (.lst [.int 1])) := (Ex.new hp).trans (Ex.new ho)
  generalize upd (upd H p (.lst [.int 0])) o (.lst [.int 1]) = H2 at xp xo e2 ⊢
  have s1 : ∀ {m : Int} {dy : PyData}, refD L m (.list [.int 0]) dy = some (("side" : Str), 0) := ref_side rfl
  have s2 : refD L 0 (.int named) (.list [.int 1]) = some (("kind" : Str), 1) := ref_kind ok (by decide) rfl
  have s3 : refD L 1 (.int named) (.list [.int 1]) = some (("kind" : Str), 1) := ref_kind ok (by decide) rfl
  refine ⟨_, rfl, _, rfl, _, _, rfl, rfl, _, rfl, _, rfl, A, L, 2 + named, named, .ref p, .int 1, .list [.int 0], .int 1, 1, (fun _ => True), rfl, l.ex e2, sm, rd_l1 xp trivial, .int _, ⟨by omega, by omega⟩, fun h => absurd (s1.symm.trans h) (by intro z; cases z), fun h => absurd (s1.symm.trans h) (by intro z; cases z), fun w j z hs hj t1 H3 e3 _ h3 => ?_⟩
  cases s1.symm.trans hs
  cases hj
  refine ⟨_, rfl, _, rfl, _, rfl, _, rfl, A, L, 0, named, .int named, .ref o, .int named, .list [.int 1], 1, (fun _ => True), rfl, l.ex (e2.trans e3), sm, .int _, rd_l1 (e3 _ _ xo) trivial, ⟨by omega, by omega⟩, fun h => absurd (s2.symm.trans h) (by intro z; cases z), fun h => absurd (s2.symm.trans h) (by intro z; cases z), fun w j z hs hj t2 H4 e4 _ h4 => ?_⟩
  cases s2.symm.trans hs
  cases hj
  refine ⟨_, rfl, _, rfl, _, _, rfl, rfl, _, rfl, _, rfl, A, L, 1, 1 - named, .int named, .ref o, .int named, .list [.int 1], 1, (fun _ => True), rfl, l.ex ((e2.trans e3).trans e4), sm, .int _, rd_l1 (e4 _ _ (e3 _ _ xo)) trivial, ⟨by omega, by omega⟩, fun h => absurd (s3.symm.trans h) (by intro z; cases z), fun h => absurd (s3.symm.trans h) (by intro z; cases z), fun w j z hs hj t3 H5 e5 _ h5 => ?_⟩
  cases s3.symm.trans hs
  cases hj
  refine ⟨three_le, fun w hw => ?_⟩
  have e25 : Ex H2 H5 := (e3.trans e4).trans e5
  have xp5 := e25 _ _ xp
  have xo5 := e25 _ _ xo
  have wp : w ≠ p := (ne_of_none xp5 hw).symm
  have wo : w ≠ o := (ne_of_none xo5 hw).symm
  have xw : upd H5 w (.lst [.ref t1, .ref t2, .ref t3]) w = some (.lst [.ref t1, .ref t2, .ref t3]) := upd_same
  have n6 : Ex H5 (upd H5 w (.lst [.ref t1, .ref t2, .ref t3])) := Ex.new hw
  have g1 := n6 _ _ (e5 _ _ (e4 _ _ h3))
  have g2 := n6 _ _ (e5 _ _ h4)
  have g3 := n6 _ _ h5
  have gp := n6 _ _ xp5
  have go := n6 _ _ xo5
  have e6 : Ex H (upd H5 w (.lst [.ref t1, .ref t2, .ref t3])) := (e2.trans e25).trans n6
  generalize upd H5 w (.lst [.ref t1, .ref t2, .ref t3]) = H6 at xw g1 g2 g3 gp go e6 ⊢
  refine ⟨_, rfl, .inl ⟨rfl, _, SqL.of gp⟩, p, _, _, rfl, rfl, gp, (by show 1 < sizeLine; decide), ?_⟩
  have kp : But p H6 (upd H6 p (.lst ([.int 0] ++ [.int 1]))) := But.upd
  have go7 := kp _ _ po.symm go
  refine ⟨_, rfl, .inl ⟨rfl, _, SqL.of go7⟩, o, _, _, rfl, rfl, go7, (by show 1 < sizeLine; decide), ?_⟩
  have ko : But o (upd H6 p (.lst ([.int 0] ++ [.int 1]))) (upd (upd H6 p (.lst ([.int 0] ++ [.int 1]))) o (.lst ([.int 1] ++ [.int 2]))) := But.upd
  have tp : ∀ {t : Addr} {xs : List V} {p : Addr} {ys : List V}, H6 t = some (.tup xs) → H6 p = some (.lst ys) → t ≠ p := fun h1 h2 => ne_of h1 h2 (by intro z; cases z)
  have f1 := ko _ _ (tp g1 go) (kp _ _ (tp g1 gp) g1)
  have f2 := ko _ _ (tp g2 go) (kp _ _ (tp g2 gp) g2)
  have f3 := ko _ _ (tp g3 go) (kp _ _ (tp g3 gp) g3)
  have fw := ko _ _ wo (kp _ _ wp xw)
  have fp := ko _ _ po upd_same
  have fo : upd (upd H6 p (.lst ([.int 0] ++ [.int 1]))) o (.lst ([.int 1] ++ [.int 2])) o = some (.lst [.int 1, .int 2]) := upd_same
  have e8 : Ex H (upd (upd H6 p (.lst ([.int 0] ++ [.int 1]))) o (.lst ([.int 1] ++ [.int 2]))) := (e6.mut hp).mut hoH
  generalize upd (upd H6 p (.lst ([.int 0] ++ [.int 1]))) o (.lst ([.int 1] ++ [.int 2])) = H8 at f1 f2 f3 fw fp fo e8 ⊢
  refine ⟨_, rfl, two_le, fun q1 hq1 => ⟨two_le, fun u1 hu1 => ⟨two_le, fun q2 hq2 => ⟨two_le, fun u2 hu2 => ⟨two_le, fun q3 hq3 => ⟨two_le, fun u3 hu3 => ⟨three_le, fun w2 hw2 => ?_⟩⟩⟩⟩⟩⟩⟩
  have x6 := Ex.new (o := .lst [.ref u1, .ref u2, .ref u3]) hw2
  have x5 := (Ex.new (o := .tup [.str "kind", .ref q3]) hu3).trans x6
  have x4 := (Ex.new (o := .lst [.int 1, .int 2]) hq3).trans x5
  have x3 := (Ex.new (o := .tup [.str "kind", .ref q2]) hu2).trans x4
  have x2 := (Ex.new (o := .lst [.int 1, .int 2]) hq2).trans x3
  have x1 := (Ex.new (o := .tup [.str "side", .ref q1]) hu1).trans x2
  have x0 := (Ex.new (o := .lst [.int 0, .int 1]) hq1).trans x1
  have y1 := x1 _ _ upd_same
  have y2 := x2 _ _ upd_same
  have y3 := x3 _ _ upd_same
  have y4 := x4 _ _ upd_same
  have y5 := x5 _ _ upd_same
  have y6 := x6 _ _ upd_same
  exact ⟨_, _, rfl, sm_l3 (n := 7) (x0 _ _ fw) upd_same (sm_tw (n := 6) (x0 _ _ f1) y2 (by decide +kernel) (sm_l2 (n := 5) (x0 _ _ fp) y1)) (sm_tw (n := 6) (x0 _ _ f2) y4 (by decide +kernel) (sm_l2 (n := 5) (x0 _ _ fo) y3)) (sm_tw (n := 6) (x0 _ _ f3) y6 (by decide +kernel) (sm_l2 (n := 5) (x0 _ _ fo) y5)), fun H9 e9 => q H9 ((e8.trans x0).trans e9)⟩
def spWorked (C : Addr) : Sp := fun vs H Q _ => ∃ (b sp : Addr) (kd : Knd) (n : Nat), vs = [.ref b, .ref sp] ∧ BoxAt H b (n + 40) ∧ H sp = some (.tup kd.vals) ∧ kd.Ok ∧
  ∀ (w : Addr) (A : Ln) (M : Md) (L : LS) H', LineAt C A L H' → ModAt M L H' → LG L → (A.cells ++ M.cells).Nodup → (∀ c ∈ A.cells ++ M.cells, H c = none) → BoxAt H' b n → But b H H' → H' w = some (.lst [.ref A.p, .ref M.mp]) → Q (.ref w) H'
theorem ok_law_worked (T : TK K mg) : FnOk P w K mg base CX0 11 T.law_worked.a T.law_worked.fd ["box", "spec"] (spWorked T.C) := by
  refine T.law_worked.F.ok sc_law_worked (fun vs H Q E h => ?_) (fun cdv A0 outer s0 H vs Q E hr h => ?_)
  · obtain ⟨b, sp, kd, n, rfl, _⟩ := h; rfl
  obtain ⟨b, sp, kd, n, rfl, hB, hs, ok, q⟩ := h
  refine ⟨_, (pss_cons (ps_par (i := 2) (j := 3) (by rfl) sc_law_worked.nd rfl rfl (by decide) rfl rfl (pa_cons (by exact (pe_makeX T.mkc (ok_Line_init T.toTL) (hr.mono (by decide)) rfl T.gL T.m_init.b (fun σ => passLAt) (pa_cons (pv 1) pa_nil))) (pa_cons (pe_lst (pa_cons (pv 1) (pa_cons (pe_lst (pa_cons (pe_lst pa_nil) (pa_cons (pe_lst pa_nil) pa_nil))) (pa_cons (pe_lst (pa_cons (pe_lst pa_nil) (pa_cons (pe_lst pa_nil) pa_nil))) pa_nil)))) pa_nil)) (by rfl))
    (pss_cons (ps_for PassesOwn.never rfl (pi_range1 rfl T.z_range (pa_cons (pe_call (ok_law_take T.toTA1) (hr.mono (by decide)) rfl T.law_take.m T.law_take.F.kp T.law_take.b .nil pass0 (pa_cons (pv 0) (pa_cons pe_int pa_nil))) pa_nil)) (pg_name (i := 4) sc_law_worked.nd rfl (Or.inl rfl)) (pss_one (ps_if (pt_not (pt_val (pe_call (ok_law_deed T) (hr.mono (by decide)) rfl T.law_deed.m T.law_deed.F.kp T.law_deed.b .nil pass0 (pa_cons (pv 0) (pa_cons (pv 2) (pa_cons (pv 3) pa_nil)))))) (pss_one (ps_ret pe_non)) pss_nil)))
    (pss_one (ps_ret (pe_lst (pa_cons (pv 2) (pa_cons (pv 3) pa_nil))))))), ?_⟩
  refine ⟨_, rfl, fun p dx hp hdx hne => ?_⟩
  have hsp2 : upd (upd H dx (.own p)) p (.ins T.C dx []) sp = some (.tup kd.vals) := mk_ex hp hdx hne _ _ hs
  obtain ⟨dsp, rsp, csp⟩ := knd_rd (K := K) hsp2 ok
  refine ⟨p, dx, .ref sp, rfl, upd_same, .inl ⟨dsp, 1, _, rsp, by decide⟩, fun no => absurd (no _ _ _ rsp) (by rw [csp]; decide), fun sp' kd' es hs' _ A H1 bp bdx bsp lA ndA fr k => ⟨rfl, ?_⟩⟩
  obtain rfl : sp = sp' := V.ref.inj es
  obtain rfl : kd = kd' := (knd_inj (HO.tup.inj (Option.some.inj (hs'.symm.trans hsp2)))).symm
  have frH : ∀ a ∈ A.cells, H a = none := fun a ha => fresh_back (mk_ex hp hdx hne) (fr a (by
    have h : a ∈ [A.a0, A.a1, A.d0, A.d1] := ha
    simp only [List.mem_cons, List.not_mem_nil, or_false] at h ⊢
    rcases h with h | h | h | h <;> simp [h]))
  have e1 : Ex H H1 := mk_but hp hdx hne k
  have hs1 := e1 _ _ hs
  have B1 := hB.ex e1
  subst bp
  clear k fr rsp hs' hsp2
  have z0 : 0 ≤ sizeLine := by decide
  refine ⟨_, rfl, z0, fun t0 h0 => ⟨z0, fun t1 h1 => ⟨two_le, fun ms h2 => ⟨z0, fun u0 h3 => ⟨z0, fun u1 h4 => ⟨two_le, fun mc h5 => ⟨three_le, fun mp h6 => ⟨_, _, rfl, ?_⟩⟩⟩⟩⟩⟩⟩⟩
  have x6 := Ex.new (o := .lst [.ref sp, .ref ms, .ref mc]) h6
  have x5 := (Ex.new (o := .lst [.ref u0, .ref u1]) h5).trans x6
  have x4 := (Ex.new (o := .lst []) h4).trans x5
  have x3 := (Ex.new (o := .lst []) h3).trans x4
  have x2 := (Ex.new (o := .lst [.ref t0, .ref t1]) h2).trans x3
  have x1 := (Ex.new (o := .lst []) h1).trans x2
  have x0 := (Ex.new (o := .lst []) h0).trans x1
  have n1 := fresh_back (Ex.new h0) h1
  have n3 := fresh_back ((Ex.new h0).trans ((Ex.new h1).trans (Ex.new h2))) h3
  have n4 := fresh_back ((Ex.new h0).trans ((Ex.new h1).trans ((Ex.new h2).trans (Ex.new h3)))) h4
  have d01 : t0 ≠ t1 := ne_of_none upd_same h1
  have d03 : t0 ≠ u0 := ne_of_none (((Ex.new h1).trans (Ex.new h2)) _ _ upd_same) h3
  have d04 : t0 ≠ u1 := ne_of_none (((Ex.new h1).trans ((Ex.new h2).trans (Ex.new h3))) _ _ upd_same) h4
  have d13 : t1 ≠ u0 := ne_of_none ((Ex.new h2) _ _ upd_same) h3
  have d14 : t1 ≠ u1 := ne_of_none (((Ex.new h2).trans (Ex.new h3)) _ _ upd_same) h4
  have d34 : u0 ≠ u1 := ne_of_none upd_same h4
  have y0 := x1 _ _ upd_same
  have y1 := x2 _ _ upd_same
  have y2 := x3 _ _ upd_same
  have y3 := x4 _ _ upd_same
  have y4 := x5 _ _ upd_same
  have y5 := x6 _ _ upd_same
  have hmod : ModAt ⟨mp, sp, ms, mc, t0, t1, u0, u1⟩ ⟨kd, [], [], [], []⟩ _ := ⟨upd_same, x0 _ _ hs1, y2, y5, y0, y1, y3, y4, ok⟩
  have l8 := lA.ex x0
  have B8 := B1.ex x0
  have e8 : Ex H _ := e1.trans x0
  generalize upd (upd (upd (upd (upd (upd (upd H1 t0 (.lst [])) t1 (.lst [])) ms (.lst [.ref t0, .ref t1])) u0 (.lst [])) u1 (.lst [])) mc (.lst [.ref u0, .ref u1])) mp (.lst [.ref sp, .ref ms, .ref mc]) = H8 at hmod l8 B8 e8 ⊢
  obtain ⟨M, hM⟩ : ∃ M : Md, M = ⟨mp, sp, ms, mc, t0, t1, u0, u1⟩ := ⟨_, rfl⟩
  have hMp : mp = M.mp := by rw [hM]
  have hMs : sp = M.sp := by rw [hM]
  have frM : ∀ a ∈ M.cells, H1 a = none := by
    intro a ha
    rw [hM] at ha
    have h : a ∈ [t0, t1, u0, u1] := ha
    simp only [List.mem_cons, List.not_mem_nil, or_false] at h
    rcases h with rfl | rfl | rfl | rfl
    · exact h0
    · exact n1
    · exact n3
    · exact n4
  have nd : (A.cells ++ M.cells).Nodup := by
    refine List.nodup_append.mpr ⟨ndA, ?_, ?_⟩
    · rw [hM]
      show [t0, t1, u0, u1].Nodup
      simp only [List.nodup_cons, List.mem_cons, List.not_mem_nil, or_false, not_or, not_false_eq_true, List.nodup_nil, and_true]
      exact ⟨⟨d01, d03, d04⟩, ⟨d13, d14⟩, d34⟩
    · intro a ha c hc e
      subst e
      have hn := frM a hc
      have h : a ∈ [A.a0, A.a1, A.d0, A.d1] := ha
      simp only [List.mem_cons, List.not_mem_nil, or_false] at h
      rcases h with rfl | rfl | rfl | rfl
      · rw [lA.a0] at hn; cases hn
      · rw [lA.a1] at hn; cases hn
      · rw [lA.d0] at hn; cases hn
      · rw [lA.d1] at hn; cases hn
  have fr : ∀ a ∈ A.cells ++ M.cells, H a = none := fun a ha => by
    rcases List.mem_append.mp ha with h | h
    · exact frH a h
    · exact fresh_back e1 (frM a h)
  rw [← hM] at hmod
  rw [hMp]
  clear y0 y1 y2 y3 y4 y5 x0 x1 x2 x3 x4 x5 x6 h0 h1 h2 h3 h4 h5 h6 n1 n3 n4
  refine ⟨_, rfl, b, 12, n + 39, rfl, by decide, by decide, B8, fun r H9 r0 r1 B9 k9 => ⟨r, rfl, by omega, by omega, for_range (lo := 0) (n := r.toNat) (fun i σ H' => (∃ v4, σ = [some (.ref b), some (.ref sp), some (.ref A.p), some (.ref M.mp), v4]) ∧
    BoxAt H' b (n + 3 * (11 - i)) ∧ But b H H' ∧ ∃ L, LineAt T.C A L H' ∧ ModAt M L H' ∧ LG L) ⟨⟨_, rfl⟩, B9.le (by omega), But.pre e8 k9, ⟨kd, [], [], [], []⟩, l8.box B8 k9, hmod.box B8 k9, LG.empty⟩ ?_ ?_⟩⟩
  · rintro i σ H' hi ⟨⟨v4, rfl⟩, B, kk, L, l, m, g⟩
    have hi' : i < 11 := by omega
    rw [show n + 3 * (11 - i) = (n + 3 * (11 - (i + 1))) + 3 by omega] at B
    exact ⟨_, rfl, _, rfl, _, rfl, b, A, M, L, _, rfl, B, l, m, g, nd, fun L' H'' l' m' g' B' kk' => ⟨_, rfl, iteF ⟨⟨_, rfl⟩, B', fun a o ab ha => kk' a o ab (fun hc => by rw [fr a hc] at ha; cases ha) (kk a o ab ha), L', l', m', g'⟩⟩⟩
  · rintro σ H' ⟨⟨v4, rfl⟩, B, kk, L, l, m, g⟩
    exact ⟨_, rfl, _, rfl, two_le, fun w hw => q w A M L _ (l.ex (Ex.new hw)) (m.ex (Ex.new hw)) g nd fr ((B.ex (Ex.new hw)).le (by omega)) (But.ex kk (Ex.new hw)) upd_same⟩
end
end L2.U


set_option Elab.async false
set_option linter.all false
set_option maxRecDepth 100000
set_option maxHeartbeats 4000000
namespace L2.U
open PySem PySem.Spec PyProof.Rows Evl

section
variable {P : Program} {w : World} {K : PySem.W.Frag} {mg : Str → Option Value} {base : Heap}

theorem fm_same {α β : Type} {f : α → List β} : ∀ {l : List α}, (l.flatMap f).Nodup → ∀ {a b : α}, a ∈ l → b ∈ l → ∀ {x : β}, x ∈ f a → x ∈ f b → a = b
  | c :: r, nd, a, b, ha, hb, x, xa, xb => by
    rw [List.flatMap_cons] at nd
    obtain ⟨n1, n2, n3⟩ := List.nodup_append.mp nd
    rcases List.mem_cons.mp ha with rfl | ha' <;> rcases List.mem_cons.mp hb with rfl | hb'
    · rfl
    · exact absurd rfl (n3 x xa x (List.mem_flatMap.mpr ⟨b, hb', xb⟩))
    · exact absurd rfl (n3 x xb x (List.mem_flatMap.mpr ⟨a, ha', xa⟩))
    · exact fm_same n2 ha' hb' xa xb
theorem fm_nd {α β : Type} {f : α → List β} : ∀ {l : List α}, (l.flatMap f).Nodup → ∀ {a : α}, a ∈ l → (f a).Nodup
  | c :: r, nd, a, ha => by
    rw [List.flatMap_cons] at nd
    obtain ⟨n1, n2, n3⟩ := List.nodup_append.mp nd
    rcases List.mem_cons.mp ha with rfl | ha'
    · exact n1
    · exact fm_nd n2 ha'

theorem LineAt.lst {C : Addr} {A : Ln} {L : LS} {H H' : Hp} {x : Addr} {xs : List V} (l : LineAt C A L H) (hx : H x = some (.lst xs)) (n : x ∉ A.cells) (nr : ∀ c r, xs = .ref c :: r → ¬ IsInts H c) (k : But x H H') : LineAt C A L H' := by
  have nn : ∀ {a : Addr}, a ∈ A.cells → a ≠ x := fun ha e => n (e ▸ ha)
  refine ⟨k _ _ (ne_of l.obj hx (by intro z; cases z)) l.obj, k _ _ (ne_of l.sp hx (by intro z; cases z)) l.sp, k _ _ ?_ l.sb, k _ _ ?_ l.cb, k _ _ (nn ?_) l.a0, k _ _ (nn ?_) l.a1, k _ _ (nn ?_) l.d0, k _ _ (nn ?_) l.d1, l.ok⟩
  · rintro e
    rw [← e, l.sb] at hx
    exact nr _ _ (HO.lst.inj (Option.some.inj hx)).symm ⟨_, l.a0⟩
  · rintro e
    rw [← e, l.cb] at hx
    exact nr _ _ (HO.lst.inj (Option.some.inj hx)).symm ⟨_, l.d0⟩
  all_goals simp [Ln.cells]
theorem LineAt.fr {C b : Addr} {A : Ln} {L : LS} {H H' : Hp} {X : List Addr} {n : Nat} (l : LineAt C A L H) (hX : ∀ a ∈ X, IsInts H a) (hd : ∀ a ∈ A.cells, a ∉ X) (hB : BoxAt H b n) (k : ∀ a o, a ≠ b → a ∉ X → H a = some o → H' a = some o) : LineAt C A L H' := by
  refine ⟨k _ _ (bx_ins hB l.obj) (fun h => (hX _ h).ins l.obj rfl) l.obj, k _ _ (bx_tup hB l.sp) (fun h => (hX _ h).tup l.sp rfl) l.sp, k _ _ (bx_refs hB l.sb) (fun h => (hX _ h).refs l.sb rfl) l.sb, k _ _ (bx_refs hB l.cb) (fun h => (hX _ h).refs l.cb rfl) l.cb,
    k _ _ (bx_ints hB l.a0) (hd _ ?_) l.a0, k _ _ (bx_ints hB l.a1) (hd _ ?_) l.a1, k _ _ (bx_ints hB l.d0) (hd _ ?_) l.d0, k _ _ (bx_ints hB l.d1) (hd _ ?_) l.d1, l.ok⟩ <;> simp [Ln.cells]
theorem ModAt.fr {b : Addr} {M : Md} {L : LS} {H H' : Hp} {X : List Addr} {n : Nat} (l : ModAt M L H) (hX : ∀ a ∈ X, IsInts H a) (hd : ∀ a ∈ M.cells, a ∉ X) (hB : BoxAt H b n) (k : ∀ a o, a ≠ b → a ∉ X → H a = some o → H' a = some o) : ModAt M L H' := by
  refine ⟨k _ _ (bx_refs hB l.mp) (fun h => (hX _ h).refs l.mp rfl) l.mp, k _ _ (bx_tup hB l.sp) (fun h => (hX _ h).tup l.sp rfl) l.sp, k _ _ (bx_refs hB l.ms) (fun h => (hX _ h).refs l.ms rfl) l.ms, k _ _ (bx_refs hB l.mc) (fun h => (hX _ h).refs l.mc rfl) l.mc,
    k _ _ (bx_ints hB l.t0) (hd _ ?_) l.t0, k _ _ (bx_ints hB l.t1) (hd _ ?_) l.t1, k _ _ (bx_ints hB l.u0) (hd _ ?_) l.u0, k _ _ (bx_ints hB l.u1) (hd _ ?_) l.u1, l.ok⟩ <;> simp [Md.cells]
theorem LineAt.ints {C : Addr} {A : Ln} {L : LS} {H : Hp} (l : LineAt C A L H) : ∀ a ∈ A.cells, IsInts H a := by
  intro a ha
  have h3 : a ∈ [A.a0, A.a1, A.d0, A.d1] := ha
  simp only [List.mem_cons, List.not_mem_nil, or_false] at h3
  rcases h3 with rfl | rfl | rfl | rfl
  · exact ⟨_, l.a0⟩
  · exact ⟨_, l.a1⟩
  · exact ⟨_, l.d0⟩
  · exact ⟨_, l.d1⟩
theorem ModAt.ints {M : Md} {L : LS} {H : Hp} (l : ModAt M L H) : ∀ a ∈ M.cells, IsInts H a := by
  intro a ha
  have h3 : a ∈ [M.t0, M.t1, M.u0, M.u1] := ha
  simp only [List.mem_cons, List.not_mem_nil, or_false] at h3
  rcases h3 with rfl | rfl | rfl | rfl
  · exact ⟨_, l.t0⟩
  · exact ⟨_, l.t1⟩
  · exact ⟨_, l.u0⟩
  · exact ⟨_, l.u1⟩
theorem IsInts.nn {H : Hp} {a : Addr} (h : IsInts H a) (n : H a = none) : False := by
  obtain ⟨ns, h⟩ := h
  rw [h] at n; cases n
theorem nd6 {a n0 a1 n1 a2 n2 : List Addr} (h : (a ++ (a1 ++ a2)).Nodup) (h' : (n0 ++ (n1 ++ n2)).Nodup) (d : ∀ x ∈ a ++ (a1 ++ a2), x ∉ n0 ++ (n1 ++ n2)) : ((a ++ n0) ++ ((a1 ++ n1) ++ ((a2 ++ n2) ++ []))).Nodup := by
  have hp : List.Perm ((a ++ (a1 ++ a2)) ++ (n0 ++ (n1 ++ n2))) ((a ++ n0) ++ ((a1 ++ n1) ++ ((a2 ++ n2) ++ []))) := by
    rw [List.perm_iff_count]
    intro x
    simp only [List.count_append, List.count_nil]
    omega
  exact hp.nodup_iff.mp (List.nodup_append.mpr ⟨h, h', fun x hx y hy e => d x hx (e ▸ hy)⟩)
def Pcells (P : Ln × Md) : List Addr := P.1.cells ++ P.2.cells
def spCopies (C : Addr) : Sp := fun vs H Q _ => ∃ (b : Addr) (A : Ln) (M : Md) (L : LS) (n : Nat), vs = [.ref b, .ref A.p, .ref M.mp] ∧ BoxAt H b (n + 40) ∧ LineAt C A L H ∧ ModAt M L H ∧ LG L ∧ (A.cells ++ M.cells).Nodup ∧
  ∀ H', BoxAt H' b n → (∀ a o, a ≠ b → a ∉ A.cells ++ M.cells → H a = some o → H' a = some o) → Q (.bl true) H'
theorem ok_law_copies_right (T : TK K mg) : FnOk P w K mg base CX0 12 T.law_copies_right.a T.law_copies_right.fd ["box", "line", "model"] (spCopies T.C) := by
  refine T.law_copies_right.F.ok sc_law_copies_right (fun vs H Q E h => ?_) (fun cdv A0 outer s0 H vs Q E hr h => ?_)
  · obtain ⟨b, A, M, L, n, rfl, _⟩ := h; rfl
  obtain ⟨b, A, M, L, n, rfl, hB, l, m, g, nd, q⟩ := h
  refine ⟨_, (pss_cons (ps_par (i := 3) (j := 4) (by rfl) sc_law_copies_right.nd rfl rfl (by decide) rfl rfl (pa_cons (pe_lst (pa_cons (pv 1) (pa_cons (by exact (pe_mX0 (pv 1) T.cl T.m_copy.M (ok_Line_copy T.toTL) (hr.mono (by decide)) T.m_copy.b (fun σ => passLAt))) pa_nil))) (pa_cons (pe_lst pa_nil) pa_nil)) (by rfl))
    (pss_cons (ps_expr (pe_bm PySem.F.plainAttrs_list PySem.F.slot_list_append PySem.F.type_list_append mt_append (pv 3) (pa_cons (by exact (pe_mX0 (pe_ix (kixl K) (pv 3) pe_int (fun _ _ => rfl)) T.cl T.m_copy.M (ok_Line_copy T.toTL) (hr.mono (by decide)) T.m_copy.b (fun σ => passLAt))) pa_nil)))
    (pss_cons (ps_for PassesOwn.never rfl (pi_range1 rfl T.z_range (pa_cons pe_int pa_nil)) (pg_name (i := 5) sc_law_copies_right.nd rfl (Or.inl rfl)) (pss_one (ps_expr (pe_bm PySem.F.plainAttrs_list PySem.F.slot_list_append PySem.F.type_list_append mt_append (pv 4) (pa_cons (pe_lst (pa_cons (pe_ix (kixl K) (pv 2) pe_int (fun _ _ => rfl)) (pa_cons (pe_lc (own := [("kinds", 8)]) (g := gName 8) (by rfl) sc_law_copies_right.nd (kpil K (pe_ix (kixl K) (pv 2) pe_int (fun _ _ => rfl))) (blkOk_by (own := [("kinds", 8)]) (N := ["box", "line", "model", "lines", "models", "turn", "at", "other", "kinds"]) (sc := defScope s_law_copies_right) (by decide +kernel)) (fun _ _ _ _ _ => (pg_name (i := 8) sc_law_copies_right.nd rfl (Or.inl rfl))) (fun _ _ _ _ _ => pts_nil) (fun _ _ _ _ _ => (pe_callTy (klist K) (by rfl) T.z_list (by decide +kernel) (pa_cons (pv 8) pa_nil)))) (pa_cons (pe_lc (own := [("kinds", 8)]) (g := gName 8) (by rfl) sc_law_copies_right.nd (kpil K (pe_ix (kixl K) (pv 2) pe_int (fun _ _ => rfl))) (blkOk_by (own := [("kinds", 8)]) (N := ["box", "line", "model", "lines", "models", "turn", "at", "other", "kinds"]) (sc := defScope s_law_copies_right) (by decide +kernel)) (fun _ _ _ _ _ => (pg_name (i := 8) sc_law_copies_right.nd rfl (Or.inl rfl))) (fun _ _ _ _ _ => pts_nil) (fun _ _ _ _ _ => (pe_callTy (klist K) (by rfl) T.z_list (by decide +kernel) (pa_cons (pv 8) pa_nil)))) pa_nil)))) pa_nil)))))
    (pss_cons (ps_for PassesOwn.never rfl (pi_range1 rfl T.z_range (pa_cons pe_int pa_nil)) (pg_name (i := 5) sc_law_copies_right.nd rfl (Or.inl rfl)) (pss_cons (ps_set (i := 6) sc_law_copies_right.nd rfl (Or.inl rfl) (pe_call (ok_law_take T.toTA1) (hr.mono (by decide)) rfl T.law_take.m T.law_take.F.kp T.law_take.b .nil pass0 (pa_cons (pv 0) (pa_cons pe_int pa_nil))))
    (pss_cons (ps_if (pt_not (pt_val (pe_call (ok_law_deed T) (hr.mono (by decide)) rfl T.law_deed.m T.law_deed.F.kp T.law_deed.b .nil pass0 (pa_cons (pv 0) (pa_cons (pe_ix (kixl K) (pv 3) (pv 6) (fun _ _ => rfl)) (pa_cons (pe_ix (kixl K) (pv 4) (pv 6) (fun _ _ => rfl)) pa_nil)))))) (pss_one (ps_ret pe_bl)) pss_nil)
    (pss_one (ps_for PassesOwn.never rfl (pi_range1 rfl T.z_range (pa_cons pe_int pa_nil)) (pg_name (i := 7) sc_law_copies_right.nd rfl (Or.inl rfl)) (pss_one (ps_if (pt_not (pt_val (pe_call (ok_law_same T.toTA1) (hr.mono (by decide)) rfl T.law_same.m T.law_same.F.kp T.law_same.b .nil pass0 (pa_cons (pe_call (ok_law_all T) (hr.mono (by decide)) rfl T.law_all.m T.law_all.F.kp T.law_all.b .nil pass0 (pa_cons (pe_ix (kixl K) (pv 3) (pv 7) (fun _ _ => rfl)) pa_nil)) (pa_cons (pe_call (ok_law_view T) (hr.mono (by decide)) rfl T.law_view.m T.law_view.F.kp T.law_view.b .nil pass0 (pa_cons (pe_ix (kixl K) (pv 4) (pv 7) (fun _ _ => rfl)) pa_nil)) pa_nil))))) (pss_one (ps_ret pe_bl)) pss_nil)))))))
    (pss_one (ps_ret pe_bl)))))), ?_⟩
  have sm := g.sm l.ok
  have small : ∀ s, Side s → (L.s s).length ≤ 64 ∧ (L.c s).length ≤ 64 := fun s _ => ⟨by have := sm.s s; omega, by have := sm.c s; omega⟩
  have z0 : 0 ≤ sizeLine := by decide
  refine ⟨_, rfl, _, rfl, A.p, A.dx, _, rfl, l.obj, rfl, A, L, rfl, l, small, fun A1 H1 l1 nd1 f1 e1 => ⟨two_le, fun ls hls => ⟨z0, fun ms hms => ⟨_, _, rfl, ?_⟩⟩⟩⟩
  have xls : upd (upd H1 ls (.lst [.ref A.p, .ref A1.p])) ms (.lst []) ls = some (.lst [.ref A.p, .ref A1.p]) := (Ex.new hms) _ _ upd_same
  have xms : upd (upd H1 ls (.lst [.ref A.p, .ref A1.p])) ms (.lst []) ms = some (.lst []) := upd_same
  have nls : ls ≠ ms := ne_of_none upd_same hms
  have hms1 : H1 ms = none := fresh_back (Ex.new hls) hms
  have e12 : Ex H1 (upd (upd H1 ls (.lst [.ref A.p, .ref A1.p])) ms (.lst [])) := (Ex.new hls).trans (Ex.new hms)
  generalize upd (upd H1 ls (.lst [.ref A.p, .ref A1.p])) ms (.lst []) = H2 at xls xms e12 ⊢
  refine ⟨_, rfl, .inl ⟨rfl, _, SqL.of xls⟩, _, rfl, _, _, _, _, rfl, rfl, SqL.of xls, rfl, A1.p, A1.dx, _, rfl, (l1.ex e12).obj, rfl, A1, L, rfl, l1.ex e12, small, fun A2 H3 l2 nd2 f2 e3 => ⟨ls, _, _, rfl, rfl, e3 _ _ xls, (by show 2 < sizeLine; decide), ?_⟩⟩
  have kls : But ls H3 (upd H3 ls (.lst ([.ref A.p, .ref A1.p] ++ [.ref A2.p]))) := But.upd
  have hls4 : upd H3 ls (.lst ([.ref A.p, .ref A1.p] ++ [.ref A2.p])) ls = some (.lst [.ref A.p, .ref A1.p, .ref A2.p]) := upd_same
  have hms4 := kls _ _ nls.symm (e3 _ _ xms)
  have e13 : Ex H1 H3 := e12.trans e3
  have e14 : Ex H1 (upd H3 ls (.lst ([.ref A.p, .ref A1.p] ++ [.ref A2.p]))) := e13.mut hls
  have l24 := l2.lst (e3 _ _ xls) (fun h => (IsInts.refs (l2.ints _ h) (e3 _ _ xls)) rfl) (fun c r e hi => by
    obtain rfl : A.p = c := V.ref.inj (List.cons.inj e).1
    exact (hi.ins (e13 _ _ (e1 _ _ l.obj))) rfl) kls
  generalize upd H3 ls (.lst ([.ref A.p, .ref A1.p] ++ [.ref A2.p])) = Hb at hls4 hms4 e14 l24 ⊢
  have fA2 : ms ∉ A2.cells := fun h => by have := f2 ms h; rw [xms] at this; cases this
  refine ⟨3, rfl, by decide, by decide, for_range (lo := 0) (n := (3 : Int).toNat) (fun i σ H' => (∃ v5 v6 v7 v8, σ = [some (.ref b), some (.ref A.p), some (.ref M.mp), some (.ref ls), some (.ref ms), v5, v6, v7, v8]) ∧
    But ms Hb H' ∧ ∃ Ms : List Md, Ms.length = i ∧ H' ms = some (.lst (Ms.map fun N => .ref N.mp)) ∧ (∀ N ∈ Ms, ModAt N L H' ∧ ∀ a ∈ [N.mp, N.sp, N.ms, N.mc], a ≠ ms) ∧ (Ms.flatMap Md.cells).Nodup ∧ ∀ c ∈ Ms.flatMap Md.cells, Hb c = none)
    ⟨⟨_, _, _, _, rfl⟩, But.of (Ex.refl _), [], rfl, hms4, (fun N h => by cases h), .nil, (fun N h => by cases h)⟩ ?_ ?_⟩
  · rintro i σ G0 hi ⟨⟨v5, v6, v7, v8, rfl⟩, kb, Ms, hl, hms, hN, hnd, hfr⟩
    have hi' : i < 3 := hi
    have e10 : Ex H1 G0 := fun a o h => kb a o (ne_of_none h hms1) (e14 a o h)
    have m0 := (m.ex e1).ex e10
    have zs := small 0 (by unfold Side; omega)
    have zt := small 1 (by unfold Side; omega)
    refine ⟨_, rfl, .inl ⟨rfl, _, SqL.of hms⟩, _, rfl, _, _, _, _, rfl, rfl, SqL.of m0.mp, rfl, _, rfl, _, _, _, _, rfl, rfl, SqL.of m0.mp, rfl, M.ms, rfl, ⟨_, SqL.of m0.ms⟩, fun D hD => cp_two (SqL.of m0.ms) m0.t0 m0.t1 zs.1 zt.1 (by show 8 < 9; decide) hD fun c0 c1 G1 x1 f0 f1' n01 r0 r1 rD => ?_⟩
    have m1 := m0.ex x1
    refine ⟨_, rfl, _, _, _, _, rfl, rfl, SqL.of m1.mp, rfl, M.mc, rfl, ⟨_, SqL.of m1.mc⟩, fun D2 hD2 => cp_two (SqL.of m1.mc) m1.u0 m1.u1 zs.2 zt.2 (by show 8 < 9; decide) hD2 fun c2 c3 G2 x2 g2 g3 n23 r2 r3 rD2 => ⟨three_le, fun mp hmp => ?_⟩⟩
    have x3 : Ex G2 (upd G2 mp (.lst [.ref M.sp, .ref D, .ref D2])) := Ex.new hmp
    have x03 := (x1.trans x2).trans x3
    refine ⟨ms, _, _, rfl, rfl, x03 _ _ hms, small1000 (by rw [List.length_map]; omega), ?_⟩
    have km : But ms (upd G2 mp (.lst [.ref M.sp, .ref D, .ref D2])) (upd (upd G2 mp (.lst [.ref M.sp, .ref D, .ref D2])) ms (.lst (Ms.map (fun N => V.ref N.mp) ++ [.ref mp]))) := But.upd
    have nD : D ≠ ms := (ne_of_none hms hD).symm
    have nc0 : c0 ≠ ms := (ne_of_none hms f0).symm
    have nc1 : c1 ≠ ms := (ne_of_none hms f1').symm
    have nD2 : D2 ≠ ms := (ne_of_none (x1 _ _ hms) hD2).symm
    have nc2 : c2 ≠ ms := (ne_of_none (x1 _ _ hms) g2).symm
    have nc3 : c3 ≠ ms := (ne_of_none (x1 _ _ hms) g3).symm
    have nmp : mp ≠ ms := (ne_of_none ((x1.trans x2) _ _ hms) hmp).symm
    have nsp : M.sp ≠ ms := ne_of m0.sp hms (by intro z; cases z)
    have g20 := fresh_back x1 g2
    have g30 := fresh_back x1 g3
    have hNew : ModAt ⟨mp, M.sp, D, D2, c0, c1, c2, c3⟩ L (upd (upd G2 mp (.lst [.ref M.sp, .ref D, .ref D2])) ms (.lst (Ms.map (fun N => V.ref N.mp) ++ [.ref mp]))) :=
      ⟨km _ _ nmp upd_same, km _ _ nsp (x03 _ _ m0.sp), km _ _ nD ((x2.trans x3) _ _ rD), km _ _ nD2 (x3 _ _ rD2), km _ _ nc0 ((x2.trans x3) _ _ r0), km _ _ nc1 ((x2.trans x3) _ _ r1), km _ _ nc2 (x3 _ _ r2), km _ _ nc3 (x3 _ _ r3), m0.ok⟩
    have fm : (Ms ++ [(⟨mp, M.sp, D, D2, c0, c1, c2, c3⟩ : Md)]).flatMap Md.cells = Ms.flatMap Md.cells ++ [c0, c1, c2, c3] := by simp [Md.cells]
    have hb : ∀ c, c ≠ ms → G0 c = none → Hb c = none := fun c n h => kb.none hms4 h n
    refine ⟨⟨_, _, _, _, rfl⟩, (But.ex kb x03).trans km, Ms ++ [⟨mp, M.sp, D, D2, c0, c1, c2, c3⟩], by simp [hl], by rw [upd_same, List.map_append]; rfl, fun N hN' => ?_, ?_, ?_⟩
    · rcases List.mem_append.mp hN' with h | h
      · obtain ⟨mN, hn⟩ := hN N h
        have mN3 := mN.ex x03
        have cn : ∀ a ∈ N.cells, a ≠ ms := fun a ha e => by
          have := hfr a (List.mem_flatMap.mpr ⟨N, h, ha⟩)
          rw [e, hms4] at this; cases this
        refine ⟨⟨km _ _ (hn _ ?_) mN3.mp, km _ _ (hn _ ?_) mN3.sp, km _ _ (hn _ ?_) mN3.ms, km _ _ (hn _ ?_) mN3.mc, km _ _ (cn _ ?_) mN3.t0, km _ _ (cn _ ?_) mN3.t1, km _ _ (cn _ ?_) mN3.u0, km _ _ (cn _ ?_) mN3.u1, mN3.ok⟩, hn⟩ <;> simp [Md.cells]
      · obtain rfl := List.mem_singleton.mp h
        refine ⟨hNew, fun a ha => ?_⟩
        simp only [List.mem_cons, List.not_mem_nil, or_false] at ha
        rcases ha with rfl | rfl | rfl | rfl
        · exact nmp
        · exact nsp
        · exact nD
        · exact nD2
    · rw [fm]
      refine List.nodup_append.mpr ⟨hnd, ?_, ?_⟩
      · have z : ∀ {x y : Addr} {o : HO}, G1 x = some o → G1 y = none → x ≠ y := fun h hy => ne_of_none h hy
        simp only [List.nodup_cons, List.mem_cons, List.not_mem_nil, or_false, not_or, not_false_eq_true, List.nodup_nil, and_true]
        exact ⟨⟨n01, z r0 g2, z r0 g3⟩, ⟨z r1 g2, z r1 g3⟩, n23⟩
      · rintro x hx y hy rfl
        obtain ⟨N, hN1, hx⟩ := List.mem_flatMap.mp hx
        have hI := (hN N hN1).1.ints x hx
        simp only [List.mem_cons, List.not_mem_nil, or_false] at hy
        rcases hy with rfl | rfl | rfl | rfl
        · exact hI.nn f0
        · exact hI.nn f1'
        · exact hI.nn g20
        · exact hI.nn g30
    · rw [fm]
      intro c hc
      rcases List.mem_append.mp hc with h | h
      · exact hfr c h
      · simp only [List.mem_cons, List.not_mem_nil, or_false] at h
        rcases h with rfl | rfl | rfl | rfl
        · exact hb _ nc0 f0
        · exact hb _ nc1 f1'
        · exact hb _ nc2 g20
        · exact hb _ nc3 g30
  rintro σ H5 ⟨⟨v5, v6, v7, v8, rfl⟩, kb, Ms, hl, hms5, hN, hnd, hfr⟩
  have hl3 : Ms.length = 3 := hl
  match Ms, hl3, hms5, hN, hnd, hfr with
  | [N0, N1, N2], _, hms5, hN, hnd, hfr =>
  have e15 : Ex H1 H5 := fun a o h => kb a o (ne_of_none h hms1) (e14 a o h)
  have lA := (l.ex e1).ex e15
  have lA1 := l1.ex e15
  have lA2 := l24.lst hms4 fA2 (fun c r e => by cases e) kb
  have hls5 := kb _ _ nls hls4
  have B5 := (hB.ex e1).ex e15
  have dis : ∀ x ∈ A.cells ++ (A1.cells ++ A2.cells), x ∉ N0.cells ++ (N1.cells ++ N2.cells) := by
    intro x hx hc
    have hn := hfr x (by simpa using hc)
    rcases List.mem_append.mp hx with h | h
    · exact (((l.ex e1).ex e14).ints x h).nn hn
    · rcases List.mem_append.mp h with h | h
      · exact ((l1.ex e14).ints x h).nn hn
      · exact (l24.ints x h).nn hn
  have ndA : (A.cells ++ (A1.cells ++ A2.cells)).Nodup := by
    refine List.nodup_append.mpr ⟨(List.nodup_append.mp nd).1, List.nodup_append.mpr ⟨nd1, nd2, ?_⟩, ?_⟩
    · rintro x hx y hy rfl
      exact ((l1.ex e12).ints x hx).nn (f2 x hy)
    · rintro x hx y hy rfl
      rcases List.mem_append.mp hy with h | h
      · exact (l.ints x hx).nn (f1 x h)
      · exact (((l.ex e1).ex e12).ints x hx).nn (f2 x h)
  have ndP : (([(A, N0), (A1, N1), (A2, N2)] : List (Ln × Md)).flatMap Pcells).Nodup := by
    have h := nd6 ndA (by simpa using hnd) dis
    simpa [Pcells] using h
  have hP : ∀ P ∈ ([(A, N0), (A1, N1), (A2, N2)] : List (Ln × Md)), ∃ L, LineAt T.C P.1 L H5 ∧ ModAt P.2 L H5 ∧ LG L := by
    intro P hP
    simp only [List.mem_cons, List.not_mem_nil, or_false] at hP
    rcases hP with rfl | rfl | rfl
    · exact ⟨L, lA, (hN N0 (by simp)).1, g⟩
    · exact ⟨L, lA1, (hN N1 (by simp)).1, g⟩
    · exact ⟨L, lA2, (hN N2 (by simp)).1, g⟩
  have frP : ∀ P ∈ ([(A, N0), (A1, N1), (A2, N2)] : List (Ln × Md)), ∀ x ∈ Pcells P, x ∈ A.cells ∨ H x = none := by
    intro P hP x hx
    have e1b : Ex H Hb := e1.trans e14
    have hM : ∀ N ∈ [N0, N1, N2], x ∈ N.cells → H x = none := fun N h1 h2 => fresh_back e1b (hfr x (List.mem_flatMap.mpr ⟨N, h1, h2⟩))
    simp only [List.mem_cons, List.not_mem_nil, or_false] at hP
    rcases hP with rfl | rfl | rfl <;> rcases List.mem_append.mp hx with h | h
    · exact .inl h
    · exact .inr (hM N0 (by simp) h)
    · exact .inr (f1 x h)
    · exact .inr (hM N1 (by simp) h)
    · exact .inr (fresh_back (e1.trans e12) (f2 x h))
    · exact .inr (hM N2 (by simp) h)
  have hls6 : H5 ls = some (.lst (([(A, N0), (A1, N1), (A2, N2)] : List (Ln × Md)).map fun P => V.ref P.1.p)) := hls5
  have hms6 : H5 ms = some (.lst (([(A, N0), (A1, N1), (A2, N2)] : List (Ln × Md)).map fun P => V.ref P.2.mp)) := hms5
  have hlen : ([(A, N0), (A1, N1), (A2, N2)] : List (Ln × Md)).length = 3 := rfl
  have e05 : Ex H H5 := e1.trans e15
  generalize ([(A, N0), (A1, N1), (A2, N2)] : List (Ln × Md)) = Ps at ndP hP frP hls6 hms6 hlen
  clear hls5 hms5 dis ndA hnd hfr hN lA lA1 lA2 kb hls4 hms4 l24 kls xls xms
  have at3 : ∀ {f : Ln × Md → V} {r : Int}, 0 ≤ r → r < 3 → ∃ P, P ∈ Ps ∧ Ps[r.toNat]? = some P ∧ ∀ f : Ln × Md → V, atI (Ps.map f) r = some (f P) := fun {f r} r0 r1 => by
    have hk : r.toNat < Ps.length := by omega
    refine ⟨Ps[r.toNat], List.getElem_mem hk, List.getElem?_eq_getElem hk, fun f => at_of (show r = ((r.toNat : Nat) : Int) by omega) ?_⟩
    rw [List.getElem?_map, List.getElem?_eq_getElem hk]; rfl
  refine ⟨7, rfl, by decide, by decide, for_range (lo := 0) (n := (7 : Int).toNat) (fun i σ H' => (∃ v5 v6 v7 v8, σ = [some (.ref b), some (.ref A.p), some (.ref M.mp), some (.ref ls), some (.ref ms), v5, v6, v7, v8]) ∧
    H' ls = some (.lst (Ps.map fun P => V.ref P.1.p)) ∧ H' ms = some (.lst (Ps.map fun P => V.ref P.2.mp)) ∧ (∀ P ∈ Ps, ∃ L, LineAt T.C P.1 L H' ∧ ModAt P.2 L H' ∧ LG L) ∧ BoxAt H' b (n + 4 * (7 - i)) ∧ ∀ a o, a ≠ b → a ∉ A.cells → H a = some o → H' a = some o)
    ⟨⟨_, _, _, _, rfl⟩, hls6, hms6, hP, B5.le (by omega), fun a o _ _ h => e05 a o h⟩ ?_ ?_⟩
  case refine_2 =>
    rintro σ H' ⟨⟨v5, v6, v7, v8, rfl⟩, _, _, _, B, k⟩
    exact q H' (B.le (by omega)) fun a o ab ac h => k a o ab (fun h2 => ac (List.mem_append.mpr (.inl h2))) h
  rintro i σ H6 hi ⟨⟨v5, v6, v7, v8, rfl⟩, xls, xms, hP6, B6, k6⟩
  have hi' : i < 7 := hi
  rw [show n + 4 * (7 - i) = (n + 4 * (7 - (i + 1)) + 3) + 1 by omega] at B6
  refine ⟨_, rfl, b, 3, _, rfl, by decide, by decide, B6, fun r H7 r0 r1 B7 k7 => ?_⟩
  obtain ⟨P, hPm, _, hat⟩ := @at3 (fun _ => .non) r r0 r1
  obtain ⟨LP, lP, mP, gP⟩ := hP6 P hPm
  have xls7 := k7 _ _ (fun e => by
    obtain ⟨d, mm, c, f, hb, _⟩ := B6
    rw [e, hb] at xls
    have h := HO.lst.inj (Option.some.inj xls)
    match Ps, hlen, h with
    | _ :: _, _, h => exact nomatch (List.cons.inj h).1) xls
  have xms7 := k7 _ _ (fun e => by
    obtain ⟨d, mm, c, f, hb, _⟩ := B6
    rw [e, hb] at xms
    have h := HO.lst.inj (Option.some.inj xms)
    match Ps, hlen, h with
    | _ :: _, _, h => exact nomatch (List.cons.inj h).1) xms
  have hP7 : ∀ P ∈ Ps, ∃ L, LineAt T.C P.1 L H7 ∧ ModAt P.2 L H7 ∧ LG L := fun P h => by
    obtain ⟨L, a1, a2, a3⟩ := hP6 P h
    exact ⟨L, a1.box B6 k7, a2.box B6 k7, a3⟩
  refine ⟨_, rfl, _, rfl, _, rfl, _, _, _, _, rfl, rfl, SqL.of xls7, hat _, _, rfl, _, rfl, _, _, _, _, rfl, rfl, SqL.of xms7, hat _, b, P.1, P.2, LP, _, rfl, B7, lP.box B6 k7, mP.box B6 k7, gP, fm_nd (f := Pcells) ndP hPm, fun L' H8 l' m' g' B8 kk => ⟨_, rfl, iteF ?_⟩⟩
  have hI : ∀ a ∈ P.1.cells ++ P.2.cells, IsInts H7 a := fun a ha => by
    rcases List.mem_append.mp ha with h | h
    · exact (lP.box B6 k7).ints a h
    · exact (mP.box B6 k7).ints a h
  have hP8 : ∀ P ∈ Ps, ∃ L, LineAt T.C P.1 L H8 ∧ ModAt P.2 L H8 ∧ LG L := fun P' h => by
    by_cases e : P' = P
    · subst e; exact ⟨L', l', m', g'⟩
    · obtain ⟨L, a1, a2, a3⟩ := hP7 P' h
      have dj : ∀ x ∈ Pcells P', x ∉ P.1.cells ++ P.2.cells := fun x hx hx2 => e (fm_same (f := Pcells) ndP h hPm hx hx2)
      exact ⟨L, a1.fr hI (fun a ha => dj a (List.mem_append.mpr (.inl ha))) B7 kk, a2.fr hI (fun a ha => dj a (List.mem_append.mpr (.inr ha))) B7 kk, a3⟩
  have refs7 : ∀ {x : Addr} {f : Ln × Md → Addr}, H7 x = some (.lst (Ps.map fun P => V.ref (f P))) → H8 x = some (.lst (Ps.map fun P => V.ref (f P))) := fun {x f} hx => by
    obtain ⟨c, xs, hc⟩ : ∃ c xs, Ps.map (fun P => V.ref (f P)) = .ref c :: xs := by
      match Ps, hlen with
      | P0 :: r, _ => exact ⟨_, _, rfl⟩
    rw [hc] at hx ⊢
    exact kk _ _ (bx_refs B7 hx) (fun h => (hI _ h).refs hx rfl) hx
  have xls8 := refs7 (f := fun P => P.1.p) xls7
  have xms8 := refs7 (f := fun P => P.2.mp) xms7
  have k8 : ∀ a o, a ≠ b → a ∉ A.cells → H a = some o → H8 a = some o := fun a o ab ac h => kk a o ab (fun hc => by
    rcases frP P hPm a hc with h2 | h2
    · exact ac h2
    · rw [h2] at h; cases h) (k7 a o ab (k6 a o ab ac h))
  refine ⟨3, rfl, by decide, by decide, for_range (lo := 0) (n := (3 : Int).toNat) (fun j σ H' => Ex H8 H' ∧ ∃ v7, σ = [some (.ref b), some (.ref A.p), some (.ref M.mp), some (.ref ls), some (.ref ms), some (.int (0 + (i : Int))), some (.int r), v7, v8]) ⟨Ex.refl _, _, rfl⟩ ?_ ?_⟩
  · rintro j σ H9 hj ⟨e9, v7', rfl⟩
    have hj' : j < 3 := hj
    obtain ⟨P2, hPm2, _, hat2⟩ := @at3 (fun _ => .non) (0 + (j : Int)) (by omega) (by omega)
    obtain ⟨L2, a1, a2, a3⟩ := hP8 P2 hPm2
    have sm2 := a3.sm a1.ok
    exact ⟨_, rfl, _, rfl, _, _, _, _, rfl, rfl, SqL.of (e9 _ _ xls8), hat2 _, P2.1, L2, rfl, a1.ex e9, sm2, fun v Ha ea hv => ⟨_, rfl, _, rfl, _, _, _, _, rfl, rfl, SqL.of (ea _ _ (e9 _ _ xms8)), hat2 _, P2.2, L2, rfl, (a2.ex e9).ex ea, sm2, fun u Hc ec hu => ⟨_, _, rfl, ViewAt.sm sm2 a1.ok (hv.ex ec) hu, fun Hd ed => ⟨true, rfl, iteF ⟨((e9.trans ea).trans ec).trans ed, _, rfl⟩⟩⟩⟩⟩
  · rintro σ H9 ⟨e9, v7', rfl⟩
    refine ⟨⟨_, _, _, _, rfl⟩, e9 _ _ xls8, e9 _ _ xms8, fun P h => ?_, B8.ex e9, fun a o ab ac h => e9 _ _ (k8 a o ab ac h)⟩
    obtain ⟨L, a1, a2, a3⟩ := hP8 P h
    exact ⟨L, a1.ex e9, a2.ex e9, a3⟩
end
end L2.U


set_option Elab.async false
set_option linter.all false
set_option maxRecDepth 100000
set_option maxHeartbeats 4000000
namespace L2.U
open PySem PySem.Spec PyProof.Rows Evl

section
variable {P : Program} {w : World} {K : PySem.W.Frag} {mg : Str → Option Value} {base : Heap}

theorem mm (L : Int) : 1 ≤ (if (if L < 2 then L else 2) > 1 then (if L < 2 then L else 2) else 1) ∧ (if (if L < 2 then L else 2) > 1 then (if L < 2 then L else 2) else 1) ≤ 2 := by
  by_cases c : L < 2
  · rw [if_pos c]; split <;> omega
  · rw [if_neg c]; split <;> omega
def spLaw (K : PySem.W.Frag) : Sp := fun vs H Q _ => ∃ (a : Addr) (ns : List Int), vs = [.ref a] ∧ SqL K H a (ns.map V.int) ∧ ns.length ≤ 63 ∧ ∀ H', Q (.bl true) H'
theorem ok_law (T : TK K mg) : FnOk P w K mg base CX0 13 T.law.a T.law.fd ["script"] (spLaw K) := by
  refine T.law.F.ok sc_law (fun vs H Q E h => ?_) (fun cdv A0 outer s0 H vs Q E hr h => ?_)
  · obtain ⟨a, ns, rfl, _⟩ := h; rfl
  obtain ⟨a, ns, rfl, hS, h63, q⟩ := h
  refine ⟨_, (pss_cons (ps_for PassesOwn.never rfl (pi_range1 rfl T.z_range (pa_cons (pe_callB (call_max2 rfl) (by rfl) T.z_max (by decide +kernel) (pa_cons pe_int (pa_cons (pe_callB (call_min2 rfl) (by rfl) T.z_min (by decide +kernel) (pa_cons pe_int (pa_cons (pe_callB (klen K) (by rfl) T.z_len (by decide +kernel) (pa_cons (pv 0) pa_nil)) pa_nil))) pa_nil))) pa_nil)) (pg_name (i := 1) sc_law.nd rfl (Or.inl rfl)) (pss_cons (ps_set (i := 2) sc_law.nd rfl (Or.inl rfl) (pe_call (ok_law_box T.toTA1) (hr.mono (by decide)) rfl T.law_box.m T.law_box.F.kp T.law_box.b .nil pass0 (pa_cons (pe_call (ok_law_cell T.toTA1) (hr.mono (by decide)) rfl T.law_cell.m T.law_cell.F.kp T.law_cell.b .nil pass0 (pa_cons (pv 0) (pa_cons (pv 1) pa_nil))) pa_nil)))
    (pss_cons (ps_set (i := 3) sc_law.nd rfl (Or.inl rfl) (pe_call (ok_law_take T.toTA1) (hr.mono (by decide)) rfl T.law_take.m T.law_take.F.kp T.law_take.b .nil pass0 (pa_cons (pv 2) (pa_cons pe_int pa_nil))))
    (pss_cons (ps_set (i := 4) sc_law.nd rfl (Or.inl rfl) (pe_lst (pa_cons (pe_tup (pa_cons pe_str (pa_cons (pe_op op_add pe_int (pe_call (ok_law_take T.toTA1) (hr.mono (by decide)) rfl T.law_take.m T.law_take.F.kp T.law_take.b .nil pass0 (pa_cons (pv 2) (pa_cons pe_int pa_nil)))) (pa_cons (pe_call (ok_law_take T.toTA1) (hr.mono (by decide)) rfl T.law_take.m T.law_take.F.kp T.law_take.b .nil pass0 (pa_cons (pv 2) (pa_cons pe_int pa_nil))) pa_nil)))) (pa_cons (pe_tup (pa_cons pe_str (pa_cons (pe_op op_add pe_int (pe_call (ok_law_take T.toTA1) (hr.mono (by decide)) rfl T.law_take.m T.law_take.F.kp T.law_take.b .nil pass0 (pa_cons (pv 2) (pa_cons pe_int pa_nil)))) pa_nil))) pa_nil))))
    (pss_cons (ps_if (pt_not (pt_val (pe_call (ok_law_specs_right T) (hr.mono (by decide)) rfl T.law_specs_right.m T.law_specs_right.F.kp T.law_specs_right.b .nil pass0 (pa_cons (pv 2) (pa_cons (pv 3) pa_nil))))) (pss_one (ps_ret pe_bl)) pss_nil)
    (pss_one (ps_for PassesOwn.never rfl (kpil K (pe_lst (pa_cons (pe_ix (kixl K) (pv 4) (pv 3) (fun _ _ => rfl)) (pa_cons (pe_ix (kixl K) (pv 4) (pe_op op_sub pe_int (pv 3)) (fun _ _ => rfl)) pa_nil)))) (pg_name (i := 5) sc_law.nd rfl (Or.inl rfl)) (pss_cons (ps_set (i := 6) sc_law.nd rfl (Or.inl rfl) (pe_call (ok_law_worked T) (hr.mono (by decide)) rfl T.law_worked.m T.law_worked.F.kp T.law_worked.b .nil pass0 (pa_cons (pv 2) (pa_cons (pv 5) pa_nil))))
    (pss_cons (ps_if (pt_cmpR op_isN (pv 6) pe_non (nomark _)) (pss_one (ps_ret pe_bl)) pss_nil)
    (pss_cons (ps_asg (pv 6) (pg_lst (by rfl) (pgs_cons (pg_name (i := 7) sc_law.nd rfl (Or.inl rfl)) (pgs_cons (pg_name (i := 8) sc_law.nd rfl (Or.inl rfl)) pgs_nil))))
    (pss_cons (ps_if (PW.pt (pw_or (pt_not (pt_val (pe_call (ok_law_doors_right T) (hr.mono (by decide)) rfl T.law_doors_right.m T.law_doors_right.F.kp T.law_doors_right.b .nil pass0 (pa_cons (pv 2) (pa_cons (pv 7) (pa_cons (pv 8) (pa_cons (pv 3) pa_nil))))))) (pw_or1 (pt_not (pt_val (pe_call (ok_law_very T) (hr.mono (by decide)) rfl T.law_very.m T.law_very.F.kp T.law_very.b .nil pass0 (pa_cons (pv 7) (pa_cons (pv 3) pa_nil)))))))) (pss_one (ps_ret pe_bl)) pss_nil)
    (pss_one (ps_if (pt_not (pt_val (pe_call (ok_law_copies_right T) (hr.mono (by decide)) rfl T.law_copies_right.m T.law_copies_right.F.kp T.law_copies_right.b .nil pass0 (pa_cons (pv 2) (pa_cons (pv 7) (pa_cons (pv 8) pa_nil)))))) (pss_one (ps_ret pe_bl)) pss_nil)))))))))))))
    (pss_one (ps_ret pe_bl))), ?_⟩
  refine ⟨_, rfl, _, _, rfl, .inl ⟨_, hS, rfl⟩, _, _, rfl, _, _, rfl, _, rfl, ?_, ?_, for_range (lo := 0) (n := _)
    (fun k σ H' => Ex H H' ∧ ∃ x1 x2 x3 x4 x5 x6 x7 x8, σ = [some (.ref a), x1, x2, x3, x4, x5, x6, x7, x8]) ⟨Ex.refl _, _, _, _, _, _, _, _, _, rfl⟩ ?_ ?_⟩
  · have := (mm ((ns.map V.int).length : Int)).1
    exact Int.le_trans (by decide) this
  · have := (mm ((ns.map V.int).length : Int)).2
    exact Int.lt_of_le_of_lt this (by decide)
  case refine_4 =>
    rintro σ H1 _
    exact q H1
  rintro k σ H1 hk ⟨e1, x1, x2, x3, x4, x5, x6, x7, x8, rfl⟩
  have hS1 := ex_l e1 hS
  have hk2 : k ≤ 2 := by
    have := (mm ((ns.map V.int).length : Int)).2
    omega
  refine ⟨_, rfl, _, rfl, a, ns, _, rfl, hS1, by omega, by omega, fun v H2 e2 => ?_⟩
  refine ⟨v, rfl, fun b H3 hb0 e3 B3 => ?_⟩
  have E13 := e2.trans e3
  have b0 : H1 b = none := fresh_back e2 hb0
  refine ⟨_, rfl, b, 2, 999999, rfl, by decide, by decide, B3, fun named H4 n0 n1 B4 k4 => ?_⟩
  refine ⟨_, rfl, b, 8, 999998, rfl, by decide, by decide, B4, fun r1 H5 r10 r11 B5 k5 => ⟨1, r1, rfl, rfl, _, rfl, b, 9, 999997, rfl, by decide, by decide, B5, fun r2 H6 r20 r21 B6 k6 => ⟨three_le, fun t1 ht1 => ?_⟩⟩⟩
  have B6t : BoxAt (upd H6 t1 (.tup [.str "letters", .int (1 + r1), .int r2])) b 999997 := B6.ex (Ex.new ht1)
  refine ⟨_, rfl, b, 10, 999996, rfl, by decide, by decide, B6t, fun r3 H7 r30 r31 B7 k7 => ⟨1, r3, rfl, rfl, two_le, fun t2 ht2 => ⟨two_le, fun z hz => ?_⟩⟩⟩
  have y1 : t1 ≠ b := B6.ne ht1
  have g1 := k7 t1 _ y1 upd_same
  have k47 : But b H4 H7 := (k5.trans k6).trans (But.pre (Ex.new ht1) k7)
  have x78 : Ex H7 (upd (upd H7 t2 (.tup [.str "wires", .int (1 + r3)])) z (.lst [.ref t1, .ref t2])) := (Ex.new ht2).trans (Ex.new hz)
  have g2 : upd (upd H7 t2 (.tup [.str "wires", .int (1 + r3)])) z (.lst [.ref t1, .ref t2]) t2 = some (.tup (Knd.wir (1 + r3)).vals) := (Ex.new hz) _ _ upd_same
  have gz : upd (upd H7 t2 (.tup [.str "wires", .int (1 + r3)])) z (.lst [.ref t1, .ref t2]) z = some (.lst [.ref t1, .ref t2]) := upd_same
  have g1' : upd (upd H7 t2 (.tup [.str "wires", .int (1 + r3)])) z (.lst [.ref t1, .ref t2]) t1 = some (.tup (Knd.letr (1 + r1) r2).vals) := x78 _ _ g1
  have B8 := B7.ex x78
  have ex8 : Ex H1 (upd (upd H7 t2 (.tup [.str "wires", .int (1 + r3)])) z (.lst [.ref t1, .ref t2])) := fun c o h => x78 c o (k47 c o (ne_of_none h b0) (k4 c o (ne_of_none h b0) (E13 _ _ h)))
  have okl : (Knd.letr (1 + r1) r2).Ok := ⟨⟨by omega, by omega⟩, by omega, by omega⟩
  have okw : (Knd.wir (1 + r3)).Ok := ⟨by omega, by omega⟩
  generalize upd (upd H7 t2 (.tup [.str "wires", .int (1 + r3)])) z (.lst [.ref t1, .ref t2]) = H8 at g2 gz g1' B8 ex8 ⊢
  refine ⟨_, rfl, _, rfl, b, named, 999991, rfl, B8, fun H9 k9 B9 => ⟨true, rfl, iteF ?_⟩⟩
  have z1 := k9 _ _ (bx_tup B8 g1') g1'
  have z2 := k9 _ _ (bx_tup B8 g2) g2
  have zz := k9 _ _ (bx_refs B8 gz) gz
  have ex9 : Ex H1 H9 := fun c o h => k9 c o (ne_of_none h b0) (ex8 _ _ h)
  obtain ⟨s1, s2, hs1, hs2, ⟨kd1, hk1, ok1⟩, ⟨kd2, hk2', ok2⟩⟩ : ∃ s1 s2, atI [V.ref t1, V.ref t2] named = some (.ref s1) ∧ atI [V.ref t1, V.ref t2] (1 - named) = some (.ref s2) ∧ (∃ kd : Knd, H9 s1 = some (.tup kd.vals) ∧ kd.Ok) ∧ ∃ kd : Knd, H9 s2 = some (.tup kd.vals) ∧ kd.Ok := by
    rcases (by omega : named = 0 ∨ named = 1) with rfl | rfl
    · exact ⟨t1, t2, rfl, rfl, ⟨_, z1, okl⟩, ⟨_, z2, okw⟩⟩
    · exact ⟨t2, t1, rfl, rfl, ⟨_, z2, okw⟩, ⟨_, z1, okl⟩⟩
  refine ⟨_, rfl, _, rfl, _, _, _, _, rfl, rfl, SqL.of zz, hs1, _, rfl, _, rfl, _, _, rfl, rfl, _, _, _, _, rfl, rfl, SqL.of zz, hs2, two_le, fun zs hzs => ?_⟩
  have hL : upd H9 zs (.lst [.ref s1, .ref s2]) zs = some (.lst [.ref s1, .ref s2]) := upd_same
  have exz : Ex H1 (upd H9 zs (.lst [.ref s1, .ref s2])) := ex9.trans (Ex.new hzs)
  have w1 := (Ex.new (o := .lst [.ref s1, .ref s2]) hzs) _ _ hk1
  have w2 := (Ex.new (o := .lst [.ref s1, .ref s2]) hzs) _ _ hk2'
  have Bz := B9.ex (Ex.new (o := .lst [.ref s1, .ref s2]) hzs)
  generalize upd H9 zs (.lst [.ref s1, .ref s2]) = Hz at hL exz w1 w2 Bz ⊢
  have nzs := bx_refs Bz hL
  refine ⟨zs, rfl, ⟨_, SqL.of hL⟩, for_list (xs := [.ref s1, .ref s2]) (fun j σ H' => (∃ y5 y6 y7 y8, σ = [some (.ref a), some (.int (0 + (k : Int))), some (.ref b), some (.int named), some (.ref z), y5, y6, y7, y8]) ∧ But b Hz H' ∧ BoxAt H' b (999900 - 200 * j)) ⟨⟨_, _, _, _, rfl⟩, But.of (Ex.refl _), Bz.le (by omega)⟩
    (fun j σ H' _ h => SqL.of (h.2.1 _ _ nzs hL)) ?_ ?_⟩
  · rintro j x σ H' hx ⟨⟨y5, y6, y7, y8, rfl⟩, kb, B⟩
    have hj : j < 2 := (List.getElem?_eq_some_iff.mp hx).1
    obtain ⟨s, kd, rfl, hs, ok⟩ : ∃ (s : Addr) (kd : Knd), x = .ref s ∧ H' s = some (.tup kd.vals) ∧ kd.Ok := by
      match j, hx with
      | 0, hx => cases hx; exact ⟨s1, kd1, rfl, kb _ _ (bx_tup Bz w1) w1, ok1⟩
      | 1, hx => cases hx; exact ⟨s2, kd2, rfl, kb _ _ (bx_tup Bz w2) w2, ok2⟩
    obtain ⟨nn, hnn⟩ : ∃ nn, 999900 - 200 * j = nn + 200 := ⟨999700 - 200 * j, by omega⟩
    rw [hnn] at B
    refine ⟨_, rfl, _, rfl, b, s, kd, nn + 160, rfl, B, hs, ok, fun w A M L Ha l m g nd fr Ba ka hw => ?_⟩
    refine ⟨_, rfl, rfl, _, rfl, iteF ?_⟩
    refine ⟨_, rfl, w, _, rfl, SqL.of hw, rfl, _, _, rfl, _, _, rfl, rfl, ?_⟩
    refine ⟨_, rfl, _, rfl, _, rfl, _, rfl, b, A, M, L, named, nn + 80, rfl, Ba, l, m, g, fun Hc kc Bc => ⟨true, rfl, iteF ?_⟩⟩
    have lc := l.box Ba kc
    have mc := m.box Ba kc
    refine ⟨_, rfl, _, rfl, A, L, named, rfl, lc, g.sm lc.ok, ⟨n0, by omega⟩, fun Hd ed => ⟨true, rfl, iteF ?_⟩⟩
    refine ⟨_, rfl, _, rfl, _, rfl, b, A, M, L, nn, rfl, (Bc.ex ed).le (by omega), lc.ex ed, mc.ex ed, g, nd, fun He Be ke => ⟨true, rfl, iteF ⟨⟨_, _, _, _, rfl⟩, fun c o cb hc => ?_, Be.le (by omega)⟩⟩⟩
    have h1 := kb c o cb hc
    exact ke c o cb (fun hm => by rw [fr c hm] at h1; cases h1) (ed _ _ (kc c o cb (ka c o cb h1)))
  · rintro σ H' ⟨⟨y5, y6, y7, y8, rfl⟩, kb, B⟩
    exact ⟨e1.trans fun c o h => kb c o (ne_of_none h b0) (exz _ _ h), _, _, _, _, _, _, _, _, rfl⟩
end
end L2.U


set_option Elab.async false
set_option linter.all false
set_option maxRecDepth 100000
set_option maxHeartbeats 4000000
namespace L2.U
open PySem PySem.Spec PyProof.Rows Evl
theorem exm_of {K : PySem.W.Frag} {C D : Addr} {b : Bool} (h1 : PySem.W.subIn K (.ref D) (.type "BaseException") = some true) (h2 : PySem.W.isClsIn K D = true) (h3 : PySem.W.typeIn K (.ref D) = some (.type "type"))
    (h4 : PySem.W.subIn K (.ref C) (.ref D) = some b) : PySem.W.exmOne K (.ref C) (.ref D) = some b := by
  have h2' : (PySem.W.clsIn K D).isSome = true := h2
  unfold PySem.W.exmOne
  rw [h1, if_pos (by rfl)]
  unfold PySem.W.kitCls
  simp only [h2', h3, h4, beq_self_eq_true, Bool.and_self, if_true]
def mkDef {K : PySem.W.Frag} {h : Heap} {mg : Str → Option Value} (X : K.In h) (G : h.Ns mainGlobals mg) {x : Str} {st : Stmt} {ps : List Str} {f : Addr} {od an : Option Addr} {sl : Array (Option Value)} {oc kV dc pm cd ct : Value}
    (a : PySem.W.nsIn K mainGlobals x = some (some (.ref f))) (l : K.lookup f = some ⟨oc, od, .func (PySem.W.fnOf x x (defArgs st) (defBody st) (defScope st) .none kV dc pm an cd ct), sl⟩) (c : PySem.W.codeIn K cd x = true) (k : PySem.W.keepIn K (.ref f) = true)
    (h2 : ∀ (kV doc pm : Value) (an : Option Addr) (cdv ct : Value) (us : List Value), us.length = ps.length → bindArgs (PySem.W.fnOf x x (defArgs st) (defBody st) (defScope st) .none kV doc pm an cdv ct) ⟨us, []⟩ = pure (ps.zip us)) : DefAt K mg x st ps :=
  ⟨f, _, fun_mk (st := st) l c k, PySem.W.mg_of X G a, (fun_mk (st := st) l c k).binds h2⟩

theorem all_mk {l : PySem.W.OpenLaw} {w : World} {K : PySem.W.Frag} {h : Heap} {mg : Str → Option Value} {fa : Addr} (X : K.In h) (G : h.Ns mainGlobals mg) (hfa : mg "law" = some (.ref fa))
    {f1 : Addr} {od1 an1 : Option Addr} {sl1 : Array (Option Value)} {oc1 kV1 dc1 pm1 cd1 ct1 : Value}
    {f2 : Addr} {od2 an2 : Option Addr} {sl2 : Array (Option Value)} {oc2 kV2 dc2 pm2 cd2 ct2 : Value}
    {f3 : Addr} {od3 an3 : Option Addr} {sl3 : Array (Option Value)} {oc3 kV3 dc3 pm3 cd3 ct3 : Value}
    {f4 : Addr} {od4 an4 : Option Addr} {sl4 : Array (Option Value)} {oc4 kV4 dc4 pm4 cd4 ct4 : Value}
    {f5 : Addr} {od5 an5 : Option Addr} {sl5 : Array (Option Value)} {oc5 kV5 dc5 pm5 cd5 ct5 : Value}
    {f6 : Addr} {od6 an6 : Option Addr} {sl6 : Array (Option Value)} {oc6 kV6 dc6 pm6 cd6 ct6 : Value}
    {f7 : Addr} {od7 an7 : Option Addr} {sl7 : Array (Option Value)} {oc7 kV7 dc7 pm7 cd7 ct7 : Value}
    {f8 : Addr} {od8 an8 : Option Addr} {sl8 : Array (Option Value)} {oc8 kV8 dc8 pm8 cd8 ct8 : Value}
    {f9 : Addr} {od9 an9 : Option Addr} {sl9 : Array (Option Value)} {oc9 kV9 dc9 pm9 cd9 ct9 : Value}
    {f10 : Addr} {od10 an10 : Option Addr} {sl10 : Array (Option Value)} {oc10 kV10 dc10 pm10 cd10 ct10 : Value}
    {f11 : Addr} {od11 an11 : Option Addr} {sl11 : Array (Option Value)} {oc11 kV11 dc11 pm11 cd11 ct11 : Value}
    {f12 : Addr} {od12 an12 : Option Addr} {sl12 : Array (Option Value)} {oc12 kV12 dc12 pm12 cd12 ct12 : Value}
    {f13 : Addr} {od13 an13 : Option Addr} {sl13 : Array (Option Value)} {oc13 kV13 dc13 pm13 cd13 ct13 : Value}
    {f14 : Addr} {od14 an14 : Option Addr} {sl14 : Array (Option Value)} {oc14 kV14 dc14 pm14 cd14 ct14 : Value}
    {f15 : Addr} {od15 an15 : Option Addr} {sl15 : Array (Option Value)} {oc15 kV15 dc15 pm15 cd15 ct15 : Value}
    {f16 : Addr} {od16 an16 : Option Addr} {sl16 : Array (Option Value)} {oc16 kV16 dc16 pm16 cd16 ct16 : Value}
    {f17 : Addr} {od17 an17 : Option Addr} {sl17 : Array (Option Value)} {oc17 kV17 dc17 pm17 cd17 ct17 : Value}
    {f18 : Addr} {od18 an18 : Option Addr} {sl18 : Array (Option Value)} {oc18 kV18 dc18 pm18 cd18 ct18 : Value}
    {f19 : Addr} {od19 an19 : Option Addr} {sl19 : Array (Option Value)} {oc19 kV19 dc19 pm19 cd19 ct19 : Value}
    {f20 : Addr} {od20 an20 : Option Addr} {sl20 : Array (Option Value)} {oc20 kV20 dc20 pm20 cd20 ct20 : Value}
    {f21 : Addr} {od21 an21 : Option Addr} {sl21 : Array (Option Value)} {oc21 kV21 dc21 pm21 cd21 ct21 : Value}
    {f22 : Addr} {od22 an22 : Option Addr} {sl22 : Array (Option Value)} {oc22 kV22 dc22 pm22 cd22 ct22 : Value}
    {f23 : Addr} {od23 an23 : Option Addr} {sl23 : Array (Option Value)} {oc23 kV23 dc23 pm23 cd23 ct23 : Value}
    {f24 : Addr} {od24 an24 : Option Addr} {sl24 : Array (Option Value)} {oc24 kV24 dc24 pm24 cd24 ct24 : Value}
    {f25 : Addr} {od25 an25 : Option Addr} {sl25 : Array (Option Value)} {oc25 kV25 dc25 pm25 cd25 ct25 : Value}
    {f26 : Addr} {od26 an26 : Option Addr} {sl26 : Array (Option Value)} {oc26 kV26 dc26 pm26 cd26 ct26 : Value}
    {f27 : Addr} {od27 an27 : Option Addr} {sl27 : Array (Option Value)} {oc27 kV27 dc27 pm27 cd27 ct27 : Value}
    {f28 : Addr} {od28 an28 : Option Addr} {sl28 : Array (Option Value)} {oc28 kV28 dc28 pm28 cd28 ct28 : Value}
    {t_MOST_LETTERS : Tok}
    {t_MOST_WIRES : Tok}
    {CT : Addr}
    {CInvalidSpec NInvalidSpec fIInvalidSpec : Addr} {nmInvalidSpec qInvalidSpec : Str} {bsInvalidSpec : List Value} {snInvalidSpec : List Str} {subInvalidSpec : List Value} {abInvalidSpec : Bool} {colInvalidSpec : Option Bool} {ddInvalidSpec : Option Addr} {m0InvalidSpec m1InvalidSpec m2InvalidSpec m3InvalidSpec m5InvalidSpec : Option Value}
    {odInvalidSpec anInvalidSpec : Option Addr} {slInvalidSpec : Array (Option Value)} {ocInvalidSpec kVInvalidSpec dcInvalidSpec pmInvalidSpec cdInvalidSpec ctInvalidSpec : Value}
    {CInvalidSide NInvalidSide fIInvalidSide : Addr} {nmInvalidSide qInvalidSide : Str} {bsInvalidSide : List Value} {snInvalidSide : List Str} {subInvalidSide : List Value} {abInvalidSide : Bool} {colInvalidSide : Option Bool} {ddInvalidSide : Option Addr} {m0InvalidSide m1InvalidSide m2InvalidSide m3InvalidSide m5InvalidSide : Option Value}
    {odInvalidSide anInvalidSide : Option Addr} {slInvalidSide : Array (Option Value)} {ocInvalidSide kVInvalidSide dcInvalidSide pmInvalidSide cdInvalidSide ctInvalidSide : Value}
    {CInvalidKind NInvalidKind fIInvalidKind : Addr} {nmInvalidKind qInvalidKind : Str} {bsInvalidKind : List Value} {snInvalidKind : List Str} {subInvalidKind : List Value} {abInvalidKind : Bool} {colInvalidKind : Option Bool} {ddInvalidKind : Option Addr} {m0InvalidKind m1InvalidKind m2InvalidKind m3InvalidKind m5InvalidKind : Option Value}
    {odInvalidKind anInvalidKind : Option Addr} {slInvalidKind : Array (Option Value)} {ocInvalidKind kVInvalidKind dcInvalidKind pmInvalidKind cdInvalidKind ctInvalidKind : Value}
    {CNotSent NNotSent fINotSent : Addr} {nmNotSent qNotSent : Str} {bsNotSent : List Value} {snNotSent : List Str} {subNotSent : List Value} {abNotSent : Bool} {colNotSent : Option Bool} {ddNotSent : Option Addr} {m0NotSent m1NotSent m2NotSent m3NotSent m5NotSent : Option Value}
    {odNotSent anNotSent : Option Addr} {slNotSent : Array (Option Value)} {ocNotSent kVNotSent dcNotSent pmNotSent cdNotSent ctNotSent : Value}
    {CL : Addr}
    {fM0 : Addr} {odM0 anM0 : Option Addr} {slM0 : Array (Option Value)} {ocM0 kVM0 dcM0 pmM0 cdM0 ctM0 : Value}
    {fM1 : Addr} {odM1 anM1 : Option Addr} {slM1 : Array (Option Value)} {ocM1 kVM1 dcM1 pmM1 cdM1 ctM1 : Value}
    {fM2 : Addr} {odM2 anM2 : Option Addr} {slM2 : Array (Option Value)} {ocM2 kVM2 dcM2 pmM2 cdM2 ctM2 : Value}
    {fM3 : Addr} {odM3 anM3 : Option Addr} {slM3 : Array (Option Value)} {ocM3 kVM3 dcM3 pmM3 cdM3 ctM3 : Value}
    {fM4 : Addr} {odM4 anM4 : Option Addr} {slM4 : Array (Option Value)} {ocM4 kVM4 dcM4 pmM4 cdM4 ctM4 : Value}
    {fM5 : Addr} {odM5 anM5 : Option Addr} {slM5 : Array (Option Value)} {ocM5 kVM5 dcM5 pmM5 cdM5 ctM5 : Value}
    {fM6 : Addr} {odM6 anM6 : Option Addr} {slM6 : Array (Option Value)} {ocM6 kVM6 dcM6 pmM6 cdM6 ctM6 : Value}
    {fM7 : Addr} {odM7 anM7 : Option Addr} {slM7 : Array (Option Value)} {ocM7 kVM7 dcM7 pmM7 cdM7 ctM7 : Value}
    {fM8 : Addr} {odM8 anM8 : Option Addr} {slM8 : Array (Option Value)} {ocM8 kVM8 dcM8 pmM8 cdM8 ctM8 : Value}
    {fM9 : Addr} {odM9 anM9 : Option Addr} {slM9 : Array (Option Value)} {ocM9 kVM9 dcM9 pmM9 cdM9 ctM9 : Value}
    {fM10 : Addr} {odM10 anM10 : Option Addr} {slM10 : Array (Option Value)} {ocM10 kVM10 dcM10 pmM10 cdM10 ctM10 : Value}
    {fM11 : Addr} {odM11 anM11 : Option Addr} {slM11 : Array (Option Value)} {ocM11 kVM11 dcM11 pmM11 cdM11 ctM11 : Value}
    {fM12 : Addr} {odM12 anM12 : Option Addr} {slM12 : Array (Option Value)} {ocM12 kVM12 dcM12 pmM12 cdM12 ctM12 : Value}
    (a1 : PySem.W.nsIn K mainGlobals "is_integer" = some (some (.ref f1)))
    (l1 : K.lookup f1 = some ⟨oc1, od1, .func (PySem.W.fnOf "is_integer" "is_integer" (defArgs s_is_integer) (defBody s_is_integer) (defScope s_is_integer) .none kV1 dc1 pm1 an1 cd1 ct1), sl1⟩)
    (c1 : PySem.W.codeIn K cd1 "is_integer" = true)
    (k1 : PySem.W.keepIn K (.ref f1) = true)
    (a2 : PySem.W.nsIn K mainGlobals "is_between" = some (some (.ref f2)))
    (l2 : K.lookup f2 = some ⟨oc2, od2, .func (PySem.W.fnOf "is_between" "is_between" (defArgs s_is_between) (defBody s_is_between) (defScope s_is_between) .none kV2 dc2 pm2 an2 cd2 ct2), sl2⟩)
    (c2 : PySem.W.codeIn K cd2 "is_between" = true)
    (k2 : PySem.W.keepIn K (.ref f2) = true)
    (a3 : PySem.W.nsIn K mainGlobals "are_between" = some (some (.ref f3)))
    (l3 : K.lookup f3 = some ⟨oc3, od3, .func (PySem.W.fnOf "are_between" "are_between" (defArgs s_are_between) (defBody s_are_between) (defScope s_are_between) .none kV3 dc3 pm3 an3 cd3 ct3), sl3⟩)
    (c3 : PySem.W.codeIn K cd3 "are_between" = true)
    (k3 : PySem.W.keepIn K (.ref f3) = true)
    (a4 : PySem.W.nsIn K mainGlobals "is_spec" = some (some (.ref f4)))
    (l4 : K.lookup f4 = some ⟨oc4, od4, .func (PySem.W.fnOf "is_spec" "is_spec" (defArgs s_is_spec) (defBody s_is_spec) (defScope s_is_spec) .none kV4 dc4 pm4 an4 cd4 ct4), sl4⟩)
    (c4 : PySem.W.codeIn K cd4 "is_spec" = true)
    (k4 : PySem.W.keepIn K (.ref f4) = true)
    (a5 : PySem.W.nsIn K mainGlobals "_check_side" = some (some (.ref f5)))
    (l5 : K.lookup f5 = some ⟨oc5, od5, .func (PySem.W.fnOf "_check_side" "_check_side" (defArgs s_check_side) (defBody s_check_side) (defScope s_check_side) .none kV5 dc5 pm5 an5 cd5 ct5), sl5⟩)
    (c5 : PySem.W.codeIn K cd5 "_check_side" = true)
    (k5 : PySem.W.keepIn K (.ref f5) = true)
    (a6 : PySem.W.nsIn K mainGlobals "_law_cell" = some (some (.ref f6)))
    (l6 : K.lookup f6 = some ⟨oc6, od6, .func (PySem.W.fnOf "_law_cell" "_law_cell" (defArgs s_law_cell) (defBody s_law_cell) (defScope s_law_cell) .none kV6 dc6 pm6 an6 cd6 ct6), sl6⟩)
    (c6 : PySem.W.codeIn K cd6 "_law_cell" = true)
    (k6 : PySem.W.keepIn K (.ref f6) = true)
    (a7 : PySem.W.nsIn K mainGlobals "_law_box" = some (some (.ref f7)))
    (l7 : K.lookup f7 = some ⟨oc7, od7, .func (PySem.W.fnOf "_law_box" "_law_box" (defArgs s_law_box) (defBody s_law_box) (defScope s_law_box) .none kV7 dc7 pm7 an7 cd7 ct7), sl7⟩)
    (c7 : PySem.W.codeIn K cd7 "_law_box" = true)
    (k7 : PySem.W.keepIn K (.ref f7) = true)
    (a8 : PySem.W.nsIn K mainGlobals "_law_take" = some (some (.ref f8)))
    (l8 : K.lookup f8 = some ⟨oc8, od8, .func (PySem.W.fnOf "_law_take" "_law_take" (defArgs s_law_take) (defBody s_law_take) (defScope s_law_take) .none kV8 dc8 pm8 an8 cd8 ct8), sl8⟩)
    (c8 : PySem.W.codeIn K cd8 "_law_take" = true)
    (k8 : PySem.W.keepIn K (.ref f8) = true)
    (a9 : PySem.W.nsIn K mainGlobals "_law_same" = some (some (.ref f9)))
    (l9 : K.lookup f9 = some ⟨oc9, od9, .func (PySem.W.fnOf "_law_same" "_law_same" (defArgs s_law_same) (defBody s_law_same) (defScope s_law_same) .none kV9 dc9 pm9 an9 cd9 ct9), sl9⟩)
    (c9 : PySem.W.codeIn K cd9 "_law_same" = true)
    (k9 : PySem.W.keepIn K (.ref f9) = true)
    (a10 : PySem.W.nsIn K mainGlobals "_law_is_between" = some (some (.ref f10)))
    (l10 : K.lookup f10 = some ⟨oc10, od10, .func (PySem.W.fnOf "_law_is_between" "_law_is_between" (defArgs s_law_is_between) (defBody s_law_is_between) (defScope s_law_is_between) .none kV10 dc10 pm10 an10 cd10 ct10), sl10⟩)
    (c10 : PySem.W.codeIn K cd10 "_law_is_between" = true)
    (k10 : PySem.W.keepIn K (.ref f10) = true)
    (a11 : PySem.W.nsIn K mainGlobals "_law_is_spec" = some (some (.ref f11)))
    (l11 : K.lookup f11 = some ⟨oc11, od11, .func (PySem.W.fnOf "_law_is_spec" "_law_is_spec" (defArgs s_law_is_spec) (defBody s_law_is_spec) (defScope s_law_is_spec) .none kV11 dc11 pm11 an11 cd11 ct11), sl11⟩)
    (c11 : PySem.W.codeIn K cd11 "_law_is_spec" = true)
    (k11 : PySem.W.keepIn K (.ref f11) = true)
    (a12 : PySem.W.nsIn K mainGlobals "_law_made" = some (some (.ref f12)))
    (l12 : K.lookup f12 = some ⟨oc12, od12, .func (PySem.W.fnOf "_law_made" "_law_made" (defArgs s_law_made) (defBody s_law_made) (defScope s_law_made) .none kV12 dc12 pm12 an12 cd12 ct12), sl12⟩)
    (c12 : PySem.W.codeIn K cd12 "_law_made" = true)
    (k12 : PySem.W.keepIn K (.ref f12) = true)
    (a13 : PySem.W.nsIn K mainGlobals "_law_specs_right" = some (some (.ref f13)))
    (l13 : K.lookup f13 = some ⟨oc13, od13, .func (PySem.W.fnOf "_law_specs_right" "_law_specs_right" (defArgs s_law_specs_right) (defBody s_law_specs_right) (defScope s_law_specs_right) .none kV13 dc13 pm13 an13 cd13 ct13), sl13⟩)
    (c13 : PySem.W.codeIn K cd13 "_law_specs_right" = true)
    (k13 : PySem.W.keepIn K (.ref f13) = true)
    (a14 : PySem.W.nsIn K mainGlobals "_law_all" = some (some (.ref f14)))
    (l14 : K.lookup f14 = some ⟨oc14, od14, .func (PySem.W.fnOf "_law_all" "_law_all" (defArgs s_law_all) (defBody s_law_all) (defScope s_law_all) .none kV14 dc14 pm14 an14 cd14 ct14), sl14⟩)
    (c14 : PySem.W.codeIn K cd14 "_law_all" = true)
    (k14 : PySem.W.keepIn K (.ref f14) = true)
    (a15 : PySem.W.nsIn K mainGlobals "_law_call" = some (some (.ref f15)))
    (l15 : K.lookup f15 = some ⟨oc15, od15, .func (PySem.W.fnOf "_law_call" "_law_call" (defArgs s_law_call) (defBody s_law_call) (defScope s_law_call) .none kV15 dc15 pm15 an15 cd15 ct15), sl15⟩)
    (c15 : PySem.W.codeIn K cd15 "_law_call" = true)
    (k15 : PySem.W.keepIn K (.ref f15) = true)
    (a16 : PySem.W.nsIn K mainGlobals "_law_told" = some (some (.ref f16)))
    (l16 : K.lookup f16 = some ⟨oc16, od16, .func (PySem.W.fnOf "_law_told" "_law_told" (defArgs s_law_told) (defBody s_law_told) (defScope s_law_told) .none kV16 dc16 pm16 an16 cd16 ct16), sl16⟩)
    (c16 : PySem.W.codeIn K cd16 "_law_told" = true)
    (k16 : PySem.W.keepIn K (.ref f16) = true)
    (a17 : PySem.W.nsIn K mainGlobals "_law_refused" = some (some (.ref f17)))
    (l17 : K.lookup f17 = some ⟨oc17, od17, .func (PySem.W.fnOf "_law_refused" "_law_refused" (defArgs s_law_refused) (defBody s_law_refused) (defScope s_law_refused) .none kV17 dc17 pm17 an17 cd17 ct17), sl17⟩)
    (c17 : PySem.W.codeIn K cd17 "_law_refused" = true)
    (k17 : PySem.W.keepIn K (.ref f17) = true)
    (a18 : PySem.W.nsIn K mainGlobals "_law_many" = some (some (.ref f18)))
    (l18 : K.lookup f18 = some ⟨oc18, od18, .func (PySem.W.fnOf "_law_many" "_law_many" (defArgs s_law_many) (defBody s_law_many) (defScope s_law_many) .none kV18 dc18 pm18 an18 cd18 ct18), sl18⟩)
    (c18 : PySem.W.codeIn K cd18 "_law_many" = true)
    (k18 : PySem.W.keepIn K (.ref f18) = true)
    (a19 : PySem.W.nsIn K mainGlobals "_law_is_up" = some (some (.ref f19)))
    (l19 : K.lookup f19 = some ⟨oc19, od19, .func (PySem.W.fnOf "_law_is_up" "_law_is_up" (defArgs s_law_is_up) (defBody s_law_is_up) (defScope s_law_is_up) .none kV19 dc19 pm19 an19 cd19 ct19), sl19⟩)
    (c19 : PySem.W.codeIn K cd19 "_law_is_up" = true)
    (k19 : PySem.W.keepIn K (.ref f19) = true)
    (a20 : PySem.W.nsIn K mainGlobals "_law_waits" = some (some (.ref f20)))
    (l20 : K.lookup f20 = some ⟨oc20, od20, .func (PySem.W.fnOf "_law_waits" "_law_waits" (defArgs s_law_waits) (defBody s_law_waits) (defScope s_law_waits) .none kV20 dc20 pm20 an20 cd20 ct20), sl20⟩)
    (c20 : PySem.W.codeIn K cd20 "_law_waits" = true)
    (k20 : PySem.W.keepIn K (.ref f20) = true)
    (a21 : PySem.W.nsIn K mainGlobals "_law_free" = some (some (.ref f21)))
    (l21 : K.lookup f21 = some ⟨oc21, od21, .func (PySem.W.fnOf "_law_free" "_law_free" (defArgs s_law_free) (defBody s_law_free) (defScope s_law_free) .none kV21 dc21 pm21 an21 cd21 ct21), sl21⟩)
    (c21 : PySem.W.codeIn K cd21 "_law_free" = true)
    (k21 : PySem.W.keepIn K (.ref f21) = true)
    (a22 : PySem.W.nsIn K mainGlobals "_law_view" = some (some (.ref f22)))
    (l22 : K.lookup f22 = some ⟨oc22, od22, .func (PySem.W.fnOf "_law_view" "_law_view" (defArgs s_law_view) (defBody s_law_view) (defScope s_law_view) .none kV22 dc22 pm22 an22 cd22 ct22), sl22⟩)
    (c22 : PySem.W.codeIn K cd22 "_law_view" = true)
    (k22 : PySem.W.keepIn K (.ref f22) = true)
    (a23 : PySem.W.nsIn K mainGlobals "_law_deed" = some (some (.ref f23)))
    (l23 : K.lookup f23 = some ⟨oc23, od23, .func (PySem.W.fnOf "_law_deed" "_law_deed" (defArgs s_law_deed) (defBody s_law_deed) (defScope s_law_deed) .none kV23 dc23 pm23 an23 cd23 ct23), sl23⟩)
    (c23 : PySem.W.codeIn K cd23 "_law_deed" = true)
    (k23 : PySem.W.keepIn K (.ref f23) = true)
    (a24 : PySem.W.nsIn K mainGlobals "_law_doors_right" = some (some (.ref f24)))
    (l24 : K.lookup f24 = some ⟨oc24, od24, .func (PySem.W.fnOf "_law_doors_right" "_law_doors_right" (defArgs s_law_doors_right) (defBody s_law_doors_right) (defScope s_law_doors_right) .none kV24 dc24 pm24 an24 cd24 ct24), sl24⟩)
    (c24 : PySem.W.codeIn K cd24 "_law_doors_right" = true)
    (k24 : PySem.W.keepIn K (.ref f24) = true)
    (a25 : PySem.W.nsIn K mainGlobals "_law_very" = some (some (.ref f25)))
    (l25 : K.lookup f25 = some ⟨oc25, od25, .func (PySem.W.fnOf "_law_very" "_law_very" (defArgs s_law_very) (defBody s_law_very) (defScope s_law_very) .none kV25 dc25 pm25 an25 cd25 ct25), sl25⟩)
    (c25 : PySem.W.codeIn K cd25 "_law_very" = true)
    (k25 : PySem.W.keepIn K (.ref f25) = true)
    (a26 : PySem.W.nsIn K mainGlobals "_law_worked" = some (some (.ref f26)))
    (l26 : K.lookup f26 = some ⟨oc26, od26, .func (PySem.W.fnOf "_law_worked" "_law_worked" (defArgs s_law_worked) (defBody s_law_worked) (defScope s_law_worked) .none kV26 dc26 pm26 an26 cd26 ct26), sl26⟩)
    (c26 : PySem.W.codeIn K cd26 "_law_worked" = true)
    (k26 : PySem.W.keepIn K (.ref f26) = true)
    (a27 : PySem.W.nsIn K mainGlobals "_law_copies_right" = some (some (.ref f27)))
    (l27 : K.lookup f27 = some ⟨oc27, od27, .func (PySem.W.fnOf "_law_copies_right" "_law_copies_right" (defArgs s_law_copies_right) (defBody s_law_copies_right) (defScope s_law_copies_right) .none kV27 dc27 pm27 an27 cd27 ct27), sl27⟩)
    (c27 : PySem.W.codeIn K cd27 "_law_copies_right" = true)
    (k27 : PySem.W.keepIn K (.ref f27) = true)
    (a28 : PySem.W.nsIn K mainGlobals "law" = some (some (.ref f28)))
    (l28 : K.lookup f28 = some ⟨oc28, od28, .func (PySem.W.fnOf "law" "law" (defArgs s_law) (defBody s_law) (defScope s_law) .none kV28 dc28 pm28 an28 cd28 ct28), sl28⟩)
    (c28 : PySem.W.codeIn K cd28 "law" = true)
    (k28 : PySem.W.keepIn K (.ref f28) = true)
    (z_int : PySem.W.nsIn K mainGlobals "int" = some none)
    (z_bool : PySem.W.nsIn K mainGlobals "bool" = some none)
    (z_str : PySem.W.nsIn K mainGlobals "str" = some none)
    (z_list : PySem.W.nsIn K mainGlobals "list" = some none)
    (z_tuple : PySem.W.nsIn K mainGlobals "tuple" = some none)
    (z_len : PySem.W.nsIn K mainGlobals "len" = some none)
    (z_sum : PySem.W.nsIn K mainGlobals "sum" = some none)
    (z_abs : PySem.W.nsIn K mainGlobals "abs" = some none)
    (z_all : PySem.W.nsIn K mainGlobals "all" = some none)
    (z_range : PySem.W.nsIn K mainGlobals "range" = some none)
    (z_isinstance : PySem.W.nsIn K mainGlobals "isinstance" = some none)
    (z_sorted : PySem.W.nsIn K mainGlobals "sorted" = some none)
    (z_max : PySem.W.nsIn K mainGlobals "max" = some none)
    (z_min : PySem.W.nsIn K mainGlobals "min" = some none)
    (z_set : PySem.W.nsIn K mainGlobals "set" = some none)
    (z_dict : PySem.W.nsIn K mainGlobals "dict" = some none)
    (c_MOST_LETTERS : PySem.W.nsIn K mainGlobals "MOST_LETTERS" = some (some (.int 8 t_MOST_LETTERS)))
    (c_MOST_WIRES : PySem.W.nsIn K mainGlobals "MOST_WIRES" = some (some (.int 10 t_MOST_WIRES)))
    (aCT : PySem.W.nsIn K mainGlobals "TalkError" = some (some (.ref CT)))
    (aCInvalidSpec : PySem.W.nsIn K mainGlobals "InvalidSpec" = some (some (.ref CInvalidSpec)))
    (xLInvalidSpec : K.lookup CInvalidSpec = some (excClassObj nmInvalidSpec qInvalidSpec CInvalidSpec NInvalidSpec bsInvalidSpec [.ref CT, .type "ValueError", .type "Exception", .type "BaseException", .type "object"] true snInvalidSpec subInvalidSpec abInvalidSpec colInvalidSpec ddInvalidSpec m0InvalidSpec m1InvalidSpec m2InvalidSpec m3InvalidSpec m5InvalidSpec "ValueError.__new__"))
    (saInvalidSpec : PySem.W.findIn K (.ref CInvalidSpec) "__setattr__" = some (some (.builtin "object.__setattr__")))
    (gaInvalidSpec : PySem.W.findIn K (.ref CInvalidSpec) "__getattribute__" = some (some (.builtin "BaseException.__getattribute__")))
    (ggInvalidSpec : PySem.W.findIn K (.ref CInvalidSpec) "__getattr__" = some none)
    (nbInvalidSpec : PySem.W.findIn K (.ref CInvalidSpec) "given" = some none)
    (iCInvalidSpec : PySem.W.findIn K (.ref CInvalidSpec) "__init__" = some (some (.ref fIInvalidSpec)))
    (tIInvalidSpec : PySem.W.typeIn K (.ref fIInvalidSpec) = some (.type "function"))
    (lIInvalidSpec : K.lookup fIInvalidSpec = some ⟨ocInvalidSpec, odInvalidSpec, .func (PySem.W.fnOf "__init__" "InvalidSpec.__init__" (defArgs s_init_InvalidSpec) (defBody s_init_InvalidSpec) (defScope s_init_InvalidSpec) .none kVInvalidSpec dcInvalidSpec pmInvalidSpec anInvalidSpec cdInvalidSpec ctInvalidSpec), slInvalidSpec⟩)
    (cIInvalidSpec : PySem.W.codeIn K cdInvalidSpec "InvalidSpec.__init__" = true)
    (kIInvalidSpec : PySem.W.keepIn K (.ref fIInvalidSpec) = true)
    (kCInvalidSpec : PySem.W.keepIn K (.ref CInvalidSpec) = true)
    (eCInvalidSpec : PySem.W.subIn K (.ref CInvalidSpec) (.type "BaseException") = some true)
    (tCInvalidSpec : PySem.W.typeIn K (.ref CInvalidSpec) = some (.type "type"))
    (hCInvalidSpec : PySem.W.hasDictIn K CInvalidSpec = true)
    (iSInvalidSpec : PySem.W.isClsIn K CInvalidSpec = true)
    (aCInvalidSide : PySem.W.nsIn K mainGlobals "InvalidSide" = some (some (.ref CInvalidSide)))
    (xLInvalidSide : K.lookup CInvalidSide = some (excClassObj nmInvalidSide qInvalidSide CInvalidSide NInvalidSide bsInvalidSide [.ref CT, .type "ValueError", .type "Exception", .type "BaseException", .type "object"] true snInvalidSide subInvalidSide abInvalidSide colInvalidSide ddInvalidSide m0InvalidSide m1InvalidSide m2InvalidSide m3InvalidSide m5InvalidSide "ValueError.__new__"))
    (saInvalidSide : PySem.W.findIn K (.ref CInvalidSide) "__setattr__" = some (some (.builtin "object.__setattr__")))
    (gaInvalidSide : PySem.W.findIn K (.ref CInvalidSide) "__getattribute__" = some (some (.builtin "BaseException.__getattribute__")))
    (ggInvalidSide : PySem.W.findIn K (.ref CInvalidSide) "__getattr__" = some none)
    (nbInvalidSide : PySem.W.findIn K (.ref CInvalidSide) "given" = some none)
    (iCInvalidSide : PySem.W.findIn K (.ref CInvalidSide) "__init__" = some (some (.ref fIInvalidSide)))
    (tIInvalidSide : PySem.W.typeIn K (.ref fIInvalidSide) = some (.type "function"))
    (lIInvalidSide : K.lookup fIInvalidSide = some ⟨ocInvalidSide, odInvalidSide, .func (PySem.W.fnOf "__init__" "InvalidSide.__init__" (defArgs s_init_InvalidSide) (defBody s_init_InvalidSide) (defScope s_init_InvalidSide) .none kVInvalidSide dcInvalidSide pmInvalidSide anInvalidSide cdInvalidSide ctInvalidSide), slInvalidSide⟩)
    (cIInvalidSide : PySem.W.codeIn K cdInvalidSide "InvalidSide.__init__" = true)
    (kIInvalidSide : PySem.W.keepIn K (.ref fIInvalidSide) = true)
    (kCInvalidSide : PySem.W.keepIn K (.ref CInvalidSide) = true)
    (eCInvalidSide : PySem.W.subIn K (.ref CInvalidSide) (.type "BaseException") = some true)
    (tCInvalidSide : PySem.W.typeIn K (.ref CInvalidSide) = some (.type "type"))
    (hCInvalidSide : PySem.W.hasDictIn K CInvalidSide = true)
    (iSInvalidSide : PySem.W.isClsIn K CInvalidSide = true)
    (aCInvalidKind : PySem.W.nsIn K mainGlobals "InvalidKind" = some (some (.ref CInvalidKind)))
    (xLInvalidKind : K.lookup CInvalidKind = some (excClassObj nmInvalidKind qInvalidKind CInvalidKind NInvalidKind bsInvalidKind [.ref CT, .type "ValueError", .type "Exception", .type "BaseException", .type "object"] true snInvalidKind subInvalidKind abInvalidKind colInvalidKind ddInvalidKind m0InvalidKind m1InvalidKind m2InvalidKind m3InvalidKind m5InvalidKind "ValueError.__new__"))
    (saInvalidKind : PySem.W.findIn K (.ref CInvalidKind) "__setattr__" = some (some (.builtin "object.__setattr__")))
    (gaInvalidKind : PySem.W.findIn K (.ref CInvalidKind) "__getattribute__" = some (some (.builtin "BaseException.__getattribute__")))
    (ggInvalidKind : PySem.W.findIn K (.ref CInvalidKind) "__getattr__" = some none)
    (nbInvalidKind : PySem.W.findIn K (.ref CInvalidKind) "given" = some none)
    (iCInvalidKind : PySem.W.findIn K (.ref CInvalidKind) "__init__" = some (some (.ref fIInvalidKind)))
    (tIInvalidKind : PySem.W.typeIn K (.ref fIInvalidKind) = some (.type "function"))
    (lIInvalidKind : K.lookup fIInvalidKind = some ⟨ocInvalidKind, odInvalidKind, .func (PySem.W.fnOf "__init__" "InvalidKind.__init__" (defArgs s_init_InvalidKind) (defBody s_init_InvalidKind) (defScope s_init_InvalidKind) .none kVInvalidKind dcInvalidKind pmInvalidKind anInvalidKind cdInvalidKind ctInvalidKind), slInvalidKind⟩)
    (cIInvalidKind : PySem.W.codeIn K cdInvalidKind "InvalidKind.__init__" = true)
    (kIInvalidKind : PySem.W.keepIn K (.ref fIInvalidKind) = true)
    (kCInvalidKind : PySem.W.keepIn K (.ref CInvalidKind) = true)
    (eCInvalidKind : PySem.W.subIn K (.ref CInvalidKind) (.type "BaseException") = some true)
    (tCInvalidKind : PySem.W.typeIn K (.ref CInvalidKind) = some (.type "type"))
    (hCInvalidKind : PySem.W.hasDictIn K CInvalidKind = true)
    (iSInvalidKind : PySem.W.isClsIn K CInvalidKind = true)
    (aCNotSent : PySem.W.nsIn K mainGlobals "NotSent" = some (some (.ref CNotSent)))
    (xLNotSent : K.lookup CNotSent = some (excClassObj nmNotSent qNotSent CNotSent NNotSent bsNotSent [.ref CT, .type "ValueError", .type "Exception", .type "BaseException", .type "object"] true snNotSent subNotSent abNotSent colNotSent ddNotSent m0NotSent m1NotSent m2NotSent m3NotSent m5NotSent "ValueError.__new__"))
    (saNotSent : PySem.W.findIn K (.ref CNotSent) "__setattr__" = some (some (.builtin "object.__setattr__")))
    (gaNotSent : PySem.W.findIn K (.ref CNotSent) "__getattribute__" = some (some (.builtin "BaseException.__getattribute__")))
    (ggNotSent : PySem.W.findIn K (.ref CNotSent) "__getattr__" = some none)
    (nbNotSent : PySem.W.findIn K (.ref CNotSent) "kind" = some none)
    (iCNotSent : PySem.W.findIn K (.ref CNotSent) "__init__" = some (some (.ref fINotSent)))
    (tINotSent : PySem.W.typeIn K (.ref fINotSent) = some (.type "function"))
    (lINotSent : K.lookup fINotSent = some ⟨ocNotSent, odNotSent, .func (PySem.W.fnOf "__init__" "NotSent.__init__" (defArgs s_init_NotSent) (defBody s_init_NotSent) (defScope s_init_NotSent) .none kVNotSent dcNotSent pmNotSent anNotSent cdNotSent ctNotSent), slNotSent⟩)
    (cINotSent : PySem.W.codeIn K cdNotSent "NotSent.__init__" = true)
    (kINotSent : PySem.W.keepIn K (.ref fINotSent) = true)
    (kCNotSent : PySem.W.keepIn K (.ref CNotSent) = true)
    (eCNotSent : PySem.W.subIn K (.ref CNotSent) (.type "BaseException") = some true)
    (tCNotSent : PySem.W.typeIn K (.ref CNotSent) = some (.type "type"))
    (hCNotSent : PySem.W.hasDictIn K CNotSent = true)
    (iSNotSent : PySem.W.isClsIn K CNotSent = true)
    (eSS : PySem.W.subIn K (.ref CInvalidSide) (.ref CInvalidSide) = some true)
    (eKS : PySem.W.subIn K (.ref CInvalidKind) (.ref CInvalidSide) = some false)
    (eKK : PySem.W.subIn K (.ref CInvalidKind) (.ref CInvalidKind) = some true)
    (eNS : PySem.W.subIn K (.ref CNotSent) (.ref CInvalidSide) = some false)
    (eNK : PySem.W.subIn K (.ref CNotSent) (.ref CInvalidKind) = some false)
    (eNN : PySem.W.subIn K (.ref CNotSent) (.ref CNotSent) = some true)
    (eXX : PySem.W.subIn K (.ref CInvalidSpec) (.ref CInvalidSpec) = some true)
    (aCL : PySem.W.nsIn K mainGlobals "Line" = some (some (.ref CL)))
    (pgL : PySem.W.plainGet K CL Str.empty = true)
    (hdL : PySem.W.hasDictIn K CL = true)
    (poL : PySem.W.plainOver K CL = true)
    (saL : PySem.W.findIn K (.ref CL) "__setattr__" = some (some (.builtin "object.__setattr__")))
    (mkL : PySem.W.makesIn K CL = true)
    (kcL : PySem.W.keepIn K (.ref CL) = true)
    (aM0 : PySem.W.findIn K (.ref CL) "__init__" = some (some (.ref fM0)))
    (iM0 : PySem.W.isFn K (.ref fM0) = true)
    (lM0 : K.lookup fM0 = some ⟨ocM0, odM0, .func (PySem.W.fnOf "__init__" "Line.__init__" (defArgs s_Line_init) (defBody s_Line_init) (defScope s_Line_init) .none kVM0 dcM0 pmM0 anM0 cdM0 ctM0), slM0⟩)
    (cM0 : PySem.W.codeIn K cdM0 "Line.__init__" = true)
    (kM0 : PySem.W.keepIn K (.ref fM0) = true)
    (aM1 : PySem.W.findIn K (.ref CL) "kinds" = some (some (.ref fM1)))
    (iM1 : PySem.W.isFn K (.ref fM1) = true)
    (lM1 : K.lookup fM1 = some ⟨ocM1, odM1, .func (PySem.W.fnOf "kinds" "Line.kinds" (defArgs s_Line_kinds) (defBody s_Line_kinds) (defScope s_Line_kinds) .none kVM1 dcM1 pmM1 anM1 cdM1 ctM1), slM1⟩)
    (cM1 : PySem.W.codeIn K cdM1 "Line.kinds" = true)
    (kM1 : PySem.W.keepIn K (.ref fM1) = true)
    (aM2 : PySem.W.findIn K (.ref CL) "send" = some (some (.ref fM2)))
    (iM2 : PySem.W.isFn K (.ref fM2) = true)
    (lM2 : K.lookup fM2 = some ⟨ocM2, odM2, .func (PySem.W.fnOf "send" "Line.send" (defArgs s_Line_send) (defBody s_Line_send) (defScope s_Line_send) .none kVM2 dcM2 pmM2 anM2 cdM2 ctM2), slM2⟩)
    (cM2 : PySem.W.codeIn K cdM2 "Line.send" = true)
    (kM2 : PySem.W.keepIn K (.ref fM2) = true)
    (aM3 : PySem.W.findIn K (.ref CL) "come" = some (some (.ref fM3)))
    (iM3 : PySem.W.isFn K (.ref fM3) = true)
    (lM3 : K.lookup fM3 = some ⟨ocM3, odM3, .func (PySem.W.fnOf "come" "Line.come" (defArgs s_Line_come) (defBody s_Line_come) (defScope s_Line_come) .none kVM3 dcM3 pmM3 anM3 cdM3 ctM3), slM3⟩)
    (cM3 : PySem.W.codeIn K cdM3 "Line.come" = true)
    (kM3 : PySem.W.keepIn K (.ref fM3) = true)
    (aM4 : PySem.W.findIn K (.ref CL) "sent" = some (some (.ref fM4)))
    (iM4 : PySem.W.isFn K (.ref fM4) = true)
    (lM4 : K.lookup fM4 = some ⟨ocM4, odM4, .func (PySem.W.fnOf "sent" "Line.sent" (defArgs s_Line_sent) (defBody s_Line_sent) (defScope s_Line_sent) .none kVM4 dcM4 pmM4 anM4 cdM4 ctM4), slM4⟩)
    (cM4 : PySem.W.codeIn K cdM4 "Line.sent" = true)
    (kM4 : PySem.W.keepIn K (.ref fM4) = true)
    (aM5 : PySem.W.findIn K (.ref CL) "come_to" = some (some (.ref fM5)))
    (iM5 : PySem.W.isFn K (.ref fM5) = true)
    (lM5 : K.lookup fM5 = some ⟨ocM5, odM5, .func (PySem.W.fnOf "come_to" "Line.come_to" (defArgs s_Line_come_to) (defBody s_Line_come_to) (defScope s_Line_come_to) .none kVM5 dcM5 pmM5 anM5 cdM5 ctM5), slM5⟩)
    (cM5 : PySem.W.codeIn K cdM5 "Line.come_to" = true)
    (kM5 : PySem.W.keepIn K (.ref fM5) = true)
    (aM6 : PySem.W.findIn K (.ref CL) "under_way" = some (some (.ref fM6)))
    (iM6 : PySem.W.isFn K (.ref fM6) = true)
    (lM6 : K.lookup fM6 = some ⟨ocM6, odM6, .func (PySem.W.fnOf "under_way" "Line.under_way" (defArgs s_Line_under_way) (defBody s_Line_under_way) (defScope s_Line_under_way) .none kVM6 dcM6 pmM6 anM6 cdM6 ctM6), slM6⟩)
    (cM6 : PySem.W.codeIn K cdM6 "Line.under_way" = true)
    (kM6 : PySem.W.keepIn K (.ref fM6) = true)
    (aM7 : PySem.W.findIn K (.ref CL) "unsent" = some (some (.ref fM7)))
    (iM7 : PySem.W.isFn K (.ref fM7) = true)
    (lM7 : K.lookup fM7 = some ⟨ocM7, odM7, .func (PySem.W.fnOf "unsent" "Line.unsent" (defArgs s_Line_unsent) (defBody s_Line_unsent) (defScope s_Line_unsent) .none kVM7 dcM7 pmM7 anM7 cdM7 ctM7), slM7⟩)
    (cM7 : PySem.W.codeIn K cdM7 "Line.unsent" = true)
    (kM7 : PySem.W.keepIn K (.ref fM7) = true)
    (aM8 : PySem.W.findIn K (.ref CL) "left" = some (some (.ref fM8)))
    (iM8 : PySem.W.isFn K (.ref fM8) = true)
    (lM8 : K.lookup fM8 = some ⟨ocM8, odM8, .func (PySem.W.fnOf "left" "Line.left" (defArgs s_Line_left) (defBody s_Line_left) (defScope s_Line_left) .none kVM8 dcM8 pmM8 anM8 cdM8 ctM8), slM8⟩)
    (cM8 : PySem.W.codeIn K cdM8 "Line.left" = true)
    (kM8 : PySem.W.keepIn K (.ref fM8) = true)
    (aM9 : PySem.W.findIn K (.ref CL) "copy" = some (some (.ref fM9)))
    (iM9 : PySem.W.isFn K (.ref fM9) = true)
    (lM9 : K.lookup fM9 = some ⟨ocM9, odM9, .func (PySem.W.fnOf "copy" "Line.copy" (defArgs s_Line_copy) (defBody s_Line_copy) (defScope s_Line_copy) .none kVM9 dcM9 pmM9 anM9 cdM9 ctM9), slM9⟩)
    (cM9 : PySem.W.codeIn K cdM9 "Line.copy" = true)
    (kM9 : PySem.W.keepIn K (.ref fM9) = true)
    (aM10 : PySem.W.findIn K (.ref CL) "_has_wires" = some (some (.ref fM10)))
    (iM10 : PySem.W.isFn K (.ref fM10) = true)
    (lM10 : K.lookup fM10 = some ⟨ocM10, odM10, .func (PySem.W.fnOf "_has_wires" "Line._has_wires" (defArgs s_Line_has_wires) (defBody s_Line_has_wires) (defScope s_Line_has_wires) .none kVM10 dcM10 pmM10 anM10 cdM10 ctM10), slM10⟩)
    (cM10 : PySem.W.codeIn K cdM10 "Line._has_wires" = true)
    (kM10 : PySem.W.keepIn K (.ref fM10) = true)
    (aM11 : PySem.W.findIn K (.ref CL) "_can_be_sent" = some (some (.ref fM11)))
    (iM11 : PySem.W.isFn K (.ref fM11) = true)
    (lM11 : K.lookup fM11 = some ⟨ocM11, odM11, .func (PySem.W.fnOf "_can_be_sent" "Line._can_be_sent" (defArgs s_Line_can_be_sent) (defBody s_Line_can_be_sent) (defScope s_Line_can_be_sent) .none kVM11 dcM11 pmM11 anM11 cdM11 ctM11), slM11⟩)
    (cM11 : PySem.W.codeIn K cdM11 "Line._can_be_sent" = true)
    (kM11 : PySem.W.keepIn K (.ref fM11) = true)
    (aM12 : PySem.W.findIn K (.ref CL) "_can_come" = some (some (.ref fM12)))
    (iM12 : PySem.W.isFn K (.ref fM12) = true)
    (lM12 : K.lookup fM12 = some ⟨ocM12, odM12, .func (PySem.W.fnOf "_can_come" "Line._can_come" (defArgs s_Line_can_come) (defBody s_Line_can_come) (defScope s_Line_can_come) .none kVM12 dcM12 pmM12 anM12 cdM12 ctM12), slM12⟩)
    (cM12 : PySem.W.codeIn K cdM12 "Line._can_come" = true)
    (kM12 : PySem.W.keepIn K (.ref fM12) = true)
    (n_spec : PySem.W.findIn K (.ref CL) "spec" = some none)
    (n_sent : PySem.W.findIn K (.ref CL) "_sent_by" = some none)
    (n_came : PySem.W.findIn K (.ref CL) "_came_to" = some none) :
    ∃ fd : FuncData, (∀ (s : Shared) (v : Value), BindsTo s fd ⟨[v], []⟩ [("script", v)]) ∧ ∀ base : Heap, K.In base → base.Ns mainGlobals mg → FnOk l.prog w K mg base CX0 13 fa fd ["script"] (spLaw K) := by
  have e := hfa.symm.trans (PySem.W.mg_of X G a28)
  cases e
  let T : TK K mg := {
    is_integer := mkDef X G a1 l1 c1 k1 (fun _ _ _ _ _ _ us hl => match us, hl with | [_], _ => rfl)
    is_between := mkDef X G a2 l2 c2 k2 (fun _ _ _ _ _ _ us hl => match us, hl with | [_, _, _], _ => rfl)
    are_between := mkDef X G a3 l3 c3 k3 (fun _ _ _ _ _ _ us hl => match us, hl with | [_, _, _], _ => rfl)
    is_spec := mkDef X G a4 l4 c4 k4 (fun _ _ _ _ _ _ us hl => match us, hl with | [_], _ => rfl)
    check_side := mkDef X G a5 l5 c5 k5 (fun _ _ _ _ _ _ us hl => match us, hl with | [_], _ => rfl)
    law_cell := mkDef X G a6 l6 c6 k6 (fun _ _ _ _ _ _ us hl => match us, hl with | [_, _], _ => rfl)
    law_box := mkDef X G a7 l7 c7 k7 (fun _ _ _ _ _ _ us hl => match us, hl with | [_], _ => rfl)
    law_take := mkDef X G a8 l8 c8 k8 (fun _ _ _ _ _ _ us hl => match us, hl with | [_, _], _ => rfl)
    law_same := mkDef X G a9 l9 c9 k9 (fun _ _ _ _ _ _ us hl => match us, hl with | [_, _], _ => rfl)
    law_is_between := mkDef X G a10 l10 c10 k10 (fun _ _ _ _ _ _ us hl => match us, hl with | [_, _, _], _ => rfl)
    law_is_spec := mkDef X G a11 l11 c11 k11 (fun _ _ _ _ _ _ us hl => match us, hl with | [_], _ => rfl)
    law_made := mkDef X G a12 l12 c12 k12 (fun _ _ _ _ _ _ us hl => match us, hl with | [_, _], _ => rfl)
    law_specs_right := mkDef X G a13 l13 c13 k13 (fun _ _ _ _ _ _ us hl => match us, hl with | [_, _], _ => rfl)
    law_all := mkDef X G a14 l14 c14 k14 (fun _ _ _ _ _ _ us hl => match us, hl with | [_], _ => rfl)
    law_call := mkDef X G a15 l15 c15 k15 (fun _ _ _ _ _ _ us hl => match us, hl with | [_, _, _, _, _], _ => rfl)
    law_told := mkDef X G a16 l16 c16 k16 (fun _ _ _ _ _ _ us hl => match us, hl with | [_, _, _, _, _], _ => rfl)
    law_refused := mkDef X G a17 l17 c17 k17 (fun _ _ _ _ _ _ us hl => match us, hl with | [_, _, _, _, _], _ => rfl)
    law_many := mkDef X G a18 l18 c18 k18 (fun _ _ _ _ _ _ us hl => match us, hl with | [_, _], _ => rfl)
    law_is_up := mkDef X G a19 l19 c19 k19 (fun _ _ _ _ _ _ us hl => match us, hl with | [_, _, _], _ => rfl)
    law_waits := mkDef X G a20 l20 c20 k20 (fun _ _ _ _ _ _ us hl => match us, hl with | [_, _], _ => rfl)
    law_free := mkDef X G a21 l21 c21 k21 (fun _ _ _ _ _ _ us hl => match us, hl with | [_, _], _ => rfl)
    law_view := mkDef X G a22 l22 c22 k22 (fun _ _ _ _ _ _ us hl => match us, hl with | [_], _ => rfl)
    law_deed := mkDef X G a23 l23 c23 k23 (fun _ _ _ _ _ _ us hl => match us, hl with | [_, _, _], _ => rfl)
    law_doors_right := mkDef X G a24 l24 c24 k24 (fun _ _ _ _ _ _ us hl => match us, hl with | [_, _, _, _], _ => rfl)
    law_very := mkDef X G a25 l25 c25 k25 (fun _ _ _ _ _ _ us hl => match us, hl with | [_, _], _ => rfl)
    law_worked := mkDef X G a26 l26 c26 k26 (fun _ _ _ _ _ _ us hl => match us, hl with | [_, _], _ => rfl)
    law_copies_right := mkDef X G a27 l27 c27 k27 (fun _ _ _ _ _ _ us hl => match us, hl with | [_, _, _], _ => rfl)
    law := mkDef X G a28 l28 c28 k28 (fun _ _ _ _ _ _ us hl => match us, hl with | [_], _ => rfl)
    z_int := PySem.W.mg_none_of X G z_int
    z_bool := PySem.W.mg_none_of X G z_bool
    z_str := PySem.W.mg_none_of X G z_str
    z_list := PySem.W.mg_none_of X G z_list
    z_tuple := PySem.W.mg_none_of X G z_tuple
    z_len := PySem.W.mg_none_of X G z_len
    z_sum := PySem.W.mg_none_of X G z_sum
    z_abs := PySem.W.mg_none_of X G z_abs
    z_all := PySem.W.mg_none_of X G z_all
    z_range := PySem.W.mg_none_of X G z_range
    z_isinstance := PySem.W.mg_none_of X G z_isinstance
    z_sorted := PySem.W.mg_none_of X G z_sorted
    z_max := PySem.W.mg_none_of X G z_max
    z_min := PySem.W.mg_none_of X G z_min
    z_set := PySem.W.mg_none_of X G z_set
    z_dict := PySem.W.mg_none_of X G z_dict
    t_MOST_LETTERS := t_MOST_LETTERS
    c_MOST_LETTERS := PySem.W.mg_of X G c_MOST_LETTERS
    t_MOST_WIRES := t_MOST_WIRES
    c_MOST_WIRES := PySem.W.mg_of X G c_MOST_WIRES
    TalkError_C := CT
    TalkError_gC := PySem.W.mg_of X G aCT
    InvalidSpec := ⟨CInvalidSpec, fIInvalidSpec, _, fun_mk (st := s_init_InvalidSpec) lIInvalidSpec cIInvalidSpec kIInvalidSpec, (fun_mk (st := s_init_InvalidSpec) lIInvalidSpec cIInvalidSpec kIInvalidSpec).binds (ps := ["self", "given"]) fun _ _ _ _ _ _ us hl => match us, hl with | [_, _], _ => rfl, ⟨⟨_, _, _, _, _, _, _, _, _, _, _, _, _, _, _, xLInvalidSpec, rfl⟩, saInvalidSpec, eCInvalidSpec, tCInvalidSpec, kCInvalidSpec⟩, iCInvalidSpec, tIInvalidSpec, PySem.W.mg_of X G aCInvalidSpec, nbInvalidSpec, ⟨gaInvalidSpec, ggInvalidSpec, eCInvalidSpec, hCInvalidSpec⟩⟩
    InvalidSide := ⟨CInvalidSide, fIInvalidSide, _, fun_mk (st := s_init_InvalidSide) lIInvalidSide cIInvalidSide kIInvalidSide, (fun_mk (st := s_init_InvalidSide) lIInvalidSide cIInvalidSide kIInvalidSide).binds (ps := ["self", "given"]) fun _ _ _ _ _ _ us hl => match us, hl with | [_, _], _ => rfl, ⟨⟨_, _, _, _, _, _, _, _, _, _, _, _, _, _, _, xLInvalidSide, rfl⟩, saInvalidSide, eCInvalidSide, tCInvalidSide, kCInvalidSide⟩, iCInvalidSide, tIInvalidSide, PySem.W.mg_of X G aCInvalidSide, nbInvalidSide, ⟨gaInvalidSide, ggInvalidSide, eCInvalidSide, hCInvalidSide⟩⟩
    InvalidKind := ⟨CInvalidKind, fIInvalidKind, _, fun_mk (st := s_init_InvalidKind) lIInvalidKind cIInvalidKind kIInvalidKind, (fun_mk (st := s_init_InvalidKind) lIInvalidKind cIInvalidKind kIInvalidKind).binds (ps := ["self", "given"]) fun _ _ _ _ _ _ us hl => match us, hl with | [_, _], _ => rfl, ⟨⟨_, _, _, _, _, _, _, _, _, _, _, _, _, _, _, xLInvalidKind, rfl⟩, saInvalidKind, eCInvalidKind, tCInvalidKind, kCInvalidKind⟩, iCInvalidKind, tIInvalidKind, PySem.W.mg_of X G aCInvalidKind, nbInvalidKind, ⟨gaInvalidKind, ggInvalidKind, eCInvalidKind, hCInvalidKind⟩⟩
    NotSent := ⟨CNotSent, fINotSent, _, fun_mk (st := s_init_NotSent) lINotSent cINotSent kINotSent, (fun_mk (st := s_init_NotSent) lINotSent cINotSent kINotSent).binds (ps := ["self", "kind"]) fun _ _ _ _ _ _ us hl => match us, hl with | [_, _], _ => rfl, ⟨⟨_, _, _, _, _, _, _, _, _, _, _, _, _, _, _, xLNotSent, rfl⟩, saNotSent, eCNotSent, tCNotSent, kCNotSent⟩, iCNotSent, tINotSent, PySem.W.mg_of X G aCNotSent, nbNotSent, ⟨gaNotSent, ggNotSent, eCNotSent, hCNotSent⟩⟩
    eSS := exm_of eCInvalidSide iSInvalidSide tCInvalidSide eSS
    eKS := exm_of eCInvalidSide iSInvalidSide tCInvalidSide eKS
    eKK := exm_of eCInvalidKind iSInvalidKind tCInvalidKind eKK
    eNS := exm_of eCInvalidSide iSInvalidSide tCInvalidSide eNS
    eNK := exm_of eCInvalidKind iSInvalidKind tCInvalidKind eNK
    eNN := exm_of eCNotSent iSNotSent tCNotSent eNN
    eXX := exm_of eCInvalidSpec iSInvalidSpec tCInvalidSpec eXX
    kb_is_spec_value := kb1 (fun_mk (st := s_is_spec) l4 c4 k4) fun _ _ _ _ _ _ _ => rfl
    C := CL
    gL := PySem.W.mg_of X G aCL
    cl := ⟨pgL, hdL, poL, saL⟩
    m_init := ⟨fM0, _, fun_mk (st := s_Line_init) lM0 cM0 kM0, (fun_mk (st := s_Line_init) lM0 cM0 kM0).binds (ps := ["self", "spec"]) fun _ _ _ _ _ _ us hl => match us, hl with | [_, _], _ => rfl, ⟨aM0, iM0, kM0⟩⟩
    m_kinds := ⟨fM1, _, fun_mk (st := s_Line_kinds) lM1 cM1 kM1, (fun_mk (st := s_Line_kinds) lM1 cM1 kM1).binds (ps := ["self", "side"]) fun _ _ _ _ _ _ us hl => match us, hl with | [_, _], _ => rfl, ⟨aM1, iM1, kM1⟩⟩
    m_send := ⟨fM2, _, fun_mk (st := s_Line_send) lM2 cM2 kM2, (fun_mk (st := s_Line_send) lM2 cM2 kM2).binds (ps := ["self", "side", "kind"]) fun _ _ _ _ _ _ us hl => match us, hl with | [_, _, _], _ => rfl, ⟨aM2, iM2, kM2⟩⟩
    m_come := ⟨fM3, _, fun_mk (st := s_Line_come) lM3 cM3 kM3, (fun_mk (st := s_Line_come) lM3 cM3 kM3).binds (ps := ["self", "side", "kind"]) fun _ _ _ _ _ _ us hl => match us, hl with | [_, _, _], _ => rfl, ⟨aM3, iM3, kM3⟩⟩
    m_sent := ⟨fM4, _, fun_mk (st := s_Line_sent) lM4 cM4 kM4, (fun_mk (st := s_Line_sent) lM4 cM4 kM4).binds (ps := ["self", "side"]) fun _ _ _ _ _ _ us hl => match us, hl with | [_, _], _ => rfl, ⟨aM4, iM4, kM4⟩⟩
    m_come_to := ⟨fM5, _, fun_mk (st := s_Line_come_to) lM5 cM5 kM5, (fun_mk (st := s_Line_come_to) lM5 cM5 kM5).binds (ps := ["self", "side"]) fun _ _ _ _ _ _ us hl => match us, hl with | [_, _], _ => rfl, ⟨aM5, iM5, kM5⟩⟩
    m_under_way := ⟨fM6, _, fun_mk (st := s_Line_under_way) lM6 cM6 kM6, (fun_mk (st := s_Line_under_way) lM6 cM6 kM6).binds (ps := ["self", "side"]) fun _ _ _ _ _ _ us hl => match us, hl with | [_, _], _ => rfl, ⟨aM6, iM6, kM6⟩⟩
    m_unsent := ⟨fM7, _, fun_mk (st := s_Line_unsent) lM7 cM7 kM7, (fun_mk (st := s_Line_unsent) lM7 cM7 kM7).binds (ps := ["self", "side"]) fun _ _ _ _ _ _ us hl => match us, hl with | [_, _], _ => rfl, ⟨aM7, iM7, kM7⟩⟩
    m_left := ⟨fM8, _, fun_mk (st := s_Line_left) lM8 cM8 kM8, (fun_mk (st := s_Line_left) lM8 cM8 kM8).binds (ps := ["self"]) fun _ _ _ _ _ _ us hl => match us, hl with | [_], _ => rfl, ⟨aM8, iM8, kM8⟩⟩
    m_copy := ⟨fM9, _, fun_mk (st := s_Line_copy) lM9 cM9 kM9, (fun_mk (st := s_Line_copy) lM9 cM9 kM9).binds (ps := ["self"]) fun _ _ _ _ _ _ us hl => match us, hl with | [_], _ => rfl, ⟨aM9, iM9, kM9⟩⟩
    m_has_wires := ⟨fM10, _, fun_mk (st := s_Line_has_wires) lM10 cM10 kM10, (fun_mk (st := s_Line_has_wires) lM10 cM10 kM10).binds (ps := ["self"]) fun _ _ _ _ _ _ us hl => match us, hl with | [_], _ => rfl, ⟨aM10, iM10, kM10⟩⟩
    m_can_be_sent := ⟨fM11, _, fun_mk (st := s_Line_can_be_sent) lM11 cM11 kM11, (fun_mk (st := s_Line_can_be_sent) lM11 cM11 kM11).binds (ps := ["self", "side", "kind"]) fun _ _ _ _ _ _ us hl => match us, hl with | [_, _, _], _ => rfl, ⟨aM11, iM11, kM11⟩⟩
    m_can_come := ⟨fM12, _, fun_mk (st := s_Line_can_come) lM12 cM12 kM12, (fun_mk (st := s_Line_can_come) lM12 cM12 kM12).binds (ps := ["self", "side", "kind"]) fun _ _ _ _ _ _ us hl => match us, hl with | [_, _, _], _ => rfl, ⟨aM12, iM12, kM12⟩⟩
    mkc := ⟨mkL, aM0, iM0, kcL⟩
    n_spec := n_spec
    n_sent := n_sent
    n_came := n_came
    kb_send_kind_side := kbm21 (fun_mk (st := s_Line_send) lM2 cM2 kM2) fun _ _ _ _ _ _ _ _ _ => rfl
    kb_come_kind_side := kbm21 (fun_mk (st := s_Line_come) lM3 cM3 kM3) fun _ _ _ _ _ _ _ _ _ => rfl
    kb_sent_side := kbm1 (fun_mk (st := s_Line_sent) lM4 cM4 kM4) fun _ _ _ _ _ _ _ _ => rfl
    kb_come_to_side := kbm1 (fun_mk (st := s_Line_come_to) lM5 cM5 kM5) fun _ _ _ _ _ _ _ _ => rfl
    kb_under_way_side := kbm1 (fun_mk (st := s_Line_under_way) lM6 cM6 kM6) fun _ _ _ _ _ _ _ _ => rfl
    kb_unsent_side := kbm1 (fun_mk (st := s_Line_unsent) lM7 cM7 kM7) fun _ _ _ _ _ _ _ _ => rfl
    kb_kinds_side := kbm1 (fun_mk (st := s_Line_kinds) lM1 cM1 kM1) fun _ _ _ _ _ _ _ _ => rfl
    kb_init_spec := kbn1 (fun_mk (st := s_Line_init) lM0 cM0 kM0) fun _ _ _ _ _ _ _ _ => rfl }
  exact ⟨PySem.W.fnOf "law" "law" (defArgs s_law) (defBody s_law) (defScope s_law) .none kV28 dc28 pm28 an28 cd28 ct28, fun s v => .of_eq rfl, fun base _ _ => ok_law T⟩
theorem walk {l : PySem.W.OpenLaw} {q : Program} {loose : List Str} {XP : (Str → Option Value) → Heap → Prop} {YP : World → Heap → Prop} {d : DefRec} {K : Params → PySem.W.Frag} (hn : l.most = some 63) (hdf : d.params.defaults = [])
    (hY : ∀ (w : World) (h : Heap), YP w h → (K w.params).In h)
    (F : ∀ (w : World) (mg : Str → Option Value) (fa : Addr) (h : Heap), (K w.params).In h → h.Ns mainGlobals mg → mg d.name = some (.ref fa) →
      ∃ fd : FuncData, (∀ (s : Shared) (u : Value), BindsTo s fd ⟨[u], []⟩ [("script", u)]) ∧ ∀ base : Heap, (K w.params).In base → base.Ns mainGlobals mg → FnOk l.prog w (K w.params) mg base CX0 13 fa fd ["script"] (spLaw (K w.params))) :
    PySem.W.WalkO q loose XP YP l.row.toRowW d [] (fun f vs => PySem.call f vs) :=
  L2.walk_of (n := 63) (k := 13) (x := "script") (CX := fun _ => CX0) (sp := fun w => spLaw (K w.params)) hn (by decide) hdf ⟨rfl, by decide, by decide⟩ hY F
    (fun _ _ a ns hl _ hS => ⟨a, ns, rfl, hS, hl, fun _ => rfl⟩) fun _ _ _ _ _ z => z
end L2.U
open PySem PySem.W PyProof.Rows
set_option maxRecDepth 100000 in
set_option maxHeartbeats 0 in
theorem PySem.Challenge.cw_upforgood_k08_specs_doors_and_copies_holds : PySem.Challenge.rw_upforgood_k08_specs_doors_and_copies.Holds := by
  w_on; o_law; k_head; (case hw => w_witness2)
  k_fill
  refine L2.U.walk (l := PySem.Challenge.rw_upforgood_k08_specs_doors_and_copies) rfl rfl (fun w h Y => PySem.W.kIn_of Y) ?F
  case F =>
    intro w mg fa h KX G hmg
    refine' L2.U.all_mk KX G hmg ?a1 ?l1 ?c1 ?k1 ?a2 ?l2 ?c2 ?k2 ?a3 ?l3 ?c3 ?k3 ?a4 ?l4 ?c4 ?k4 ?a5 ?l5 ?c5 ?k5 ?a6 ?l6 ?c6 ?k6 ?a7 ?l7 ?c7 ?k7 ?a8 ?l8 ?c8 ?k8 ?a9 ?l9 ?c9 ?k9 ?a10 ?l10 ?c10 ?k10 ?a11 ?l11 ?c11 ?k11 ?a12 ?l12 ?c12 ?k12 ?a13 ?l13 ?c13 ?k13 ?a14 ?l14 ?c14 ?k14 ?a15 ?l15 ?c15 ?k15 ?a16 ?l16 ?c16 ?k16 ?a17 ?l17 ?c17 ?k17 ?a18 ?l18 ?c18 ?k18 ?a19 ?l19 ?c19 ?k19 ?a20 ?l20 ?c20 ?k20 ?a21 ?l21 ?c21 ?k21 ?a22 ?l22 ?c22 ?k22 ?a23 ?l23 ?c23 ?k23 ?a24 ?l24 ?c24 ?k24 ?a25 ?l25 ?c25 ?k25 ?a26 ?l26 ?c26 ?k26 ?a27 ?l27 ?c27 ?k27 ?a28 ?l28 ?c28 ?k28 ?z_int ?z_bool ?z_str ?z_list ?z_tuple ?z_len ?z_sum ?z_abs ?z_all ?z_range ?z_isinstance ?z_sorted ?z_max ?z_min ?z_set ?z_dict ?c_MOST_LETTERS ?c_MOST_WIRES ?aCT ?aCInvalidSpec ?xLInvalidSpec ?saInvalidSpec ?gaInvalidSpec ?ggInvalidSpec ?nbInvalidSpec ?iCInvalidSpec ?tIInvalidSpec ?lIInvalidSpec ?cIInvalidSpec ?kIInvalidSpec ?kCInvalidSpec ?eCInvalidSpec ?tCInvalidSpec ?hCInvalidSpec ?iSInvalidSpec ?aCInvalidSide ?xLInvalidSide ?saInvalidSide ?gaInvalidSide ?ggInvalidSide ?nbInvalidSide ?iCInvalidSide ?tIInvalidSide ?lIInvalidSide ?cIInvalidSide ?kIInvalidSide ?kCInvalidSide ?eCInvalidSide ?tCInvalidSide ?hCInvalidSide ?iSInvalidSide ?aCInvalidKind ?xLInvalidKind ?saInvalidKind ?gaInvalidKind ?ggInvalidKind ?nbInvalidKind ?iCInvalidKind ?tIInvalidKind ?lIInvalidKind ?cIInvalidKind ?kIInvalidKind ?kCInvalidKind ?eCInvalidKind ?tCInvalidKind ?hCInvalidKind ?iSInvalidKind ?aCNotSent ?xLNotSent ?saNotSent ?gaNotSent ?ggNotSent ?nbNotSent ?iCNotSent ?tINotSent ?lINotSent ?cINotSent ?kINotSent ?kCNotSent ?eCNotSent ?tCNotSent ?hCNotSent ?iSNotSent ?eSS ?eKS ?eKK ?eNS ?eNK ?eNN ?eXX ?aCL ?pgL ?hdL ?poL ?saL ?mkL ?kcL ?aM0 ?iM0 ?lM0 ?cM0 ?kM0 ?aM1 ?iM1 ?lM1 ?cM1 ?kM1 ?aM2 ?iM2 ?lM2 ?cM2 ?kM2 ?aM3 ?iM3 ?lM3 ?cM3 ?kM3 ?aM4 ?iM4 ?lM4 ?cM4 ?kM4 ?aM5 ?iM5 ?lM5 ?cM5 ?kM5 ?aM6 ?iM6 ?lM6 ?cM6 ?kM6 ?aM7 ?iM7 ?lM7 ?cM7 ?kM7 ?aM8 ?iM8 ?lM8 ?cM8 ?kM8 ?aM9 ?iM9 ?lM9 ?cM9 ?kM9 ?aM10 ?iM10 ?lM10 ?cM10 ?kM10 ?aM11 ?iM11 ?lM11 ?cM11 ?kM11 ?aM12 ?iM12 ?lM12 ?cM12 ?kM12 ?n_spec ?n_sent ?n_came
    (case a1 => k_is)
    (case l1 => k_is)
    (case c1 => k_is)
    (case k1 => k_is)
    (case a2 => k_is)
    (case l2 => k_is)
    (case c2 => k_is)
    (case k2 => k_is)
    (case a3 => k_is)
    (case l3 => k_is)
    (case c3 => k_is)
    (case k3 => k_is)
    (case a4 => k_is)
    (case l4 => k_is)
    (case c4 => k_is)
    (case k4 => k_is)
    (case a5 => k_is)
    (case l5 => k_is)
    (case c5 => k_is)
    (case k5 => k_is)
    (case a6 => k_is)
    (case l6 => k_is)
    (case c6 => k_is)
    (case k6 => k_is)
    (case a7 => k_is)
    (case l7 => k_is)
    (case c7 => k_is)
    (case k7 => k_is)
    (case a8 => k_is)
    (case l8 => k_is)
    (case c8 => k_is)
    (case k8 => k_is)
    (case a9 => k_is)
    (case l9 => k_is)
    (case c9 => k_is)
    (case k9 => k_is)
    (case a10 => k_is)
    (case l10 => k_is)
    (case c10 => k_is)
    (case k10 => k_is)
    (case a11 => k_is)
    (case l11 => k_is)
    (case c11 => k_is)
    (case k11 => k_is)
    (case a12 => k_is)
    (case l12 => k_is)
    (case c12 => k_is)
    (case k12 => k_is)
    (case a13 => k_is)
    (case l13 => k_is)
    (case c13 => k_is)
    (case k13 => k_is)
    (case a14 => k_is)
    (case l14 => k_is)
    (case c14 => k_is)
    (case k14 => k_is)
    (case a15 => k_is)
    (case l15 => k_is)
    (case c15 => k_is)
    (case k15 => k_is)
    (case a16 => k_is)
    (case l16 => k_is)
    (case c16 => k_is)
    (case k16 => k_is)
    (case a17 => k_is)
    (case l17 => k_is)
    (case c17 => k_is)
    (case k17 => k_is)
    (case a18 => k_is)
    (case l18 => k_is)
    (case c18 => k_is)
    (case k18 => k_is)
    (case a19 => k_is)
    (case l19 => k_is)
    (case c19 => k_is)
    (case k19 => k_is)
    (case a20 => k_is)
    (case l20 => k_is)
    (case c20 => k_is)
    (case k20 => k_is)
    (case a21 => k_is)
    (case l21 => k_is)
    (case c21 => k_is)
    (case k21 => k_is)
    (case a22 => k_is)
    (case l22 => k_is)
    (case c22 => k_is)
    (case k22 => k_is)
    (case a23 => k_is)
    (case l23 => k_is)
    (case c23 => k_is)
    (case k23 => k_is)
    (case a24 => k_is)
    (case l24 => k_is)
    (case c24 => k_is)
    (case k24 => k_is)
    (case a25 => k_is)
    (case l25 => k_is)
    (case c25 => k_is)
    (case k25 => k_is)
    (case a26 => k_is)
    (case l26 => k_is)
    (case c26 => k_is)
    (case k26 => k_is)
    (case a27 => k_is)
    (case l27 => k_is)
    (case c27 => k_is)
    (case k27 => k_is)
    (case a28 => k_is)
    (case l28 => k_is)
    (case c28 => k_is)
    (case k28 => k_is)
    (case z_int => k_is)
    (case z_bool => k_is)
    (case z_str => k_is)
    (case z_list => k_is)
    (case z_tuple => k_is)
    (case z_len => k_is)
    (case z_sum => k_is)
    (case z_abs => k_is)
    (case z_all => k_is)
    (case z_range => k_is)
    (case z_isinstance => k_is)
    (case z_sorted => k_is)
    (case z_max => k_is)
    (case z_min => k_is)
    (case z_set => k_is)
    (case z_dict => k_is)
    (case c_MOST_LETTERS => k_is)
    (case c_MOST_WIRES => k_is)
    (case aCT => k_is)
    (case aCInvalidSpec => k_is)
    (case xLInvalidSpec => k_is)
    (case saInvalidSpec => k_is)
    (case gaInvalidSpec => k_is)
    (case ggInvalidSpec => k_is)
    (case nbInvalidSpec => k_is)
    (case iCInvalidSpec => k_is)
    (case tIInvalidSpec => k_is)
    (case lIInvalidSpec => k_is)
    (case cIInvalidSpec => k_is)
    (case kIInvalidSpec => k_is)
    (case kCInvalidSpec => k_is)
    (case eCInvalidSpec => k_is)
    (case tCInvalidSpec => k_is)
    (case hCInvalidSpec => k_is)
    (case iSInvalidSpec => k_is)
    (case aCInvalidSide => k_is)
    (case xLInvalidSide => k_is)
    (case saInvalidSide => k_is)
    (case gaInvalidSide => k_is)
    (case ggInvalidSide => k_is)
    (case nbInvalidSide => k_is)
    (case iCInvalidSide => k_is)
    (case tIInvalidSide => k_is)
    (case lIInvalidSide => k_is)
    (case cIInvalidSide => k_is)
    (case kIInvalidSide => k_is)
    (case kCInvalidSide => k_is)
    (case eCInvalidSide => k_is)
    (case tCInvalidSide => k_is)
    (case hCInvalidSide => k_is)
    (case iSInvalidSide => k_is)
    (case aCInvalidKind => k_is)
    (case xLInvalidKind => k_is)
    (case saInvalidKind => k_is)
    (case gaInvalidKind => k_is)
    (case ggInvalidKind => k_is)
    (case nbInvalidKind => k_is)
    (case iCInvalidKind => k_is)
    (case tIInvalidKind => k_is)
    (case lIInvalidKind => k_is)
    (case cIInvalidKind => k_is)
    (case kIInvalidKind => k_is)
    (case kCInvalidKind => k_is)
    (case eCInvalidKind => k_is)
    (case tCInvalidKind => k_is)
    (case hCInvalidKind => k_is)
    (case iSInvalidKind => k_is)
    (case aCNotSent => k_is)
    (case xLNotSent => k_is)
    (case saNotSent => k_is)
    (case gaNotSent => k_is)
    (case ggNotSent => k_is)
    (case nbNotSent => k_is)
    (case iCNotSent => k_is)
    (case tINotSent => k_is)
    (case lINotSent => k_is)
    (case cINotSent => k_is)
    (case kINotSent => k_is)
    (case kCNotSent => k_is)
    (case eCNotSent => k_is)
    (case tCNotSent => k_is)
    (case hCNotSent => k_is)
    (case iSNotSent => k_is)
    (case eSS => first | rfl | k_is)
    (case eKS => first | rfl | k_is)
    (case eKK => first | rfl | k_is)
    (case eNS => first | rfl | k_is)
    (case eNK => first | rfl | k_is)
    (case eNN => first | rfl | k_is)
    (case eXX => first | rfl | k_is)
    (case aCL => k_is)
    (case pgL => k_is)
    (case hdL => k_is)
    (case poL => k_is)
    (case saL => k_is)
    (case mkL => k_is)
    (case kcL => k_is)
    (case aM0 => k_is)
    (case iM0 => k_is)
    (case lM0 => k_is)
    (case cM0 => k_is)
    (case kM0 => k_is)
    (case aM1 => k_is)
    (case iM1 => k_is)
    (case lM1 => k_is)
    (case cM1 => k_is)
    (case kM1 => k_is)
    (case aM2 => k_is)
    (case iM2 => k_is)
    (case lM2 => k_is)
    (case cM2 => k_is)
    (case kM2 => k_is)
    (case aM3 => k_is)
    (case iM3 => k_is)
    (case lM3 => k_is)
    (case cM3 => k_is)
    (case kM3 => k_is)
    (case aM4 => k_is)
    (case iM4 => k_is)
    (case lM4 => k_is)
    (case cM4 => k_is)
    (case kM4 => k_is)
    (case aM5 => k_is)
    (case iM5 => k_is)
    (case lM5 => k_is)
    (case cM5 => k_is)
    (case kM5 => k_is)
    (case aM6 => k_is)
    (case iM6 => k_is)
    (case lM6 => k_is)
    (case cM6 => k_is)
    (case kM6 => k_is)
    (case aM7 => k_is)
    (case iM7 => k_is)
    (case lM7 => k_is)
    (case cM7 => k_is)
    (case kM7 => k_is)
    (case aM8 => k_is)
    (case iM8 => k_is)
    (case lM8 => k_is)
    (case cM8 => k_is)
    (case kM8 => k_is)
    (case aM9 => k_is)
    (case iM9 => k_is)
    (case lM9 => k_is)
    (case cM9 => k_is)
    (case kM9 => k_is)
    (case aM10 => k_is)
    (case iM10 => k_is)
    (case lM10 => k_is)
    (case cM10 => k_is)
    (case kM10 => k_is)
    (case aM11 => k_is)
    (case iM11 => k_is)
    (case lM11 => k_is)
    (case cM11 => k_is)
    (case kM11 => k_is)
    (case aM12 => k_is)
    (case iM12 => k_is)
    (case lM12 => k_is)
    (case cM12 => k_is)
    (case kM12 => k_is)
    (case n_spec => k_is)
    (case n_sent => k_is)
    (case n_came => k_is)

