import PyProof.Rows.All
import Wide.All
import OpenK.AllK
import Wide.FinOn
import HandS.ForMost
import HandS.ForExc
import HandS.ExcInit
import HandS.ExcField
import HandS.TryMany
import HandS.IsInst
import HandS.Gcd
import HandS.Wide
import HandS.TupMul
import HandS.TupAny
import HandS.TupLe
import HandS.Deep
import HandS.Flow
import HandS.Defaults
import HandS.Evl
import HandS.More
import HandS.WordsDict
import KE.KMathGC
import KE.KTupSum
import HandS.Walk
import KE.GoesMore
import HandS.Style
import PyProof.WalksMore
import PyProof.WalkInts
import HandS.Sort
import HandS.MakeKwOnly
import HandS.Zip
import HandS.SortKw
import KE.DataMinMax
import PyProof.Rows.SortWalkRead
import PyProof.Rows.TupReads
import PyProof.NeKinds
import PyProof.StrOps2
import HandS.Conv
import HandS.Flt
import PySem.Challenge.RW_upforgood_k19_plans_on_wires
set_option Elab.async false
set_option linter.all false
set_option maxRecDepth 100000
set_option maxHeartbeats 4000000
namespace L2.U
open PySem PySem.Spec PyProof.Rows Evl

/-! ## several except clauses, each with a name or without one -/
structure Clause where
  cls : Value
  slot : Option Nat
  rd : Addr → Value → Option Addr → TS
def afterC : Option Nat → Ends → Ends
  | none, D => D
  | some i, D => ⟨fun s h => D.nx (s.set i none) h, D.rt, fun s h => D.bk (s.set i none) h, fun s h => D.ct (s.set i none) h⟩
def holdC : Option Nat → Addr → St → St
  | none, _, s => s
  | some i, a, s => s.set i (some (.ref a))
def wishC (K : PySem.W.Frag) (Wo : WX) (D : Ends) : List Clause → WX
  | [] => Wo
  | c :: r => fun cls d s h => ∃ b, PySem.W.exmOne K cls c.cls = some b ∧
      (b = true → ∀ a, h a = none → c.rd a cls d (afterC c.slot D) (holdC c.slot a s) h) ∧ (b = false → wishC K Wo D r cls d s h)
abbrev SuiteOk (X : Cx) (body : List Stmt) (rd : Addr → Value → Option Addr → TS) : Prop :=
  ∀ (a : Addr) (o : Obj) (cls : Value) (d : Option Addr) (pn : List (Addr × Obj)), Zc cls d o → (∃ vs, o.data = .fields vs) → PSs (X.suite a ((a, o) :: pn)) body (rd a cls d)
inductive ClauseOk (X : Cx) : ExceptHandler → Clause → Prop
  | bare {x : Str} {c : Value} {rd} {b0 : Stmt} {su : List Stmt} {np p : Pos} (hc : Names X x c) (hs : SuiteOk X (b0 :: su) rd) :
      ClauseOk X (.ExceptHandler (some (.Name x np)) none (b0 :: su) p) ⟨c, none, rd⟩
  | named {x n : Str} {i : Nat} {c : Value} {rd} {b0 : Stmt} {su : List Stmt} {np p : Pos} (hN : X.N.Nodup) (hi : X.N[i]? = some n)
      (hl : X.env.kindOf n = some .local) (hc : Names X x c) (hs : SuiteOk X (b0 :: su) rd) :
      ClauseOk X (.ExceptHandler (some (.Name x np)) (some n) (b0 :: su) p) ⟨c, some i, rd⟩
inductive ClausesOk (X : Cx) : List ExceptHandler → List Clause → Prop
  | nil : ClausesOk X [] []
  | cons {h c hs cs} (a : ClauseOk X h c) (r : ClausesOk X hs cs) : ClausesOk X (h :: hs) (c :: cs)
section
variable {X : Cx} {body : List Stmt} {h0 : ExceptHandler} {hds : List ExceptHandler} {cs : List Clause} {pos : Pos} {tb : WX → TS} {Wo : WX}
theorem ps_tryC (hs : X.stack = X.env :: X.outer) (hf : X.env.frame = some X.env.locals) (tk : Takes X Wo)
    (hb : ∀ (W : WX) (pn : List (Addr × Obj)) (xe : Value → Shared → Prop), Takes (X.tr pn xe) W → PassesOwn (model X.prog X.w) X.A X.env xe → PSs (X.tr pn xe) body (tb W))
    (hh : ClausesOk X (h0 :: hds) cs) : PS X (.Try body (h0 :: hds) [] [] pos) (fun D s h => tb (wishC X.K Wo D cs) D s h) := by
  constructor
  intro pins s σ H D I h
  have ok := I.ok
  have frames : X.A.frames = some (X.env :: X.outer) := by rw [ok.frames, hs]
  refine wpAny_Try_except ?_
  let caught : Value → Shared → Prop := fun e s1 =>
    wpAny (model X.prog X.w) X.A (noteFrame e X.env) (fun _ s2 => wpAny (model X.prog X.w) X.A (setFlight e none)
      (fun _ s3 => wpAny (model X.prog X.w) X.A (handleBy e X.env (h0 :: hds)) (SP X pins D) X.xe s3) X.xe s2) X.xe s1
  have takesB : Takes (X.tr (X.pn ++ pins) caught) (wishC X.K Wo D cs) := by
    rintro u s' ⟨a, B, sI, pins', σ', H', cls, d, rfl, J0, nb, up, sky, na, os, ag, w⟩
    have J : Inv X pins σ' H' sI := J0.ofTry ok
    have sky1 : Sky B (X.env :: X.outer) a (Zc cls d) X.env.locals s'.heap := hs ▸ sky
    show wpAny _ X.A (noteFrame (.ref a) X.env) _ _ _
    refine Sky.land Zc.steady frames hf sky1 fun h3 fl up3 => ?_
    have J3 : Inv X pins σ' H' { s' with heap := h3 } := J.landed nb fl.1 (up.trans up3) os ag
    obtain ⟨o3, v3, g3, z3, d3⟩ := fl.there
    have out : a ∉ frs (X.env :: X.outer) := by
      intro hm
      obtain ⟨_, o', e', no⟩ := fl.2.2.1.mem hm
      rw [g3] at e'
      cases e'
      exact no _ d3
    have nL : a ≠ X.env.locals := by
      intro z
      exact out (List.mem_filterMap.mpr ⟨X.env, List.mem_cons_self, z ▸ hf⟩)
    have nF : a ∉ X.fs := by
      intro hm
      obtain ⟨e, he, q⟩ := List.mem_filterMap.mp hm
      exact out (List.mem_filterMap.mpr ⟨e, List.mem_cons_of_mem _ he, q⟩)
    have S3 := J3.suite g3 d3 na nL nF
    have ty : PySem.W.Looks (model X.prog X.w) h3 (typeOf (.ref a)) cls := fun A Q E t k q => wpAny_typeOf_ref (k _ _ g3) (by rw [z3.1]; exact q)
    have asked : ∀ {x : Str} {c : Value} {np : Pos} {Q E : Value → Shared → Prop}, Names X x c → Q c { s' with heap := h3 } →
        wpAny (model X.prog X.w) (X.A.mark (some (.ref a))) (eval (.Name x np) X.env) Q E { s' with heap := h3 } := by
      rintro x c np Q E ⟨hg, hd, hm | ⟨hm, hv, hn⟩⟩ q
      · exact ld_glob (X := X.suite a ((a, o3) :: (X.pn ++ pins))) S3 hg hm q hd
      · exact ld_blt (X := X.suite a ((a, o3) :: (X.pn ++ pins))) S3 hg hm hv q hn hd
    have run : ∀ {l : List ExceptHandler} {k : List Clause}, ClausesOk X l k → wishC X.K Wo D k cls d σ' H' →
        wpAny (model X.prog X.w) X.A (handleBy (.ref a) X.env l) (SP X pins D) X.xe { s' with heap := h3 } := by
      intro l k hk
      induction hk with
      | nil =>
        intro w
        refine wpAny_handleBy_nil ?_
        obtain ⟨_, _, _, oe, vs, T, oT, ts, he, _, hd, h1, _⟩ := id fl
        unfold PySem.passOn
        refine wpAny_bind (wpAny_field he hd h1 ?_)
        rw [if_neg (by simp : ¬ ((Value.ref T == Value.none) = true))]
        have up : wpAny (model X.prog X.w) X.A (setFlight (.ref a) X.env.frame)
            (fun _ t => wpAny (model X.prog X.w) X.A (throw (.ref a) : Sem Flow) (SP X pins D) X.xe t) X.xe { s' with heap := h3 } := by
          rw [hf]
          refine HandSPX.setFlight_upZ fl fun h4 hh4 up4 => wpAny_throw (tk _ _ ?_)
          refine ⟨a, B, sI, pins, σ', H', cls, d, rfl, J, nb, (up.trans up3).trans up4, .inr (.inr ?_), na, os, ag, w⟩
          rw [hs]
          exact hh4
        first
          | exact wpAny_bind (wpAny_pure (wpAny_bind up))
          | exact wpAny_bind up
      | @cons h1 c hs1 cs1 hc1 _ ih =>
        rintro ⟨b, mb, yes, no⟩
        have LM := PySem.W.exm_one (M := model X.prog X.w) J3.kIn ty mb
        cases hc1 with
        | @bare x c rd b0 su np p hc hsu =>
          refine wpAny_handleBy_cons (codeAny_handlers_test ?_) (by intro q; cases q)
          refine asked hc (LM.here ?_)
          cases b with
          | false => exact ih (no rfl)
          | true =>
            refine codeAny_handlers_suite (HandSPX.lands_againZ fl fun h4 fl4 up4 => ?_)
            have J4 : Inv X pins σ' H' { s' with heap := h4 } := J.landed nb fl4.1 ((up.trans up3).trans up4) os ag
            obtain ⟨o4, v4, g4, z4, d4⟩ := fl4.there
            refine wpAny_mono ((hsu a o4 cls d (X.pn ++ pins) z4 ⟨_, d4⟩).run [] _ _ H' _ (J4.suite g4 d4 na nL nF) (yes rfl a na)) ?_ (fun _ _ z => False.elim z)
            intro f s6 sp
            cases f with
            | ret u => obtain ⟨v6, σ6, H6, S6, r6, q6⟩ := sp; exact ⟨_, _, _, S6.unsuite ok, r6, q6⟩
            | next => obtain ⟨σ6, H6, S6, q6⟩ := sp; exact ⟨_, _, S6.unsuite ok, q6⟩
            | brk => obtain ⟨σ6, H6, S6, q6⟩ := sp; exact ⟨_, _, S6.unsuite ok, q6⟩
            | cont => obtain ⟨σ6, H6, S6, q6⟩ := sp; exact ⟨_, _, S6.unsuite ok, q6⟩
        | @named x n i c rd b0 su np p hN hi hl hc hsu =>
          refine wpAny_handleBy_cons (codeAny_handlers_test ?_) (by intro q; cases q)
          refine asked hc (LM.here ?_)
          cases b with
          | false => exact ih (no rfl)
          | true =>
            refine codeAny_handlers_suite_as (HandSPX.lands_againZ fl fun h4 fl4 up4 => ?_)
            have J4 : Inv X pins σ' H' { s' with heap := h4 } := J.landed nb fl4.1 ((up.trans up3).trans up4) os ag
            obtain ⟨o4, v4, g4, z4, d4⟩ := fl4.there
            refine store_ok (X := X.suite a ((a, o4) :: (X.pn ++ pins))) (v := .ref a) (J4.suite g4 d4 na nL nF) hN hi (.inl hl) rfl (fun s5 S5 => ?_) (.inr hl)
            refine wpAny_mono ((hsu a o4 cls d (X.pn ++ pins) z4 ⟨_, d4⟩).run [] s5 _ H' _ S5 (yes rfl a na)) ?_ (fun _ _ z => False.elim z)
            intro f s6 sp
            have gone : ∀ {σ6 : St} {H6 : Hp} {Q : Shared → Prop}, Inv (X.suite a ((a, o4) :: (X.pn ++ pins))) [] σ6 H6 s6 → (∀ t, Inv X pins (σ6.set i none) H6 t → Q t) →
                wpAny (model X.prog X.w) X.A (do bindName X.env n .none; unbindBehindTheSuite X.env n p) (fun _ t => Q t) X.xe s6 := fun S6 hq => gone_ok (S6.unsuite ok) hN hi hl hq
            cases f with
            | ret u => obtain ⟨v6, σ6, H6, S6, r6, q6⟩ := sp; exact gone S6 fun t J7 => ⟨_, _, _, J7, r6, q6⟩
            | next => obtain ⟨σ6, H6, S6, q6⟩ := sp; exact gone S6 fun t J7 => ⟨_, _, J7, q6⟩
            | brk => obtain ⟨σ6, H6, S6, q6⟩ := sp; exact gone S6 fun t J7 => ⟨_, _, J7, q6⟩
            | cont => obtain ⟨σ6, H6, S6, q6⟩ := sp; exact gone S6 fun t J7 => ⟨_, _, J7, q6⟩
    exact run hh w
  refine wpAny_mono ((hb (wishC X.K Wo D cs) (X.pn ++ pins) caught takesB PassesOwn.looking).run [] s σ H D (I.toTry _) h) ?_ (fun e s1 he => he)
  intro f s1 sp
  cases f with
  | ret u => obtain ⟨v, σ', H', J', r, q⟩ := sp; exact ⟨v, σ', H', J'.ofTry ok, r, q⟩
  | next => obtain ⟨σ', H', J', q⟩ := sp; exact wpAny_execs_nil ⟨σ', H', J'.ofTry ok, q⟩
  | brk => obtain ⟨σ', H', J', q⟩ := sp; exact ⟨σ', H', J'.ofTry ok, q⟩
  | cont => obtain ⟨σ', H', J', q⟩ := sp; exact ⟨σ', H', J'.ofTry ok, q⟩
end

/-! ## f(k = v, ..): keywords alone -/
def tCallKw (sp : Sp) (pm : List V → List V) (E : St → XK) (tk : TA) : TE := fun σ H Q => tk σ H fun zs H1 => sp (pm zs) H1 Q (E σ)
section
variable {X : Cx} {CX : CXT} {k : Nat} {f : Addr} {fd : FuncData} {ps ks : List Str} {sp : Sp} {E : St → XK} {x : Str} {p pos : Pos} {kws : List Keyword} {tk : TA}
  {g : List Value → List Value → List Value} {gV : List V → List V → List V}
theorem pe_callKw (F : FnOk X.prog X.w X.K X.mg X.base CX k f fd ps sp) (hr : Room k X.A) (hg : Gl X x) (hm : X.mg x = some (.ref f)) (hk : PySem.W.keepIn X.K (.ref f) = true)
    (hb : KBinds X.K fd ps ks g gV) (hx : ∀ σ, PassesAt CX X σ (E σ)) (hkw : PK X kws tk)
    (hall : (backToKw pos (keywordEach kws X.env)).all (·.1.isSome) = true := by rfl) (hks : (backToKw pos (keywordEach kws X.env)).filterMap (·.1) = ks := by rfl)
    (hdb : (x == ("__debug__" : Str)) = false := by decide)
    (hpl : ((backTo pos (starEach [] X.env)).any (·.1) || (backToKw pos (keywordEach kws X.env)).any (·.1.isNone)) = false := by rfl) :
    PE X (.Call (.Name x p) [] kws pos) (tCallKw sp (gV []) E tk) := by
  constructor
  intro pins s σ H Q I h
  refine wpAny_Call_Name_kw (ld_glob I hg hm ?_ hdb)
  refine PySem.W.callWith_KW0 (h₀ := X.base) I.ok.mod.kin hk hall (thn (hkw.run pos pins s σ H _ I h) ?_) hpl
  rintro ws s2 ⟨zs, H2, I2, rz, q2⟩
  refine ⟨I2.kIn, ?_⟩
  rw [hks]
  have r2 : Vals (gV [] zs) (g [] ws) := hb.rel .nil rz
  have hl : (g [] ws).length = ps.length := by rw [← r2.length]; exact F.len _ _ _ _ q2
  refine wpAny_call (codeAny_mono (F.run X.A X.stack s2 H2 ⟨[], ks.zip ws⟩ (g [] ws) (gV [] zs) Q (E σ) hr I2.env0 (hb.to s2 [] ws I2.kIn hl) r2 q2) ?_)
  intro r s' hq
  cases r with
  | error e => exact hx σ pins H2 s2 e s' I2 hq
  | ok fl => cases fl with
    | ret u => exact I2.after hq
    | next => exact False.elim hq
    | brk => exact False.elim hq
    | cont => exact False.elim hq
end

/-! ## math.comb, and tuple * int with few turns -/
section
variable {X : Cx}
def rComb : List V → Hp → VK → Prop := fun vs H Q => ∃ a b : Int, vs = [.int a, .int b] ∧ 0 ≤ a ∧ a ≤ 1000 ∧ 0 ≤ b ∧ b ≤ 1000 ∧ Q (.int (PySem.W.mcComb a b)) H
theorem cr_comb : CallR X (.builtin "math.comb") rComb := by
  intro pins s σ H vs us Q I r h
  obtain ⟨a, b, rfl, h1, h2, h3, h4, q⟩ := h
  obtain ⟨u1, u2, rfl, r1, r2⟩ := vals2 r
  obtain ⟨t, rfl⟩ := r1
  obtain ⟨u, rfl⟩ := r2
  exact PySem.W.mc_comb h1 h3 (by omega) (by omega) fun _ => ⟨.int _, H, I.tok _, ⟨_, rfl⟩, q⟩
end

/-! ## sum of a list or a tuple of ints; x *= y of great ints; a for over a list or a tuple -/
section
variable {X : Cx}
def rSumS (K : PySem.W.Frag) : List V → Hp → VK → Prop := fun vs H Q => ∃ (a : Addr) (ns : List Int), vs = [V.ref a] ∧ (SqL K H a (ns.map V.int) ∨ SqT K H a (ns.map V.int)) ∧ Q (.int ns.sum) H
theorem cr_sumS (hc : X.calm = true) : CallR X (.builtin "sum") (rSumS X.K) := by
  intro pins s σ H vs us Q I r h
  obtain ⟨a, ns, e, hs | hs, q⟩ := h
  · exact cr_sum hc pins s σ H vs us Q I r ⟨a, ns, e, hs, q⟩
  · subst e
    obtain ⟨its, rv, hl, _⟩ := I.tuple hs
    rw [Vals.ref1 r]
    have hi := rv.ints
    have hl2 : s.heap.IsTuple a its.toArray := hl
    obtain ⟨xs, ex⟩ := hi.allInts.items
    have hn : numsOf (intItems xs).toList = ns := by rw [← ex]; exact hi.numsOf
    rw [nums_intItems] at hn
    rw [ex] at hl2
    refine PySem.W.ktm_sumG (I.ok.hd hc) hl2 fun h' tk t' hk => ?_
    rw [preSum_eq, List.take_of_length_le (by simp), hn]
    exact ⟨.int _, H, I.kept hk, ⟨_, rfl⟩, q⟩
theorem ip_mulC : PIp X .Mult (fun x y H Q => ∃ i j, x = .int i ∧ y = .int j ∧ CMul i j ∧ Q (.int (i * j)) H) := by
  intro pins s σ H x y v u Q I r1 r2 h
  obtain ⟨i, j, rfl, rfl, hc, q⟩ := h
  obtain ⟨t, rfl⟩ := r1
  obtain ⟨t', rfl⟩ := r2
  exact imul_int ⟨.int _, H, I.tok _, ⟨_, rfl⟩, q⟩ hc.ok
def iSeq (K : PySem.W.Frag) (tl : TE) : TI := fun σ H R => iList K tl σ H R ∨ iTup K tl σ H R
theorem pi_seq {tg l : Expr} {tl : TE} (hl : PE X l tl) : PI X tg l (iSeq X.K tl) := by
  constructor
  intro pins s σ H R I h
  rcases h with h | h
  · exact (pi_list hl).run pins s σ H R I h
  · exact (pi_tup hl).run pins s σ H R I h
end

/-! ## how keywords bind -/
def kw1 {α : Type} : List α → List α → List α
  | [], [a] => [a]
  | _, _ => []
def kw12 {α : Type} : List α → List α → List α
  | [], [a, b] => [a, b]
  | _, _ => []
def kw21 {α : Type} : List α → List α → List α
  | [], [a, b] => [b, a]
  | _, _ => []
theorem kw1_rel {vs : List V} {us : List Value} {zs : List V} {ws : List Value} (r : Vals vs us) (t : Vals zs ws) : Vals (kw1 vs zs) (kw1 us ws) := by
  cases r with
  | cons _ _ => exact .nil
  | nil => cases t with
    | nil => exact .nil
    | cons a t => cases t with
      | nil => exact .cons a .nil
      | cons _ _ => exact .nil
theorem kw12_rel {vs : List V} {us : List Value} {zs : List V} {ws : List Value} (r : Vals vs us) (t : Vals zs ws) : Vals (kw12 vs zs) (kw12 us ws) := by
  cases r with
  | cons _ _ => exact .nil
  | nil => cases t with
    | nil => exact .nil
    | cons a t => cases t with
      | nil => exact .nil
      | cons b t => cases t with
        | nil => exact .cons a (.cons b .nil)
        | cons _ _ => exact .nil
theorem kw21_rel {vs : List V} {us : List Value} {zs : List V} {ws : List Value} (r : Vals vs us) (t : Vals zs ws) : Vals (kw21 vs zs) (kw21 us ws) := by
  cases r with
  | cons _ _ => exact .nil
  | nil => cases t with
    | nil => exact .nil
    | cons a t => cases t with
      | nil => exact .nil
      | cons b t => cases t with
        | nil => exact .cons b (.cons a .nil)
        | cons _ _ => exact .nil
theorem kb1 {K : PySem.W.Frag} {x qual : Str} {st : Stmt} {f : Addr} {fd : FuncData} {p k : Str} (F : Fun K x qual st f fd)
    (h : ∀ (kV doc pm : Value) (an : Option Addr) (cdv ct : Value) (u : Value), bindArgs (PySem.W.fnOf x qual (defArgs st) (defBody st) (defScope st) .none kV doc pm an cdv ct) ⟨[], [(k, u)]⟩ = pure [(p, u)]) : KBinds K fd [p] [k] kw1 kw1 := by
  obtain ⟨oc, od, kV, doc, pm, an, cdv, ct, osl, rfl, lk, hcd⟩ := F.ex
  refine ⟨fun s us ws _ hl => ?_, kw1_rel⟩
  match us, ws, hl with
  | [], [u], _ => exact .of_eq (h kV doc pm an cdv ct u)
theorem kb12 {K : PySem.W.Frag} {x qual : Str} {st : Stmt} {f : Addr} {fd : FuncData} {p q k l : Str} (F : Fun K x qual st f fd)
    (h : ∀ (kV doc pm : Value) (an : Option Addr) (cdv ct : Value) (u w : Value), bindArgs (PySem.W.fnOf x qual (defArgs st) (defBody st) (defScope st) .none kV doc pm an cdv ct) ⟨[], [(k, u), (l, w)]⟩ = pure [(p, u), (q, w)]) : KBinds K fd [p, q] [k, l] kw12 kw12 := by
  obtain ⟨oc, od, kV, doc, pm, an, cdv, ct, osl, rfl, lk, hcd⟩ := F.ex
  refine ⟨fun s us ws _ hl => ?_, kw12_rel⟩
  match us, ws, hl with
  | [], [u, w], _ => exact .of_eq (h kV doc pm an cdv ct u w)
theorem kb21 {K : PySem.W.Frag} {x qual : Str} {st : Stmt} {f : Addr} {fd : FuncData} {p q k l : Str} (F : Fun K x qual st f fd)
    (h : ∀ (kV doc pm : Value) (an : Option Addr) (cdv ct : Value) (u w : Value), bindArgs (PySem.W.fnOf x qual (defArgs st) (defBody st) (defScope st) .none kV doc pm an cdv ct) ⟨[], [(k, u), (l, w)]⟩ = pure [(p, w), (q, u)]) : KBinds K fd [p, q] [k, l] kw21 kw21 := by
  obtain ⟨oc, od, kV, doc, pm, an, cdv, ct, osl, rfl, lk, hcd⟩ := F.ex
  refine ⟨fun s us ws _ hl => ?_, kw21_rel⟩
  match us, ws, hl with
  | [], [u, w], _ => exact .of_eq (h kV doc pm an cdv ct u w)

/-! ## tuple * int -/
theorem tmul0 (l : Addr) (items : Array Value) (n : Nat) (dd : Option Addr) (sl : Array (Option Value)) (u : Tok) (hne : items.isEmpty = false) :
    Meets (Builtin.«tuple.__mul__» ⟨[.ref l, .int 0 u], []⟩) (fun _ R s => s.heap.get? l = some { cls := .type "tuple", dict := dd, data := .seq items n, slots := sl } ∧
      R (.ok (.ret (Value.ref s.heap.objs.size))) { s with heap := s.heap.push { cls := Value.type "tuple", data := Data.seq #[] } }) :=
  .of_wp fun prog w A R s h => by
    obtain ⟨hp, g, d, tk, os⟩ := s
    obtain ⟨hl, h⟩ := h
    have f1 := AutoSeq1.idx_int
    have c1 : (items.isEmpty || (0 : Int) == 1) = false := by rw [hne]; rfl
    wp_walk using wpAny_loadPart' hl
    exact ⟨_, rfl, h⟩
theorem tmul1 (l : Addr) (items : Array Value) (n : Nat) (dd : Option Addr) (sl : Array (Option Value)) (u : Tok) (hne : items.isEmpty = false) :
    Meets (Builtin.«tuple.__mul__» ⟨[.ref l, .int 1 u], []⟩) (fun _ R s => s.heap.get? l = some { cls := .type "tuple", dict := dd, data := .seq items n, slots := sl } ∧
      R (.ok (.ret (Value.ref l))) s) :=
  .of_wp fun prog w A R s h => by
    obtain ⟨hp, g, d, tk, os⟩ := s
    obtain ⟨hl, h⟩ := h
    have f1 := AutoSeq1.idx_int
    wp_walk using wpAny_loadPart' hl
    exact ⟨_, rfl, h⟩

def rRepA (K : PySem.W.Frag) : R2 := fun x y H Q => ∃ (l : Addr) (k : Int) (xs : List V), x = .ref l ∧ y = .int k ∧ SqT K H l xs ∧ xs ≠ [] ∧ 0 ≤ k ∧ k ≤ 1000 ∧ xs.length ≤ 1000 ∧
  ∀ p H', Ex H H' → SqT K H' p (List.replicate k.toNat xs).flatten → Q (.ref p) H'
theorem op_repA {X : Cx} : OpR X (binaryOp .Mult) (rRepA X.K) := by
  intro pins s σ H x y v u Q I rx ry h
  obtain ⟨l, k, xs, rfl, rfl, hT, hne, h0, h1, hz, q⟩ := h
  by_cases h2 : 2 ≤ k
  · exact op_repT pins s σ H (.ref l) (.int k) v u Q I rx ry ⟨l, k, xs, rfl, rfl, hT, hne, h2, h1, hz, fun p hp => q p _ (Ex.new hp) (st_of upd_same)⟩
  · cases rx
    obtain ⟨t, rfl⟩ := ry
    obtain ⟨its, r, ⟨⟨cls, dd, data, sl⟩, ho, hc, n, hd⟩, hs⟩ := I.tuple hT
    simp only at hc hd
    subst hc hd
    have hle : its.length = xs.length := r.length.symm
    have hi : its.toArray.isEmpty = false := by
      cases its with
      | nil => exact absurd (List.eq_nil_of_length_eq_zero hle.symm) hne
      | cons a b => rfl
    rcases (by omega : k = 0 ∨ k = 1) with rfl | rfl
    · refine wpAny_binaryOp_repeat_ref (T := "tuple") (U := "int") (by decide) ⟨_, ho, rfl⟩ (fun s' => typeIs_int s' 0 t) noFill_tuple_mul F.fills_int_mul F.slot_int_rmul repeat_tuple F.slot_int_index.lookup
        (call_meets F.slot_int_rmul (typeIs_int s 0 t) F.entry_int_rmul (F.args_int_rmul_2 _ _) (int_rmul_tuple 0 t l its.toArray n dd sl)
          ⟨ho, rfl, ⟨_, ho, rfl⟩, call_meets F.slot_tuple_mul ⟨_, ho, rfl⟩ F.entry_tuple_mul (F.args_tuple_mul_2 _ _) (tmul0 l its.toArray n dd sl t hi) ⟨ho, ?_⟩⟩)
      refine ⟨.ref s.heap.objs.size, _, I.laid (t' := s.toks) (o := .tup []) (fun b ob e => Heap.get?_push_of_some _ e) (Nat.le_refl _) ?_, rfl, q _ _ (Ex.new (I.hok.fresh (Nat.le_refl _))) (st_of upd_same)⟩
      exact ⟨Nat.zero_le _, [], .nil, IsTup.new _ _⟩
    · refine wpAny_binaryOp_repeat_ref (T := "tuple") (U := "int") (by decide) ⟨_, ho, rfl⟩ (fun s' => typeIs_int s' 1 t) noFill_tuple_mul F.fills_int_mul F.slot_int_rmul repeat_tuple F.slot_int_index.lookup
        (call_meets F.slot_int_rmul (typeIs_int s 1 t) F.entry_int_rmul (F.args_int_rmul_2 _ _) (int_rmul_tuple 1 t l its.toArray n dd sl)
          ⟨ho, rfl, ⟨_, ho, rfl⟩, call_meets F.slot_tuple_mul ⟨_, ho, rfl⟩ F.entry_tuple_mul (F.args_tuple_mul_2 _ _) (tmul1 l its.toArray n dd sl t hi) ⟨ho, ?_⟩⟩)
      refine ⟨.ref l, H, I, rfl, q _ _ (Ex.refl H) ?_⟩
      have e : (List.replicate (Int.toNat 1) xs).flatten = xs := by simp
      rw [e]
      exact hT

/-! ## a def of the text, in one bundle -/
structure DefAt (K : PySem.W.Frag) (mg : Str → Option Value) (x : Str) (st : Stmt) (ps : List Str) where
  a : Addr
  fd : FuncData
  F : Fun K x x st a fd
  m : mg x = some (.ref a)
  b : Binds K fd ps []
theorem pass0At {X : Cx} {σ : St} : PassesAt CX0 X σ E0 := fun _ _ _ _ _ _ h => h.elim

/-! ## heaps: all but one object stands -/
def But (b : Addr) (H H' : Hp) : Prop := ∀ a o, a ≠ b → H a = some o → H' a = some o
theorem But.of {b : Addr} {H H' : Hp} (e : Ex H H') : But b H H' := fun a o _ h => e a o h
theorem But.trans {b : Addr} {H H1 H2 : Hp} (x : But b H H1) (y : But b H1 H2) : But b H H2 := fun a o n h => y a o n (x a o n h)
theorem But.ex {b : Addr} {H H1 H2 : Hp} (x : But b H H1) (y : Ex H1 H2) : But b H H2 := fun a o n h => y a o (x a o n h)
theorem But.pre {b : Addr} {H H1 H2 : Hp} (x : Ex H H1) (y : But b H1 H2) : But b H H2 := fun a o n h => y a o n (x a o h)
theorem But.upd {b : Addr} {H : Hp} {o : HO} : But b H (upd H b o) := fun a u n h => by rw [upd_ne n]; exact h
theorem But.none {b p : Addr} {H H' : Hp} {o : HO} (x : But b H H') (hb : H b = some o) (h : H' p = none) : p ≠ b → H p = none := fun n => by
  cases e : H p with
  | none => rfl
  | some u => rw [x p u n e] at h; cases h
theorem ne_new {H : Hp} {p b : Addr} {o : HO} (h : H p = none) (hb : H b = some o) : p ≠ b := fun e => by rw [e, hb] at h; cases h
/-- what is frozen or written stands whatever happens to b; a tracked list that is no b, too -/
theorem But.sql {K : PySem.W.Frag} {b a : Addr} {H H' : Hp} {xs : List V} (x : But b H H') (n : a ≠ b) (h : SqL K H a xs) : SqL K H' a xs := by
  rcases h with (h | ⟨o, h⟩) | h
  · exact .inl (.inl (x _ _ n h))
  · exact .inl (.inr ⟨o, x _ _ n h⟩)
  · exact .inr h
theorem But.sqt {K : PySem.W.Frag} {b a : Addr} {H H' : Hp} {xs : List V} (x : But b H H') (n : a ≠ b) (h : SqT K H a xs) : SqT K H' a xs := by
  rcases h with (h | ⟨o, h⟩) | h
  · exact .inl (.inl (x _ _ n h))
  · exact .inl (.inr ⟨o, x _ _ n h⟩)
  · exact .inr h

/-! ## the box of draws: digits, flag, seed, count; n draws are left -/
def BoxAt (H : Hp) (b : Addr) (n : Nat) : Prop := ∃ (d m c : Int) (f : Bool), H b = some (.lst [.int d, .bl f, .int m, .int c]) ∧ 0 ≤ d ∧ 0 ≤ m ∧ m < 2147483648 ∧ 0 ≤ c ∧ c + n ≤ 1000000
theorem BoxAt.some {H : Hp} {b : Addr} {n : Nat} (h : BoxAt H b n) : ∃ o, H b = some o := by
  obtain ⟨d, m, c, f, h, _⟩ := h
  exact ⟨_, h⟩
theorem BoxAt.le {H : Hp} {b : Addr} {n k : Nat} (h : BoxAt H b n) (l : k ≤ n) : BoxAt H b k := by
  obtain ⟨d, m, c, f, h, h1, h2, h3, h4, h5⟩ := h
  exact ⟨d, m, c, f, h, h1, h2, h3, h4, by omega⟩
theorem BoxAt.ex {H H' : Hp} {b : Addr} {n : Nat} (h : BoxAt H b n) (e : Ex H H') : BoxAt H' b n := by
  obtain ⟨d, m, c, f, h, r⟩ := h
  exact ⟨d, m, c, f, e _ _ h, r⟩
theorem BoxAt.ne {H : Hp} {b p : Addr} {n : Nat} (h : BoxAt H b n) (hp : H p = none) : p ≠ b := by
  obtain ⟨d, m, c, f, h, _⟩ := h
  exact ne_new hp h
def spCell (K : PySem.W.Frag) : Sp := fun vs H Q _ => ∃ (a : Addr) (ns : List Int) (k : Int), vs = [.ref a, .int k] ∧ SqL K H a (ns.map V.int) ∧ 0 ≤ k ∧ k ≤ 1000 ∧ ∀ (v : Int) H', Ex H H' → Q (.int v) H'
def spBox : Sp := fun vs H Q _ => ∃ g : Int, vs = [.int g] ∧ ∀ p H', H p = none → Ex H H' → BoxAt H' p 1000000 → Q (.ref p) H'
def spTake : Sp := fun vs H Q _ => ∃ (b : Addr) (m : Int) (n : Nat), vs = [.ref b, .int m] ∧ 0 < m ∧ m < 1073741824 ∧ BoxAt H b (n + 1) ∧
  ∀ r H', 0 ≤ r → r < m → BoxAt H' b n → But b H H' → Q (.int r) H'

/-! ## types of data -/
theorem tyL {K : PySem.W.Frag} {H : Hp} {a : Addr} {xs : List V} (h : SqL K H a xs) : TyX K H (.ref a) (.type "list") := by
  rcases h with (h | ⟨o, h⟩) | ⟨o, its, n, hk, hc, _⟩
  · exact .base (.lst h)
  · exact .base (.frz h)
  · exact .kList hk hc
theorem tyT {K : PySem.W.Frag} {H : Hp} {a : Addr} {xs : List V} (h : SqT K H a xs) : TyX K H (.ref a) (.type "tuple") := by
  rcases h with (h | ⟨o, h⟩) | ⟨o, its, n, hk, hc, _⟩
  · exact .base (.tup h)
  · exact .fTuple h
  · exact .kTuple hk hc
/-- two values that hold the same, at most n lists and tuples within one another -/
inductive Sm (K : PySem.W.Frag) (H : Hp) : Nat → V → V → Prop
  | non {n} : Sm K H n .non .non
  | bl {n} (b : Bool) : Sm K H n (.bl b) (.bl b)
  | int {n} (i : Int) : Sm K H n (.int i) (.int i)
  | str {n} (z : Str) (h : z.length ≤ 1000) : Sm K H n (.str z) (.str z)
  | lst {n} {a b : Addr} {xs ys : List V} (h1 : SqL K H a xs) (h2 : SqL K H b ys) (hl : xs.length = ys.length) (hz : xs.length ≤ 1000)
      (all : ∀ (i : Nat) (x y : V), xs[i]? = some x → ys[i]? = some y → Sm K H n x y) : Sm K H (n + 1) (.ref a) (.ref b)
  | tup {n} {a b : Addr} {xs ys : List V} (h1 : SqT K H a xs) (h2 : SqT K H b ys) (hl : xs.length = ys.length) (hz : xs.length ≤ 1000)
      (all : ∀ (i : Nat) (x y : V), xs[i]? = some x → ys[i]? = some y → Sm K H n x y) : Sm K H (n + 1) (.ref a) (.ref b)
  | dct {n} {a b : Addr} (h1 : H a = some (.dK [])) (h2 : H b = some (.dK [])) : Sm K H (n + 1) (.ref a) (.ref b)
theorem Sm.ex {K : PySem.W.Frag} {H H' : Hp} (e : Ex H H') {n : Nat} {x y : V} (h : Sm K H n x y) : Sm K H' n x y := by
  induction h with
  | non => exact .non
  | bl b => exact .bl b
  | int i => exact .int i
  | str z h => exact .str z h
  | lst h1 h2 hl hz _ ih => exact .lst (ex_l e h1) (ex_l e h2) hl hz ih
  | tup h1 h2 hl hz _ ih => exact .tup (ex_t e h1) (ex_t e h2) hl hz ih
  | dct h1 h2 => exact .dct (e _ _ h1) (e _ _ h2)
theorem Sm.succ {K : PySem.W.Frag} {H : Hp} {n : Nat} {x y : V} (h : Sm K H n x y) : Sm K H (n + 1) x y := by
  induction h with
  | non => exact .non
  | bl b => exact .bl b
  | int i => exact .int i
  | str z h => exact .str z h
  | lst h1 h2 hl hz _ ih => exact .lst h1 h2 hl hz ih
  | tup h1 h2 hl hz _ ih => exact .tup h1 h2 hl hz ih
  | dct h1 h2 => exact .dct h1 h2
theorem Sm.le {K : PySem.W.Frag} {H : Hp} {n m : Nat} {x y : V} (h : Sm K H n x y) (l : n ≤ m) : Sm K H m x y := by
  induction l with
  | refl => exact h
  | step _ ih => exact ih.succ
theorem Sm.ints {K : PySem.W.Frag} {H : Hp} {n : Nat} {ns : List Int} : ∀ (i : Nat) (x y : V), (ns.map V.int)[i]? = some x → (ns.map V.int)[i]? = some y → Sm K H n x y := by
  intro i x y h1 h2
  rw [h1] at h2
  cases h2
  rw [List.getElem?_map] at h1
  cases e : ns[i]? with
  | none => rw [e] at h1; cases h1
  | some z => rw [e] at h1; cases h1; exact .int z
def spSame (K : PySem.W.Frag) (n : Nat) : Sp := fun vs H Q _ => ∃ x y, vs = [x, y] ∧ Sm K H n x y ∧ ∀ H', Ex H H' → Q (.bl true) H'
theorem cut_one {z : Str} {k : Nat} {c : Nat} (h : z.cps.toList[k]? = some c) : cutS z (some (k : Int)) (some ((k : Int) + 1)) = ⟨#[c]⟩ := by
  have hk := (List.getElem?_eq_some_iff.mp h).1
  have hz : z.cps.toList.length = z.length := Array.length_toList
  unfold cutS
  have e : ((k : Int) + 1) = ((k + 1 : Nat) : Int) := by omega
  rw [e, HT.sIx_nat, HT.sIx_nat, Nat.min_eq_left (by omega), Nat.min_eq_left (by omega)]
  have e2 : k + 1 - k = 1 := by omega
  rw [e2, List.drop_eq_getElem_cons hk]
  have e3 := (List.getElem?_eq_some_iff.mp h).2
  simp [e3]

/-! ## the rules whose reading speaks of the written part, with it named (within a comprehension's block) -/
section
variable {X : Cx}
def rLen (K : PySem.W.Frag) : List V → Hp → VK → Prop := fun xs H Q => ∃ x n, xs = [x] ∧ LenV K x H n ∧ Q (.int (n : Nat)) H
def rListOf (K : PySem.W.Frag) : List V → Hp → VK → Prop := fun xs H Q => ∃ p ys, xs = [.ref p] ∧ (SqL K H p ys ∨ SqT K H p ys) ∧ ∀ l, H l = none → Q (.ref l) (upd H l (.lst ys))
def rTupOf (K : PySem.W.Frag) : List V → Hp → VK → Prop := fun xs H Q => ∃ p ys, xs = [.ref p] ∧ ((SqL K H p ys ∧ ∀ l, H l = none → Q (.ref l) (upd H l (.tup ys))) ∨ (SqT K H p ys ∧ Q (.ref p) H))
theorem kix (K : PySem.W.Frag) (h : X.K = K := by rfl) : IxR X (rIx K) := by subst h; exact ix_seq
theorem kixl (K : PySem.W.Frag) (h : X.K = K := by rfl) : IxR X (rIxL K) := by subst h; exact ix_list
theorem kixt (K : PySem.W.Frag) (h : X.K = K := by rfl) : IxR X (rIxT K) := by subst h; exact ix_tup
theorem klen (K : PySem.W.Frag) (h : X.K = K := by rfl) : CallR X (.builtin "len") (rLen K) := by subst h; exact call_len
theorem klist (K : PySem.W.Frag) (h : X.K = K := by rfl) : CallR X (.type "list") (rListOf K) := by subst h; exact call_list_of
theorem ktuple (K : PySem.W.Frag) (h : X.K = K := by rfl) : CallR X (.type "tuple") (rTupOf K) := by subst h; exact call_tuple_of
theorem kisi (K : PySem.W.Frag) (h : X.K = K := by rfl) : CallR X (.builtin "isinstance") (rIsi K) := by subst h; exact call_isi
theorem kisiT (K : PySem.W.Frag) (h : X.K = K := by rfl) : CallR X (.builtin "isinstance") (rIsiT K) := by subst h; exact call_isiT
theorem keqD (K : PySem.W.Frag) (hu : X.A.units + 64 < cLine) (h : X.K = K := by rfl) : OpR X (compareOp .Eq) (rEqD K) := by subst h; exact op_eqD hu
theorem kneD (K : PySem.W.Frag) (hu : X.A.units + 64 < cLine) (h : X.K = K := by rfl) : OpR X (compareOp .NotEq) (rNeD K) := by subst h; exact op_neD hu
theorem kin (K : PySem.W.Frag) (h : X.K = K := by rfl) : OpR X (compareOp .In) (rIn K false) := by subst h; exact op_in_seq
theorem knotin (K : PySem.W.Frag) (h : X.K = K := by rfl) : OpR X (compareOp .NotIn) (rIn K true) := by subst h; exact op_notIn_seq
theorem kcatA (K : PySem.W.Frag) (h : X.K = K := by rfl) : OpR X (binaryOp .Add) (rCatA K) := by subst h; exact op_catA
theorem krepA (K : PySem.W.Frag) (h : X.K = K := by rfl) : OpR X (binaryOp .Mult) (rRepA K) := by subst h; exact op_repA
theorem kslL (K : PySem.W.Frag) (h : X.K = K := by rfl) : SlR X (rSlL K) := by subst h; exact sl_list
theorem kslT (K : PySem.W.Frag) (h : X.K = K := by rfl) : SlR X (rSlA K) := by subst h; exact sl_tupA
theorem ksum (K : PySem.W.Frag) (hc : X.calm = true) (h : X.K = K := by rfl) : CallR X (.builtin "sum") (rSumS K) := by subst h; exact cr_sumS hc
theorem kall (K : PySem.W.Frag) (hc : X.calm = true) (h : X.K = K := by rfl) : CallR X (.builtin "all") (rAll K) := by subst h; exact cr_all hc
theorem kpil (K : PySem.W.Frag) {tg l : Expr} {tl : TE} (hl : PE X l tl) (h : X.K = K := by rfl) : PI X tg l (iList K tl) := by subst h; exact pi_list hl
theorem kpit (K : PySem.W.Frag) {tg l : Expr} {tl : TE} (hl : PE X l tl) (h : X.K = K := by rfl) : PI X tg l (iTup K tl) := by subst h; exact pi_tup hl
theorem kpis (K : PySem.W.Frag) {tg l : Expr} {tl : TE} (hl : PE X l tl) (h : X.K = K := by rfl) : PI X tg l (iSeq K tl) := by subst h; exact pi_seq hl
end

/-! ## own errors with one attribute -/
structure ErrAt (K : PySem.W.Frag) (mg : Str → Option Value) (x qi : Str) (st : Stmt) (f : Str) where
  C : Addr
  fI : Addr
  fd : FuncData
  F : Fun K "__init__" qi st fI fd
  b : Binds K fd ["self", f] []
  T : OexC K C
  iC : PySem.W.findIn K (.ref C) "__init__" = some (some (.ref fI))
  tI : PySem.W.typeIn K (.ref fI) = some (.type "function")
  gC : mg x = some (.ref C)
  nf : PySem.W.findIn K (.ref C) f = some none
  xf : XfC K C
def spInit (C : Addr) (f : Str) : Sp := fun vs H Q _ => ∃ (a : Addr) (y : V), vs = [.ref a, y] ∧ H a = some (exo a C none) ∧
  ∀ d, H d = none → d ≠ a → Q .non (upd (upd H d (exd d [(f, y)])) a (exo a C (some d)))
theorem raised {C a : Addr} {H : Hp} {f : Str} {y : V} {Q : XK} {E : XK} (ha : H a = none) (q : ∀ d H', Ex H H' → H' d = some (.xd [(f, y)]) → Q (.ref C) (some d) H') :
    spInit C f [.ref a, y] (upd H a (exo a C none)) (fun v H2 => v = .non ∧ ∃ (d : Addr) (fs : List (Str × V)), H2 a = some (exo a C (some d)) ∧ H2 d = some (exd d fs) ∧ H d = none ∧ Q (.ref C) (some d) (upd (del H2 a) d (.xd fs))) E := by
  refine ⟨a, y, rfl, upd_same, fun d hd nd => ⟨rfl, d, [(f, y)], upd_same, ?_, ?_, ?_⟩⟩
  · rw [upd_ne nd]; exact upd_same
  · rw [upd_ne nd] at hd; exact hd
  · rw [upd_ne nd] at hd
    refine q d _ (fun b o hb => ?_) upd_same
    have h1 : b ≠ a := ne_of_none hb ha
    have h2 : b ≠ d := ne_of_none hb hd
    rw [upd_ne h2, del_ne h1, upd_ne h1, upd_ne h2, upd_ne h1]
    exact hb
/-- a check: it lets what is right, else raises the error of C with the very value -/
def spChk (C : Addr) (ok : Int → Prop) : Sp := fun vs H Q E => ∃ i : Int, vs = [.int i] ∧ (ok i → ∀ H', Ex H H' → Q .non H') ∧
  (¬ ok i → ∀ d H', Ex H H' → H' d = some (.xd [("given", .int i)]) → E (.ref C) (some d) H')
end L2.U


set_option Elab.async false
set_option linter.all false
set_option maxRecDepth 100000
set_option maxHeartbeats 4000000
namespace L2.U
open PySem PySem.Spec PyProof.Rows Evl
open Sem (wp)
open AutoSeq1 (wpAny_loadPart')
/-! ### enumerate(tuple), and enumerate of a list or a tuple -/
theorem meets_enumT (l : Addr) (items : Array Value) (n : Nat) (dct : Option Addr) (sl : Array (Option Value)) :
    Meets (Builtin.«enumerate.__new__» ⟨[.type "enumerate", .ref l], []⟩) (fun _ R s => s.heap.get? l = some { cls := .type "tuple", dict := dct, data := .seq items n, slots := sl } ∧
      R (.ok (.ret (.ref (s.heap.push { cls := .type "tuple_iterator", data := .fields #[.ref l, .int 0 0] }).objs.size)))
        { s with heap := (s.heap.push { cls := .type "tuple_iterator", data := .fields #[.ref l, .int 0 0] }).push { cls := .type "enumerate", data := .fields #[.none, .bool false, .ref s.heap.objs.size, rawInt 0, .none, .none] } }) :=
  .of_wp fun prog w A R s h => by
    obtain ⟨hp, g, d, tk, os⟩ := s
    obtain ⟨hl, h⟩ := h
    have hsub := sub_enumerate
    have hL : Heap.IsTuple (Shared.heap ⟨hp, g, d, tk, os⟩) l items := ⟨_, hl, rfl, n, rfl⟩
    wp_walk using wpAny_loadPart' hl
    refine wpAny_stack_any fun st => wpAny_pure ?_
    split
    · rename_i c _ _ _ _ _
      cases (c == Value.type "enumerate")
      · wp_walk using wpAny_loadPart' hl, wpAny_pyIter_tuple hL
        exact ⟨_, rfl, h⟩
      · wp_walk using wpAny_loadPart' hl, wpAny_pyIter_tuple hL
        exact ⟨_, rfl, h⟩
    · wp_walk using wpAny_loadPart' hl, wpAny_pyIter_tuple hL
      exact ⟨_, rfl, h⟩
theorem call_enumT {prog : Program} {w : World} {A : Around} {E : Value → Shared → Prop} {s : Shared} {l : Addr} {items : Array Value} {Q : Value → Shared → Prop} (hL : s.heap.IsTuple l items)
    (h : ∀ h', IsEnum h' (s.heap.objs.size + 1) s.heap.objs.size 0 .none → h'.IsTupleIter s.heap.objs.size l 0 → h'.objs.size = s.heap.objs.size + 2 →
      (∀ b o, s.heap.get? b = some o → h'.get? b = some o) → Q (.ref (s.heap.objs.size + 1)) { s with heap := h' }) :
    wpAny (model prog w) A (call (.type "enumerate") [.ref l]) Q E s := by
  obtain ⟨⟨c, dct, dt, sl⟩, hl, hc, n, hd⟩ := hL
  replace hc : c = .type "tuple" := hc
  replace hd : dt = .seq items n := hd
  subst hc hd
  refine callType_new F.called_enumerate (by decide) (F.typeCall_enumerate_1 _) (F.newCall_enumerate_1 _) (fun obj => F.args_object_init_2 obj _) F.entry_enumerate_new
    (meets_enumT l items n dct sl) ⟨hl, ?_⟩
  have hz : (s.heap.push { cls := .type "tuple_iterator", data := .fields #[.ref l, .int 0 0] }).objs.size = s.heap.objs.size + 1 := Heap.size_push ..
  show _ ∧ _
  rw [hz]
  have he : IsEnum ((s.heap.push { cls := .type "tuple_iterator", data := .fields #[.ref l, .int 0 0] }).push
      { cls := .type "enumerate", data := .fields #[.none, .bool false, .ref s.heap.objs.size, rawInt 0, .none, .none] }) (s.heap.objs.size + 1) s.heap.objs.size 0 .none := by
    have := Heap.get?_push_size (s.heap.push { cls := .type "tuple_iterator", data := .fields #[.ref l, .int 0 0] })
      (o := { cls := .type "enumerate", data := .fields #[.none, .bool false, .ref s.heap.objs.size, rawInt 0, .none, .none] }) rfl
    rw [hz] at this
    exact this
  refine ⟨⟨_, he, rfl⟩, h _ he ⟨_, Heap.get?_push_of_some _ (Heap.get?_push_size _ rfl), rfl, rfl⟩ (by rw [Heap.size_push, hz]) fun b o x => Heap.get?_push_of_some _ (Heap.get?_push_of_some _ x)⟩
def IteT (K : PySem.W.Frag) (a : Addr) : It :=
  ⟨fun i H => ∃ (xs : List V) (x : V), SqT K H a xs ∧ xs[i]? = some x, fun i H v H' => ∃ T x, v = .ref T ∧ H T = none ∧ H' = upd H T (.tup [.int (i : Nat), x]) ∧ ∀ xs, SqT K H a xs → xs[i]? = some x, fun i H => ∃ xs : List V, SqT K H a xs ∧ xs.length ≤ i⟩
theorem turn_enumT {P : Program} {w : World} {K : PySem.W.Frag} {elts : List Expr} {kk : Nat} {tpos : Pos} (a e it : Addr) (hai : a ≠ it) (hae : a ≠ e) :
    Turn P w K (.Tuple elts kk tpos) (IteT K a) [e, it] e (fun i h => (∃ old, IsEnum h e it ((i : Nat) : Int) old) ∧ h.IsTupleIter it a i ∧ e ≠ it) where
  mem := by simp
  obj := fun i h st b hb => by
    obtain ⟨⟨old, he⟩, ⟨o, ho, hc, hd⟩, _⟩ := st
    have e' : b = e ∨ b = it := by simpa using hb
    rcases e' with z | z
    · rw [z]; exact ⟨_, he, fun v q => nomatch q⟩
    · rw [z]; exact ⟨o, ho, fun v q => by rw [hd] at q; cases q⟩
  keep := fun i h h' st k => let ⟨⟨old, he⟩, hi, hne⟩ := st; ⟨⟨old, k e (by simp) _ he⟩, hi.at fun o q => k it (by simp) o q, hne⟩
  item := by
    intro X hP hw hK hc i pins s σ H E I hf st hg
    subst hP hw hK
    obtain ⟨⟨old, he⟩, hit, hne⟩ := st
    obtain ⟨xs, x, hq, hx⟩ := hg
    obtain ⟨its, rv, p, hz⟩ := I.tuple hq
    have p' : s.heap.IsTuple a its.toArray := p
    obtain ⟨u, hu, ru⟩ := rv.get hx
    have hel : e < s.heap.objs.size := Heap.lt_size he
    have hil : it < s.heap.objs.size := by obtain ⟨_, q, _⟩ := hit; exact Heap.lt_size q
    have hlt : i < its.toArray.size := by simpa using (List.getElem?_eq_some_iff.mp hu).1
    refine wpAny_pyNext_enum_itemD (Draws.tuple (prog := X.prog) (w := X.w) (A := X.A.in1) (I.ok.hd hc) it a hai its.toArray) he ⟨hit, p'⟩ hlt hne (by simp [hne, Ne.symm hae]) fun v h' tk hv ho hst hT hsz hk => ?_
    obtain ⟨hit', p2⟩ := hst
    have hvu : v = u := by
      have h2 : its.toArray[i]? = some u := by simpa using hu
      rw [h2] at hv
      exact (Option.some.inj hv).symm
    subst hvu
    refine ⟨_, rfl, wpAny_letOwnedTupleGo_enum (s := { s with heap := h', toks := tk + 1 }) ho fun h'' he' sb => ?_⟩
    have hT2 : h''.get? s.heap.objs.size = some { cls := .type "tuple", data := .seq #[.int i tk, v] } := (sb.2 _ (Nat.ne_of_gt hel)).trans hT
    have new : ObjOk X.prog X.w (upd H s.heap.objs.size (.tup [.int (i : Nat), x])) h'' s.heap.objs.size (.tup [.int (i : Nat), x]) :=
      ⟨by show 2 ≤ sizeLine; decide, [.int i tk, v], .cons ⟨_, rfl⟩ (.cons ru .nil), ⟨_, hT2, rfl, _, rfl⟩⟩
    have I1 : Inv X pins σ (upd H s.heap.objs.size (.tup [.int (i : Nat), x])) { s with heap := h'', toks := tk + 1 } :=
      I.turnedNew (ch := [e, it]) (fun b ob hb q => (sb.2 b (fun z => hb (by simp [z]))).trans (hk b ob (fun z => hb (by simp [z])) (fun z => hb (by simp [z])) q)) hf (Nat.le_refl _) new
    refine ⟨.ref s.heap.objs.size, _, I1, rfl, ⟨_, x, rfl, I.hok.fresh (Nat.le_refl _), rfl, fun ys hy => by rw [I.tuple_inj hy hq]; exact hx⟩, ⟨⟨v, ?_⟩, hit'.at fun o q => (sb.2 it (Ne.symm hne)).trans q, hne⟩, fun b hb => ?_⟩
    · have e1 : ((i + 1 : Nat) : Int) = (i : Int) + 1 := by omega
      rw [e1]; exact he'
    · have hb' : b < s.heap.objs.size := by
        have e' : b = e ∨ b = it := by simpa using hb
        rcases e' with z | z
        · rw [z]; exact hel
        · rw [z]; exact hil
      rw [upd_ne (Nat.ne_of_lt hb')]
      exact (hf b hb).1
  done := by
    intro X hP hw hK hc i pins s σ H E I hf st hg
    subst hP hw hK
    obtain ⟨⟨old, he⟩, hit, hne⟩ := st
    obtain ⟨xs, hq, hx⟩ := hg
    obtain ⟨its, rv, p, hz⟩ := I.tuple hq
    have p' : s.heap.IsTuple a its.toArray := p
    obtain ⟨f0, f1, f2, f3, f4, f5⟩ := hf it (by simp)
    have hl := rv.length
    have full : Draws X.prog X.w X.A.in1 it [it, a] i (fun _ _ => True) (fun j h => j = i ∧ h.IsTupleIter it a j ∧ h.IsTuple a its.toArray) :=
      { live := fun j h st => let ⟨_, ⟨o, ho, _⟩, _⟩ := st; ⟨o, ho⟩
        frame := fun j h h' st hk => ⟨st.1, st.2.1.at fun o e => hk it (by simp) o e, by
          obtain ⟨o, ho, r⟩ := st.2.2
          exact ⟨o, hk a (by simp) o ho, r⟩⟩
        item := fun j s Q E hj st hQ => absurd st.1 (Nat.ne_of_lt hj)
        done := fun s Q E st hE => wpAny_nextOf_tuple_end (show X.A.in1.handled = none from I.ok.hd hc) st.2.1 st.2.2 (by simp; omega) hE }
    exact wpAny_pyNext_enum_endD full he ⟨rfl, hit, p'⟩ fun h' eb => ⟨rfl, I.turned (t' := s.toks) (fun b o hb q => eb b o hb q) f0 f1 f3 f4 f5⟩
  self := fun A i s Q E st h => let ⟨⟨_, he⟩, _⟩ := st; wpAny_pyIter_enum he h
def iEnumT (K : PySem.W.Frag) (ta : TA) : TI := fun σ H R => ta σ H fun vs H1 => ∃ a xs, vs = [.ref a] ∧ SqT K H1 a xs ∧ R (IteT K a) H1
theorem pi_enumT {X : Cx} {e : Expr} {ta : TA} {p pos tpos : Pos} {elts : List Expr} {kk : Nat} (hg : Gl X "enumerate") (hm : X.mg "enumerate" = none) (ha : PA X [e] ta) (hs : starEach [e] X.env = [(false, eval e X.env)] := by rfl) :
    PI X (.Tuple elts kk tpos) (.Call (.Name "enumerate" p) [e] [] pos) (iEnumT X.K ta) := by
  refine ⟨fun pins s σ H R I h => ?_⟩
  refine Call_ (ld_blt I hg hm boot_enumerate (PyProof.Rows.callWith_type1 (thn (ha.run pos pins s σ H _ I h) fun us s1 ⟨vs, H1, I1, r1, q1⟩ => ?_) hs rfl))
  obtain ⟨a, xs, ex, hq, q⟩ := q1
  subst ex
  cases r1 with
  | cons r rr =>
    cases rr
    cases r
    obtain ⟨its, rv, p', hz⟩ := I1.tuple hq
    have p2 : s1.heap.IsTuple a its.toArray := p'
    have hal : a < s1.heap.objs.size := by obtain ⟨_, q, _⟩ := p2; exact Heap.lt_size q
    refine call_enumT p2 fun h' he hit hsz hk => wpAny_pyIter_enum he ?_
    have I2 : Inv X pins σ H1 { s1 with heap := h' } := I1.kept (t' := s1.toks) hk
    refine ⟨s1.heap.objs.size + 1, [s1.heap.objs.size + 1, s1.heap.objs.size], _, _, H1, rfl, I2, turn_enumT a (s1.heap.objs.size + 1) s1.heap.objs.size (Nat.ne_of_lt hal) (Nat.ne_of_lt (Nat.lt_succ_of_lt hal)), ⟨⟨.none, he⟩, hit, Nat.succ_ne_self _⟩, fun b hb => ?_, q⟩
    have e' : b = s1.heap.objs.size + 1 ∨ b = s1.heap.objs.size := by simpa using hb
    have hle : s1.heap.objs.size ≤ b := by
      rcases e' with z | z
      · rw [z]; exact Nat.le_add_right _ _
      · rw [z]; exact Nat.le_refl _
    exact I1.fpOk hle (I1.hok.fresh hle)
def iEnumS (K : PySem.W.Frag) (ta : TA) : TI := fun σ H R => iEnum K ta σ H R ∨ iEnumT K ta σ H R
theorem pi_enumS {X : Cx} {e : Expr} {ta : TA} {p pos tpos : Pos} {elts : List Expr} {kk : Nat} (hg : Gl X "enumerate") (hm : X.mg "enumerate" = none) (ha : PA X [e] ta) (hs : starEach [e] X.env = [(false, eval e X.env)] := by rfl) :
    PI X (.Tuple elts kk tpos) (.Call (.Name "enumerate" p) [e] [] pos) (iEnumS X.K ta) := by
  refine ⟨fun pins s σ H R I h => ?_⟩
  rcases h with h | h
  · exact (pi_enum hg hm ha hs).run pins s σ H R I h
  · exact (pi_enumT hg hm ha hs).run pins s σ H R I h
section
variable {K : PySem.W.Frag} {a : Addr} {xs : List V}
theorem walk_enumT : Walk (IteT K a) xs.length (fun H => SqT K H a xs) (YPair (fun i => some (.int (i : Nat))) (fun i => xs[i]?)) := by
  refine ⟨fun i _ hi q => ⟨xs, xs[i], q, by simp [hi]⟩, fun _ q => ⟨xs, q, Nat.le_refl _⟩, fun i H v H' _ q y => ?_⟩
  obtain ⟨T, x, h1, h2, h3, h4⟩ := y
  exact ⟨T, .int (i : Nat), x, h1, h2, h3, rfl, h4 xs q⟩
/-- for i, x in enumerate(xs) with two names as the target: the pair is a new tuple that nobody keeps -/
theorem for_enum {tb : TS} {D : Ends} {σ : L2.St} {H : Hp} {p q : Nat} {ta : TA} (ea : ∀ R : List V → Hp → Prop, R [.ref a] H → ta σ H R) (hx : SqL K H a xs ∨ SqT K H a xs) (Pv : Nat → L2.St → Hp → Prop) (h0 : Pv 0 σ H)
    (hG : ∀ i σ H', i ≤ xs.length → Pv i σ H' → Ex H H')
    (hs : ∀ i x σ H' T, xs[i]? = some x → Pv i σ H' → H' T = none → tb { D with nx := Pv (i + 1), ct := Pv (i + 1), bk := D.nx } ((σ.set p (some (.int (i : Int)))).set q (some x)) (upd H' T (.tup [.int (i : Int), x]))) (hd : ∀ σ H, Pv xs.length σ H → D.nx σ H) :
    tFor (iEnumS K ta) (gTup K 2 (gCons (gName p) (gCons (gName q) gNil))) tb D σ H := by
  have turn : ∀ i v σ' H1 H2, i < xs.length → Pv i σ' H1 → YPair (fun i => some (V.int (i : Nat))) (fun i => xs[i]?) i H1 v H2 → gTup K 2 (gCons (gName p) (gCons (gName q) gNil)) v σ' H2 fun σ2 H3 => tb { D with nx := Pv (i + 1), ct := Pv (i + 1), bk := D.nx } σ2 H3 := by
    rintro i v σ' H1 H2 hi pv ⟨T, u, x, rfl, hT, rfl, h1, h2⟩
    cases Option.some.inj h1
    exact ⟨T, _, rfl, SqT.of upd_same, rfl, _, _, rfl, _, _, rfl, rfl, hs i x σ' H1 T h2 pv hT⟩
  rcases hx with hx | hx
  · exact .inl (ea _ ⟨a, xs, rfl, hx, for_it walk_enum Pv h0 (fun i σ' H' hi pv => ex_l (hG i σ' H' hi pv) hx) turn hd⟩)
  · exact .inr (ea _ ⟨a, xs, rfl, hx, for_it walk_enumT Pv h0 (fun i σ' H' hi pv => ex_t (hG i σ' H' hi pv) hx) turn hd⟩)
end
end L2.U


set_option Elab.async false
set_option linter.all false
set_option maxRecDepth 100000
set_option maxHeartbeats 4000000
namespace L2.U
open PySem PySem.Spec PyProof.Rows Evl
/-! ### min of a list or a tuple of ints -/
section
variable {prog : Program} {w : World} {A : Around} {E : Value → Shared → Prop} {s : Shared} {l : Addr} {xs : Array (Int × Tok)}
theorem iter_intTup {Q : Value → Shared → Prop} (hl : s.heap.IsTuple l (intItems xs))
    (h : ∀ s₂ : Shared, s₂ = { s with heap := s.heap.push { cls := .type "tuple_iterator", data := .fields #[.ref l, .int 0 0] } } →
      (s₂.heap.IsTupleIter s.heap.objs.size l 0 ∧ s₂.heap.IsTuple l (intItems xs)) → (∀ b ∈ [s.heap.objs.size, l], b < s₂.heap.objs.size) → l ≠ s.heap.objs.size → Q (.ref s.heap.objs.size) s₂) :
    wpAny (model prog w) A (pyIter (.ref l)) Q E s := by
  have hlt : l < s.heap.objs.size := by obtain ⟨_, e, _⟩ := hl; exact Heap.lt_size e
  refine wpAny_pyIter_tuple hl (h _ rfl ⟨⟨_, Heap.get?_push_size _ rfl, rfl, rfl⟩, hl.push _⟩ (fun b hb => ?_) (Nat.ne_of_lt hlt))
  show b < (s.heap.push _).objs.size
  rw [Heap.size_push]
  rcases List.mem_cons.mp hb with rfl | hb
  · exact Nat.lt_succ_self _
  · rcases List.mem_cons.mp hb with rfl | hb
    · exact Nat.lt_succ_of_lt hlt
    · cases hb
theorem old_keptT {h' : Heap} (hk : ∀ b o, b ∉ [s.heap.objs.size] → (s.heap.push { cls := .type "tuple_iterator", data := .fields #[.ref l, .int 0 0] }).get? b = some o → h'.get? b = some o) :
    ∀ b o, s.heap.get? b = some o → h'.get? b = some o := fun b o e => by
  refine hk b o (fun hm => ?_) (Heap.get?_push_of_some _ e)
  rcases List.mem_cons.mp hm with e1 | hm
  · exact absurd (e1 ▸ Heap.lt_size e) (Nat.lt_irrefl _)
  · cases hm
theorem min_intTup {Q : Value → Shared → Prop} (hh : A.handled = none) (hl : s.heap.IsTuple l (intItems xs)) (hne : 0 < xs.size)
    (h : ∀ v h' tk, (intItems xs)[argBest (fun i j => decide (numAt xs i < numAt xs j)) (xs.size - 1)]? = some v → (∀ b o, s.heap.get? b = some o → h'.get? b = some o) → Q v { s with heap := h', toks := tk }) :
    wpAny (model prog w) A (call (.builtin "min") [.ref l]) Q E s := by
  refine call_min_walk (iter_intTup hl fun s₂ e st hfp hlI => ?_)
  subst e
  refine ⟨_, _, _, _, _, _, _, rfl, Walks.tuple (A := A.in1) hh _ l hlI (intItems xs), st, hfp, by simpa [intItems] using hne, CmpOf.ints_lt (numAt xs) (fun _ _ => intItems_at), fun v h' tk hP hk => ?_⟩
  exact h v h' tk (by simpa [intItems] using hP) (old_keptT hk)
theorem min_rawT {its : List Value} {ns : List Int} {Q : Value → Shared → Prop} (hh : A.handled = none) (hl : s.heap.IsTuple l its.toArray) (hi : IntsAre its ns) (hne : 0 < ns.length)
    (h : ∀ h' tk M t', (∀ b o, s.heap.get? b = some o → h'.get? b = some o) → M ∈ ns → (∀ a, a ∈ ns → M ≤ a) → Q (.int M t') { s with heap := h', toks := tk }) : wpAny (model prog w) A (call (.builtin "min") [.ref l]) Q E s := by
  obtain ⟨xs, e⟩ := hi.allInts.items
  have hn : numsOf (intItems xs).toList = ns := by rw [← e]; exact hi.numsOf
  rw [nums_intItems] at hn
  subst hn
  rw [e] at hl
  have hsz : 0 < xs.size := by simpa using hne
  refine min_intTup hh hl hsz fun v h' tk hv hk => ?_
  obtain ⟨t, rfl⟩ := intItems_at hv
  obtain ⟨h1, h2⟩ := argBest_lt (numAt xs) (xs.size - 1)
  refine h h' tk _ t hk ?_ fun a ha => ?_
  · rw [numAt_eq]; exact PySem.getD_mem (by rw [List.length_map, Array.length_toList]; omega)
  · obtain ⟨j, hj, rfl⟩ := mem_getD ha
    rw [List.length_map, Array.length_toList] at hj
    rw [← numAt_eq]; exact h2 j (by omega)
end
section
variable {X : Cx}
def rMinS (K : PySem.W.Frag) : List V → Hp → VK → Prop := fun vs H Q => ∃ (a : Addr) (ns : List Int), vs = [V.ref a] ∧ (SqL K H a (ns.map V.int) ∨ SqT K H a (ns.map V.int)) ∧ 0 < ns.length ∧ ∀ m, m ∈ ns → (∀ y, y ∈ ns → m ≤ y) → Q (.int m) H
theorem cr_minS (hc : X.calm = true) : CallR X (.builtin "min") (rMinS X.K) := by
  intro pins s σ H vs us Q I r h
  obtain ⟨a, ns, e, hs | hs, hne, q⟩ := h
  · exact cr_min hc pins s σ H vs us Q I r ⟨a, ns, e, hs, hne, q⟩
  · subst e
    obtain ⟨its, rv, hl, _⟩ := I.tuple hs
    rw [Vals.ref1 r]
    exact min_rawT (I.ok.hd hc) (show s.heap.IsTuple a its.toArray from hl) rv.ints hne fun h' tk m t' hk h1 h2 => ⟨.int _, H, I.kept hk, ⟨_, rfl⟩, q m h1 h2⟩
theorem kminS (K : PySem.W.Frag) (hc : X.calm = true) (h : X.K = K := by rfl) : CallR X (.builtin "min") (rMinS K) := by subst h; exact cr_minS hc
end
end L2.U


set_option Elab.async false
set_option linter.all false
set_option maxRecDepth 100000
set_option maxHeartbeats 4000000
namespace HT
open PySem PySem.Spec PyProof.Rows
variable {prog : Program} {w : World} {A : Around} {E : Value → Shared → Prop} {s : Shared}
theorem adjust_rev (n : Nat) : Builtin.Slice.sliceAdjust none none (-1) (n : Int) = ((n : Int) - 1, -1) := by
  unfold Builtin.Slice.sliceAdjust
  simp
theorem places_rev (n : Nat) : Builtin.Slice.slicePlaces ((n : Int) - 1) (-1) (-1) = n := by
  unfold Builtin.Slice.slicePlaces
  have h1 : ¬ ((-1 : Int) > 0) := by omega
  simp only [h1, if_false]
  rw [show (- (-1 : Int)) = 1 from rfl]
  simp only [Int.ediv_one]
  split <;> omega
theorem fm_congr {α β : Type} {f g : α → Option β} : ∀ (l : List α), (∀ a ∈ l, f a = g a) → l.filterMap f = l.filterMap g
  | [], _ => rfl
  | a :: r, h => by
    rw [List.filterMap_cons, List.filterMap_cons, h a (by simp), fm_congr r fun b hb => h b (List.mem_cons_of_mem _ hb)]
theorem pick_rev (xs : Array Value) : ((List.range xs.size).filterMap fun (m : Nat) => xs[(((xs.size : Nat) : Int) - 1 + (m : Int) * (-1)).toNat]?).toArray = xs.toList.reverse.toArray := by
  congr 1
  apply List.ext_getElem?
  intro i
  have e : (List.range xs.size).filterMap (fun (m : Nat) => xs[(((xs.size : Nat) : Int) - 1 + (m : Int) * (-1)).toNat]?) = (List.range xs.size).filterMap (fun m => xs.toList.reverse[m]?) := by
    apply fm_congr
    intro m hm
    have hm' := List.mem_range.mp hm
    rw [List.getElem?_reverse (by rw [Array.length_toList]; exact hm'), Array.length_toList, Array.getElem?_toList]
    congr 1
    omega
  rw [e]
  have all : (List.range xs.toList.reverse.length).filterMap (fun m => xs.toList.reverse[m]?) = xs.toList.reverse := by
    generalize xs.toList.reverse = l
    induction l with
    | nil => rfl
    | cons a r ih =>
      rw [List.length_cons, List.range_succ_eq_map, List.filterMap_cons]
      show a :: _ = _
      rw [List.filterMap_map]
      exact congrArg (a :: ·) ih
  rw [List.length_reverse, Array.length_toList] at all
  rw [all]
theorem sliceApplied_rev {sl : Addr} {vs : Value} {n : Nat} {Q : Int × Int × Nat → Shared → Prop} (hs : s.heap.IsSliceOf sl .none .none vs) (ps : IsPart vs (some (-1)))
    (h : Q ((n : Int) - 1, -1, n) s) : wpAny (model prog w) A (Builtin.Slice.sliceApplied (.ref sl) (pure (n : Int))) Q E s := by
  obtain ⟨os, hos, hcs, hds⟩ := id hs
  unfold Builtin.Slice.sliceApplied Builtin.Slice.sliceFields
  refine wpAny_bind (wpAny_bind (wpAny_field hos hds (x := .none) rfl (wpAny_bind (wpAny_field hos hds (x := .none) rfl (wpAny_bind (wpAny_field hos hds (x := vs) rfl (wpAny_pure ?_)))))))
  refine wpAny_bind (slicePart_ ps ?_)
  show wpAny _ _ (if ((-1 : Int) == 0) = true then _ else _) _ _ s
  rw [if_neg (by decide)]
  refine wpAny_bind (slicePart_none (wpAny_bind (slicePart_none (wpAny_bind (wpAny_pure ?_)))))
  show wpAny _ _ (match Builtin.Slice.sliceAdjust none none (-1) (n : Int) with | (lo, hi) => pure (lo, (-1 : Int), Builtin.Slice.slicePlaces lo hi (-1))) _ _ s
  rw [adjust_rev]
  show wpAny _ _ (pure ((n : Int) - 1, (-1 : Int), Builtin.Slice.slicePlaces ((n : Int) - 1) (-1) (-1))) _ _ s
  rw [places_rev]
  exact wpAny_pure h
theorem getItem_tuple_rev {t sl : Addr} {items : Array Value} {vs : Value} {Q : Value → Shared → Prop} (ht : IsTup s.heap t items) (hs : s.heap.IsSliceOf sl .none .none vs) (ps : IsPart vs (some (-1)))
    (h : Q (.ref s.heap.objs.size) { s with heap := s.heap.push { cls := .type "tuple", data := .seq items.toList.reverse.toArray } })
    (hsz : items.size ≤ sizeLine) : wpAny (model prog w) A (getItem (.ref t) (.ref sl)) Q E s := by
  have htake : sizeOk (.seq items.toList.reverse.toArray) := by
    show items.toList.reverse.toArray.size ≤ sizeLine
    rw [List.size_toArray, List.length_reverse, Array.length_toList]
    exact hsz
  obtain ⟨os, hos, hcs, hds⟩ := id hs
  have hTs : s.TypeIs (.ref sl) "slice" := ⟨os, hos, hcs⟩
  unfold getItem
  try with_reducible refine wpAny_holding ?_
  first | refine wpAny_bind (wpAny_pure ?_) | skip
  refine wpAny_bind (wpAny_sequenceKey ht.typeIs (by decide) ?_)
  refine wpAny_bind (wpAny_callSpecial?_slot (name := Str.ofString "__getitem__") ht.typeIs PyProof.Rows.slot_tuple_getitem
    (wpAny_call_entry PyProof.Rows.slot_tuple_getitem ht.typeIs entry_tuple_getitem ?_ (args_tuple_getitem _ _)))
  show wpAny _ _ (Builtin.Tuple.tupleItemsOf (.ref t) >>= _) _ _ s
  refine wpAny_bind (tupleItemsOf_ ht ?_)
  refine wpAny_bind (wpAny_typeOf hTs ?_)
  rw [if_pos (by decide)]
  refine wpAny_bind (sliceApplied_rev hs ps ?_)
  have hno : ¬ ((((items.size : Nat) : Int) - 1 == 0 && (-1 : Int) == 1 && items.size == items.size) = true) := by
    intro q
    rw [Bool.and_eq_true, Bool.and_eq_true] at q
    exact absurd q.1.2 (by decide)
  show wpAny _ _ (if (((items.size : Nat) : Int) - 1 == 0 && (-1 : Int) == 1 && items.size == items.size) = true then _ else _) _ _ s
  rw [if_neg hno, pick_rev]
  first
    | exact wpAny_bind (m := Builtin.Tuple.tupleExact _) (wpAny_newObj_type (wpAny_pure ⟨_, rfl, wpAny_pure h⟩) htake)
    | exact wpAny_bind (m := Builtin.Tuple.tupleExact _) (wpAny_newObj_type (wpAny_bind (wpAny_pure (wpAny_pure ⟨_, rfl, wpAny_pure h⟩))) htake)
    | exact wpAny_bind (wpAny_bind (m := Builtin.Tuple.tupleExact _) (wpAny_newObj_type (wpAny_pure (wpAny_pure ⟨_, rfl, wpAny_pure h⟩)) htake))
    | exact wpAny_bind (wpAny_bind (m := Builtin.Tuple.tupleExact _) (wpAny_newObj_type (wpAny_pure ⟨_, rfl, wpAny_pure h⟩) htake))
end HT
namespace L2
open PySem PySem.Spec PyProof.Rows
section
variable {X : Cx}
/-- xs[::-1], of a list or a tuple -/
def tRevS (K : PySem.W.Frag) (te : TE) : TE := fun σ H Q => te σ H fun x H1 => ∃ a xs, x = .ref a ∧ ((SqL K H1 a xs ∧ ∀ p, H1 p = none → Q (.ref p) (upd H1 p (.lst xs.reverse))) ∨ (SqT K H1 a xs ∧ ∀ p, H1 p = none → Q (.ref p) (upd H1 p (.tup xs.reverse))))
theorem pe_revS {e : Expr} {te : TE} {k : Nat} {p1 p2 p3 pos : Pos} (he : PE X e te) : PE X (.Subscript e (.Slice none none (some (.UnaryOp .USub (.Constant (.int 1) k p1) p2)) p3) pos) (tRevS X.K te) := by
  refine ⟨fun pins s σ H Q I h => ?_⟩
  refine Subscript_ (thn (he.run pins s σ H _ I h) fun v s1 ⟨x, H1, I1, r1, q1⟩ => ?_)
  obtain ⟨a, xs, ex, hx⟩ := q1
  subst ex
  cases r1
  have hst : PO X (some (.UnaryOp .USub (.Constant (.int 1) k p1) p2)) (tPart (tUn (rU fun i => .int (-i)) (tC (.int 1)))) := po_some (pe_un un_neg pe_int)
  refine wpAny_Slice (thn (po_none.run pins s1 σ H1 (fun o H2 => o = none ∧ H2 = H1) I1 ⟨rfl, rfl⟩) fun vl s2 ⟨l, H2, I2, pl, el, e2⟩ => ?_)
  subst el e2
  refine thn (po_none.run pins s2 σ H2 (fun o H3 => o = none ∧ H3 = H2) I2 ⟨rfl, rfl⟩) fun vu s3 ⟨u, H3, I3, pu, eu, e3⟩ => ?_
  subst eu e3
  refine thn (hst.run pins s3 σ H3 (fun o H4 => o = some (-1) ∧ H4 = H3) I3 ⟨1, rfl, -1, rfl, rfl, rfl⟩) fun vs s4 ⟨o, H4, I4, ps, eo, e4⟩ => ?_
  subst eo e4
  have I5 : Inv X pins σ H4 { s4 with heap := s4.heap.push { cls := .type "slice", data := .fields #[vl, vu, vs] } } := I4.kept (t' := s4.toks) fun b ob q => Heap.get?_push_of_some _ q
  show wpAny (model X.prog X.w) X.A (subscriptTail e (.Slice none none (some (.UnaryOp .USub (.Constant (.int 1) k p1) p2)) p3) (.ref a) (.ref s4.heap.objs.size)) (EP X pins σ Q) X.xe { s4 with heap := s4.heap.push { cls := .type "slice", data := .fields #[vl, vu, vs] } }
  rcases hx with ⟨hx, q⟩ | ⟨hx, q⟩
  · obtain ⟨its, r, ht, hz⟩ := I5.list hx
    have hlen := r.length
    refine tail_any (ops := [.ref a, .ref s4.heap.objs.size]) ht.isList.typeIs (PySem.slot_list_getitem.lookup) ?_ (by with_unfolding_all rfl)
    refine wpAny_getItem_list_slice ht.isList (Heap.IsSliceOf.new _ vl vu vs) pl pu ps (by decide) ?_ (by rw [List.size_toArray]; omega)
    rw [PySem.W.krv_pick]
    refine ⟨.ref _, _, I5.laid (t' := s4.toks) (o := .lst xs.reverse) (fun b ob q => Heap.get?_push_of_some _ q) (Nat.le_refl _) ?_, rfl, q _ (I5.hok.fresh (Nat.le_refl _))⟩
    exact ⟨by rw [List.length_reverse]; exact hz, _, 0, r.reverse, Heap.get?_push_size _ rfl⟩
  · obtain ⟨its, r, ht, hz⟩ := I5.tuple hx
    have hlen := r.length
    cases pl
    cases pu
    refine tail_any (ops := [.ref a, .ref s4.heap.objs.size]) ht.typeIs (PyProof.Rows.slot_tuple_getitem.lookup) ?_ (by with_unfolding_all rfl)
    refine HT.getItem_tuple_rev ht (Heap.IsSliceOf.new _ .none .none vs) ps ?_ (by rw [List.size_toArray]; omega)
    refine ⟨.ref _, _, I5.laid (t' := s4.toks) (o := .tup xs.reverse) (fun b ob q => Heap.get?_push_of_some _ q) (Nat.le_refl _) ?_, rfl, q _ (I5.hok.fresh (Nat.le_refl _))⟩
    exact ⟨by rw [List.length_reverse]; exact hz, _, r.reverse, IsTup.new _ _⟩
end
end L2


set_option Elab.async false
set_option linter.all false
set_option maxRecDepth 100000
set_option maxHeartbeats 4000000
namespace L2.U
open PySem PySem.Spec PyProof.Rows Evl
/-! ## methods: with arguments by position or by name; they may raise -/
structure MethAt (K : PySem.W.Frag) (C : Addr) (m q : Str) (st : Stmt) (ps : List Str) where
  a : Addr
  fd : FuncData
  F : Fun K m q st a fd
  b : Binds K fd ps []
  M : Meth K C m a
def tMX (C : Addr) (m : Str) (sp : Sp) (E : St → XK) (ta : TE) (t : TA) : TE := fun σ H Q => ta σ H fun x H1 => ∃ a dx fs, x = .ref a ∧ H1 a = some (.ins C dx fs) ∧ fs.lookup m = none ∧ t σ H1 fun vs H2 => sp (x :: vs) H2 Q (E σ)
def tMKw (C : Addr) (m : Str) (sp : Sp) (pm : List V → List V → List V) (E : St → XK) (ta : TE) (t : TA) : TE := fun σ H Q => ta σ H fun x H1 => ∃ a dx fs, x = .ref a ∧ H1 a = some (.ins C dx fs) ∧ fs.lookup m = none ∧
  t σ H1 fun zs H2 => sp (pm [x] zs) H2 Q (E σ)
section
variable {X : Cx} {CX : CXT} {k : Nat} {f C : Addr} {fd : FuncData} {ps ks : List Str} {sp : Sp} {E : St → XK} {m : Str} {pos apos : Pos} {e o : Expr} {es : List Expr} {kws : List Keyword} {ta : TE} {t tk : TA}
  {g : List Value → List Value → List Value} {gV : List V → List V → List V}
theorem pe_mX {pl : Sem Bool} (he : PE X o ta) (c : Cls X.K C) (hm : Meth X.K C m f) (F : FnOk X.prog X.w X.K X.mg X.base CX k f fd ps sp) (hr : Room k X.A) (hb : Binds X.K fd ps []) (hx : ∀ σ, PassesAt CX X σ (E σ)) (ha : PA X (e :: es) t)
    (hst : starEach (e :: es) X.env = (false, eval e X.env) :: starEach es X.env := by rfl) (hpl : (backTo pos (starEach es X.env)).any (·.1) = false := by rfl)
    (ht : eval (.Call (.Attribute o m apos) (e :: es) [] pos) X.env = (do
      let ov ← eval o X.env; standAt apos.atName; let (f, first) ← holding [ov] (getMethod ov m pl)
      callWith pos f first (backTo pos (starEach (e :: es) X.env)) (backToKw pos (keywordEach [] X.env))) := by rfl) :
    PE X (.Call (.Attribute o m apos) (e :: es) [] pos) (tMX C m sp E ta t) := by
  constructor
  intro pins s σ H Q I h
  refine PySem.W.methodCall_KW (pl := pl) (thn (he.run pins s σ H _ I h) ?_) ht
  rintro u s1 ⟨x, H1, I1, rx, a, dx, fs, rfl, ea, l, q⟩
  obtain rfl : u = Value.ref a := rx
  refine getmeth_ok I1 ea c hm l (PySem.W.callWith_K (first := [.ref a]) (h₀ := X.base) I.ok.mod.kin hm.kp (thn (ha.run pos pins s1 σ H1 _ I1 q) ?_) hst hpl)
  rintro us s2 ⟨vs, H2, I2, r, q2⟩
  exact ⟨I2.kIn, run_fnS (us := .ref a :: us) (vs := .ref a :: vs) F hr hb (hx σ) I2 (.cons rfl r) q2⟩
theorem pe_mX0 {pl : Sem Bool} (he : PE X o ta) (c : Cls X.K C) (hm : Meth X.K C m f) (F : FnOk X.prog X.w X.K X.mg X.base CX k f fd ps sp) (hr : Room k X.A) (hb : Binds X.K fd ps []) (hx : ∀ σ, PassesAt CX X σ (E σ))
    (ht : eval (.Call (.Attribute o m apos) [] [] pos) X.env = (do
      let ov ← eval o X.env; standAt apos.atName; let (f, first) ← holding [ov] (getMethod ov m pl)
      callWith pos f first (backTo pos (starEach [] X.env)) (backToKw pos (keywordEach [] X.env))) := by rfl) :
    PE X (.Call (.Attribute o m apos) [] [] pos) (tMX C m sp E ta tNil) := by
  constructor
  intro pins s σ H Q I h
  refine PySem.W.methodCall_KW (pl := pl) (thn (he.run pins s σ H _ I h) ?_) ht
  rintro u s1 ⟨x, H1, I1, rx, a, dx, fs, rfl, ea, l, q⟩
  obtain rfl : u = Value.ref a := rx
  exact getmeth_ok I1 ea c hm l (PySem.W.callWith_K0 (first := [.ref a]) I1.kIn hm.kp (run_fnS (us := [.ref a]) (vs := [.ref a]) F hr hb (hx σ) I1 (.cons rfl .nil) q))
theorem pe_mKw {pl : Sem Bool} (he : PE X o ta) (c : Cls X.K C) (hm : Meth X.K C m f) (F : FnOk X.prog X.w X.K X.mg X.base CX k f fd ps sp) (hr : Room k X.A) (hb : KBinds X.K fd ps ks g gV) (hx : ∀ σ, PassesAt CX X σ (E σ)) (hkw : PK X kws tk)
    (hall : (backToKw pos (keywordEach kws X.env)).all (·.1.isSome) = true := by rfl) (hks : (backToKw pos (keywordEach kws X.env)).filterMap (·.1) = ks := by rfl)
    (hpl : ((backTo pos (starEach [] X.env)).any (·.1) || (backToKw pos (keywordEach kws X.env)).any (·.1.isNone)) = false := by rfl)
    (ht : eval (.Call (.Attribute o m apos) [] kws pos) X.env = (do
      let ov ← eval o X.env; standAt apos.atName; let (f, first) ← holding [ov] (getMethod ov m pl)
      callWith pos f first (backTo pos (starEach [] X.env)) (backToKw pos (keywordEach kws X.env))) := by rfl) :
    PE X (.Call (.Attribute o m apos) [] kws pos) (tMKw C m sp gV E ta tk) := by
  constructor
  intro pins s σ H Q I h
  refine PySem.W.methodCall_KW (pl := pl) (thn (he.run pins s σ H _ I h) ?_) ht
  rintro u s1 ⟨x, H1, I1, rx, a, dx, fs, rfl, ea, l, q⟩
  obtain rfl : u = Value.ref a := rx
  refine getmeth_ok I1 ea c hm l (PySem.W.callWith_KW0 (first := [.ref a]) (h₀ := X.base) I.ok.mod.kin hm.kp hall (thn (hkw.run pos pins s1 σ H1 _ I1 q) ?_) hpl)
  rintro ws s2 ⟨zs, H2, I2, rz, q2⟩
  refine ⟨I2.kIn, ?_⟩
  rw [hks]
  have r2 : Vals (gV [.ref a] zs) (g [.ref a] ws) := hb.rel (.cons rfl .nil) rz
  have hl : (g [.ref a] ws).length = ps.length := by rw [← r2.length]; exact F.len _ _ _ _ q2
  refine wpAny_call (codeAny_mono (F.run X.A X.stack s2 H2 ⟨[.ref a], ks.zip ws⟩ (g [.ref a] ws) (gV [.ref a] zs) Q (E σ) hr I2.env0 (hb.to s2 [.ref a] ws I2.kIn hl) r2 q2) ?_)
  intro r s' hq
  cases r with
  | error e => exact hx σ pins H2 s2 e s' I2 hq
  | ok fl => cases fl with
    | ret u => exact I2.after hq
    | next => exact False.elim hq
    | brk => exact False.elim hq
    | cont => exact False.elim hq
theorem passLAt {X : Cx} {σ : St} : PassesAt (L2.CX X.prog X.w) X σ E0 := fun pins H s e s' I c => passL pins σ H s e s' I c
end
/-! ## a range that stands in a name, walked -/
def iRngV (tl : TE) : TI := fun σ H R => tl σ H fun x H1 => ∃ (a : Addr) (lo hi : Int), x = .ref a ∧ H1 a = some (.rng lo hi) ∧ (-(2 ^ 62) ≤ lo ∧ lo < 2 ^ 62 ∧ -(2 ^ 62) ≤ hi ∧ hi < 2 ^ 62) ∧ R (Itr lo (hi - lo).toNat) H1
theorem pi_rngv {X : Cx} {tg l : Expr} {tl : TE} (hl : PE X l tl) : PI X tg l (iRngV tl) := by
  constructor
  intro pins s σ H R I h
  refine thn (hl.run pins s σ H _ I h) ?_
  rintro v s1 ⟨x, H1, I1, rx, a, lo, hi, rfl, ea, ⟨h1, h2, h3, h4⟩, q⟩
  obtain rfl : v = Value.ref a := rx
  obtain ⟨t, u, w, ho⟩ := (show ∃ t u v, s1.heap.get? a = some { cls := .type "range", data := .fields #[.int lo t, .int hi u, .int 1 v] } from I1.hok a _ ea)
  refine wpAny_pyIter_range (show IsRange s1.heap a lo hi 1 t u w from ho) (small_one h1 h2 h3 h4) ?_
  refine ⟨s1.heap.objs.size, [s1.heap.objs.size], _, _, H1, rfl, I1.kept (t' := s1.toks) fun b o e => Heap.get?_push_of_some _ e, turn_range _ lo (hi - lo).toNat, ?_, ?_, q⟩
  · have e1 : lo + ((0 : Nat) : Int) * 1 = lo := by simp
    have e2 : (((hi - lo).toNat : Nat) : Int) - ((0 : Nat) : Int) = Builtin.Range.rangeSize lo hi 1 := by
      rw [rangeSize_one]; split <;> omega
    show IsRangeIter _ _ (lo + ((0 : Nat) : Int) * 1) ((((hi - lo).toNat : Nat) : Int) - ((0 : Nat) : Int)) 1
    rw [e1, e2]
    exact Heap.get?_push_size _ rfl
  · intro b hb
    obtain rfl : b = s1.heap.objs.size := by simpa using hb
    exact I1.fpOk (Nat.le_refl _) (I1.hok.fresh (Nat.le_refl _))
/-- x in ints -/
theorem inV_ints {i : Int} {ns : List Int} : inV (.int i) (ns.map V.int) = decide (i ∈ ns) := by
  unfold inV
  induction ns with
  | nil => rfl
  | cons n r ih =>
    rw [List.map_cons, List.any_cons, ih]
    have e : eqV (.int n) (.int i) = decide (i = n) := by
      show (n == i) = decide (i = n)
      rw [Bool.beq_eq_decide_eq]
      exact decide_eq_decide.mpr eq_comm
    rw [e]
    by_cases c : i = n <;> simp [c]
theorem flat_ints {ns : List Int} : (ns.map V.int).all flatV = true := by
  rw [List.all_map, List.all_eq_true]
  intro x _
  rfl
end L2.U


set_option Elab.async false
set_option linter.all false
set_option maxRecDepth 100000
set_option maxHeartbeats 4000000
namespace L2.U
open PySem PySem.Spec PyProof.Rows Evl
/-! ## C(..): an __init__ that may raise -/
def tMakeX (C : Addr) (sp : Sp) (E : St → XK) (t : TA) : TE := fun σ H Q => t σ H fun vs H1 => ∀ x dx, H1 x = none → H1 dx = none → dx ≠ x →
  sp (.ref x :: vs) (upd (upd H1 dx (.own x)) x (.ins C dx [])) (fun v H2 => v = .non ∧ Q (.ref x) H2) (E σ)
def tMakeKX (C : Addr) (m : Nat) (sp : Sp) (gV : List V → List V → List V) (E : St → XK) (tk : TA) : TE := fun σ H Q => tk σ H fun zs H2 => zs.length = m ∧ ∀ x dx, H2 x = none → H2 dx = none → dx ≠ x →
  sp (gV [.ref x] zs) (upd (upd H2 dx (.own x)) x (.ins C dx [])) (fun v H3 => v = .non ∧ Q (.ref x) H3) (E σ)
section
variable {X : Cx} {CX : CXT} {k : Nat} {f C : Addr} {fd : FuncData} {ps ks : List Str} {sp : Sp} {E : St → XK} {x : Str} {p pos : Pos} {e : Expr} {es : List Expr} {kws : List Keyword} {t tk : TA} {g : List Value → List Value → List Value} {gV : List V → List V → List V}
theorem run_makeX {pins : List (Addr × Obj)} {σ : St} {H : Hp} {s : Shared} {Q : VK} {us : List Value} {vs : List V} (M : Mk X.K C f) (F : FnOk X.prog X.w X.K X.mg X.base CX k f fd ps sp) (hr : Room (k + 1) X.A) (hb : Binds X.K fd ps [])
    (hx : PassesAt CX X σ (E σ)) (I : Inv X pins σ H s) (r : Vals vs us)
    (h : ∀ x dx, H x = none → H dx = none → dx ≠ x → sp (.ref x :: vs) (upd (upd H dx (.own x)) x (.ins C dx [])) (fun v H2 => v = .non ∧ Q (.ref x) H2) (E σ)) :
    wpAny (model X.prog X.w) X.A (call (.ref C) us) (EP X pins σ Q) X.xe s := by
  have hq := h (s.heap.objs.size + 1) s.heap.objs.size (I.hok.fresh (Nat.le_succ _)) (I.hok.fresh (Nat.le_refl _)) (Nat.ne_of_lt (Nat.lt_succ_self _))
  have I2 := Inv.made (C := C) I
  have r2 : Vals (V.ref (s.heap.objs.size + 1) :: vs) (Value.ref (s.heap.objs.size + 1) :: us ++ []) := by rw [List.append_nil]; exact .cons rfl r
  have hl : (Value.ref (s.heap.objs.size + 1) :: us ++ []).length = ps.length := by
    have e := r2.length
    rw [F.len _ _ _ _ hq] at e
    exact e.symm
  refine wpAny_call (make_map (f := f) I.kIn M.makes M.init (beq_iff_eq.mp M.fn) (codeAny_mono (F.run _ X.stack _ _ ⟨Value.ref (s.heap.objs.size + 1) :: us, []⟩ (Value.ref (s.heap.objs.size + 1) :: us ++ []) _ _ (E σ) (hr.make C us [])
    (I2.env0.make C us []) (hb _ (Value.ref (s.heap.objs.size + 1) :: us) I2.kIn hl) r2 hq) fun r s' hq' => ?_))
  cases r with
  | error e => exact hx pins _ _ e s' I2 hq'
  | ok fl =>
    cases fl with
    | ret u =>
      obtain ⟨v, H', I3, rv, ev, q3⟩ := I2.after hq'
      subst ev
      exact ⟨rv, ⟨V.ref (s.heap.objs.size + 1), H', I3, rfl, q3⟩⟩
    | next => exact False.elim hq'
    | brk => exact False.elim hq'
    | cont => exact False.elim hq'
theorem pe_makeX (M : Mk X.K C f) (F : FnOk X.prog X.w X.K X.mg X.base CX k f fd ps sp) (hr : Room (k + 1) X.A) (hg : Gl X x) (hm : X.mg x = some (.ref C)) (hb : Binds X.K fd ps []) (hx : ∀ σ, PassesAt CX X σ (E σ))
    (ha : PA X (e :: es) t) (hdb : (x == ("__debug__" : Str)) = false := by decide) (he : starEach (e :: es) X.env = (false, eval e X.env) :: starEach es X.env := by rfl) (hpl : (backTo pos (starEach es X.env)).any (·.1) = false := by rfl) :
    PE X (.Call (.Name x p) (e :: es) [] pos) (tMakeX C sp E t) := by
  refine ⟨fun pins s σ H Q I h => ?_⟩
  refine wpAny_Call_Name_kw (ld_glob I hg hm ?_ hdb)
  refine PySem.W.callWith_K (h₀ := X.base) I.ok.mod.kin M.kp (thn (ha.run pos pins s σ H _ I h) fun us s1 ⟨vs, H1, I1, r, q⟩ => ⟨I1.kIn, ?_⟩) he hpl
  exact run_makeX M F hr hb (hx σ) I1 r q
theorem run_makeKX {pins : List (Addr × Obj)} {σ : St} {H : Hp} {s : Shared} {Q : VK} {ws : List Value} {zs : List V} (M : Mk X.K C f) (F : FnOk X.prog X.w X.K X.mg X.base CX k f fd ps sp) (hr : Room (k + 1) X.A) (hb : KBn X.K fd ps 1 ks g gV)
    (hx : PassesAt CX X σ (E σ)) (I : Inv X pins σ H s) (rz : Vals zs ws) (l2 : zs.length = ks.length)
    (h : ∀ x dx, H x = none → H dx = none → dx ≠ x → sp (gV [.ref x] zs) (upd (upd H dx (.own x)) x (.ins C dx [])) (fun v H2 => v = .non ∧ Q (.ref x) H2) (E σ)) :
    wpAny (model X.prog X.w) X.A (call (.ref C) [] (ks.zip ws)) (EP X pins σ Q) X.xe s := by
  have hq := h (s.heap.objs.size + 1) s.heap.objs.size (I.hok.fresh (Nat.le_succ _)) (I.hok.fresh (Nat.le_refl _)) (Nat.ne_of_lt (Nat.lt_succ_self _))
  have I2 := Inv.made (C := C) I
  have r1 : Vals [V.ref (s.heap.objs.size + 1)] [Value.ref (s.heap.objs.size + 1)] := .cons rfl .nil
  have r2 := hb.rel r1 rz
  refine wpAny_call (make_map (f := f) I.kIn M.makes M.init (beq_iff_eq.mp M.fn) (codeAny_mono (F.run _ X.stack _ _ ⟨[Value.ref (s.heap.objs.size + 1)], ks.zip ws⟩ (g [Value.ref (s.heap.objs.size + 1)] ws) _ _ (E σ) (hr.make C [] (ks.zip ws))
    (I2.env0.make C [] (ks.zip ws)) (hb.to _ [Value.ref (s.heap.objs.size + 1)] ws I2.kIn rfl (rz.length.symm.trans l2)) r2 hq) fun r s' hq' => ?_))
  cases r with
  | error e => exact hx pins _ _ e s' I2 hq'
  | ok fl =>
    cases fl with
    | ret u =>
      obtain ⟨v, H', I3, rv, ev, q3⟩ := I2.after hq'
      subst ev
      exact ⟨rv, ⟨V.ref (s.heap.objs.size + 1), H', I3, rfl, q3⟩⟩
    | next => exact False.elim hq'
    | brk => exact False.elim hq'
    | cont => exact False.elim hq'
theorem pe_makeKX (M : Mk X.K C f) (F : FnOk X.prog X.w X.K X.mg X.base CX k f fd ps sp) (hr : Room (k + 1) X.A) (hg : Gl X x) (hm : X.mg x = some (.ref C)) (hb : KBn X.K fd ps 1 ks g gV) (hx : ∀ σ, PassesAt CX X σ (E σ)) (hkw : PK X kws tk)
    (hall : (backToKw pos (keywordEach kws X.env)).all (·.1.isSome) = true := by rfl) (hks : (backToKw pos (keywordEach kws X.env)).filterMap (·.1) = ks := by rfl) (hdb : (x == ("__debug__" : Str)) = false := by decide)
    (hpl : ((backTo pos (starEach [] X.env)).any (·.1) || (backToKw pos (keywordEach kws X.env)).any (·.1.isNone)) = false := by rfl) :
    PE X (.Call (.Name x p) [] kws pos) (tMakeKX C ks.length sp gV E tk) := by
  refine ⟨fun pins s σ H Q I h => ?_⟩
  refine wpAny_Call_Name_kw (ld_glob I hg hm ?_ hdb)
  refine PySem.W.callWith_KW0 (h₀ := X.base) I.ok.mod.kin M.kp hall ?_ hpl
  refine thn (hkw.run pos pins s σ H _ I h) fun ws s2 ⟨zs, H2, I2, rz, l2, q2⟩ => ⟨I2.kIn, ?_⟩
  rw [hks]
  exact run_makeKX M F hr hb (hx σ) I2 rz l2 q2
end
end L2.U


set_option Elab.async false
set_option linter.all false
set_option maxRecDepth 100000
set_option maxHeartbeats 4000000
namespace L2.U
open PySem PySem.Spec PyProof.Rows Evl RZ
/-! ### zip of a list, or a tuple, and a tuple -/
/-- an iterator p over what stands at l, by its place -/
structure Src (p l : Addr) (S : Heap → Nat → Prop) (xs : Array Value) : Prop where
  kept : ∀ {h h' : Heap} {i : Nat}, S h i → (∀ c o, c = p ∨ c = l → h.get? c = some o → h'.get? c = some o) → S h' i
  live : ∀ {h : Heap} {i : Nat}, S h i → ∃ o, h.get? p = some o ∧ ∃ fs, o.data = .fields fs
  item : ∀ {prog : Program} {w : World} {A : Around} {E : Value → Shared → Prop} {s : Shared} {i : Nat} {x : Value} {Q : Value → Shared → Prop}, S s.heap i → xs[i]? = some x →
    (∀ h', S h' (i + 1) → Heap.SameBut p s.heap h' → Q x { s with heap := h' }) → wpAny (model prog w) A (Builtin.SmallTypes.nextOf (.ref p)) Q E s
  fin : ∀ {prog : Program} {w : World} {A : Around} {E : Value → Shared → Prop} {s : Shared} {i : Nat} {Q : Value → Shared → Prop}, A.handled = none → S s.heap i → xs[i]? = none →
    (∀ h' e, Heap.ExtBut p s.heap h' → (∃ o, h'.get? e = some o ∧ o.cls = .type "StopIteration") → E (.ref e) { s with heap := h' }) → wpAny (model prog w) A (Builtin.SmallTypes.nextOf (.ref p)) Q E s
theorem srcL {p l : Addr} {xs : Array Value} (ne : l ≠ p) : Src p l (fun h i => h.IsListIter p l i ∧ h.IsList l xs) xs where
  kept st k := ⟨st.1.at fun o e => k p o (.inl rfl) e, st.2.elim fun o ho => ⟨o, k l o (.inr rfl) ho.1, ho.2⟩⟩
  live st := st.1.elim fun o ho => ⟨o, ho.1, _, ho.2.2⟩
  item st hx q := wpAny_nextOf_list_item st.1 st.2 hx fun h' a sb => q h' ⟨a, st.2.elim fun o ho => ⟨o, (sb.2 l ne).trans ho.1, ho.2⟩⟩ sb
  fin hh st hx q := wpAny_nextOf_list_end hh st.1 st.2 hx q
theorem srcT {p l : Addr} {xs : Array Value} (ne : l ≠ p) : Src p l (fun h i => h.IsTupleIter p l i ∧ h.IsTuple l xs) xs where
  kept st k := ⟨st.1.at fun o e => k p o (.inl rfl) e, st.2.elim fun o ho => ⟨o, k l o (.inr rfl) ho.1, ho.2⟩⟩
  live st := st.1.elim fun o ho => ⟨o, ho.1, _, ho.2.2⟩
  item st hx q := nextOf_tuple_item st.1 st.2 hx fun h' a sb => q h' ⟨a, st.2.elim fun o ho => ⟨o, (sb.2 l ne).trans ho.1, ho.2⟩⟩ sb
  fin hh st hx q := nextOf_tuple_end hh st.1 st.2 hx q
section
variable {prog : Program} {w : World} {A : Around} {E : Value → Shared → Prop} {s : Shared} {z u v p q l m : Addr} {xs ys : Array Value} {S1 S2 : Heap → Nat → Prop} {i : Nat}
/-- all but the zip, its pair and its two iterators stays -/
def Rest4 (z v p q : Addr) (h h' : Heap) : Prop := ∀ c o, c ≠ z → c ≠ v → c ≠ p → c ≠ q → h.get? c = some o → h'.get? c = some o
theorem zipS_item {x y a b : Value} {Q : Value → Shared → Prop} (D : ZipApart z u v p q l m) (s1 : Src p l S1 xs) (s2 : Src q m S2 ys) (hz : IsZip s.heap z u v .none) (hu : IsPair s.heap u (.ref p) (.ref q)) (hv : IsPair s.heap v a b)
    (h1 : S1 s.heap i) (h2 : S2 s.heap i) (hx : xs[i]? = some x) (hy : ys[i]? = some y)
    (hQ : ∀ h', IsZip h' z u v (rawInt s.heap.objs.size) → IsPair h' v x y → S1 h' (i + 1) → S2 h' (i + 1) → IsPair h' s.heap.objs.size x y → h'.objs.size = s.heap.objs.size + 1 → Rest4 z v p q s.heap h' → Q (.ref s.heap.objs.size) { s with heap := h' }) :
    wpAny (model prog w) A (Builtin.«zip.__next__» ⟨[.ref z], []⟩) (fun f t => ∃ r, f = .done (.ret r) ∧ Q r t) E s := by
  refine (show wpAny _ _ (field (.ref z) 2 >>= _) _ _ _ from wpAny_bind (wpAny_field hz rfl (x := .bool false) rfl ?_))
  refine (show wpAny _ _ (field (.ref z) 3 >>= _) _ _ _ from wpAny_bind (wpAny_field hz rfl (x := .ref u) rfl (wpAny_bind (wpAny_seqItems hu rfl ?_))))
  refine (show wpAny _ _ (Builtin.SmallTypes.ownedTupleIsFree (.ref z) >>= _) _ _ _ from wpAny_bind ?_)
  unfold Builtin.SmallTypes.ownedTupleIsFree
  refine wpAny_bind (wpAny_field hz rfl (x := .none) rfl (wpAny_pure ?_)); simp only [if_true]
  refine wpAny_bind (wpAny_rule (wpAny_bind (wpAny_field hz rfl (x := .ref v) rfl (wpAny_bind (wpAny_setField_rec hz (by simp) fun ha za ka => ?_)))))
  replace za : IsZip ha z u v .ellipsis := za
  have ea := ka.extBut
  refine wpAny_bind ?_; simp only [List.zipIdx_cons, List.zipIdx_nil, List.forIn_cons, List.forIn_nil]
  refine wpAny_bind (wpAny_bind (wpAny_onRaise (show wpAny _ _ (Builtin.SmallTypes.nextOf (.ref p) >>= _) _ _ _ from wpAny_bind (s1.item (s1.kept h1 fun c o hc e => ea c o (by rcases hc with rfl | rfl; exact D.i1z; exact D.l1z) e) hx fun hb pb kb => wpAny_pure ?_))))
  have eb := kb.extBut
  have vb : IsPair hb v a b := eb _ _ D.TOi1 (ea _ _ D.TOz hv)
  refine wpAny_bind (wpAny_seqItems vb rfl (wpAny_bind (wpAny_updateSeq_pair vb fun hc vc kc => ?_)))
  replace vc : IsPair hc v x b := vc
  have ec := kc.extBut
  refine wpAny_bind (wpAny_letGo (wpAny_pure (wpAny_bind (wpAny_bind (wpAny_onRaise ?_)))))
  refine (show wpAny _ _ (Builtin.SmallTypes.nextOf (.ref q) >>= _) _ _ _ from wpAny_bind (s2.item (s2.kept h2 fun c o hc e => ?_) hy fun hd qd kd => wpAny_pure ?_))
  · rcases hc with rfl | rfl
    · exact ec _ _ D.TOi2.symm (eb _ _ D.i12.symm (ea _ _ D.i2z e))
    · exact ec _ _ D.l2TO (eb _ _ D.l2i1 (ea _ _ D.l2z e))
  have ed := kd.extBut
  have vd : IsPair hd v x b := ed _ _ D.TOi2 vc
  refine wpAny_bind (wpAny_seqItems vd rfl (wpAny_bind (wpAny_updateSeq_pair vd fun he ve ke => ?_)))
  replace ve : IsPair he v x y := ve
  have ee := ke.extBut
  refine wpAny_bind (wpAny_letGo (wpAny_pure (wpAny_pure (wpAny_bind (wpAny_seqItems ve rfl (wpAny_bind (wpAny_newTuple ?_)))))))
  have sz : he.objs.size = s.heap.objs.size := by rw [ke.1, kd.1, kc.1, kb.1, ka.1]
  have ze : IsZip he z u v .ellipsis := ee _ _ D.TOz.symm (ed _ _ D.i2z.symm (ec _ _ D.TOz.symm (eb _ _ D.i1z.symm za)))
  have re : Rest4 z v p q s.heap he := fun c o n1 n2 n3 n4 e => ee _ _ n2 (ed _ _ n4 (ec _ _ n2 (eb _ _ n3 (ea _ _ n1 e))))
  have pe : S1 he (i + 1) := s1.kept pb fun c o hc e => ee _ _ (by rcases hc with rfl | rfl; exact D.TOi1.symm; exact D.l1TO) (ed _ _ (by rcases hc with rfl | rfl; exact D.i12; exact D.l1i2) (ec _ _ (by rcases hc with rfl | rfl; exact D.TOi1.symm; exact D.l1TO) e))
  have qe : S2 he (i + 1) := s2.kept qd fun c o hc e => ee _ _ (by rcases hc with rfl | rfl; exact D.TOi2.symm; exact D.l2TO) e
  refine (show wpAny _ _ (Builtin.SmallTypes.ownedTupleHandOut (.ref z) (.ref he.objs.size) >>= _) _ _ _ from wpAny_bind ?_)
  unfold Builtin.SmallTypes.ownedTupleHandOut
  have zf : IsZip (he.push { cls := .type "tuple", data := .seq #[x, y] }) z u v .ellipsis := Heap.get?_push_of_some _ ze
  refine wpAny_bind (wpAny_setField_rec zf (by simp) fun hg zg kg => ?_)
  replace zg : IsZip hg z u v (rawInt he.objs.size) := zg
  refine wpAny_setField_rec zg (by simp) fun hk zk kk => ?_
  replace zk : IsZip hk z u v (rawInt he.objs.size) := zk
  have far : ∀ c o, c ≠ z → he.get? c = some o → hk.get? c = some o := fun c o n e => kk.extBut _ _ n (kg.extBut _ _ n (Heap.get?_push_of_some _ e))
  have zlt : z < he.objs.size := Heap.lt_size ze
  have tk : IsPair hk he.objs.size x y := kk.extBut _ _ (Nat.ne_of_gt zlt) (kg.extBut _ _ (Nat.ne_of_gt zlt) (Heap.get?_push_size _ rfl))
  have sk : hk.objs.size = he.objs.size + 1 := by rw [kk.1, kg.1, Heap.size_push]
  rw [sz] at zk tk sk
  refine wpAny_pure ⟨_, rfl, (?_ : Q (.ref he.objs.size) _)⟩
  rw [sz]
  exact hQ hk zk (far _ _ D.TOz ve) (s1.kept pe fun c o hc e => far _ _ (by rcases hc with rfl | rfl; exact D.i1z; exact D.l1z) e) (s2.kept qe fun c o hc e => far _ _ (by rcases hc with rfl | rfl; exact D.i2z; exact D.l2z) e) tk sk
    fun c o n1 n2 n3 n4 e => far _ _ n1 (re c o n1 n2 n3 n4 e)
theorem zipS_end {a b : Value} {Q : Fin → Shared → Prop} (hh : A.handled = none) (D : ZipApart z u v p q l m) (s1 : Src p l S1 xs) (s2 : Src q m S2 ys) (hz : IsZip s.heap z u v .none) (hu : IsPair s.heap u (.ref p) (.ref q)) (hv : IsPair s.heap v a b)
    (h1 : S1 s.heap i) (h2 : S2 s.heap i) (hend : xs[i]? = none ∨ ys[i]? = none)
    (hE : ∀ h' e, Rest4 z v p q s.heap h' → (∃ o, h'.get? e = some o ∧ o.cls = .type "StopIteration") → E (.ref e) { s with heap := h' }) :
    wpAny (model prog w) A (Builtin.«zip.__next__» ⟨[.ref z], []⟩) Q E s := by
  refine (show wpAny _ _ (field (.ref z) 2 >>= _) _ _ _ from wpAny_bind (wpAny_field hz rfl (x := .bool false) rfl ?_))
  refine (show wpAny _ _ (field (.ref z) 3 >>= _) _ _ _ from wpAny_bind (wpAny_field hz rfl (x := .ref u) rfl (wpAny_bind (wpAny_seqItems hu rfl ?_))))
  refine (show wpAny _ _ (Builtin.SmallTypes.ownedTupleIsFree (.ref z) >>= _) _ _ _ from wpAny_bind ?_)
  unfold Builtin.SmallTypes.ownedTupleIsFree
  refine wpAny_bind (wpAny_field hz rfl (x := .none) rfl (wpAny_pure ?_)); simp only [if_true]
  refine wpAny_bind (wpAny_rule (wpAny_bind (wpAny_field hz rfl (x := .ref v) rfl (wpAny_bind (wpAny_setField_rec hz (by simp) fun ha za ka => ?_)))))
  replace za : IsZip ha z u v .ellipsis := za
  have ea := ka.extBut
  have st1 : S1 ha i := s1.kept h1 fun c o hc e => ea c o (by rcases hc with rfl | rfl; exact D.i1z; exact D.l1z) e
  refine wpAny_bind ?_; simp only [List.zipIdx_cons, List.zipIdx_nil, List.forIn_cons, List.forIn_nil]
  refine wpAny_bind (wpAny_bind (wpAny_onRaise (show wpAny _ _ (Builtin.SmallTypes.nextOf (.ref p) >>= _) _ _ _ from ?_)))
  cases hx : xs[i]? with
  | none =>
    refine wpAny_bind (s1.fin hh st1 hx fun hb e eb ⟨oe, ho, hc⟩ => ?_)
    have zb : IsZip hb z u v .ellipsis := eb _ _ D.i1z.symm za
    have ez : e ≠ z := fun t => by rw [t, zb] at ho; cases Option.some.inj ho; simp at hc
    exact wpAny_setField_rec zb (by simp) fun hf _ kf => hE hf e (fun c o n1 _ n3 _ t => kf.extBut _ _ n1 (eb _ _ n3 (ea _ _ n1 t))) ⟨oe, kf.extBut _ _ ez ho, hc⟩
  | some x =>
    have hy : ys[i]? = none := hend.elim (fun t => by rw [hx] at t; cases t) id
    refine wpAny_bind (s1.item st1 hx fun hb pb kb => wpAny_pure ?_)
    have eb := kb.extBut
    have vb : IsPair hb v a b := eb _ _ D.TOi1 (ea _ _ D.TOz hv)
    refine wpAny_bind (wpAny_seqItems vb rfl (wpAny_bind (wpAny_updateSeq_pair vb fun hc vc kc => ?_)))
    have ec := kc.extBut
    refine wpAny_bind (wpAny_letGo (wpAny_pure (wpAny_bind (wpAny_bind (wpAny_onRaise ?_)))))
    refine (show wpAny _ _ (Builtin.SmallTypes.nextOf (.ref q) >>= _) _ _ _ from wpAny_bind (s2.fin hh (s2.kept h2 fun c o hc e => ?_) hy fun hd e ed ⟨oe, ho, hcl⟩ => ?_))
    · rcases hc with rfl | rfl
      · exact ec _ _ D.TOi2.symm (eb _ _ D.i12.symm (ea _ _ D.i2z e))
      · exact ec _ _ D.l2TO (eb _ _ D.l2i1 (ea _ _ D.l2z e))
    have zd : IsZip hd z u v .ellipsis := ed _ _ D.i2z.symm (ec _ _ D.TOz.symm (eb _ _ D.i1z.symm za))
    have ez : e ≠ z := fun t => by rw [t, zd] at ho; cases Option.some.inj ho; simp at hcl
    exact wpAny_setField_rec zd (by simp) fun hf _ kf => hE hf e (fun c o n1 n2 n3 n4 t => kf.extBut _ _ n1 (ed _ _ n4 (ec _ _ n2 (eb _ _ n3 (ea _ _ n1 t))))) ⟨oe, kf.extBut _ _ ez ho, hcl⟩
theorem zipS_next_item {x y a b : Value} {Q : Option Value → Shared → Prop} (D : ZipApart z u v p q l m) (s1 : Src p l S1 xs) (s2 : Src q m S2 ys) (hz : IsZip s.heap z u v .none) (hu : IsPair s.heap u (.ref p) (.ref q)) (hv : IsPair s.heap v a b)
    (h1 : S1 s.heap i) (h2 : S2 s.heap i) (hx : xs[i]? = some x) (hy : ys[i]? = some y)
    (hQ : ∀ h', IsZip h' z u v (rawInt s.heap.objs.size) → IsPair h' v x y → S1 h' (i + 1) → S2 h' (i + 1) → IsPair h' s.heap.objs.size x y → h'.objs.size = s.heap.objs.size + 1 → Rest4 z v p q s.heap h' → Q (some (.ref s.heap.objs.size)) { s with heap := h' }) :
    wpAny (model prog w) A (pyNext (.ref z)) Q E s := by
  have ty : s.TypeIs (.ref z) "zip" := ⟨_, hz, rfl⟩
  unfold pyNext
  refine wpAny_bind (wpAny_attempt (wpAny_callSpecial?_slot (name := Str.ofString "__next__") ty F.slot_zip_next (wpAny_call_entry F.slot_zip_next ty F.entry_zip_next ?_ (F.args_zip_next_1 _))))
  exact zipS_item D s1 s2 hz hu hv h1 h2 hx hy fun h' g1 g2 g3 g4 g5 g6 g7 => wpAny_pure (hQ h' g1 g2 g3 g4 g5 g6 g7)
theorem zipS_next_end {a b : Value} {Q : Option Value → Shared → Prop} (hh : A.handled = none) (D : ZipApart z u v p q l m) (s1 : Src p l S1 xs) (s2 : Src q m S2 ys) (hz : IsZip s.heap z u v .none) (hu : IsPair s.heap u (.ref p) (.ref q)) (hv : IsPair s.heap v a b)
    (h1 : S1 s.heap i) (h2 : S2 s.heap i) (hend : xs[i]? = none ∨ ys[i]? = none) (hQ : ∀ h', Rest4 z v p q s.heap h' → Q none { s with heap := h' }) : wpAny (model prog w) A (pyNext (.ref z)) Q E s := by
  have ty : s.TypeIs (.ref z) "zip" := ⟨_, hz, rfl⟩
  unfold pyNext
  refine wpAny_bind (wpAny_attempt (wpAny_callSpecial?_slot (name := Str.ofString "__next__") ty F.slot_zip_next (wpAny_call_entry F.slot_zip_next ty F.entry_zip_next ?_ (F.args_zip_next_1 _))))
  exact zipS_end hh D s1 s2 hz hu hv h1 h2 hend fun h' e k ⟨o, ho, hc⟩ => wpAny_bind (wpAny_isInstance (T := "StopIteration") (b := true) ⟨o, ho, hc⟩ isSubtype_stop (wpAny_pure (hQ _ k)))
end
abbrev zm1 (h : Heap) (l : Addr) : Heap := h.push { cls := .type "list_iterator", data := .fields #[.ref l, .int 0 0] }
abbrev zm2 (h : Heap) (l m : Addr) : Heap := (zm1 h l).push { cls := .type "tuple_iterator", data := .fields #[.ref m, .int 0 0] }
abbrev zm3 (h : Heap) (l m : Addr) : Heap := (zm2 h l m).push { cls := .type "tuple", data := .seq #[.ref h.objs.size, .ref (zm1 h l).objs.size] }
abbrev zm4 (h : Heap) (l m : Addr) : Heap := (zm3 h l m).push { cls := .type "tuple", data := .seq #[.none, .none] }
abbrev zm5 (h : Heap) (l m : Addr) : Heap := (zm4 h l m).push { cls := .type "zip", data := .fields #[.none, .bool false, .bool false, .ref (zm2 h l m).objs.size, .ref (zm3 h l m).objs.size] }
theorem meets_zipM (l m : Addr) (xs ys : Array Value) : Meets (Builtin.«zip.__new__» ⟨[.type "zip", .ref l, .ref m], []⟩) (fun _ R s => s.heap.IsList l xs ∧ s.heap.IsTuple m ys ∧ R (.ok (.ret (.ref (zm4 s.heap l m).objs.size))) { s with heap := zm5 s.heap l m }) :=
  .of_wp fun prog w A R s h => by
    obtain ⟨hp, g, d, tk, os⟩ := s; obtain ⟨a1, a2, h⟩ := h
    have hsub := sub_zip
    have b1 : Heap.IsList (Shared.heap ⟨hp, g, d, tk, os⟩) l xs := a1
    have b2 : Heap.IsTuple (Shared.heap ⟨hp.push { cls := .type "list_iterator", data := .fields #[.ref l, .int 0 0] }, g, d, tk, os⟩) m ys := Heap.IsTuple.push a2 _
    wp_walk using wpAny_pyIter_list b1, wpAny_pyIter_tuple b2
    exact ⟨_, rfl, h⟩
theorem call_zipM {prog : Program} {w : World} {A : Around} {E : Value → Shared → Prop} {s : Shared} {l m : Addr} {xs ys : Array Value} {Q : Value → Shared → Prop} (a1 : s.heap.IsList l xs) (a2 : s.heap.IsTuple m ys)
    (h : ∀ h', IsZip h' (s.heap.objs.size + 4) (s.heap.objs.size + 2) (s.heap.objs.size + 3) .none → IsPair h' (s.heap.objs.size + 2) (.ref s.heap.objs.size) (.ref (s.heap.objs.size + 1)) → IsPair h' (s.heap.objs.size + 3) .none .none →
      h'.IsListIter s.heap.objs.size l 0 → h'.IsTupleIter (s.heap.objs.size + 1) m 0 → (∀ c o, s.heap.get? c = some o → h'.get? c = some o) → Q (.ref (s.heap.objs.size + 4)) { s with heap := h' }) : wpAny (model prog w) A (call (.type "zip") [.ref l, .ref m]) Q E s := by
  refine callType_new F.called_zip (by decide) (F.typeCall_zip_2 _ _) (F.newCall_zip_2 _ _) (fun obj => F.args_object_init_3 obj _ _) F.entry_zip_new (meets_zipM l m xs ys) ⟨a1, a2, (?_ : _ ∧ _)⟩
  have n1 : (zm1 s.heap l).objs.size = s.heap.objs.size + 1 := Heap.size_push ..
  have n2 : (zm2 s.heap l m).objs.size = s.heap.objs.size + 2 := by rw [Heap.size_push, n1]
  have n3 : (zm3 s.heap l m).objs.size = s.heap.objs.size + 3 := by rw [Heap.size_push, n2]
  have n4 : (zm4 s.heap l m).objs.size = s.heap.objs.size + 4 := by rw [Heap.size_push, n3]
  have up : ∀ {h : Heap} {o o' : Obj} {c : Addr}, h.get? c = some o → (h.push o').get? c = some o := fun e => Heap.get?_push_of_some _ e
  have c5 : (zm5 s.heap l m).get? (zm4 s.heap l m).objs.size = some _ := Heap.get?_push_size _ rfl
  have c4 : (zm5 s.heap l m).get? (zm3 s.heap l m).objs.size = some _ := up (Heap.get?_push_size _ rfl)
  have c3 : (zm5 s.heap l m).get? (zm2 s.heap l m).objs.size = some _ := up (up (Heap.get?_push_size _ rfl))
  have c2 : (zm5 s.heap l m).get? (zm1 s.heap l).objs.size = some _ := up (up (up (Heap.get?_push_size _ rfl)))
  have c1 : (zm5 s.heap l m).get? s.heap.objs.size = some _ := up (up (up (up (Heap.get?_push_size _ rfl))))
  rw [n2, n3, n4] at c5
  rw [n1, n2] at c3
  rw [n3] at c4
  rw [n1] at c2
  rw [n4]
  exact ⟨⟨_, c5, rfl⟩, h _ c5 c3 c4 ⟨_, c1, rfl, rfl⟩ ⟨_, c2, rfl, rfl⟩ fun c o e => up (up (up (up (up e))))⟩
/-- the list at a and the tuple at b, the items in new pairs -/
def ItzM (K : PySem.W.Frag) (a b : Addr) : It where
  go i H := ∃ (xs ys : List V) (x y : V), SqL K H a xs ∧ SqT K H b ys ∧ xs[i]? = some x ∧ ys[i]? = some y
  yld i H v H' := ∃ T x y, v = .ref T ∧ H T = none ∧ H' = upd H T (.tup [x, y]) ∧ (∀ xs, SqL K H a xs → xs[i]? = some x) ∧ ∀ ys, SqT K H b ys → ys[i]? = some y
  stop i H := ∃ xs ys : List V, SqL K H a xs ∧ SqT K H b ys ∧ (xs.length ≤ i ∨ ys.length ≤ i)
theorem turn_zipM {P : Program} {w : World} {K : PySem.W.Frag} {elts : List Expr} {kk : Nat} {tpos : Pos} {a b z u v p q : Addr} (D : ZipApart z u v p q a b) :
    Turn P w K (.Tuple elts kk tpos) (ItzM K a b) [z, u, v, p, q] z (fun i h => IsZip h z u v .none ∧ IsPair h u (.ref p) (.ref q) ∧ (∃ x y, IsPair h v x y) ∧ h.IsListIter p a i ∧ h.IsTupleIter q b i) where
  mem := List.mem_cons_self
  obj i h st c hc := by
    obtain ⟨hz, hu, ⟨x, y, hv⟩, ⟨o1, e1, _, d1⟩, ⟨o2, e2, _, d2⟩⟩ := st
    simp only [List.mem_cons, List.not_mem_nil, or_false] at hc
    rcases hc with rfl | rfl | rfl | rfl | rfl
    · exact ⟨_, hz, fun _ t => nomatch t⟩
    · exact ⟨_, hu, fun _ t => nomatch t⟩
    · exact ⟨_, hv, fun _ t => nomatch t⟩
    · exact ⟨o1, e1, fun _ t => by rw [d1] at t; cases t⟩
    · exact ⟨o2, e2, fun _ t => by rw [d2] at t; cases t⟩
  keep i h h' st k := by
    obtain ⟨hz, hu, ⟨x, y, hv⟩, h1, h2⟩ := st
    exact ⟨k z (by simp) _ hz, k u (by simp) _ hu, ⟨x, y, k v (by simp) _ hv⟩, h1.at fun o t => k p (by simp) o t, h2.at fun o t => k q (by simp) o t⟩
  item := by
    intro X hP hw hK hc i pins s σ H E I hf st hg
    subst hP hw hK
    obtain ⟨hz, hu, ⟨x0, y0, hv⟩, h1, h2⟩ := st
    obtain ⟨xs, ys, x, y, qx, qy, hx, hy⟩ := hg
    obtain ⟨its, rv, p1, _⟩ := I.list qx
    obtain ⟨jts, rw2, p2, _⟩ := I.tuple qy
    obtain ⟨c, hcx, rc⟩ := rv.get hx
    obtain ⟨d, hdy, rd⟩ := rw2.get hy
    have zlt : z < s.heap.objs.size := Heap.lt_size hz
    refine zipS_next_item D (srcL D.l1i1) (srcT D.l2i2) hz hu hv ⟨h1, p1.isList⟩ ⟨h2, p2⟩ (x := c) (y := d) (by simpa using hcx) (by simpa using hdy) fun h' z' v' st1 st2 hT hsz hk => ?_
    refine ⟨_, rfl, wpAny_letOwnedTupleGo_zip (s := { s with heap := h' }) z' fun h'' z'' sb => ?_⟩
    have T2 : h''.get? s.heap.objs.size = some { cls := .type "tuple", data := .seq #[c, d] } := (sb.2 _ (Nat.ne_of_gt zlt)).trans hT
    have new : ObjOk X.prog X.w (upd H s.heap.objs.size (.tup [x, y])) h'' s.heap.objs.size (.tup [x, y]) := ⟨(by show 2 ≤ sizeLine; decide), [c, d], .cons rc (.cons rd .nil), ⟨_, T2, rfl, _, rfl⟩⟩
    have I1 : Inv X pins σ (upd H s.heap.objs.size (.tup [x, y])) { s with heap := h'' } := I.turnedNew (t' := s.toks) (ch := [z, u, v, p, q])
      (fun b o hb t => (sb.2 b fun e => hb (by simp [e])).trans (hk b o (fun e => hb (by simp [e])) (fun e => hb (by simp [e])) (fun e => hb (by simp [e])) (fun e => hb (by simp [e])) t)) hf (Nat.le_refl _) new
    refine ⟨.ref s.heap.objs.size, _, I1, rfl, ⟨_, x, y, rfl, I.hok.fresh (Nat.le_refl _), rfl, fun l hl => by rw [I.list_inj hl qx]; exact hx, fun l hl => by rw [I.tuple_inj hl qy]; exact hy⟩, ⟨z'', (sb.2 _ D.TIz).trans (hk _ _ D.TIz D.TITO D.TIi1 D.TIi2 hu), ⟨c, d, (sb.2 _ D.TOz).trans v'⟩, st1.1.at fun o t => (sb.2 _ D.i1z).trans t, st2.1.at fun o t => (sb.2 _ D.i2z).trans t⟩, fun b hb => ?_⟩
    have lt : b < s.heap.objs.size := by
      simp only [List.mem_cons, List.not_mem_nil, or_false] at hb
      rcases hb with rfl | rfl | rfl | rfl | rfl
      · exact zlt
      · exact Heap.lt_size hu
      · exact Heap.lt_size hv
      · exact h1.elim fun _ t => Heap.lt_size t.1
      · exact h2.elim fun _ t => Heap.lt_size t.1
    rw [upd_ne (Nat.ne_of_lt lt)]
    exact (hf b hb).1
  done := by
    intro X hP hw hK hc i pins s σ H E I hf st hg
    subst hP hw hK
    obtain ⟨hz, hu, ⟨x0, y0, hv⟩, h1, h2⟩ := st
    obtain ⟨xs, ys, qx, qy, hend⟩ := hg
    obtain ⟨its, rv, p1, _⟩ := I.list qx
    obtain ⟨jts, rw2, p2, _⟩ := I.tuple qy
    have l1 := rv.length
    have l2 := rw2.length
    refine zipS_next_end (I.ok.hd hc) D (srcL D.l1i1) (srcT D.l2i2) hz hu hv ⟨h1, p1.isList⟩ ⟨h2, p2⟩ (hend.imp (fun t => by simp; omega) (fun t => by simp; omega)) fun h' hk => ⟨rfl, I.turnedL (t' := s.toks) (ch := [z, u, v, p, q]) (fun b o hb t => ?_) hf⟩
    exact hk b o (fun e => hb (by simp [e])) (fun e => hb (by simp [e])) (fun e => hb (by simp [e])) (fun e => hb (by simp [e])) t
  self A i s Q E st h := wpAny_pyIter_zip st.1 h
def iZipS (K : PySem.W.Frag) (ta : TA) : TI := fun σ H R => (ta σ H fun vs H1 => ∃ a b xs ys, vs = [.ref a, .ref b] ∧ SqL K H1 a xs ∧ SqT K H1 b ys ∧ R (ItzM K a b) H1) ∨ iZipA K ta σ H R
theorem pi_zipS {X : Cx} {e e2 : Expr} {ta : TA} {p pos tpos : Pos} {elts : List Expr} {kk : Nat} (hg : Gl X "zip") (hm : X.mg "zip" = none) (ha : PA X [e, e2] ta)
    (hs : starEach [e, e2] X.env = (false, eval e X.env) :: starEach [e2] X.env := by rfl) (hpl : (backTo pos (starEach [e2] X.env)).any (·.1) = false := by rfl) :
    PI X (.Tuple elts kk tpos) (.Call (.Name "zip" p) [e, e2] [] pos) (iZipS X.K ta) := by
  refine ⟨fun pins s σ H R I h => ?_⟩
  rcases h with h | h
  · refine Call_ (ld_blt I hg hm PyProof.Rows.boot_zip (PyProof.Rows.callWith_type1 (thn (ha.run pos pins s σ H _ I h) fun us s1 ⟨vs, H1, I1, r1, a, b, xs, ys, ex, qx, qy, q⟩ => ?_) hs hpl))
    subst ex
    obtain ⟨_, _, rfl, ra, rr⟩ : ∃ x y, us = [x, y] ∧ RelV (.ref a) x ∧ RelV (.ref b) y := by
      cases r1 with
      | cons r1 t => cases t with
        | cons r2 t => cases t; exact ⟨_, _, rfl, r1, r2⟩
    cases ra
    cases rr
    obtain ⟨its, rv, p1, _⟩ := I1.list qx
    obtain ⟨jts, rw2, p2, _⟩ := I1.tuple qy
    obtain ⟨o2, ho2, _⟩ := id p2
    refine call_zipM p1.isList p2 fun h' hz hu hv h1 h2 hk => wpAny_pyIter_zip hz ?_
    have I2 : Inv X pins σ H1 { s1 with heap := h' } := I1.kept (t' := s1.toks) hk
    refine ⟨s1.heap.objs.size + 4, [s1.heap.objs.size + 4, s1.heap.objs.size + 2, s1.heap.objs.size + 3, s1.heap.objs.size, s1.heap.objs.size + 1], _, _, H1, rfl, I2, turn_zipM (PySem.W.ktu_apart s1.heap.objs.size a b p1.lt (Heap.lt_size ho2)), ⟨hz, hu, ⟨_, _, hv⟩, h1, h2⟩, fun c hc => ?_, q⟩
    have le : s1.heap.objs.size ≤ c := by
      simp only [List.mem_cons, List.not_mem_nil, or_false] at hc
      rcases hc with rfl | rfl | rfl | rfl | rfl <;> first | exact Nat.le_refl _ | exact Nat.le_add_right _ _
    exact I1.fpOk le (I1.hok.fresh le)
  · exact (pi_zipA hg hm ha hs hpl).run pins s σ H R I h
/-- a loop over zip of two of one length, the second one a tuple -/
theorem for_zipS {K : PySem.W.Frag} {a b : Addr} {xs ys : List V} {ta : TA} {g : TG} {tb : TS} {D : Ends} {σ : L2.St} {H : Hp} (ea : ∀ R : List V → Hp → Prop, R [.ref a, .ref b] H → ta σ H R) (hl : xs.length = ys.length) (hx : SqL K H a xs ∨ SqT K H a xs) (hy : SqT K H b ys)
    (Pv : Nat → L2.St → Hp → Prop) (h0 : Pv 0 σ H) (hE : ∀ i σ H', Pv i σ H' → Ex H H')
    (hs : ∀ (i : Nat) (x y : V) (T : Addr) (σ : L2.St) (H : Hp), xs[i]? = some x → ys[i]? = some y → Pv i σ H → H T = none → g (.ref T) σ (upd H T (.tup [x, y])) fun σ2 H2 => tb { D with nx := Pv (i + 1), ct := Pv (i + 1), bk := D.nx } σ2 H2)
    (hd : ∀ σ H, Pv xs.length σ H → D.nx σ H) : tFor (iZipS K ta) g tb D σ H := by
  rcases hx with hx | hx
  · refine .inl (ea _ ⟨a, b, xs, ys, rfl, hx, hy, fun i k σ H' => k = xs.length - i ∧ i ≤ xs.length ∧ Pv i σ H', ⟨_, rfl, Nat.zero_le _, h0⟩, ?_⟩)
    rintro i k σ H' ⟨rfl, hi, pv⟩
    have qx := ex_l (hE i σ H' pv) hx
    have qy := ex_t (hE i σ H' pv) hy
    by_cases lt : i < xs.length
    · refine .inr ⟨⟨xs, ys, _, _, qx, qy, List.getElem?_eq_getElem lt, List.getElem?_eq_getElem (hl ▸ lt)⟩, Pv (i + 1), fun σ' H' p' => ⟨xs.length - (i + 1), by omega, rfl, lt, p'⟩, fun v H' y => ?_⟩
      obtain ⟨T, x', y', rfl, hT, rfl, f1, f2⟩ := y
      exact hs i x' y' T _ _ (f1 xs qx) (f2 ys qy) pv hT
    · obtain rfl : i = xs.length := by omega
      exact .inl ⟨⟨xs, ys, qx, qy, .inl (Nat.le_refl _)⟩, hd σ H' pv⟩
  · exact .inr (ea _ ⟨a, b, xs, ys, rfl, .inr ⟨hx, hy, for_zipT hl Pv h0 (fun i σ H' p => ⟨ex_t (hE i σ H' p) hx, ex_t (hE i σ H' p) hy⟩) hs hd⟩⟩)
end L2.U


set_option Elab.async false
set_option linter.all false
set_option maxRecDepth 100000
set_option maxHeartbeats 4000000
namespace L2.U
open PySem PySem.Spec PyProof.Rows Evl
/-! ### max(list of ints, default=d); t != () of any tuple -/
theorem reads_ints {h : Heap} : ∀ {us : List Value} {ns : List Int}, IntsAre us ns → ReadsAll h us (ns.map .int) []
  | _, _, .nil => .nil
  | _, _, .cons _ _ r => .cons (.int _ _) (reads_ints r)
theorem alike_ints (ns : List Int) : PySem.W.AlikeAll (ns.map PyData.int) := by
  refine ⟨fun x hx y hy => ?_, fun x hx z => ?_⟩
  · obtain ⟨i, _, rfl⟩ := List.mem_map.mp hx
    obtain ⟨j, _, rfl⟩ := List.mem_map.mp hy
    rfl
  · obtain ⟨i, _, rfl⟩ := List.mem_map.mp hx
    cases z
theorem fold_max (n : Int) : ∀ ns : List Int, ns.foldl max n ∈ n :: ns ∧ ∀ y ∈ n :: ns, y ≤ ns.foldl max n := fun ns => by
  induction ns generalizing n with
  | nil => exact ⟨List.mem_cons_self, fun y hy => by rcases List.mem_cons.mp hy with rfl | h; exact Int.le_refl _; cases h⟩
  | cons k r ih =>
    obtain ⟨h1, h2⟩ := ih (max n k)
    have hm := h2 (max n k) List.mem_cons_self
    refine ⟨?_, fun y hy => ?_⟩
    · rcases List.mem_cons.mp h1 with e | e
      · show r.foldl max (max n k) ∈ n :: k :: r
        rw [e]
        by_cases c : n ≤ k
        · rw [show max n k = k by omega]; exact List.mem_cons_of_mem _ List.mem_cons_self
        · rw [show max n k = n by omega]; exact List.mem_cons_self
      · exact List.mem_cons_of_mem _ (List.mem_cons_of_mem _ e)
    · show y ≤ r.foldl max (max n k)
      rcases List.mem_cons.mp hy with rfl | hy
      · omega
      · rcases List.mem_cons.mp hy with rfl | hy
        · omega
        · exact h2 y (List.mem_cons_of_mem _ hy)
section
variable {X : Cx}
def rMaxD (K : PySem.W.Frag) : List V → List V → Hp → VK → Prop := fun vs zs H Q => ∃ (a : Addr) (ns : List Int) (d : V), vs = [V.ref a] ∧ zs = [d] ∧ SqL K H a (ns.map V.int) ∧ (ns = [] → Q d H) ∧ ∀ m, m ∈ ns → (∀ y, y ∈ ns → y ≤ m) → Q (.int m) H
theorem cr_maxD (hc : X.calm = true) (hu : X.A.units + 64 < cLine) : CallRK X (.builtin "max") ["default"] (rMaxD X.K) := by
  intro pins s σ H vs zs us ws Q I r rz h
  obtain ⟨a, ns, d, rfl, rfl, hs, q0, q⟩ := h
  obtain ⟨its, rv, hl, _⟩ := I.list hs
  rw [Vals.ref1 r]
  cases rz with
  | cons rd t =>
  cases t
  refine PySem.W.max_list_default (I.ok.hd hc) hl.isList (reads_ints rv.ints) (alike_ints ns) (by rw [depthAll_ints]; omega) (fun z h' tk hk => ?_) (fun y ys i v h' tk bs e hv rd' hk => ?_)
  · exact ⟨d, H, I.kept hk, rd, q0 (List.map_eq_nil_iff.mp z)⟩
  · cases ns with
    | nil => cases e
    | cons n ns =>
      rw [List.map_cons, List.cons.injEq] at e
      obtain ⟨rfl, rfl⟩ := e
      rw [PySem.W.maxD_ints] at rd'
      cases rd'
      exact ⟨.int _, H, I.kept hk, ⟨_, rfl⟩, q _ (fold_max n ns).1 (fold_max n ns).2⟩
theorem kmaxD (K : PySem.W.Frag) (hc : X.calm = true) (hu : X.A.units + 64 < cLine) (h : X.K = K := by rfl) : CallRK X (.builtin "max") ["default"] (rMaxD K) := by subst h; exact cr_maxD hc hu
/-- t != () -/
def rNe0 (K : PySem.W.Frag) : R2 := fun x y H Q => ∃ (a b : Addr) (xs : List V), x = .ref a ∧ y = .ref b ∧ SqT K H a xs ∧ SqT K H b [] ∧ Q (.bl (!xs.isEmpty)) H
theorem op_ne0 (hu : X.A.units + 64 < cLine) : OpR X (compareOp .NotEq) (rNe0 X.K) := by
  intro pins s σ H x y v u Q I rx ry h
  obtain ⟨a, b, xs, rfl, rfl, hx, hy, q⟩ := h
  obtain ⟨its, rv, p1, _⟩ := I.tuple hx
  obtain ⟨jts, rw2, p2, _⟩ := I.tuple hy
  cases rw2
  cases (show v = Value.ref a from rx)
  cases (show u = Value.ref b from ry)
  have h2 := SeqAt.RcNeAt.tuples (A := X.A) (s := s) (e := fun _ => true) p1 p2 (by omega) (fun j _ h2 => absurd h2 (Nat.not_lt_zero j))
  refine h2 _ _ _ _ ⟨.bl (!xs.isEmpty), H, I, ?_, q⟩
  have l := rv.length
  cases xs with
  | nil => cases rv; rfl
  | cons x xs => cases rv; rfl
theorem kne0 (K : PySem.W.Frag) (hu : X.A.units + 64 < cLine) (h : X.K = K := by rfl) : OpR X (compareOp .NotEq) (rNe0 K) := by subst h; exact op_ne0 hu
/-- "1" * n -/
def rRepS : R2 := fun x y H Q => ∃ n : Nat, x = .str "1" ∧ y = .int (n : Int) ∧ n ≤ 16 ∧ ∀ z : Str, z.length ≤ 1000 → PyData.strOk z = true → Q (.str z) H
def repS (n : Nat) : Str := ⟨(List.replicate n (Str.ofString "1").cps).foldl (· ++ ·) #[]⟩
theorem repS_ok : ∀ n : Fin 17, (repS n.val).length ≤ 16 ∧ PyData.strOk (repS n.val) = true ∧ PySem.Builtin.Str.tooLong ((Str.ofString "1").length * n.val) = false ∧ (repS n.val).length ≤ sizeLine := by decide +kernel
theorem repS_mul : ∀ n : Fin 17, ¬ (((Str.ofString "1").length : Int) > (2 ^ 63 - 1) / (n.val : Int)) ∨ n.val = 0 := by decide +kernel
theorem op_repS : OpR X (binaryOp .Mult) rRepS := by
  intro pins s σ H x y v u Q I rx ry h
  obtain ⟨n, rfl, rfl, hn, q⟩ := h
  obtain ⟨t, rfl⟩ := rx
  obtain ⟨t', rfl⟩ := ry
  have f := repS_ok ⟨n, by omega⟩
  simp only at f
  refine PySem.P.mul_str (by rw [decide_eq_false (by omega), decide_eq_false (by omega)]; rfl) (fun h1 _ => (repS_mul ⟨n, by omega⟩).resolve_right (fun z => h1 (by have : n = 0 := z; omega))) (fun _ _ => by rw [Int.toNat_natCast]; exact f.2.2.1) ?_
  by_cases c : (n : Int) < 1
  · rw [if_pos c]
    exact ⟨by decide, ⟨.str _, H, I.tok _, ⟨_, rfl⟩, q _ (by decide) (by decide +kernel)⟩⟩
  · rw [if_neg c]
    split
    · exact ⟨.str _, H, I, ⟨_, rfl⟩, q _ (by decide) (by decide +kernel)⟩
    · rw [Int.toNat_natCast]
      exact ⟨f.2.2.2, ⟨.str (repS n), H, I.tok _, ⟨_, rfl⟩, q _ (by omega) f.2.1⟩⟩
/-- xs == [], xs != [], whatever the items are -/
def rEqL0 (K : PySem.W.Frag) : R2 := fun x y H Q => ∃ (a b : Addr) (xs : List V), x = .ref a ∧ y = .ref b ∧ SqL K H a xs ∧ SqL K H b [] ∧ Q (.bl xs.isEmpty) H
def rNeL0 (K : PySem.W.Frag) : R2 := fun x y H Q => ∃ (a b : Addr) (xs : List V), x = .ref a ∧ y = .ref b ∧ SqL K H a xs ∧ SqL K H b [] ∧ Q (.bl (!xs.isEmpty)) H
theorem op_eqL0 (hu : X.A.units + 64 < cLine) : OpR X (compareOp .Eq) (rEqL0 X.K) := by
  intro pins s σ H x y v u Q I rx ry h
  obtain ⟨a, b, xs, rfl, rfl, hx, hy, q⟩ := h
  obtain ⟨its, rv, p1, _⟩ := I.list hx
  obtain ⟨jts, rw2, p2, _⟩ := I.list hy
  cases rw2
  cases (show v = Value.ref a from rx)
  cases (show u = Value.ref b from ry)
  cases rv with
  | nil => exact SeqAt.RcAt.lists (A := X.A) (s := s) (e := fun _ => true) p1.isList p2.isList rfl (by omega) (fun j h1 _ => absurd h1 (Nat.not_lt_zero j)) _ _ _ _ ⟨.bl true, H, I, rfl, q⟩
  | cons r rs => exact SeqAt.RcAt.lists_lengths (A := X.A) (s := s) p1.isList p2.isList rfl (by omega) _ _ _ _ ⟨.bl false, H, I, rfl, q⟩
theorem op_neL0 (hu : X.A.units + 64 < cLine) : OpR X (compareOp .NotEq) (rNeL0 X.K) := by
  intro pins s σ H x y v u Q I rx ry h
  obtain ⟨a, b, xs, rfl, rfl, hx, hy, q⟩ := h
  obtain ⟨its, rv, p1, _⟩ := I.list hx
  obtain ⟨jts, rw2, p2, _⟩ := I.list hy
  cases rw2
  cases (show v = Value.ref a from rx)
  cases (show u = Value.ref b from ry)
  cases rv with
  | nil => exact SeqAt.RcNeAt.lists (A := X.A) (s := s) (e := fun _ => true) p1.isList p2.isList rfl (by omega) (fun j h1 _ => absurd h1 (Nat.not_lt_zero j)) _ _ _ _ ⟨.bl false, H, I, rfl, q⟩
  | cons r rs => exact SeqAt.RcNeAt.lists_lengths (A := X.A) (s := s) p1.isList p2.isList rfl (by omega) _ _ _ _ ⟨.bl true, H, I, rfl, q⟩
theorem keql0 (K : PySem.W.Frag) (hu : X.A.units + 64 < cLine) (h : X.K = K := by rfl) : OpR X (compareOp .Eq) (rEqL0 K) := by subst h; exact op_eqL0 hu
theorem knel0 (K : PySem.W.Frag) (hu : X.A.units + 64 < cLine) (h : X.K = K := by rfl) : OpR X (compareOp .NotEq) (rNeL0 K) := by subst h; exact op_neL0 hu
end
end L2.U


set_option Elab.async false
set_option linter.all false
set_option maxRecDepth 100000
set_option maxHeartbeats 4000000
namespace L2.U
open PySem PySem.Spec PyProof.Rows Evl
def top (i : Nat) : Stmt := PySem.Challenge.pw_upforgood_k19_plans_on_wires.main.body.getD i (.Pass ⟨0, 0, 0, 0⟩)
abbrev s_is_integer : Stmt := top 3
theorem sc_is_integer : FnScope ["value"] ["value"] (defScope s_is_integer) := ⟨rfl, rfl, rfl, by decide +kernel, rfl, by decide +kernel, by decide +kernel⟩
abbrev s_is_between : Stmt := top 4
theorem sc_is_between : FnScope ["value", "low", "high"] ["value", "low", "high"] (defScope s_is_between) := ⟨rfl, rfl, rfl, by decide +kernel, rfl, by decide +kernel, by decide +kernel⟩
abbrev s_is_from : Stmt := top 5
theorem sc_is_from : FnScope ["value", "low"] ["value", "low"] (defScope s_is_from) := ⟨rfl, rfl, rfl, by decide +kernel, rfl, by decide +kernel, by decide +kernel⟩
abbrev s_is_list : Stmt := top 6
theorem sc_is_list : FnScope ["value"] ["value"] (defScope s_is_list) := ⟨rfl, rfl, rfl, by decide +kernel, rfl, by decide +kernel, by decide +kernel⟩
abbrev s_are_from : Stmt := top 8
theorem sc_are_from : FnScope ["values", "low", "value"] ["values", "low"] (defScope s_are_from) := ⟨rfl, rfl, rfl, by decide +kernel, rfl, by decide +kernel, by decide +kernel⟩
abbrev s_law_cell : Stmt := top 44
theorem sc_law_cell : FnScope ["script", "k"] ["script", "k"] (defScope s_law_cell) := ⟨rfl, rfl, rfl, by decide +kernel, rfl, by decide +kernel, by decide +kernel⟩
abbrev s_law_box : Stmt := top 45
theorem sc_law_box : FnScope ["great"] ["great"] (defScope s_law_box) := ⟨rfl, rfl, rfl, by decide +kernel, rfl, by decide +kernel, by decide +kernel⟩
abbrev s_law_take : Stmt := top 46
theorem sc_law_take : FnScope ["box", "many", "digit", "mixed"] ["box", "many"] (defScope s_law_take) := ⟨rfl, rfl, rfl, by decide +kernel, rfl, by decide +kernel, by decide +kernel⟩
abbrev s_law_same : Stmt := top 47
theorem sc_law_same : FnScope ["told", "due", "k"] ["told", "due"] (defScope s_law_same) := ⟨rfl, rfl, rfl, by decide +kernel, rfl, by decide +kernel, by decide +kernel⟩
structure TA1 (K : PySem.W.Frag) (mg : Str → Option Value) where
  is_integer : DefAt K mg "is_integer" s_is_integer ["value"]
  is_between : DefAt K mg "is_between" s_is_between ["value", "low", "high"]
  is_from : DefAt K mg "is_from" s_is_from ["value", "low"]
  is_list : DefAt K mg "is_list" s_is_list ["value"]
  are_from : DefAt K mg "are_from" s_are_from ["values", "low"]
  law_cell : DefAt K mg "_law_cell" s_law_cell ["script", "k"]
  law_box : DefAt K mg "_law_box" s_law_box ["great"]
  law_take : DefAt K mg "_law_take" s_law_take ["box", "many"]
  law_same : DefAt K mg "_law_same" s_law_same ["told", "due"]
  z_int : mg "int" = none
  z_bool : mg "bool" = none
  z_str : mg "str" = none
  z_list : mg "list" = none
  z_tuple : mg "tuple" = none
  z_len : mg "len" = none
  z_sum : mg "sum" = none
  z_abs : mg "abs" = none
  z_all : mg "all" = none
  z_range : mg "range" = none
  z_isinstance : mg "isinstance" = none
section
variable {P : Program} {w : World} {K : PySem.W.Frag} {mg : Str → Option Value} {base : Heap}
def isI : V → Bool
  | .int _ => true
  | _ => false
/-- a value of one of the kinds of data -/
def Dat (K : PySem.W.Frag) (H : Hp) (x : V) : Prop := ∃ t, t ∈ ["NoneType", "bool", "int", "str", "list", "tuple", "dict"] ∧ TyX K H x (.type t) ∧ isI x = decide (t = "int")
theorem Dat.int {H : Hp} {i : Int} : Dat K H (.int i) := ⟨"int", by decide, .base (.int i), rfl⟩
theorem Dat.ex {H H' : Hp} {x : V} (e : Ex H H') (h : Dat K H x) : Dat K H' x := by
  obtain ⟨t, ht, ty, hi⟩ := h
  refine ⟨t, ht, ?_, hi⟩
  cases ty with
  | base b =>
    refine .base ?_
    cases b with
    | non => exact .non
    | bl x => exact .bl x
    | int i => exact .int i
    | str z => exact .str z
    | flt z => exact .flt z
    | lst h => exact .lst (e _ _ h)
    | frz h => exact .frz (e _ _ h)
    | tup h => exact .tup (e _ _ h)
    | dK h => exact .dK (e _ _ h)
    | dT h => exact .dT (e _ _ h)
  | byt b => exact .byt b
  | set h => exact .set (e _ _ h)
  | kList a b => exact .kList a b
  | kTuple a b => exact .kTuple a b
  | kDict a b => exact .kDict a b
  | fTuple h => exact .fTuple (e _ _ h)
  | fDict h => exact .fDict (e _ _ h)
def spIsInteger (K : PySem.W.Frag) : Sp := fun vs H Q _ => ∃ x, vs = [x] ∧ Dat K H x ∧ Q (.bl (isI x)) H
theorem ok_is_integer (T : TA1 K mg) : FnOk P w K mg base CX0 1 T.is_integer.a T.is_integer.fd ["value"] (spIsInteger K) := by
  refine T.is_integer.F.ok sc_is_integer (fun vs H Q E h => ?_) (fun cdv A outer s H vs Q E hr h => ?_)
  · obtain ⟨x, rfl, _⟩ := h; rfl
  obtain ⟨x, rfl, ⟨t, ht, ty, hi⟩, q⟩ := h
  refine ⟨_, (pss_one (ps_ret (pe_and (pe_callB (kisi K) (by rfl) T.z_isinstance (by decide +kernel) (pa_cons (pv 0) (pa_cons (pe_bltn (v := .ty "int") rfl T.z_int (by decide +kernel) rfl) pa_nil))) (pe_one (pe_not (pe_callB (kisi K) (by rfl) T.z_isinstance (by decide +kernel) (pa_cons (pv 0) (pa_cons (pe_bltn (v := .ty "bool") rfl T.z_bool (by decide +kernel) rfl) pa_nil)))))))), ?_⟩
  simp only [List.mem_cons, List.not_mem_nil, or_false] at ht
  rcases ht with rfl | rfl | rfl | rfl | rfl | rfl | rfl
  · refine ⟨_, rfl, _, _, _, _, _, rfl, .ty "int", ty, kit_ty (r := false) (by decide +kernel), false, rfl, iteF ?_⟩
    rw [hi] at q; exact q
  · refine ⟨_, rfl, _, _, _, _, _, rfl, .ty "int", ty, kit_ty (r := true) (by decide +kernel), true, rfl, iteT ?_⟩
    refine ⟨_, rfl, _, _, _, _, _, rfl, .ty "bool", ty, kit_ty (r := true) (by decide +kernel), true, rfl, ?_⟩
    rw [hi] at q; exact q
  · refine ⟨_, rfl, _, _, _, _, _, rfl, .ty "int", ty, kit_ty (r := true) (by decide +kernel), true, rfl, iteT ?_⟩
    refine ⟨_, rfl, _, _, _, _, _, rfl, .ty "bool", ty, kit_ty (r := false) (by decide +kernel), false, rfl, ?_⟩
    rw [hi] at q; exact q
  all_goals
    refine ⟨_, rfl, _, _, _, _, _, rfl, .ty "int", ty, kit_ty (r := false) (by decide +kernel), false, rfl, iteF ?_⟩
    rw [hi] at q; exact q
def spIsFrom (K : PySem.W.Frag) : Sp := fun vs H Q _ => ∃ (x : V) (lo : Int), vs = [x, .int lo] ∧ Dat K H x ∧ ∀ b, (∀ i, x = .int i → b = decide (lo ≤ i)) → (isI x = false → b = false) → Q (.bl b) H
theorem isI_int {x : V} (h : isI x = true) : ∃ i, x = .int i := by
  cases x <;> first | exact ⟨_, rfl⟩ | cases h
theorem ok_is_from (T : TA1 K mg) : FnOk P w K mg base CX0 2 T.is_from.a T.is_from.fd ["value", "low"] (spIsFrom K) := by
  refine T.is_from.F.ok sc_is_from (fun vs H Q E h => ?_) (fun cdv A outer s H vs Q E hr h => ?_)
  · obtain ⟨x, lo, rfl, _⟩ := h; rfl
  obtain ⟨x, lo, rfl, hd, q⟩ := h
  refine ⟨_, (pss_one (ps_ret (pe_and (pe_call (ok_is_integer T) (hr.mono (by decide)) rfl T.is_integer.m T.is_integer.F.kp T.is_integer.b .nil pass0 (pa_cons (pv 0) pa_nil)) (pe_one (pe_cmpR op_le (pv 1) (pv 0) (nomark _)))))), ?_⟩
  refine ⟨_, rfl, _, rfl, hd, isI x, rfl, ?_⟩
  cases hx : isI x with
  | false => exact q false (fun i e => by rw [e] at hx; cases hx) (fun _ => rfl)
  | true =>
    obtain ⟨i, rfl⟩ := isI_int hx
    refine ⟨_, rfl, _, rfl, _, _, rfl, rfl, q _ (fun j e => by cases e; rfl) (fun e => by cases e)⟩
def spIsBetween (K : PySem.W.Frag) : Sp := fun vs H Q _ => ∃ (x : V) (lo hi : Int), vs = [x, .int lo, .int hi] ∧ Dat K H x ∧ ∀ b, (∀ i, x = .int i → b = decide (lo ≤ i ∧ i ≤ hi)) → (isI x = false → b = false) → Q (.bl b) H
theorem ok_is_between (T : TA1 K mg) : FnOk P w K mg base CX0 2 T.is_between.a T.is_between.fd ["value", "low", "high"] (spIsBetween K) := by
  refine T.is_between.F.ok sc_is_between (fun vs H Q E h => ?_) (fun cdv A outer s H vs Q E hr h => ?_)
  · obtain ⟨x, lo, hi, rfl, _⟩ := h; rfl
  obtain ⟨x, lo, hi, rfl, hd, q⟩ := h
  refine ⟨_, (pss_one (ps_ret (pe_and (pe_call (ok_is_integer T) (hr.mono (by decide)) rfl T.is_integer.m T.is_integer.F.kp T.is_integer.b .nil pass0 (pa_cons (pv 0) pa_nil)) (pe_one (pe_chain op_le op_le (pv 1) (pv 0) (pv 2)))))), ?_⟩
  refine ⟨_, rfl, _, rfl, hd, isI x, rfl, ?_⟩
  cases hx : isI x with
  | false => exact q false (fun i e => by rw [e] at hx; cases hx) (fun _ => rfl)
  | true =>
    obtain ⟨i, rfl⟩ := isI_int hx
    refine ⟨_, rfl, _, rfl, _, _, rfl, rfl, _, rfl, ite2 (fun c => ?_) (fun c => ?_)⟩
    · refine ⟨_, rfl, _, _, rfl, rfl, q _ (fun j e => ?_) (fun e => by cases e)⟩
      cases e
      have c' := of_decide_eq_true c
      simp [c']
    · refine q _ (fun j e => ?_) (fun e => by cases e)
      cases e
      have c' := of_decide_eq_false (Bool.eq_false_iff.mpr c)
      simp [c']
/-! ### data: what a value holds -/
inductive Rd (K : PySem.W.Frag) (ok : Addr → Prop) (H : Hp) : Nat → V → PyData → Prop
  | non {n} : Rd K ok H n .non .none
  | bl {n} (b : Bool) : Rd K ok H n (.bl b) (.bool b)
  | int {n} (i : Int) : Rd K ok H n (.int i) (.int i)
  | str {n} (z : Str) (h : z.length ≤ 1000) (h2 : PyData.strOk z = true) : Rd K ok H n (.str z) (.str z)
  | lst {n} {a : Addr} {xs : List V} {ds : List PyData} (h : H a = some (.lst xs)) (ha : ok a) (hl : xs.length = ds.length) (hz : xs.length ≤ 900)
      (all : ∀ (i : Nat) (x : V) (d : PyData), xs[i]? = some x → ds[i]? = some d → Rd K ok H n x d) : Rd K ok H (n + 1) (.ref a) (.list ds)
  | tup {n} {a : Addr} {xs : List V} {ds : List PyData} (h : SqT K H a xs) (ha : ok a) (hl : xs.length = ds.length) (hz : xs.length ≤ 900)
      (all : ∀ (i : Nat) (x : V) (d : PyData), xs[i]? = some x → ds[i]? = some d → Rd K ok H n x d) : Rd K ok H (n + 1) (.ref a) (.tuple ds)
def RdL (K : PySem.W.Frag) (ok : Addr → Prop) (H : Hp) (n : Nat) (xs : List V) (ds : List PyData) : Prop :=
  xs.length = ds.length ∧ ∀ (i : Nat) (x : V) (d : PyData), xs[i]? = some x → ds[i]? = some d → Rd K ok H n x d
section
variable {ok : Addr → Prop} {H H' : Hp} {n : Nat} {x y : V} {d : PyData}
theorem Rd.keep (kl : ∀ a xs, ok a → H a = some (.lst xs) → H' a = some (.lst xs)) (kt : ∀ a xs, ok a → SqT K H a xs → SqT K H' a xs) (h : Rd K ok H n x d) : Rd K ok H' n x d := by
  induction h with
  | non => exact .non
  | bl b => exact .bl b
  | int i => exact .int i
  | str z h h2 => exact .str z h h2
  | lst h1 ha hl hz _ ih => exact .lst (kl _ _ ha h1) ha hl hz ih
  | tup h1 ha hl hz _ ih => exact .tup (kt _ _ ha h1) ha hl hz ih
theorem Rd.ex (e : Ex H H') (h : Rd K ok H n x d) : Rd K ok H' n x d := h.keep (fun _ _ _ => e _ _) (fun _ _ _ => ex_t e)
theorem Rd.but {b : Addr} (k : But b H H') (hb : ∀ a, ok a → a ≠ b) (h : Rd K ok H n x d) : Rd K ok H' n x d :=
  h.keep (fun _ _ ha hs => k _ _ (hb _ ha) hs) (fun _ _ ha hs => k.sqt (hb _ ha) hs)
theorem Rd.of {ok' : Addr → Prop} (w : ∀ a, ok a → ok' a) (h : Rd K ok H n x d) : Rd K ok' H n x d := by
  induction h with
  | non => exact .non
  | bl b => exact .bl b
  | int i => exact .int i
  | str z h h2 => exact .str z h h2
  | lst h1 ha hl hz _ ih => exact .lst h1 (w _ ha) hl hz ih
  | tup h1 ha hl hz _ ih => exact .tup h1 (w _ ha) hl hz ih
theorem Rd.succ (h : Rd K ok H n x d) : Rd K ok H (n + 1) x d := by
  induction h with
  | non => exact .non
  | bl b => exact .bl b
  | int i => exact .int i
  | str z h h2 => exact .str z h h2
  | lst h1 ha hl hz _ ih => exact .lst h1 ha hl hz ih
  | tup h1 ha hl hz _ ih => exact .tup h1 ha hl hz ih
theorem Rd.le {m : Nat} (h : Rd K ok H n x d) (l : n ≤ m) : Rd K ok H m x d := by
  induction l with
  | refl => exact h
  | step _ ih => exact ih.succ
theorem RdL.ex {xs : List V} {ds : List PyData} (e : Ex H H') (h : RdL K ok H n xs ds) : RdL K ok H' n xs ds := ⟨h.1, fun i x d hx hd => (h.2 i x d hx hd).ex e⟩
theorem RdL.but {b : Addr} {xs : List V} {ds : List PyData} (k : But b H H') (hb : ∀ a, ok a → a ≠ b) (h : RdL K ok H n xs ds) : RdL K ok H' n xs ds := ⟨h.1, fun i x d hx hd => (h.2 i x d hx hd).but k hb⟩
theorem Rd.sm (h : Rd K ok H n x d) : ∀ {ok' : Addr → Prop} {y : V}, Rd K ok' H n y d → Sm K H n x y := by
  induction h with
  | non => intro ok' y h2; cases h2; exact .non
  | bl b => intro ok' y h2; cases h2; exact .bl b
  | int i => intro ok' y h2; cases h2; exact .int i
  | str z h h3 => intro ok' y h2; cases h2; exact .str z h
  | lst h1 ha hl hz all ih =>
    intro ok' y h2
    cases h2 with
    | lst h1' ha' hl' hz' all' =>
      refine .lst (SqL.of h1) (SqL.of h1') (by omega) (by omega) fun i x y hx hy => ?_
      have hi := (List.getElem?_eq_some_iff.mp hx).1
      exact ih i x _ hx (List.getElem?_eq_getElem (by omega)) (all' i y _ hy (List.getElem?_eq_getElem (by omega)))
  | tup h1 ha hl hz all ih =>
    intro ok' y h2
    cases h2 with
    | tup h1' ha' hl' hz' all' =>
      refine .tup h1 h1' (by omega) (by omega) fun i x y hx hy => ?_
      have hi := (List.getElem?_eq_some_iff.mp hx).1
      exact ih i x _ hx (List.getElem?_eq_getElem (by omega)) (all' i y _ hy (List.getElem?_eq_getElem (by omega)))
theorem dpAll_of {xs : List V} : ∀ {ds : List PyData}, xs.length = ds.length → (∀ (i : Nat) (x : V) (d : PyData), xs[i]? = some x → ds[i]? = some d → Dp K H x d) → DpAll K H xs ds := by
  induction xs with
  | nil => intro ds hl _; cases ds with
    | nil => exact .nil
    | cons d r => cases hl
  | cons x r ih => intro ds hl h; cases ds with
    | nil => cases hl
    | cons d r2 => exact .cons (h 0 x d rfl rfl) (ih (Nat.succ.inj hl) fun i x d hx hd => h (i + 1) x d hx hd)
theorem Rd.dp (h : Rd K ok H n x d) : Dp K H x d := by
  induction h with
  | non => exact .non
  | bl b => exact .bl b
  | int i => exact .int i
  | str z h h2 => exact .str z
  | lst h1 ha hl hz _ ih => exact .lst (SqL.of h1) (dpAll_of hl ih)
  | tup h1 ha hl hz _ ih => exact .tup h1 (dpAll_of hl ih)
theorem layAll_of : ∀ {ds : List PyData} {n : Nat}, (∀ d ∈ ds, d.canLay0 = true ∧ d.depth ≤ n) → PyData.canLayAll0 ds = true ∧ PyData.depthAll ds ≤ n
  | [], n, _ => by simp [PyData.canLayAll0, PyData.depthAll]
  | d :: r, n, h => by
    have h1 := h d (by simp)
    have h2 := layAll_of (ds := r) (n := n) fun z hz => h z (by simp [hz])
    simp only [PyData.canLayAll0, PyData.depthAll, h1.1, h2.1, Bool.and_self, true_and]
    omega
theorem Rd.lay (h : Rd K ok H n x d) : d.canLay0 = true ∧ d.depth ≤ n := by
  induction h with
  | non => simp [PyData.canLay0, PyData.depth]
  | bl b => simp [PyData.canLay0, PyData.depth]
  | int i => simp [PyData.canLay0, PyData.depth]
  | str z h h2 => simp [PyData.canLay0, PyData.depth, h2]
  | @lst n a xs ds h1 ha hl hz all ih =>
    have := layAll_of (ds := ds) (n := n) fun d hd => by
      obtain ⟨i, hi⟩ := List.mem_iff_getElem?.mp hd
      have hlt := (List.getElem?_eq_some_iff.mp hi).1
      exact ih i _ d (List.getElem?_eq_getElem (by omega)) hi
    simp only [PyData.canLay0, PyData.depth, this.1, true_and]
    omega
  | @tup n a xs ds h1 ha hl hz all ih =>
    have := layAll_of (ds := ds) (n := n) fun d hd => by
      obtain ⟨i, hi⟩ := List.mem_iff_getElem?.mp hd
      have hlt := (List.getElem?_eq_some_iff.mp hi).1
      exact ih i _ d (List.getElem?_eq_getElem (by omega)) hi
    simp only [PyData.canLay0, PyData.depth, this.1, true_and]
    omega
theorem Rd.shaped (h : Rd K ok H n x d) (hn : n ≤ 64) : SeqAt.shaped d = true := by
  have := h.lay
  unfold SeqAt.shaped
  rw [this.1, decide_eq_true (by omega)]
  rfl
theorem Rd.dat (h : Rd K ok H n x d) : Dat K H x := by
  cases h with
  | non => exact ⟨"NoneType", by decide, .base .non, rfl⟩
  | bl b => exact ⟨"bool", by decide, .base (.bl b), rfl⟩
  | int i => exact .int
  | str z h h2 => exact ⟨"str", by decide, .base (.str z), rfl⟩
  | lst h1 => exact ⟨"list", by decide, tyL (SqL.of h1), rfl⟩
  | tup h1 => exact ⟨"tuple", by decide, tyT h1, rfl⟩
end
def fromD (lo : Int) : PyData → Bool
  | .int i => decide (lo ≤ i)
  | _ => false
def betwD (lo hi : Int) : PyData → Bool
  | .int i => decide (lo ≤ i ∧ i ≤ hi)
  | _ => false
def isSeq : PyData → Bool
  | .list _ => true
  | .tuple _ => true
  | _ => false
theorem rd_from {ok : Addr → Prop} {H : Hp} {n : Nat} {x : V} {d : PyData} {lo : Int} {b : Bool} (h : Rd K ok H n x d) (h1 : ∀ i, x = .int i → b = decide (lo ≤ i)) (h2 : isI x = false → b = false) : b = fromD lo d := by
  cases h <;> first | exact h1 _ rfl | exact h2 rfl
theorem rd_betw {ok : Addr → Prop} {H : Hp} {n : Nat} {x : V} {d : PyData} {lo hi : Int} {b : Bool} (h : Rd K ok H n x d) (h1 : ∀ i, x = .int i → b = decide (lo ≤ i ∧ i ≤ hi)) (h2 : isI x = false → b = false) : b = betwD lo hi d := by
  cases h <;> first | exact h1 _ rfl | exact h2 rfl
/-- data, or an empty dict -/
def RdA (K : PySem.W.Frag) (ok : Addr → Prop) (H : Hp) (n : Nat) (x : V) (d : PyData) : Prop := Rd K ok H n x d ∨ ∃ a, x = .ref a ∧ d = .dict [] ∧ ok a ∧ H a = some (.dK [])
section
variable {ok : Addr → Prop} {H H' : Hp} {n : Nat} {x : V} {d : PyData}
theorem RdA.rd (h : RdA K ok H n x d) (s : isSeq d = true) : Rd K ok H n x d := by
  rcases h with h | ⟨a, rfl, rfl, _⟩
  · exact h
  · cases s
theorem RdA.ex (e : Ex H H') (h : RdA K ok H n x d) : RdA K ok H' n x d := by
  rcases h with h | ⟨a, h1, h2, h3, h4⟩
  · exact .inl (h.ex e)
  · exact .inr ⟨a, h1, h2, h3, e _ _ h4⟩
theorem RdA.but {b : Addr} (k : But b H H') (hb : ∀ a, ok a → a ≠ b) (h : RdA K ok H n x d) : RdA K ok H' n x d := by
  rcases h with h | ⟨a, h1, h2, h3, h4⟩
  · exact .inl (h.but k hb)
  · exact .inr ⟨a, h1, h2, h3, k _ _ (hb a h3) h4⟩
theorem RdA.of {ok' : Addr → Prop} (w : ∀ a, ok a → ok' a) (h : RdA K ok H n x d) : RdA K ok' H n x d := by
  rcases h with h | ⟨a, h1, h2, h3, h4⟩
  · exact .inl (h.of w)
  · exact .inr ⟨a, h1, h2, w a h3, h4⟩
theorem RdA.dat (h : RdA K ok H n x d) : Dat K H x := by
  rcases h with h | ⟨a, rfl, rfl, _, h4⟩
  · exact h.dat
  · exact ⟨"dict", by decide, .base (.dK h4), rfl⟩
theorem rda_betw {lo hi : Int} {b : Bool} (h : RdA K ok H n x d) (h1 : ∀ i, x = .int i → b = decide (lo ≤ i ∧ i ≤ hi)) (h2 : isI x = false → b = false) : b = betwD lo hi d := by
  rcases h with h | ⟨a, rfl, rfl, _⟩
  · exact rd_betw h h1 h2
  · exact h2 rfl
theorem RdA.sm {ok' : Addr → Prop} {y : V} (h : RdA K ok H n x d) (h2 : RdA K ok' H n y d) : Sm K H (n + 1) x y := by
  rcases h with h | ⟨a, rfl, rfl, _, h4⟩
  · rcases h2 with h2 | ⟨a, rfl, rfl, _⟩
    · exact (h.sm h2).succ
    · cases h
  · rcases h2 with h2 | ⟨c, rfl, _, _, h5⟩
    · cases h2
    · exact .dct h4 h5
end
def spIsList (K : PySem.W.Frag) : Sp := fun vs H Q _ => ∃ x d n ok, vs = [x] ∧ RdA K ok H n x d ∧ ∀ H', Ex H H' → Q (.bl (isSeq d)) H'
theorem ok_is_list (T : TA1 K mg) : FnOk P w K mg base CX0 1 T.is_list.a T.is_list.fd ["value"] (spIsList K) := by
  refine T.is_list.F.ok sc_is_list (fun vs H Q E h => ?_) (fun cdv A outer s H vs Q E hr h => ?_)
  · obtain ⟨x, d, n, ok, rfl, _⟩ := h; rfl
  obtain ⟨x, d, n, ok, rfl, h, q⟩ := h
  refine ⟨_, (pss_one (ps_ret (pe_callB (kisiT K) (by rfl) T.z_isinstance (by decide +kernel) (pa_cons (pv 0) (pa_cons (pe_tup (pa_cons (pe_bltn (v := .ty "list") rfl T.z_list (by decide +kernel) rfl) (pa_cons (pe_bltn (v := .ty "tuple") rfl T.z_tuple (by decide +kernel) rfl) pa_nil))) pa_nil))))), ?_⟩
  refine ⟨_, rfl, (by show 2 ≤ sizeLine; decide), fun p hp => ?_⟩
  have q1 := q _ (Ex.new (o := .tup [.ty "list", .ty "tuple"]) hp)
  rcases h with h | ⟨a, rfl, rfl, _, hd⟩
  case inr =>
    exact ⟨_, p, [.ty "list", .ty "tuple"], _, [.type "list", .type "tuple"], false, rfl, upd_same, .cons (.ty _) (.cons (.ty _) .nil), .base (.dK ((Ex.new hp) _ _ hd)), rfl, q1⟩
  cases h with
  | non => exact ⟨_, p, [.ty "list", .ty "tuple"], _, [.type "list", .type "tuple"], false, rfl, upd_same, .cons (.ty _) (.cons (.ty _) .nil), .base .non, rfl, q1⟩
  | bl b => exact ⟨_, p, [.ty "list", .ty "tuple"], _, [.type "list", .type "tuple"], false, rfl, upd_same, .cons (.ty _) (.cons (.ty _) .nil), .base (.bl b), rfl, q1⟩
  | int i => exact ⟨_, p, [.ty "list", .ty "tuple"], _, [.type "list", .type "tuple"], false, rfl, upd_same, .cons (.ty _) (.cons (.ty _) .nil), .base (.int i), rfl, q1⟩
  | str z _ _ => exact ⟨_, p, [.ty "list", .ty "tuple"], _, [.type "list", .type "tuple"], false, rfl, upd_same, .cons (.ty _) (.cons (.ty _) .nil), .base (.str z), rfl, q1⟩
  | lst h1 => exact ⟨_, p, [.ty "list", .ty "tuple"], _, [.type "list", .type "tuple"], true, rfl, upd_same, .cons (.ty _) (.cons (.ty _) .nil), tyL (SqL.of ((Ex.new hp) _ _ h1)), rfl, q1⟩
  | tup h1 => exact ⟨_, p, [.ty "list", .ty "tuple"], _, [.type "list", .type "tuple"], true, rfl, upd_same, .cons (.ty _) (.cons (.ty _) .nil), tyT (ex_t (Ex.new hp) h1), rfl, q1⟩
theorem at_get {xs : List V} {k : Int} (h0 : 0 ≤ k) (h : k < (xs.length : Int)) : ∃ v, atI xs k = some v ∧ xs[k.toNat]? = some v := by
  have hk : k.toNat < xs.length := by omega
  refine ⟨xs[k.toNat], ?_, List.getElem?_eq_getElem hk⟩
  exact at_of (by omega) (List.getElem?_eq_getElem hk)
theorem ints_get {ns : List Int} {i : Nat} {v : V} (h : (ns.map V.int)[i]? = some v) : ∃ z, ns[i]? = some z ∧ v = .int z := by
  rw [List.getElem?_map] at h
  cases e : ns[i]? with
  | none => rw [e] at h; cases h
  | some z => rw [e] at h; exact ⟨z, rfl, (Option.some.inj h).symm⟩
theorem cutV_ints (ns : List Int) (lo hi : Option Int) : ∃ ms : List Int, cutV (ns.map V.int) lo hi = ms.map V.int := by
  refine ⟨(ns.drop (HT.sIx (ns.map V.int).length 0 lo)).take (HT.sIx (ns.map V.int).length (ns.map V.int).length hi - HT.sIx (ns.map V.int).length 0 lo), ?_⟩
  unfold cutV
  rw [List.map_take, List.map_drop]
theorem ok_law_cell (T : TA1 K mg) : FnOk P w K mg base CX0 1 T.law_cell.a T.law_cell.fd ["script", "k"] (spCell K) := by
  refine T.law_cell.F.ok sc_law_cell (fun vs H Q E h => ?_) (fun cdv A outer s H vs Q E hr h => ?_)
  · obtain ⟨a, ns, k, rfl, _⟩ := h; rfl
  obtain ⟨a, ns, k, rfl, hS, h0, h1, q⟩ := h
  refine ⟨_, (pss_one (ps_ret (pe_ifExp (pt_cmpR op_lt (pv 1) (pe_callB (klen K) (by rfl) T.z_len (by decide +kernel) (pa_cons (pv 0) pa_nil)) (nomark _)) (pe_ix (kixl K) (pv 0) (pv 1) (fun _ _ => rfl)) (pe_op op_add (pe_op op_mul pe_int (pv 1)) (pe_op op_mod (pe_callTy call_int1 (by rfl) T.z_int (by decide +kernel) (pa_cons (pe_callB (ksum K rfl) (by rfl) T.z_sum (by decide +kernel) (pa_cons (pe_slice (kslL K) (pv 0) po_none (po_some pe_int)) pa_nil)) pa_nil)) pe_int))))), ?_⟩
  refine ⟨_, rfl, _, rfl, _, _, rfl, .inl ⟨_, hS, rfl⟩, _, _, rfl, rfl, _, rfl, ite2 (fun c => ?_) (fun c => ?_)⟩
  · have c' := of_decide_eq_true c
    obtain ⟨v, hv, hg⟩ := at_get h0 c'
    obtain ⟨z, _, rfl⟩ := ints_get hg
    exact ⟨_, rfl, _, rfl, _, _, _, _, rfl, rfl, hS, hv, q _ _ (Ex.refl _)⟩
  · refine ⟨_, rfl, _, _, rfl, rfl, .inl ⟨by decide, by decide⟩, _, rfl, _, rfl, _, _, rfl, hS, fun p hp => ?_⟩
    obtain ⟨ms, em⟩ := cutV_ints ns none (some 1)
    rw [em]
    refine ⟨p, ms, rfl, .inl (SqL.of upd_same), .inl ⟨_, rfl, _, _, rfl, rfl, (show (0 : Int) < 1000033 by decide), _, _, rfl, rfl, q _ _ (Ex.new hp)⟩⟩
theorem ok_law_box (T : TA1 K mg) : FnOk P w K mg base CX0 1 T.law_box.a T.law_box.fd ["great"] spBox := by
  refine T.law_box.F.ok sc_law_box (fun vs H Q E h => ?_) (fun cdv A outer s H vs Q E hr h => ?_)
  · obtain ⟨g, rfl, _⟩ := h; rfl
  obtain ⟨g, rfl, q⟩ := h
  refine ⟨_, (pss_one (ps_ret (pe_lst (pa_cons (pe_callB call_abs (by rfl) T.z_abs (by decide +kernel) (pa_cons (pv 0) pa_nil)) (pa_cons (pe_cmpR op_ge (pe_callB call_abs (by rfl) T.z_abs (by decide +kernel) (pa_cons (pv 0) pa_nil)) (pe_op op_pow pe_int pe_int) (nomark _)) (pa_cons (pe_op op_mod (pe_callTy call_int1 (by rfl) T.z_int (by decide +kernel) (pa_cons (pe_callB call_abs (by rfl) T.z_abs (by decide +kernel) (pa_cons (pv 0) pa_nil)) pa_nil)) pe_int) (pa_cons pe_int pa_nil))))))), ?_⟩
  refine ⟨_, rfl, _, rfl, _, rfl, _, rfl, _, _, rfl, rfl, ⟨by decide, by decide, by decide⟩, _, _, rfl, rfl, _, rfl, _, rfl, .inl ⟨_, rfl, _, _, rfl, rfl, (show (0 : Int) < 2147483629 by decide), (by show 4 ≤ sizeLine; decide), fun p hp => ?_⟩⟩
  refine q p _ hp (Ex.new hp) ⟨_, _, _, _, upd_same, ?_, ?_, ?_, by decide, by decide⟩
  · split <;> omega
  · omega
  · omega
theorem fmod_in {a m : Int} (h : 0 < m) : 0 ≤ a % m ∧ a % m < m := by
  exact ⟨Int.emod_nonneg _ (by omega), Int.emod_lt_of_pos _ h⟩
theorem ok_law_take (T : TA1 K mg) : FnOk P w K mg base CX0 1 T.law_take.a T.law_take.fd ["box", "many"] spTake := by
  refine T.law_take.F.ok sc_law_take (fun vs H Q E h => ?_) (fun cdv A outer s H vs Q E hr h => ?_)
  · obtain ⟨b, m, n, rfl, _⟩ := h; rfl
  obtain ⟨b, m, n, rfl, m0, m1, ⟨d, sd, c, f, hb, d0, s0, s1, c0, c1⟩, q⟩ := h
  have hL := SqL.of (K := K) hb
  refine ⟨_, (pss_cut (ps_if (PW.pt (pw_and (pt_val (pe_ix (kixl K) (pv 0) pe_int (fun _ _ => rfl))) (pw_and1 (pt_cmpR op_gt (pe_ix (kixl K) (pv 0) pe_int (fun _ _ => rfl)) pe_int (nomark _))))) (pss_cons (ps_set (i := 2) sc_law_take.nd rfl (Or.inl rfl) (pe_op op_mod (pe_callTy call_int1 (by rfl) T.z_int (by decide +kernel) (pa_cons (pe_ix (kixl K) (pv 0) pe_int (fun _ _ => rfl)) pa_nil)) (pv 1)))
    (pss_cons (ps_asg (pe_op op_fdiv (pe_ix (kixl K) (pv 0) pe_int (fun _ _ => rfl)) (pv 1)) (pg_sub (pv 0) pe_int set_list))
    (pss_one (ps_ret (pv 2))))) pss_nil)
    (pss_cons (ps_asg (pe_op op_add (pe_ix (kixl K) (pv 0) pe_int (fun _ _ => rfl)) pe_int) (pg_sub (pv 0) pe_int set_list))
    (pss_cons (ps_set (i := 3) sc_law_take.nd rfl (Or.inl rfl) (pe_op op_mod (pe_callTy call_int1 (by rfl) T.z_int (by decide +kernel) (pa_cons (pe_op op_pow (pe_op op_add (pe_op op_add (pe_ix (kixl K) (pv 0) pe_int (fun _ _ => rfl)) (pe_op op_mul pe_int (pe_ix (kixl K) (pv 0) pe_int (fun _ _ => rfl)))) pe_int) pe_int) pa_nil)) pe_int))
    (pss_one (ps_ret (pe_op op_mod (pe_callTy call_int1 (by rfl) T.z_int (by decide +kernel) (pa_cons (pe_op op_fdiv (pe_op op_mod (pe_callTy call_int1 (by rfl) T.z_int (by decide +kernel) (pa_cons (pe_op op_pow (pe_op op_add (pe_op op_mul (pv 3) pe_int) (pe_op op_mul pe_int (pe_ix (kixl K) (pv 0) pe_int (fun _ _ => rfl)))) pe_int) pa_nil)) pe_int) pe_int) pa_nil)) (pv 1))))))), ?_⟩
  have mres : ∀ x : Int, 0 ≤ x % m ∧ x % m < m := fun x => fmod_in m0
  have fm : ∀ {a k : Int}, 0 ≤ a → 0 < k → 0 ≤ a % k ∧ a % k < k := fun _ h => fmod_in h
  refine ⟨fun σ' H' => σ' = [some (.ref b), some (.int m), none, none] ∧ H' = H, ?_, ?_⟩
  · refine ⟨_, rfl, _, _, _, _, rfl, rfl, hL, rfl, f, rfl, ?_⟩
    cases f with
    | false => exact ⟨rfl, rfl⟩
    | true =>
      refine ⟨_, rfl, _, _, _, _, rfl, rfl, hL, rfl, _, _, rfl, rfl, _, rfl, ite2 (fun c => ?_) (fun _ => ⟨rfl, rfl⟩)⟩
      refine ⟨_, rfl, _, _, _, _, rfl, rfl, hL, rfl, .inl ⟨_, rfl, _, rfl, _, _, rfl, rfl, m0, ?_⟩⟩
      refine ⟨_, rfl, _, _, _, _, rfl, rfl, hL, rfl, _, rfl, _, _, rfl, rfl, ⟨by omega, by omega⟩, ?_⟩
      refine ⟨_, rfl, b, _, 0, 0, rfl, rfl, hb, rfl, ?_⟩
      refine ⟨_, rfl, q _ _ (mres _).1 (mres _).2 ⟨_, _, _, _, upd_same, ?_, s0, s1, c0, by omega⟩ But.upd⟩
      exact Int.ediv_nonneg d0 (by omega)
  · rintro σ' H' ⟨rfl, rfl⟩
    refine ⟨_, rfl, _, _, _, _, rfl, rfl, hL, rfl, _, _, rfl, rfl, ?_⟩
    refine ⟨_, rfl, b, _, 3, 3, rfl, rfl, hb, rfl, ?_⟩
    have hb2 : upd H' b (.lst [.int d, .bl f, .int sd, .int (c + 1)]) b = some (.lst [.int d, .bl f, .int sd, .int (c + 1)]) := upd_same
    have hL2 := SqL.of (K := K) hb2
    have r1 := @fmod_in ((sd + 15485863 * (c + 1) + 179424673) ^ (5 : Int).toNat) 2147483647 (by decide)
    refine ⟨_, rfl, _, _, _, _, rfl, rfl, hL2, rfl, ?_⟩
    refine ⟨_, rfl, _, _, _, _, rfl, rfl, hL2, rfl, _, _, rfl, rfl, .inl ⟨by decide, by decide⟩, _, _, rfl, rfl, _, _, rfl, rfl, ?_⟩
    refine ⟨_, _, rfl, rfl, ⟨by decide, by decide, by omega⟩, .inl ⟨_, rfl, _, _, rfl, rfl, (show (0 : Int) < 2147483647 by decide), ?_⟩⟩
    refine ⟨_, rfl, _, _, rfl, rfl, .inr ⟨by decide, by decide⟩, ?_⟩
    refine ⟨_, rfl, _, _, _, _, rfl, rfl, hL2, rfl, _, _, rfl, rfl, .inl ⟨by decide, by decide⟩, _, _, rfl, rfl, ?_⟩
    refine ⟨_, _, rfl, rfl, ⟨by decide, by decide, by omega⟩, .inl ⟨_, rfl, _, _, rfl, rfl, (show (0 : Int) < 2147483587 by decide), ?_⟩⟩
    refine ⟨_, _, rfl, rfl, ⟨by decide, by decide⟩, .inl ⟨_, rfl, _, rfl, _, _, rfl, rfl, m0, ?_⟩⟩
    exact q _ _ (mres _).1 (mres _).2 ⟨_, _, _, _, hb2, d0, s0, s1, by omega, by omega⟩ But.upd
section
variable {X : Cx}
def rLenA (K : PySem.W.Frag) : List V → Hp → VK → Prop := fun xs H Q => rLen K xs H Q ∨ ∃ a kvs, xs = [V.ref a] ∧ H a = some (.dK kvs) ∧ Q (.int (kvs.length : Nat)) H
theorem klenA (K : PySem.W.Frag) (h : X.K = K := by rfl) : CallR X (.builtin "len") (rLenA K) := by
  subst h
  intro pins s σ H vs us Q I r h
  rcases h with h | h
  · exact call_len pins s σ H vs us Q I r h
  · exact call_lenD pins s σ H vs us Q I r h
end
/-! ### the law's own sameness -/
theorem none_left {sp : Sp} {f : Addr} {fd : FuncData} {ps : List Str} (no : ∀ vs H Q E, ¬ sp vs H Q E) : FnOk P w K mg base CX0 0 f fd ps sp :=
  ⟨fun vs H Q E h => absurd h (no vs H Q E), fun A outer s H args us vs Q E _ _ _ _ h => absurd h (no vs H Q E)⟩
theorem isi_at {H : Hp} {x : V} {t u : String} {b : Bool} {Q : VK} (ty : TyX K H x (.type t)) (h : kitB t u = some b) (q : Q (.bl b) H) : rIsi K [x, .ty u] H Q :=
  ⟨x, .ty u, _, _, b, rfl, .ty u, ty, kit_ty h, q⟩
def spS (K : PySem.W.Frag) : Nat → Sp
  | 0 => fun _ _ _ _ => False
  | n + 1 => spSame K n
theorem no_given {n : Nat} {v : Nat → V} : given n (fun _ => false) v = [] := by
  unfold given
  rw [List.filter_eq_nil_iff.mpr (by intro a _; decide)]
  rfl
theorem eq_empty {ta : TE} {σ : L2.St} {H : Hp} {xs : List V} (hx : xs = []) (h : EvL ta σ H xs) : Ev (tOp (rEqD K) ta (tLst tNil)) σ H (.bl true) := by
  subst hx
  exact ev_opLL h (el_lst ea_nil (Nat.zero_le _)) fun p q H1 hp hq _ => rv_val fun H2 e2 Q k =>
    ⟨.list [], .list [], .lst (SqL.of (e2 _ _ hp)) .nil, .lst (SqL.of (e2 _ _ hq)) .nil, rfl, rfl, k⟩
theorem same_step (T : TA1 K mg) (n : Nat) (ih : FnOk P w K mg base CX0 n T.law_same.a T.law_same.fd ["told", "due"] (spS K n)) :
    FnOk P w K mg base CX0 (n + 1) T.law_same.a T.law_same.fd ["told", "due"] (spS K (n + 1)) := by
  refine T.law_same.F.ok sc_law_same (fun vs H Q E h => ?_) (fun cdv A outer s H vs Q E hr h => ?_)
  · obtain ⟨x, y, rfl, _⟩ := h; rfl
  obtain ⟨x, y, rfl, hS, q⟩ := h
  refine ⟨_, (pss_cons (ps_if (PW.pt (pw_or (pt_cmpR op_isN (pv 1) pe_non (nomark _)) (pw_or1 (pt_val (pe_callB (kisi K) (by rfl) T.z_isinstance (by decide +kernel) (pa_cons (pv 1) (pa_cons (pe_bltn (v := .ty "bool") rfl T.z_bool (by decide +kernel) rfl) pa_nil))))))) (pss_one (ps_ret (pe_ifExp (pt_cmpR op_isN (pv 1) pe_non (nomark _)) (pe_cmpR op_isN (pv 0) pe_non (nomark _)) (pe_and (pe_callB (kisi K) (by rfl) T.z_isinstance (by decide +kernel) (pa_cons (pv 0) (pa_cons (pe_bltn (v := .ty "bool") rfl T.z_bool (by decide +kernel) rfl) pa_nil))) (pe_one (pe_cmpR op_eq (pe_cmpR op_is_bl (pv 0) pe_bl (nomark _)) (pe_cmpR op_is_bl (pv 1) pe_bl (nomark _)) (nomark _))))))) pss_nil)
    (pss_cons (ps_if (pt_val (pe_callB (kisi K) (by rfl) T.z_isinstance (by decide +kernel) (pa_cons (pv 1) (pa_cons (pe_bltn (v := .ty "int") rfl T.z_int (by decide +kernel) rfl) pa_nil)))) (pss_one (ps_ret (pe_and (pe_callB (kisi K) (by rfl) T.z_isinstance (by decide +kernel) (pa_cons (pv 0) (pa_cons (pe_bltn (v := .ty "int") rfl T.z_int (by decide +kernel) rfl) pa_nil))) (pe_and (pe_not (pe_callB (kisi K) (by rfl) T.z_isinstance (by decide +kernel) (pa_cons (pv 0) (pa_cons (pe_bltn (v := .ty "bool") rfl T.z_bool (by decide +kernel) rfl) pa_nil)))) (pe_one (pe_cmpR op_eq (pe_op op_sub (pe_callTy call_int1 (by rfl) T.z_int (by decide +kernel) (pa_cons (pv 0) pa_nil)) (pv 1)) pe_int (nomark _))))))) pss_nil)
    (pss_cons (ps_if (pt_val (pe_callB (kisi K) (by rfl) T.z_isinstance (by decide +kernel) (pa_cons (pv 1) (pa_cons (pe_bltn (v := .ty "str") rfl T.z_str (by decide +kernel) rfl) pa_nil)))) (pss_one (ps_ret (pe_and (pe_callB (kisi K) (by rfl) T.z_isinstance (by decide +kernel) (pa_cons (pv 0) (pa_cons (pe_bltn (v := .ty "str") rfl T.z_str (by decide +kernel) rfl) pa_nil))) (pe_and (pe_cmpR op_eq (pe_callB (klen K) (by rfl) T.z_len (by decide +kernel) (pa_cons (pv 0) pa_nil)) (pe_callB (klen K) (by rfl) T.z_len (by decide +kernel) (pa_cons (pv 1) pa_nil)) (nomark _)) (pe_one (pe_cmpR (keqD K hr.units) (pe_lc (own := [("k", 2)]) (g := gName 2) (by rfl) sc_law_same.nd (pi_range1 rfl T.z_range (pa_cons (pe_callB (klen K) (by rfl) T.z_len (by decide +kernel) (pa_cons (pv 1) pa_nil)) pa_nil)) (blkOk_by (own := [("k", 2)]) (N := ["told", "due", "k"]) (sc := defScope s_law_same) (by decide +kernel)) (fun _ _ _ _ _ => (pg_name (i := 2) sc_law_same.nd rfl (Or.inl rfl))) (fun _ _ _ _ _ => (pts_one (pt_cmpR op_ne (pe_slice sl_str (pv 0) (po_some (pv 2)) (po_some (pe_op op_add (pv 2) pe_int))) (pe_ix (kix K) (pv 1) (pv 2) (fun _ _ => rfl)) (nomark _)))) (fun _ _ _ _ _ => (pv 2))) (pe_lst pa_nil) (nomark _))))))) pss_nil)
    (pss_cons (ps_if (PW.pt (pw_or (pt_cmpR op_ne (pe_callB (kisi K) (by rfl) T.z_isinstance (by decide +kernel) (pa_cons (pv 0) (pa_cons (pe_bltn (v := .ty "list") rfl T.z_list (by decide +kernel) rfl) pa_nil))) (pe_callB (kisi K) (by rfl) T.z_isinstance (by decide +kernel) (pa_cons (pv 1) (pa_cons (pe_bltn (v := .ty "list") rfl T.z_list (by decide +kernel) rfl) pa_nil))) (nomark _)) (pw_or1 (pt_cmpR op_ne (pe_callB (kisi K) (by rfl) T.z_isinstance (by decide +kernel) (pa_cons (pv 0) (pa_cons (pe_bltn (v := .ty "tuple") rfl T.z_tuple (by decide +kernel) rfl) pa_nil))) (pe_callB (kisi K) (by rfl) T.z_isinstance (by decide +kernel) (pa_cons (pv 1) (pa_cons (pe_bltn (v := .ty "tuple") rfl T.z_tuple (by decide +kernel) rfl) pa_nil))) (nomark _))))) (pss_one (ps_ret pe_bl)) pss_nil)
    (pss_one (ps_ret (pe_and (pe_cmpR op_eq (pe_callB (klenA K) (by rfl) T.z_len (by decide +kernel) (pa_cons (pv 0) pa_nil)) (pe_callB (klenA K) (by rfl) T.z_len (by decide +kernel) (pa_cons (pv 1) pa_nil)) (nomark _)) (pe_one (pe_cmpR (keqD K hr.units) (pe_lc (own := [("k", 2)]) (g := gName 2) (by rfl) sc_law_same.nd (pi_range1 rfl T.z_range (pa_cons (pe_callB (klenA K) (by rfl) T.z_len (by decide +kernel) (pa_cons (pv 1) pa_nil)) pa_nil)) (blkOk_by (own := [("k", 2)]) (N := ["told", "due", "k"]) (sc := defScope s_law_same) (by decide +kernel)) (fun _ _ _ _ _ => (pg_name (i := 2) sc_law_same.nd rfl (Or.inl rfl))) (fun _ _ _ _ _ => (pts_one (pt_not (pt_val (pe_call (ih) hr rfl T.law_same.m T.law_same.F.kp T.law_same.b .nil pass0 (pa_cons (pe_ix (kix K) (pv 0) (pv 2) (fun _ _ => rfl)) (pa_cons (pe_ix (kix K) (pv 1) (pv 2) (fun _ _ => rfl)) pa_nil))))))) (fun _ _ _ _ _ => (pv 2))) (pe_lst pa_nil) (nomark _)))))))))), ?_⟩
  cases hS with
  | non => exact ⟨_, rfl, rfl, _, rfl, iteT (iteT ⟨_, rfl, rfl, _, rfl, iteT ⟨_, rfl, rfl, q _ (Ex.refl _)⟩⟩)⟩
  | bl b =>
    refine ⟨_, rfl, rfl, _, rfl, iteF ⟨_, rfl, _, _, _, _, true, rfl, .ty _, (.base (.bl b)), kit_ty (by decide +kernel), ⟨_, rfl, iteT ⟨_, rfl, rfl, _, rfl, iteF ?_⟩⟩⟩⟩
    refine ⟨_, rfl, _, _, _, _, true, rfl, .ty _, (.base (.bl b)), kit_ty (by decide +kernel), ⟨_, rfl, iteT ⟨_, rfl, _, _, rfl, rfl, _, rfl, _, _, rfl, rfl, rfl, ?_⟩⟩⟩
    rw [decide_eq_true (rfl : V.bl (decide (b = true)) = V.bl (decide (b = true)))]
    exact q _ (Ex.refl _)
  | int i =>
    refine ⟨_, rfl, rfl, _, rfl, iteF ⟨_, rfl, _, _, _, _, false, rfl, .ty _, (.base (.int i)), kit_ty (by decide +kernel), ⟨_, rfl, iteF ?_⟩⟩⟩
    refine ⟨_, rfl, _, _, _, _, true, rfl, .ty _, (.base (.int i)), kit_ty (by decide +kernel), ⟨_, rfl, iteT ?_⟩⟩
    refine ⟨_, rfl, _, _, _, _, true, rfl, .ty _, (.base (.int i)), kit_ty (by decide +kernel), ⟨_, rfl, iteT ?_⟩⟩
    refine ⟨_, rfl, _, _, _, _, false, rfl, .ty _, (.base (.int i)), kit_ty (by decide +kernel), ⟨_, rfl, _, rfl, iteT ?_⟩⟩
    refine ⟨_, rfl, .inl ⟨_, rfl, _, rfl, _, _, rfl, rfl, rfl, ?_⟩⟩
    show Q (V.bl (decide (V.int (i - i) = V.int 0))) H
    rw [Int.sub_self]
    exact q _ (Ex.refl _)
  | str z hz =>
    have hz' : z.length ≤ sizeLine := Nat.le_trans hz (by decide)
    refine ⟨_, rfl, rfl, _, rfl, iteF ⟨_, rfl, _, _, _, _, false, rfl, .ty _, (.base (.str z)), kit_ty (by decide +kernel), ⟨_, rfl, iteF ?_⟩⟩⟩
    refine ⟨_, rfl, _, _, _, _, false, rfl, .ty _, (.base (.str z)), kit_ty (by decide +kernel), ⟨_, rfl, iteF ?_⟩⟩
    refine ⟨_, rfl, _, _, _, _, true, rfl, .ty _, (.base (.str z)), kit_ty (by decide +kernel), ⟨_, rfl, iteT ?_⟩⟩
    refine ⟨_, rfl, _, _, _, _, true, rfl, .ty _, (.base (.str z)), kit_ty (by decide +kernel), ⟨_, rfl, iteT ?_⟩⟩
    refine ⟨_, rfl, _, z.length, rfl, ⟨hz', rfl⟩, _, rfl, _, z.length, rfl, ⟨hz', rfl⟩, rfl, _, rfl, ?_⟩
    rw [if_pos (decide_eq_true rfl)]
    refine eq_empty (no_given (n := (z.length : Int).toNat) (v := fun _ => V.non)) ?_ H (Ex.refl _) Q (fun H2 e2 => q H2 e2)
    refine el_lcR1 (fun _ => false) (fun _ => V.non) ?_ ⟨by omega, by omega⟩ (fun _ => rfl) ?_ (fun _ _ _ _ hf => nomatch hf)
    · exact fun H1 e Q' k => ⟨_, rfl, _, z.length, rfl, ⟨hz', rfl⟩, k H1 (Ex.refl _)⟩
    · intro i H1 e hi
      have hz2 : i < z.cps.toList.length := by
        have e2 : z.cps.toList.length = z.length := Array.length_toList
        omega
      have hat : atI z.cps.toList (i : Int) = some z.cps.toList[i] := atI_nat (List.getElem?_eq_getElem hz2)
      have hc := cut_one (List.getElem?_eq_getElem hz2)
      intro H2 e2 Q2 k2
      refine ⟨_, rfl, _, rfl, _, rfl, _, rfl, _, _, rfl, rfl, _, rfl, z, rfl, hz', _, rfl, _, rfl, .inr (.inr ⟨z, _, _, rfl, rfl, hz', hat, rfl, _, rfl, ?_⟩)⟩
      rw [hc, decide_eq_true rfl]
      exact k2 H2 (Ex.refl _)
  | @lst n a b xs ys h1 h2 hl hl1 all =>
    refine ⟨_, rfl, rfl, _, rfl, iteF ⟨_, rfl, _, _, _, _, false, rfl, .ty _, (tyL h2), kit_ty (by decide +kernel), ⟨_, rfl, iteF ?_⟩⟩⟩
    refine ⟨_, rfl, _, _, _, _, false, rfl, .ty _, (tyL h2), kit_ty (by decide +kernel), ⟨_, rfl, iteF ?_⟩⟩
    refine ⟨_, rfl, _, _, _, _, false, rfl, .ty _, (tyL h2), kit_ty (by decide +kernel), ⟨_, rfl, iteF ?_⟩⟩
    refine ⟨_, rfl, _, _, _, _, true, rfl, .ty _, (tyL h1), kit_ty (by decide +kernel), ⟨_, rfl, _, _, _, _, true, rfl, .ty _, (tyL h2), kit_ty (by decide +kernel), ⟨rfl, _, rfl, iteF ?_⟩⟩⟩
    refine ⟨_, rfl, _, _, _, _, false, rfl, .ty _, (tyL h1), kit_ty (by decide +kernel), ⟨_, rfl, _, _, _, _, false, rfl, .ty _, (tyL h2), kit_ty (by decide +kernel), ⟨rfl, _, rfl, iteF ?_⟩⟩⟩
    refine ⟨_, rfl, .inl ⟨_, xs.length, rfl, .inl ⟨_, h1, rfl⟩, _, rfl, .inl ⟨_, ys.length, rfl, .inl ⟨_, h2, rfl⟩, rfl, _, rfl, ?_⟩⟩⟩
    rw [if_pos (decide_eq_true (by rw [hl]))]
    refine eq_empty (no_given (n := (ys.length : Int).toNat) (v := fun _ => V.non)) ?_ H (Ex.refl _) Q (fun H2 e2 => q H2 e2)
    refine el_lcR1 (fun _ => false) (fun _ => V.non) ?_ ⟨by omega, by omega⟩ (fun _ => rfl) ?_ (fun _ _ _ _ hf => nomatch hf)
    · exact fun H1 e Q' k => ⟨_, rfl, .inl ⟨_, ys.length, rfl, .inl ⟨_, ex_l e h2, rfl⟩, k H1 (Ex.refl _)⟩⟩
    · intro i H1 e hi H2 e2 Q2 k2
      have hy : ys[i]? = some ys[i] := List.getElem?_eq_getElem (by omega)
      have hx : xs[i]? = some xs[i] := List.getElem?_eq_getElem (by omega)
      refine ⟨_, rfl, _, rfl, .inl ⟨_, _, _, _, rfl, rfl, ex_l (e.trans e2) h1, atI_nat hx, _, rfl, _, rfl, .inl ⟨_, _, _, _, rfl, rfl, ex_l (e.trans e2) h2, atI_nat hy, ?_⟩⟩⟩
      exact ⟨_, _, rfl, (all i _ _ hx hy).ex (e.trans e2), fun H3 e3 => ⟨true, rfl, k2 H3 e3⟩⟩
  | @tup n a b xs ys h1 h2 hl hl1 all =>
    refine ⟨_, rfl, rfl, _, rfl, iteF ⟨_, rfl, _, _, _, _, false, rfl, .ty _, (tyT h2), kit_ty (by decide +kernel), ⟨_, rfl, iteF ?_⟩⟩⟩
    refine ⟨_, rfl, _, _, _, _, false, rfl, .ty _, (tyT h2), kit_ty (by decide +kernel), ⟨_, rfl, iteF ?_⟩⟩
    refine ⟨_, rfl, _, _, _, _, false, rfl, .ty _, (tyT h2), kit_ty (by decide +kernel), ⟨_, rfl, iteF ?_⟩⟩
    refine ⟨_, rfl, _, _, _, _, false, rfl, .ty _, (tyT h1), kit_ty (by decide +kernel), ⟨_, rfl, _, _, _, _, false, rfl, .ty _, (tyT h2), kit_ty (by decide +kernel), ⟨rfl, _, rfl, iteF ?_⟩⟩⟩
    refine ⟨_, rfl, _, _, _, _, true, rfl, .ty _, (tyT h1), kit_ty (by decide +kernel), ⟨_, rfl, _, _, _, _, true, rfl, .ty _, (tyT h2), kit_ty (by decide +kernel), ⟨rfl, _, rfl, iteF ?_⟩⟩⟩
    refine ⟨_, rfl, .inl ⟨_, xs.length, rfl, .inr ⟨_, h1, rfl⟩, _, rfl, .inl ⟨_, ys.length, rfl, .inr ⟨_, h2, rfl⟩, rfl, _, rfl, ?_⟩⟩⟩
    rw [if_pos (decide_eq_true (by rw [hl]))]
    refine eq_empty (no_given (n := (ys.length : Int).toNat) (v := fun _ => V.non)) ?_ H (Ex.refl _) Q (fun H2 e2 => q H2 e2)
    refine el_lcR1 (fun _ => false) (fun _ => V.non) ?_ ⟨by omega, by omega⟩ (fun _ => rfl) ?_ (fun _ _ _ _ hf => nomatch hf)
    · exact fun H1 e Q' k => ⟨_, rfl, .inl ⟨_, ys.length, rfl, .inr ⟨_, ex_t e h2, rfl⟩, k H1 (Ex.refl _)⟩⟩
    · intro i H1 e hi H2 e2 Q2 k2
      have hy : ys[i]? = some ys[i] := List.getElem?_eq_getElem (by omega)
      have hx : xs[i]? = some xs[i] := List.getElem?_eq_getElem (by omega)
      refine ⟨_, rfl, _, rfl, .inr (.inl ⟨_, _, _, _, rfl, rfl, ex_t (e.trans e2) h1, atI_nat hx, _, rfl, _, rfl, .inr (.inl ⟨_, _, _, _, rfl, rfl, ex_t (e.trans e2) h2, atI_nat hy, ?_⟩)⟩)⟩
      exact ⟨_, _, rfl, (all i _ _ hx hy).ex (e.trans e2), fun H3 e3 => ⟨true, rfl, k2 H3 e3⟩⟩
  | @dct n a b h1 h2 =>
    have t1 : TyX K H (.ref a) (.type "dict") := .base (.dK h1)
    have t2 : TyX K H (.ref b) (.type "dict") := .base (.dK h2)
    refine ⟨_, rfl, rfl, _, rfl, iteF ⟨_, rfl, _, _, _, _, false, rfl, .ty _, t2, kit_ty (by decide +kernel), ⟨_, rfl, iteF ?_⟩⟩⟩
    refine ⟨_, rfl, _, _, _, _, false, rfl, .ty _, t2, kit_ty (by decide +kernel), ⟨_, rfl, iteF ?_⟩⟩
    refine ⟨_, rfl, _, _, _, _, false, rfl, .ty _, t2, kit_ty (by decide +kernel), ⟨_, rfl, iteF ?_⟩⟩
    refine ⟨_, rfl, _, _, _, _, false, rfl, .ty _, t1, kit_ty (by decide +kernel), ⟨_, rfl, _, _, _, _, false, rfl, .ty _, t2, kit_ty (by decide +kernel), ⟨rfl, _, rfl, iteF ?_⟩⟩⟩
    refine ⟨_, rfl, _, _, _, _, false, rfl, .ty _, t1, kit_ty (by decide +kernel), ⟨_, rfl, _, _, _, _, false, rfl, .ty _, t2, kit_ty (by decide +kernel), ⟨rfl, _, rfl, iteF ?_⟩⟩⟩
    refine ⟨_, rfl, .inr ⟨a, [], rfl, h1, _, rfl, .inr ⟨b, [], rfl, h2, rfl, _, rfl, ?_⟩⟩⟩
    rw [if_pos (decide_eq_true rfl)]
    refine eq_empty (no_given (n := (0 : Int).toNat) (v := fun _ => V.non)) ?_ H (Ex.refl _) Q (fun H2 e2 => q H2 e2)
    refine el_lcR1 (n := 0) (fun _ => false) (fun _ => V.non) ?_ ⟨by omega, by omega⟩ (fun _ => rfl) ?_ (fun _ _ _ _ hf => nomatch hf)
    · exact fun H1 e Q' k => ⟨_, rfl, .inr ⟨b, [], rfl, e _ _ h2, k H1 (Ex.refl _)⟩⟩
    · intro i H1 e hi
      omega
theorem ok_same (T : TA1 K mg) : ∀ n, FnOk P w K mg base CX0 n T.law_same.a T.law_same.fd ["told", "due"] (spS K n)
  | 0 => none_left fun _ _ _ _ h => h
  | n + 1 => same_step T n (ok_same T n)
theorem ok_law_same (T : TA1 K mg) : FnOk P w K mg base CX0 9 T.law_same.a T.law_same.fd ["told", "due"] (spSame K 8) := ok_same T 9
end
end L2.U


set_option Elab.async false
set_option linter.all false
set_option maxRecDepth 100000
set_option maxHeartbeats 4000000
namespace L2.U
open PySem PySem.Spec PyProof.Rows Evl
section
variable {P : Program} {w : World} {K : PySem.W.Frag} {mg : Str → Option Value} {base : Heap}
def itemsD : PyData → List PyData
  | .list ds => ds
  | .tuple ds => ds
  | _ => []
def intD : PyData → Int
  | .int i => i
  | _ => 0
theorem two_le : 2 ≤ sizeLine := by decide
/-- a tuple outlives what a list becomes -/
theorem sqt_but {H H' : Hp} {b a : Addr} {ys xs : List V} (hb : H b = some (.lst ys)) (k : But b H H') (h : SqT K H a xs) : SqT K H' a xs := by
  rcases h with (h | ⟨p, h⟩) | h
  · exact .inl (.inl (k _ _ (fun z => by rw [z, hb] at h; cases h) h))
  · exact .inl (.inr ⟨p, k _ _ (fun z => by rw [z, hb] at h; cases h) h⟩)
  · exact .inr h
/-- data in which own objects and dicts may stand: told as an empty dict -/
inductive Ro (K : PySem.W.Frag) (C : Addr) (ok : Addr → Prop) (H : Hp) : Nat → V → PyData → Prop
  | non {n} : Ro K C ok H n .non .none
  | bl {n} (b : Bool) : Ro K C ok H n (.bl b) (.bool b)
  | int {n} (i : Int) : Ro K C ok H n (.int i) (.int i)
  | str {n} (z : Str) (h : z.length ≤ 1000) (h2 : PyData.strOk z = true) : Ro K C ok H n (.str z) (.str z)
  | lst {n} {a : Addr} {xs : List V} {ds : List PyData} (h : H a = some (.lst xs)) (ha : ok a) (hl : xs.length = ds.length) (hz : xs.length ≤ 900)
      (all : ∀ (i : Nat) (x : V) (d : PyData), xs[i]? = some x → ds[i]? = some d → Ro K C ok H n x d) : Ro K C ok H (n + 1) (.ref a) (.list ds)
  | tup {n} {a : Addr} {xs : List V} {ds : List PyData} (h : SqT K H a xs) (hl : xs.length = ds.length) (hz : xs.length ≤ 900)
      (all : ∀ (i : Nat) (x : V) (d : PyData), xs[i]? = some x → ds[i]? = some d → Ro K C ok H n x d) : Ro K C ok H (n + 1) (.ref a) (.tuple ds)
  | dct {n} {a : Addr} (h : H a = some (.dK [])) : Ro K C ok H n (.ref a) (.dict [])
  | own {n} {a dx : Addr} {fs : List (Str × V)} (h : H a = some (.ins C dx fs)) : Ro K C ok H n (.ref a) (.dict [])
section
variable {C : Addr} {ok ok' : Addr → Prop} {H H' : Hp} {n m : Nat} {x : V} {d : PyData}
theorem Ro.ex (e : Ex H H') (h : Ro K C ok H n x d) : Ro K C ok H' n x d := by
  induction h with
  | non => exact .non
  | bl b => exact .bl b
  | int i => exact .int i
  | str z h h2 => exact .str z h h2
  | lst h ha hl hz _ ih => exact .lst (e _ _ h) ha hl hz ih
  | tup h hl hz _ ih => exact .tup (ex_t e h) hl hz ih
  | dct h => exact .dct (e _ _ h)
  | own h => exact .own (e _ _ h)
theorem Ro.of (w : ∀ a, ok a → ok' a) (h : Ro K C ok H n x d) : Ro K C ok' H n x d := by
  induction h with
  | non => exact .non
  | bl b => exact .bl b
  | int i => exact .int i
  | str z h h2 => exact .str z h h2
  | lst h ha hl hz _ ih => exact .lst h (w _ ha) hl hz ih
  | tup h hl hz _ ih => exact .tup h hl hz ih
  | dct h => exact .dct h
  | own h => exact .own h
theorem Ro.but {b : Addr} {ys : List V} (hb : H b = some (.lst ys)) (k : But b H H') (w : ∀ a, ok a → a ≠ b) (h : Ro K C ok H n x d) : Ro K C ok H' n x d := by
  induction h with
  | non => exact .non
  | bl b => exact .bl b
  | int i => exact .int i
  | str z h h2 => exact .str z h h2
  | lst h ha hl hz _ ih => exact .lst (k _ _ (w _ ha) h) ha hl hz ih
  | tup h hl hz _ ih => exact .tup (sqt_but hb k h) hl hz ih
  | dct h => exact .dct (k _ _ (ne_of h hb (by intro z; cases z)) h)
  | own h => exact .own (k _ _ (ne_of h hb (by intro z; cases z)) h)
theorem Ro.succ (h : Ro K C ok H n x d) : Ro K C ok H (n + 1) x d := by
  induction h with
  | non => exact .non
  | bl b => exact .bl b
  | int i => exact .int i
  | str z h h2 => exact .str z h h2
  | lst h ha hl hz _ ih => exact .lst h ha hl hz ih
  | tup h hl hz _ ih => exact .tup h hl hz ih
  | dct h => exact .dct h
  | own h => exact .own h
theorem Ro.le (h : Ro K C ok H n x d) (l : n ≤ m) : Ro K C ok H m x d := by
  induction l with
  | refl => exact h
  | step _ ih => exact ih.succ
theorem Ro.rd (h : Rd K ok H n x d) : Ro K C ok H n x d := by
  induction h with
  | non => exact .non
  | bl b => exact .bl b
  | int i => exact .int i
  | str z h h2 => exact .str z h h2
  | lst h1 ha hl hz _ ih => exact .lst h1 ha hl hz ih
  | tup h1 ha hl hz _ ih => exact .tup h1 hl hz ih
theorem Ro.seq (h : Ro K C ok H n x d) (s : isSeq d = true) : ∃ a xs, x = .ref a ∧ (SqL K H a xs ∧ d = .list (itemsD d) ∨ SqT K H a xs ∧ d = .tuple (itemsD d)) ∧ xs.length = (itemsD d).length ∧ xs.length ≤ 900 ∧
    ∀ (i : Nat) (x : V) (e : PyData), xs[i]? = some x → (itemsD d)[i]? = some e → Ro K C ok H (n - 1) x e := by
  cases h with
  | lst h ha hl hz all => exact ⟨_, _, rfl, .inl ⟨SqL.of h, rfl⟩, hl, hz, all⟩
  | tup h hl hz all => exact ⟨_, _, rfl, .inr ⟨h, rfl⟩, hl, hz, all⟩
  | non => cases s
  | bl _ => cases s
  | int _ => cases s
  | str _ _ _ => cases s
  | dct _ => cases s
  | own _ => cases s
end
structure ClsAt (K : PySem.W.Frag) (C : Addr) : Prop where
  cl : Cls K C
  ha : PySem.W.findIn K (.ref C) "__class__" = some (some (.builtin "object.__class__"))
  hn : PySem.W.specialIn K (.builtin "object.__class__") "__get__" = some (some (.builtin "getset_descriptor.__get__"))
  htk : PySem.W.takesIn K (.builtin "object.__class__") = some true
  hm : PySem.W.mroIn K C (.type "object") = some true
  no : ∀ t ∈ ["list", "tuple", "int", "bool", "str", "dict"], PySem.W.subIn K (.ref C) (.type t) = some false
  ic : (PySem.W.clsIn K C).isSome = true
  ty : PySem.W.typeIn K (.ref C) = some (.type "type")
  su : ∀ t ∈ ["NoneType", "bool", "int", "str", "list", "tuple", "dict"], PySem.W.subIn K (.type t) (.ref C) = some false
theorem ClsAt.kitC {C : Addr} (c : ClsAt K C) {t : String} (h : t ∈ ["NoneType", "bool", "int", "str", "list", "tuple", "dict"]) : PySem.W.kitOne K (.type t) (.ref C) = some false := by
  unfold PySem.W.kitOne PySem.W.kitCls
  rw [if_neg (by show ¬ ((Value.type t == Value.ref C) = true); simp)]
  show (if ((PySem.W.clsIn K C).isSome && PySem.W.typeIn K (.ref C) == some (.type "type")) = true then PySem.W.subIn K (.type t) (.ref C) else none) = some false
  rw [if_pos (by rw [c.ic, c.ty]; rfl)]
  exact c.su t h
theorem ClsAt.kitS {C : Addr} : PySem.W.kitOne K (.ref C) (.ref C) = some true := by
  unfold PySem.W.kitOne
  rw [if_pos (by simp)]
theorem ClsAt.kit {C : Addr} (c : ClsAt K C) {t : String} (h : t ∈ ["list", "tuple", "int", "bool", "str", "dict"]) (hm : PySem.W.kitMeta t = true) : PySem.W.kitOne K (.ref C) (.type t) = some false := by
  unfold PySem.W.kitOne PySem.W.kitCls
  have : ((Value.ref C == Value.type t) = true) = False := by simp
  rw [if_neg (by rw [this]; exact id)]
  show (if PySem.W.kitMeta t = true then PySem.W.subIn K (Value.ref C) (Value.type t) else none) = some false
  rw [if_pos hm]
  exact c.no t h
/-- one answer for one class -/
def isD (t : String) : PyData → Bool
  | .list _ => t == "list"
  | .tuple _ => t == "tuple"
  | .int _ => t == "int"
  | .bool _ => t == "int" || t == "bool"
  | _ => false
theorem Ro.isi {C : Addr} {ok : Addr → Prop} {H : Hp} {n : Nat} {x : V} {d : PyData} (c : ClsAt K C) (h : Ro K C ok H n x d) : ∃ t : Value, TyX K H x t ∧ PySem.W.kitOne K t (.type "list") = some (isD "list" d) ∧ PySem.W.kitOne K t (.type "tuple") = some (isD "tuple" d) ∧ PySem.W.kitOne K t (.type "int") = some (isD "int" d) ∧ PySem.W.kitOne K t (.type "bool") = some (isD "bool" d) := by
  cases h with
  | non => exact ⟨_, .base .non, kit_ty (by decide +kernel), kit_ty (by decide +kernel), kit_ty (by decide +kernel), kit_ty (by decide +kernel)⟩
  | bl b => exact ⟨_, .base (.bl b), kit_ty (by show kitB "bool" "list" = some false; decide +kernel), kit_ty (by show kitB "bool" "tuple" = some false; decide +kernel), kit_ty (by show kitB "bool" "int" = some true; decide +kernel), kit_ty (by show kitB "bool" "bool" = some true; decide +kernel)⟩
  | int i => exact ⟨_, .base (.int i), kit_ty (by show kitB "int" "list" = some false; decide +kernel), kit_ty (by show kitB "int" "tuple" = some false; decide +kernel), kit_ty (by show kitB "int" "int" = some true; decide +kernel), kit_ty (by show kitB "int" "bool" = some false; decide +kernel)⟩
  | str z _ _ => exact ⟨_, .base (.str z), kit_ty (by show kitB "str" "list" = some false; decide +kernel), kit_ty (by show kitB "str" "tuple" = some false; decide +kernel), kit_ty (by show kitB "str" "int" = some false; decide +kernel), kit_ty (by show kitB "str" "bool" = some false; decide +kernel)⟩
  | lst h => exact ⟨_, .base (.lst h), kit_ty (by show kitB "list" "list" = some true; decide +kernel), kit_ty (by show kitB "list" "tuple" = some false; decide +kernel), kit_ty (by show kitB "list" "int" = some false; decide +kernel), kit_ty (by show kitB "list" "bool" = some false; decide +kernel)⟩
  | tup h => exact ⟨_, tyT h, kit_ty (by show kitB "tuple" "list" = some false; decide +kernel), kit_ty (by show kitB "tuple" "tuple" = some true; decide +kernel), kit_ty (by show kitB "tuple" "int" = some false; decide +kernel), kit_ty (by show kitB "tuple" "bool" = some false; decide +kernel)⟩
  | dct h => exact ⟨_, .base (.dK h), kit_ty (by show kitB "dict" "list" = some false; decide +kernel), kit_ty (by show kitB "dict" "tuple" = some false; decide +kernel), kit_ty (by show kitB "dict" "int" = some false; decide +kernel), kit_ty (by show kitB "dict" "bool" = some false; decide +kernel)⟩
  | own h => exact ⟨_, .base (.ins h c.cl c.ha c.hn c.htk c.hm), c.kit (by decide) (by decide +kernel), c.kit (by decide) (by decide +kernel), c.kit (by decide) (by decide +kernel), c.kit (by decide) (by decide +kernel)⟩

theorem kpg_tup (K : PySem.W.Frag) {X : Cx} {pos : Pos} {es : List Expr} {k : Nat} {t : TGs} {n : Nat} (hc : X.calm = true) (h : PGs X es t) (hK : X.K = K := by rfl)
    (hn : (assignEach es X.env).length = n := by rfl) (hst : (assignEach es X.env).findIdx? (·.1) = none := by rfl) : PG X (.Tuple es k pos) (gTup K n t) := by
  subst hK
  exact pg_tup hc h hn hst
section
variable {X : Cx}
theorem kmax (K : PySem.W.Frag) (hc : X.calm = true) (h : X.K = K := by rfl) : CallR X (.builtin "max") (rMax K) := by subst h; exact cr_max hc
theorem kmin (K : PySem.W.Frag) (hc : X.calm = true) (h : X.K = K := by rfl) : CallR X (.builtin "min") (rMin K) := by subst h; exact cr_min hc
end
section
variable {X : Cx}
def tLstRg3 (ta : TA) : TE := fun σ H Q => ta σ H fun vs H1 => ∃ (i j c : Int) (n : Nat), vs = [.int i, .int j, .int c] ∧ RgC i j c n ∧ n ≤ 1000 ∧ ∀ q, H1 q = none → Q (.ref q) (upd H1 q (.lst ((List.range n).map fun m : Nat => V.int (i + (m : Int) * c))))
theorem pe_listRg3 {a b c : Expr} {ta : TA} {p pos p2 pos2 : Pos} (hc : X.calm = true) (hgl : Gl X "list") (hml : X.mg "list" = none) (hg : Gl X "range") (hm : X.mg "range" = none) (ha : PA X [a, b, c] ta)
    (hs : starEach [a, b, c] X.env = (false, eval a X.env) :: starEach [b, c] X.env := by rfl) (hpl : (backTo pos2 (starEach [b, c] X.env)).any (·.1) = false := by rfl)
    (na : starEach [.Call (.Name "range" p2) [a, b, c] [] pos2] X.env = (false, eval (.Call (.Name "range" p2) [a, b, c] [] pos2) X.env) :: starEach [] X.env := by rfl) :
    PE X (.Call (.Name "list" p) [.Call (.Name "range" p2) [a, b, c] [] pos2] [] pos) (tLstRg3 ta) := by
  refine ⟨fun pins s σ H Q I h => ?_⟩
  have inner : wpAny (model X.prog X.w) X.A (eval (.Call (.Name "range" p2) [a, b, c] [] pos2) X.env) (fun x s' => ∃ (r : Addr) (i j k : Int) (n : Nat) (t u v : Tok) (H' : Hp), x = .ref r ∧ IsRange s'.heap r i j k t u v ∧ RgC i j k n ∧ n ≤ 1000 ∧ Inv X pins σ H' s' ∧ ∀ q, H' q = none → Q (.ref q) (upd H' q (.lst ((List.range n).map fun m : Nat => V.int (i + (m : Int) * k))))) X.xe s := by
    refine Call_ (ld_blt I hg hm boot_range (PyProof.Rows.callWith_type1 (thn (ha.run pos2 pins s σ H _ I h) fun us s1 ⟨vs, H1, I1, r1, q1⟩ => ?_) hs hpl))
    obtain ⟨i, j, k, n, e, hr, hn, q⟩ := q1
    subst e
    cases r1 with
    | cons r rr =>
      cases rr with
      | cons r' rr =>
        cases rr with
        | cons r'' rr =>
          cases rr
          obtain ⟨t, rfl⟩ := r
          obtain ⟨t', rfl⟩ := r'
          obtain ⟨t'', rfl⟩ := r''
          exact call_range_3 hr.1 ⟨_, i, j, k, n, _, _, _, H1, rfl, IsRange.new .., hr, hn, I1.kept (t' := s1.toks) fun b o e => Heap.get?_push_of_some _ e, q⟩ (.inl (PyProof.noPylong_small hr.2.1))
  refine Call_ (ld_blt I hgl hml boot_list (PyProof.Rows.callWith_type1 (args_cons (thn inner fun x s1 ⟨r, i, j, k, n, t, u, v, H1, ex, hr, hrg, hn, I1, q⟩ => args_nil ?_) na) na))
  subst ex
  obtain ⟨c0, c1, c2, c3⟩ := hrg
  refine call_list_range (n := n) (I1.ok.hd hc) hr c2 c3 (by omega) fun h' tk acc c' hk e' hi => ?_
  have hv : Vals ((List.range n).map fun m : Nat => V.int (i + (m : Int) * k)) acc.toList := by
    have e : acc.toList.length = n := by rw [Array.length_toList]; exact hi.1
    rw [← e]
    refine vals_of_get acc.toList _ fun j' u hj => ?_
    exact hi.2 j' u (by rw [← hj, Array.getElem?_toList])
  refine ⟨.ref s1.heap.objs.size, upd H1 s1.heap.objs.size (.lst ((List.range n).map fun m : Nat => V.int (i + (m : Int) * k))), I1.laid hk (Nat.le_refl _) (show ObjOk X.prog X.w _ _ _ (.lst _) from ⟨?_, acc.toList, c', hv, ?_⟩), rfl, q _ (I1.hok.fresh (Nat.le_refl _))⟩
  · rw [List.length_map, List.length_range, sizeLine_eq]; omega
  · rw [Array.toArray_toList]; exact e'
end
end
end L2.U


set_option Elab.async false
set_option linter.all false
set_option maxRecDepth 100000
set_option maxHeartbeats 4000000
namespace L2.U
open PySem PySem.Spec PyProof.Rows Evl
section
variable {P : Program} {w : World} {K : PySem.W.Frag} {mg : Str → Option Value} {base : Heap}
def kw231 {α : Type} : List α → List α → List α
  | [], [a, b, c] => [b, c, a]
  | _, _ => []
theorem kw231_rel {vs : List V} {us : List Value} {zs : List V} {ws : List Value} (r : Vals vs us) (t : Vals zs ws) : Vals (kw231 vs zs) (kw231 us ws) := by
  cases r with
  | cons _ _ => cases t <;> exact .nil
  | nil => cases t with
    | nil => exact .nil
    | cons a t => cases t with
      | nil => exact .nil
      | cons b t => cases t with
        | nil => exact .nil
        | cons c t => cases t with
          | nil => exact .cons b (.cons c (.cons a .nil))
          | cons _ _ => exact .nil
theorem kb231 {K : PySem.W.Frag} {x qual : Str} {st : Stmt} {f : Addr} {fd : FuncData} {p q r k l m : Str} (F : Fun K x qual st f fd)
    (h : ∀ (kV doc pm : Value) (an : Option Addr) (cdv ct : Value) (u w z : Value), bindArgs (PySem.W.fnOf x qual (defArgs st) (defBody st) (defScope st) .none kV doc pm an cdv ct) ⟨[], [(k, u), (l, w), (m, z)]⟩ = pure [(p, w), (q, z), (r, u)]) : KBinds K fd [p, q, r] [k, l, m] kw231 kw231 := by
  obtain ⟨oc, od, kV, doc, pm, an, cdv, ct, osl, rfl, lk, hcd⟩ := F.ex
  refine ⟨fun s us ws _ hl => ?_, kw231_rel⟩
  match us, ws, hl with
  | [], [u, w, z], _ => exact .of_eq (h kV doc pm an cdv ct u w z)
def kw321 {α : Type} : List α → List α → List α
  | [], [a, b, c] => [c, b, a]
  | _, _ => []
theorem kw321_rel {vs : List V} {us : List Value} {zs : List V} {ws : List Value} (r : Vals vs us) (t : Vals zs ws) : Vals (kw321 vs zs) (kw321 us ws) := by
  cases r with
  | cons _ _ => cases t <;> exact .nil
  | nil => cases t with
    | nil => exact .nil
    | cons a t => cases t with
      | nil => exact .nil
      | cons b t => cases t with
        | nil => exact .nil
        | cons c t => cases t with
          | nil => exact .cons c (.cons b (.cons a .nil))
          | cons _ _ => exact .nil
theorem kb321 {K : PySem.W.Frag} {x qual : Str} {st : Stmt} {f : Addr} {fd : FuncData} {p q r k l m : Str} (F : Fun K x qual st f fd)
    (h : ∀ (kV doc pm : Value) (an : Option Addr) (cdv ct : Value) (u w z : Value), bindArgs (PySem.W.fnOf x qual (defArgs st) (defBody st) (defScope st) .none kV doc pm an cdv ct) ⟨[], [(k, u), (l, w), (m, z)]⟩ = pure [(p, z), (q, w), (r, u)]) : KBinds K fd [p, q, r] [k, l, m] kw321 kw321 := by
  obtain ⟨oc, od, kV, doc, pm, an, cdv, ct, osl, rfl, lk, hcd⟩ := F.ex
  refine ⟨fun s us ws _ hl => ?_, kw321_rel⟩
  match us, ws, hl with
  | [], [u, w, z], _ => exact .of_eq (h kV doc pm an cdv ct u w z)

abbrev s_are_between : Stmt := top 7
theorem sc_are_between : FnScope ["values", "low", "high", "value"] ["values", "low", "high"] (defScope s_are_between) := ⟨rfl, rfl, rfl, by decide +kernel, rfl, by decide +kernel, by decide +kernel⟩
abbrev s_is_row : Stmt := top 19
theorem sc_is_row : FnScope ["value"] ["value"] (defScope s_is_row) := ⟨rfl, rfl, rfl, by decide +kernel, rfl, by decide +kernel, by decide +kernel⟩
abbrev s_is_plan : Stmt := top 20
theorem sc_is_plan : FnScope ["value", "sizes"] ["value"] (defScope s_is_plan) := ⟨rfl, rfl, rfl, by decide +kernel, rfl, by decide +kernel, by decide +kernel⟩
abbrev s_are_sizes : Stmt := top 21
theorem sc_are_sizes : FnScope ["value"] ["value"] (defScope s_are_sizes) := ⟨rfl, rfl, rfl, by decide +kernel, rfl, by decide +kernel, by decide +kernel⟩
abbrev s_can_raise : Stmt := top 24
theorem sc_can_raise : FnScope ["row", "wires"] ["row", "wires"] (defScope s_can_raise) := ⟨rfl, rfl, rfl, by decide +kernel, rfl, by decide +kernel, by decide +kernel⟩
abbrev s_raise_fits : Stmt := top 25
theorem sc_raise_fits : FnScope ["row", "wires", "value", "left", "number", "sizes"] ["row", "wires", "value"] (defScope s_raise_fits) := ⟨rfl, rfl, rfl, by decide +kernel, rfl, by decide +kernel, by decide +kernel⟩
abbrev s_raise_plan : Stmt := top 26
theorem sc_raise_plan : FnScope ["row", "wires", "told", "rounds", "left", "number", "rest"] ["row", "wires"] (defScope s_raise_plan) := ⟨rfl, rfl, rfl, by decide +kernel, rfl, by decide +kernel, by decide +kernel⟩
abbrev s_leasts : Stmt := top 27
theorem sc_leasts : FnScope ["row", "told", "found", "number"] ["row"] (defScope s_leasts) := ⟨rfl, rfl, rfl, by decide +kernel, rfl, by decide +kernel, by decide +kernel⟩
abbrev s_most_raised : Stmt := top 28
theorem sc_most_raised : FnScope ["wires", "number", "_"] ["wires"] (defScope s_most_raised) := ⟨rfl, rfl, rfl, by decide +kernel, rfl, by decide +kernel, by decide +kernel⟩
abbrev s_least : Stmt := top 29
theorem sc_least : FnScope ["number", "need", "told", "wires", "by_rest", "rest"] ["number", "need", "told"] (defScope s_least) := ⟨rfl, rfl, rfl, by decide +kernel, rfl, by decide +kernel, by decide +kernel⟩
abbrev s_most_rest : Stmt := top 30
theorem sc_most_rest : FnScope ["number", "by_rest", "rest"] ["number", "by_rest"] (defScope s_most_rest) := ⟨rfl, rfl, rfl, by decide +kernel, rfl, by decide +kernel, by decide +kernel⟩
abbrev s_most_told : Stmt := top 31
theorem sc_most_told : FnScope ["most", "told", "wires", "rest"] ["most"] (defScope s_most_told) := ⟨rfl, rfl, rfl, by decide +kernel, rfl, by decide +kernel, by decide +kernel⟩
abbrev s_best : Stmt := top 32
theorem sc_best : FnScope ["wires", "rest", "told", "used", "best", "size", "number", "sizes"] ["wires", "rest", "told"] (defScope s_best) := ⟨rfl, rfl, rfl, by decide +kernel, rfl, by decide +kernel, by decide +kernel⟩
abbrev s_raised_by : Stmt := top 33
theorem sc_raised_by : FnScope ["sizes", "wires", "number", "left", "size"] ["sizes", "wires"] (defScope s_raised_by) := ⟨rfl, rfl, rfl, by decide +kernel, rfl, by decide +kernel, by decide +kernel⟩
abbrev s_check_row_and_wires : Stmt := top 34
theorem sc_check_row_and_wires : FnScope ["row", "wires"] ["row", "wires"] (defScope s_check_row_and_wires) := ⟨rfl, rfl, rfl, by decide +kernel, rfl, by decide +kernel, by decide +kernel⟩
abbrev s_check_row : Stmt := top 35
theorem sc_check_row : FnScope ["row"] ["row"] (defScope s_check_row) := ⟨rfl, rfl, rfl, by decide +kernel, rfl, by decide +kernel, by decide +kernel⟩
abbrev s_check_wires : Stmt := top 36
theorem sc_check_wires : FnScope ["wires"] ["wires"] (defScope s_check_wires) := ⟨rfl, rfl, rfl, by decide +kernel, rfl, by decide +kernel, by decide +kernel⟩
abbrev s_is_spec : Stmt := top 40
theorem sc_is_spec : FnScope ["value"] ["value"] (defScope s_is_spec) := ⟨rfl, rfl, rfl, by decide +kernel, rfl, by decide +kernel, by decide +kernel⟩
abbrev s_law_choose : Stmt := top 48
theorem sc_law_choose : FnScope ["many", "few", "found", "k"] ["many", "few"] (defScope s_law_choose) := ⟨rfl, rfl, rfl, by decide +kernel, rfl, by decide +kernel, by decide +kernel⟩
abbrev s_law_raised : Stmt := top 49
theorem sc_law_raised : FnScope ["most", "found", "k", "row", "left", "best", "size"] ["most"] (defScope s_law_raised) := ⟨rfl, rfl, rfl, by decide +kernel, rfl, by decide +kernel, by decide +kernel⟩
abbrev s_law_wire_tables : Stmt := top 50
theorem sc_law_wire_tables : FnScope ["row", "raised", "tables", "number", "here", "k", "ways", "left"] ["row", "raised"] (defScope s_law_wire_tables) := ⟨rfl, rfl, rfl, by decide +kernel, rfl, by decide +kernel, by decide +kernel⟩
abbrev s_law_plan : Stmt := top 51
theorem sc_law_plan : FnScope ["box", "wires", "many", "found", "k", "turn", "rounds", "sizes", "left", "at", "size"] ["box", "wires", "many"] (defScope s_law_plan) := ⟨rfl, rfl, rfl, by decide +kernel, rfl, by decide +kernel, by decide +kernel⟩
abbrev s_law_use : Stmt := top 52
theorem sc_law_use : FnScope ["value", "sizes"] ["value"] (defScope s_law_use) := ⟨rfl, rfl, rfl, by decide +kernel, rfl, by decide +kernel, by decide +kernel⟩
abbrev s_law_product : Stmt := top 53
theorem sc_law_product : FnScope ["sizes", "k", "found", "size"] ["sizes", "k"] (defScope s_law_product) := ⟨rfl, rfl, rfl, by decide +kernel, rfl, by decide +kernel, by decide +kernel⟩
abbrev s_law_reached : Stmt := top 54
theorem sc_law_reached : FnScope ["value", "wires", "found", "k", "sizes"] ["value", "wires"] (defScope s_law_reached) := ⟨rfl, rfl, rfl, by decide +kernel, rfl, by decide +kernel, by decide +kernel⟩
abbrev s_law_is_sizes : Stmt := top 55
theorem sc_law_is_sizes : FnScope ["thing", "one"] ["thing"] (defScope s_law_is_sizes) := ⟨rfl, rfl, rfl, by decide +kernel, rfl, by decide +kernel, by decide +kernel⟩
abbrev s_law_fits : Stmt := top 56
theorem sc_law_fits : FnScope ["row", "wires", "value", "k", "at"] ["row", "wires", "value"] (defScope s_law_fits) := ⟨rfl, rfl, rfl, by decide +kernel, rfl, by decide +kernel, by decide +kernel⟩
abbrev s_law_near : Stmt := top 57
theorem sc_law_near : FnScope ["box", "value", "m", "found", "at", "other", "sizes", "ones", "j", "kinds", "odd", "one", "turned", "k"] ["box", "value"] (defScope s_law_near) := ⟨rfl, rfl, rfl, by decide +kernel, rfl, by decide +kernel, by decide +kernel⟩
abbrev s_law_asked : Stmt := top 58
theorem sc_law_asked : FnScope ["row", "wires", "value", "named", "passed", "told"] ["row", "wires", "value", "named"] (defScope s_law_asked) := ⟨rfl, rfl, rfl, by decide +kernel, rfl, by decide +kernel, by decide +kernel⟩
abbrev s_law_judged_right : Stmt := top 59
theorem sc_law_judged_right : FnScope ["box", "value", "wires", "used", "m", "at", "least", "k", "more", "asked", "row", "one"] ["box", "value", "wires"] (defScope s_law_judged_right) := ⟨rfl, rfl, rfl, by decide +kernel, rfl, by decide +kernel, by decide +kernel⟩
abbrev s_law_told_right : Stmt := top 60
theorem sc_law_told_right : FnScope ["box", "row", "wires", "raised", "due", "passed", "told", "again", "at", "step", "j", "changed"] ["box", "row", "wires", "raised"] (defScope s_law_told_right) := ⟨rfl, rfl, rfl, by decide +kernel, rfl, by decide +kernel, by decide +kernel⟩
abbrev s_law_numbers_right : Stmt := top 61
theorem sc_law_numbers_right : FnScope ["box", "raised", "named", "turn", "k", "down", "row"] ["box", "raised", "named"] (defScope s_law_numbers_right) := ⟨rfl, rfl, rfl, by decide +kernel, rfl, by decide +kernel, by decide +kernel⟩
abbrev s_law_refused : Stmt := top 62
theorem sc_law_refused : FnScope ["door", "values", "row", "wires", "wrong", "one"] ["door", "values"] (defScope s_law_refused) := ⟨rfl, rfl, rfl, by decide +kernel, rfl, by decide +kernel, by decide +kernel⟩
abbrev s_law_told : Stmt := top 63
theorem sc_law_told : FnScope ["door", "named", "row", "wires", "told", "error"] ["door", "named", "row", "wires"] (defScope s_law_told) := ⟨rfl, rfl, rfl, by decide +kernel, rfl, by decide +kernel, by decide +kernel⟩
abbrev s_law_very : Stmt := top 64
theorem sc_law_very : FnScope ["told", "passed"] ["told", "passed"] (defScope s_law_very) := ⟨rfl, rfl, rfl, by decide +kernel, rfl, by decide +kernel, by decide +kernel⟩
abbrev s_law_copy : Stmt := top 65
theorem sc_law_copy : FnScope ["thing", "one"] ["thing"] (defScope s_law_copy) := ⟨rfl, rfl, rfl, by decide +kernel, rfl, by decide +kernel, by decide +kernel⟩
abbrev s_law_doors_right : Stmt := top 66
theorem sc_law_doors_right : FnScope ["box", "named", "turn", "door", "way", "at", "row", "wires", "odd", "odds", "pick", "other", "odd_wires", "passed", "refused", "told"] ["box", "named"] (defScope s_law_doors_right) := ⟨rfl, rfl, rfl, by decide +kernel, rfl, by decide +kernel, by decide +kernel⟩
abbrev s_law : Stmt := top 67
theorem sc_law : FnScope ["script", "k", "box", "great", "spoil", "place", "named", "size", "most", "many", "raised", "wires", "value", "row"] ["script"] (defScope s_law) := ⟨rfl, rfl, rfl, by decide +kernel, rfl, by decide +kernel, by decide +kernel⟩
abbrev s_Line_init : Stmt := inClass (top 41) 0
theorem sc_Line_init : FnScope ["self", "spec"] ["self", "spec"] (defScope s_Line_init) := ⟨rfl, rfl, rfl, by decide +kernel, rfl, by decide +kernel, by decide +kernel⟩
abbrev s_init_InvalidRow : Stmt := inClass (top 14) 0
theorem sc_init_InvalidRow : FnScope ["self", "given"] ["self", "given"] (defScope s_init_InvalidRow) := ⟨rfl, rfl, rfl, by decide +kernel, rfl, by decide +kernel, by decide +kernel⟩
abbrev s_init_InvalidWires : Stmt := inClass (top 15) 0
theorem sc_init_InvalidWires : FnScope ["self", "given"] ["self", "given"] (defScope s_init_InvalidWires) := ⟨rfl, rfl, rfl, by decide +kernel, rfl, by decide +kernel, by decide +kernel⟩
structure TK (K : PySem.W.Frag) (mg : Str → Option Value) extends TA1 K mg where
  are_between : DefAt K mg "are_between" s_are_between ["values", "low", "high"]
  is_row : DefAt K mg "is_row" s_is_row ["value"]
  is_plan : DefAt K mg "is_plan" s_is_plan ["value"]
  are_sizes : DefAt K mg "_are_sizes" s_are_sizes ["value"]
  can_raise : DefAt K mg "can_raise" s_can_raise ["row", "wires"]
  raise_fits : DefAt K mg "raise_fits" s_raise_fits ["row", "wires", "value"]
  raise_plan : DefAt K mg "raise_plan" s_raise_plan ["row", "wires"]
  leasts : DefAt K mg "leasts" s_leasts ["row"]
  most_raised : DefAt K mg "most_raised" s_most_raised ["wires"]
  least : DefAt K mg "_least" s_least ["number", "need", "told"]
  most_rest : DefAt K mg "most_rest" s_most_rest ["number", "by_rest"]
  most_told : DefAt K mg "most_told" s_most_told ["most"]
  best : DefAt K mg "_best" s_best ["wires", "rest", "told"]
  raised_by : DefAt K mg "_raised_by" s_raised_by ["sizes", "wires"]
  check_row_and_wires : DefAt K mg "check_row_and_wires" s_check_row_and_wires ["row", "wires"]
  check_row : DefAt K mg "_check_row" s_check_row ["row"]
  check_wires : DefAt K mg "_check_wires" s_check_wires ["wires"]
  is_spec : DefAt K mg "is_spec" s_is_spec ["value"]
  law_choose : DefAt K mg "_law_choose" s_law_choose ["many", "few"]
  law_raised : DefAt K mg "_law_raised" s_law_raised ["most"]
  law_wire_tables : DefAt K mg "_law_wire_tables" s_law_wire_tables ["row", "raised"]
  law_plan : DefAt K mg "_law_plan" s_law_plan ["box", "wires", "many"]
  law_use : DefAt K mg "_law_use" s_law_use ["value"]
  law_product : DefAt K mg "_law_product" s_law_product ["sizes", "k"]
  law_reached : DefAt K mg "_law_reached" s_law_reached ["value", "wires"]
  law_is_sizes : DefAt K mg "_law_is_sizes" s_law_is_sizes ["thing"]
  law_fits : DefAt K mg "_law_fits" s_law_fits ["row", "wires", "value"]
  law_near : DefAt K mg "_law_near" s_law_near ["box", "value"]
  law_asked : DefAt K mg "_law_asked" s_law_asked ["row", "wires", "value", "named"]
  law_judged_right : DefAt K mg "_law_judged_right" s_law_judged_right ["box", "value", "wires"]
  law_told_right : DefAt K mg "_law_told_right" s_law_told_right ["box", "row", "wires", "raised"]
  law_numbers_right : DefAt K mg "_law_numbers_right" s_law_numbers_right ["box", "raised", "named"]
  law_refused : DefAt K mg "_law_refused" s_law_refused ["door", "values"]
  law_told : DefAt K mg "_law_told" s_law_told ["door", "named", "row", "wires"]
  law_very : DefAt K mg "_law_very" s_law_very ["told", "passed"]
  law_copy : DefAt K mg "_law_copy" s_law_copy ["thing"]
  law_doors_right : DefAt K mg "_law_doors_right" s_law_doors_right ["box", "named"]
  law : DefAt K mg "law" s_law ["script"]
  InvalidRow : ErrAt K mg "InvalidRow" "InvalidRow.__init__" s_init_InvalidRow "given"
  InvalidWires : ErrAt K mg "InvalidWires" "InvalidWires.__init__" s_init_InvalidWires "given"
  eRR : PySem.W.exmOne K (.ref InvalidRow.C) (.ref InvalidRow.C) = some true
  eWR : PySem.W.exmOne K (.ref InvalidWires.C) (.ref InvalidRow.C) = some false
  eWW : PySem.W.exmOne K (.ref InvalidWires.C) (.ref InvalidWires.C) = some true
  kb_raise_fits_value_row_wires : KBinds K raise_fits.fd ["row", "wires", "value"] ["value", "row", "wires"] kw231 kw231
  kb_raise_fits_value_wires_row : KBinds K raise_fits.fd ["row", "wires", "value"] ["value", "wires", "row"] kw321 kw321
  kb_raise_plan_wires_row : KBinds K raise_plan.fd ["row", "wires"] ["wires", "row"] kw21 kw21
  kb_can_raise_wires_row : KBinds K can_raise.fd ["row", "wires"] ["wires", "row"] kw21 kw21
  kb_leasts_row : KBinds K leasts.fd ["row"] ["row"] kw1 kw1
  kb_most_raised_wires : KBinds K most_raised.fd ["wires"] ["wires"] kw1 kw1
  C : Addr
  gL : mg "Line" = some (.ref C)
  cl : Cls K C
  m_init : MethAt K C "__init__" "Line.__init__" s_Line_init ["self", "spec"]
  mkc : Mk K C m_init.a
  n_spec : NoAttr K C "spec"
  n_sent : NoAttr K C "_sent_by"
  n_came : NoAttr K C "_came_to"
  ca : ClsAt K C
  z_dict : mg "dict" = none
  z_max : mg "max" = none
  z_min : mg "min" = none
  z_enumerate : mg "enumerate" = none
  z_zip : mg "zip" = none
  TalkError_C : Addr
  TalkError_gC : mg "TalkError" = some (.ref TalkError_C)
  c_comb : mg "comb" = some (.builtin "math.comb")
  t_MOST_NUMBERS : Tok
  c_MOST_NUMBERS : mg "MOST_NUMBERS" = some (.int 16 t_MOST_NUMBERS)
  t_GREATEST : Tok
  c_GREATEST : mg "GREATEST" = some (.int 100000000000000000000000000000000000000000000000000 t_GREATEST)
  t_MOST_WIRES_wires : Tok
  c_MOST_WIRES_wires : mg "MOST_WIRES_wires" = some (.int 24 t_MOST_WIRES_wires)
  t_MOST_LETTERS : Tok
  c_MOST_LETTERS : mg "MOST_LETTERS" = some (.int 8 t_MOST_LETTERS)
  t_MOST_WIRES_lines : Tok
  c_MOST_WIRES_lines : mg "MOST_WIRES_lines" = some (.int 10 t_MOST_WIRES_lines)
structure LnAt (mg : Str → Option Value) where
  C : Addr
  gC : mg "Line" = some (.ref C)
def TK.Line {K : PySem.W.Frag} {mg : Str → Option Value} (T : TK K mg) : LnAt mg := ⟨T.C, T.gL⟩
end
end L2.U


set_option Elab.async false
set_option linter.all false
set_option maxRecDepth 100000
set_option maxHeartbeats 4000000
namespace L2.U
open PySem PySem.Spec PyProof.Rows Evl
section
variable {P : Program} {w : World} {K : PySem.W.Frag} {mg : Str → Option Value} {base : Heap}
theorem ok_init_InvalidRow (T : ErrAt K mg "InvalidRow" "InvalidRow.__init__" s_init_InvalidRow "given") : FnOk P w K mg base CX0 1 T.fI T.fd ["self", "given"] (spInit T.C "given") := by
  refine T.F.ok sc_init_InvalidRow (fun vs H Q E h => ?_) (fun cdv A outer s H vs Q E hr h => ?_)
  · obtain ⟨a, y, rfl, _⟩ := h; rfl
  obtain ⟨a, y, rfl, ha, q⟩ := h
  exact ⟨_, pss_one (ps_ost (pv 0) (pv 1)), _, rfl, _, rfl, a, T.C, rfl, T.T, T.nf, .inl ⟨ha, fun d hd nd => q d hd nd⟩⟩
theorem ok_init_InvalidWires (T : ErrAt K mg "InvalidWires" "InvalidWires.__init__" s_init_InvalidWires "given") : FnOk P w K mg base CX0 1 T.fI T.fd ["self", "given"] (spInit T.C "given") := by
  refine T.F.ok sc_init_InvalidWires (fun vs H Q E h => ?_) (fun cdv A outer s H vs Q E hr h => ?_)
  · obtain ⟨a, y, rfl, _⟩ := h; rfl
  obtain ⟨a, y, rfl, ha, q⟩ := h
  exact ⟨_, pss_one (ps_ost (pv 0) (pv 1)), _, rfl, _, rfl, a, T.C, rfl, T.T, T.nf, .inl ⟨ha, fun d hd nd => q d hd nd⟩⟩
theorem rep_one {n : Nat} {x : V} : (List.replicate n [x]).flatten = List.replicate n x := by
  induction n with
  | zero => rfl
  | succ n ih => rw [List.replicate_succ, List.flatten_cons, ih, List.replicate_succ]; rfl
theorem given_all {n : Nat} {v : Nat → V} : given n (fun _ => true) v = (List.range n).map v := by
  unfold given
  rw [List.filter_eq_self.mpr (by intro a _; rfl)]
theorem el_lcT {σ : L2.St} {H : Hp} {a : Addr} {xs : List V} {tl te : TE} {t : TT} {j : Nat} {vs : List Nat} (f : Nat → Bool) (v : Nat → V) (h : Ev tl σ H (.ref a)) (hx : SqT K H a xs) (hz : xs.length ≤ 40000)
    (hw : ∀ x, wipe ((wipe σ vs).set j (some x)) vs = wipe σ vs) (ht : ∀ (i : Nat) (x : V) H1, Ex H H1 → xs[i]? = some x → EvT t ((wipe σ vs).set j (some x)) H1 (f i))
    (he : ∀ (i : Nat) (x : V) H1, Ex H H1 → xs[i]? = some x → f i = true → Ev te ((wipe σ vs).set j (some x)) H1 (v i)) : EvL (tLc (iTup K tl) (gName j) t te vs) σ H (given xs.length f v) := by
  intro H0 e Q q
  refine h H0 e _ fun H1 e1 => ?_
  have e01 := e.trans e1
  refine ⟨a, rfl, ⟨xs, ex_t e01 hx⟩, fun Dl hD => lc_tup (xs := xs) (Cw H1 f v Dl) ⟨hD, Ex.new hD, upd_same⟩ (fun i H' _ p => ex_t (e01.trans p.2.1) hx) ?_ ?_⟩
  · intro i x H' hi p
    have hlt := (List.getElem?_eq_some_iff.mp hi).1
    exact ⟨hw x, cw_turn p (by omega) (ht i x H1 e01 hi) (fun hf => he i x H1 e01 hi hf)⟩
  · exact fun H' p => q Dl H' (fresh_back e1 p.1) (e1.trans p.2.1) p.2.2
theorem el_lcL {σ : L2.St} {H : Hp} {a : Addr} {xs : List V} {tl te : TE} {t : TT} {j : Nat} {vs : List Nat} (f : Nat → Bool) (v : Nat → V) (h : Ev tl σ H (.ref a)) (hx : SqL K H a xs) (hz : xs.length ≤ 40000)
    (hw : ∀ x, wipe ((wipe σ vs).set j (some x)) vs = wipe σ vs) (ht : ∀ (i : Nat) (x : V) H1, Ex H H1 → xs[i]? = some x → EvT t ((wipe σ vs).set j (some x)) H1 (f i))
    (he : ∀ (i : Nat) (x : V) H1, Ex H H1 → xs[i]? = some x → f i = true → Ev te ((wipe σ vs).set j (some x)) H1 (v i)) : EvL (tLc (iList K tl) (gName j) t te vs) σ H (given xs.length f v) := by
  intro H0 e Q q
  refine h H0 e _ fun H1 e1 => ?_
  have e01 := e.trans e1
  refine ⟨a, rfl, ⟨xs, ex_l e01 hx⟩, fun Dl hD => lc_list (xs := xs) (Cw H1 f v Dl) ⟨hD, Ex.new hD, upd_same⟩ (fun i H' _ p => ex_l (e01.trans p.2.1) hx) ?_ ?_⟩
  · intro i x H' hi p
    have hlt := (List.getElem?_eq_some_iff.mp hi).1
    exact ⟨hw x, cw_turn p (by omega) (ht i x H1 e01 hi) (fun hf => he i x H1 e01 hi hf)⟩
  · exact fun H' p => q Dl H' (fresh_back e1 p.1) (e1.trans p.2.1) p.2.2
theorem no_way {p : Prop} {b : Bool} (h : b = true) (g : b = false) : p := by rw [h] at g; cases g
theorem rdl_ints {ok : Addr → Prop} {H : Hp} {n : Nat} (ns : List Int) : RdL K ok H n (ns.map V.int) (ns.map PyData.int) := by
  refine ⟨by rw [List.length_map, List.length_map], fun i x d hx hd => ?_⟩
  obtain ⟨z, hz, rfl⟩ := ints_get hx
  rw [List.getElem?_map, hz] at hd
  obtain rfl := Option.some.inj hd
  exact .int z
/-- what never raises -/
theorem fn_calm {k : Nat} {f : Addr} {fd : FuncData} {ps : List Str} {sp sp' : Sp} (F : FnOk P w K mg base (L2.CX P w) k f fd ps sp) (h : ∀ vs H Q E, sp' vs H Q E → sp vs H Q E0) : FnOk P w K mg base CX0 k f fd ps sp' := by
  refine ⟨fun vs H Q E q => F.len vs H Q E0 (h _ _ _ _ q), fun A outer s H args us vs Q E hr he hb hv hs => codeAny_mono (F.run A outer s H args us vs Q E0 hr he hb hv (h _ _ _ _ hs)) fun r s' hq => ?_⟩
  cases r with
  | error e =>
    obtain ⟨_, _, _, _, _, _, _, _, _, _, _, _, hE⟩ := hq
    exact hE.elim
  | ok fl => cases fl <;> exact hq
theorem RdL.snoc {ok : Addr → Prop} {H : Hp} {n : Nat} {xs : List V} {ds : List PyData} {x : V} {d : PyData} (h : RdL K ok H n xs ds) (r : Rd K ok H n x d) : RdL K ok H n (xs ++ [x]) (ds ++ [d]) := by
  refine ⟨by rw [List.length_append, List.length_append, h.1]; rfl, fun i y e hy he => ?_⟩
  by_cases c : i < xs.length
  · rw [List.getElem?_append_left c] at hy
    rw [List.getElem?_append_left (by rw [← h.1]; exact c)] at he
    exact h.2 i y e hy he
  · have hi := (List.getElem?_eq_some_iff.mp hy).1
    rw [List.length_append, List.length_singleton] at hi
    have e1 : i = xs.length := by omega
    subst e1
    rw [List.getElem?_append_right (Nat.le_refl _), Nat.sub_self] at hy
    rw [h.1, List.getElem?_append_right (Nat.le_refl _), Nat.sub_self] at he
    cases Option.some.inj hy
    cases Option.some.inj he
    exact r
theorem RdL.of {ok ok' : Addr → Prop} {H : Hp} {n : Nat} {xs : List V} {ds : List PyData} (w : ∀ a, ok a → ok' a) (h : RdL K ok H n xs ds) : RdL K ok' H n xs ds := ⟨h.1, fun i x d hx hd => (h.2 i x d hx hd).of w⟩
theorem tyes {σ : L2.St} {H : Hp} {F G : Hp → Prop} (h : F H) : tYes σ H (fun b H3 => if b = true then F H3 else G H3) := by
  show if true = true then F H else G H
  rw [if_pos rfl]
  exact h
theorem at_neg1 {us : List V} {v : V} : atI (us ++ [v]) (-1) = some v := by
  have e : ixN (us ++ [v]).length (-1) = some us.length := by
    unfold ixN
    rw [if_neg (by decide), if_pos (by rw [List.length_append, List.length_singleton]; omega), List.length_append, List.length_singleton]
    congr 1
    omega
  unfold atI
  rw [e]
  simp
theorem RdL.nil {ok : Addr → Prop} {H : Hp} {n : Nat} : RdL K ok H n [] [] := ⟨rfl, fun i x d h _ => by cases h⟩
theorem RdL.cons {ok : Addr → Prop} {H : Hp} {n : Nat} {x : V} {d : PyData} {xs : List V} {ds : List PyData} (h : Rd K ok H n x d) (r : RdL K ok H n xs ds) : RdL K ok H n (x :: xs) (d :: ds) := by
  refine ⟨by rw [List.length_cons, List.length_cons, r.1], fun i y e hy he => ?_⟩
  cases i with
  | zero => cases Option.some.inj hy; cases Option.some.inj he; exact h
  | succ i => exact r.2 i y e hy he
theorem betw_isint {lo hi : Int} : ∀ e, betwD lo hi e = true → ∃ i, e = .int i := fun e h => by cases e <;> first | exact ⟨_, rfl⟩ | cases h
def numsD (d : PyData) : List Int := (itemsD d).map intD
def spIsListR (K : PySem.W.Frag) (C : Addr) : Sp := fun vs H Q _ => ∃ x d n ok, vs = [x] ∧ Ro K C ok H n x d ∧ ∀ H', Ex H H' → Q (.bl (isSeq d)) H'
theorem isSeq_is (d : PyData) : isSeq d = (isD "list" d || isD "tuple" d) := by cases d <;> rfl
theorem okr_is_list {C : Addr} (c : ClsAt K C) (T : TA1 K mg) : FnOk P w K mg base CX0 1 T.is_list.a T.is_list.fd ["value"] (spIsListR K C) := by
  refine T.is_list.F.ok sc_is_list (fun vs H Q E h => ?_) (fun cdv A outer s H vs Q E hr h => ?_)
  · obtain ⟨x, d, n, ok, rfl, _⟩ := h; rfl
  obtain ⟨x, d, n, ok, rfl, h, q⟩ := h
  refine ⟨_, (pss_one (ps_ret (pe_callB (kisiT K) (by rfl) T.z_isinstance (by decide +kernel) (pa_cons (pv 0) (pa_cons (pe_tup (pa_cons (pe_bltn (v := .ty "list") rfl T.z_list (by decide +kernel) rfl) (pa_cons (pe_bltn (v := .ty "tuple") rfl T.z_tuple (by decide +kernel) rfl) pa_nil))) pa_nil))))), ?_⟩
  refine ⟨_, rfl, (by show 2 ≤ sizeLine; decide), fun p hp => ?_⟩
  have q1 := q _ (Ex.new (o := .tup [.ty "list", .ty "tuple"]) hp)
  obtain ⟨t, ty, kl, kt, _, _⟩ := (h.ex (Ex.new (o := .tup [.ty "list", .ty "tuple"]) hp)).isi c
  refine ⟨_, p, [.ty "list", .ty "tuple"], t, [.type "list", .type "tuple"], isSeq d, rfl, upd_same, .cons (.ty _) (.cons (.ty _) .nil), ty, ?_, q1⟩
  unfold PySem.W.kitAny PySem.W.kitAny PySem.W.kitAny
  rw [kl, kt, isSeq_is]
  cases isD "list" d <;> cases isD "tuple" d <;> rfl
def intB : PyData → Bool
  | .int _ => true
  | _ => false
def spIsIntR (K : PySem.W.Frag) (C : Addr) : Sp := fun vs H Q _ => ∃ x d n ok, vs = [x] ∧ Ro K C ok H n x d ∧ Q (.bl (intB d)) H
theorem okr_is_integer {C : Addr} (c : ClsAt K C) (T : TA1 K mg) : FnOk P w K mg base CX0 1 T.is_integer.a T.is_integer.fd ["value"] (spIsIntR K C) := by
  refine T.is_integer.F.ok sc_is_integer (fun vs H Q E h => ?_) (fun cdv A outer s H vs Q E hr h => ?_)
  · obtain ⟨x, d, n, ok, rfl, _⟩ := h; rfl
  obtain ⟨x, d, n, ok, rfl, h, q⟩ := h
  refine ⟨_, (pss_one (ps_ret (pe_and (pe_callB (kisi K) (by rfl) T.z_isinstance (by decide +kernel) (pa_cons (pv 0) (pa_cons (pe_bltn (v := .ty "int") rfl T.z_int (by decide +kernel) rfl) pa_nil))) (pe_one (pe_not (pe_callB (kisi K) (by rfl) T.z_isinstance (by decide +kernel) (pa_cons (pv 0) (pa_cons (pe_bltn (v := .ty "bool") rfl T.z_bool (by decide +kernel) rfl) pa_nil)))))))), ?_⟩
  obtain ⟨t, ty, _, _, ki, kb⟩ := h.isi c
  have e : intB d = (isD "int" d && !isD "bool" d) := by cases d <;> rfl
  rw [e] at q
  refine ⟨_, rfl, _, _, _, _, _, rfl, .ty "int", ty, ki, _, rfl, ?_⟩
  cases hi : isD "int" d with
  | false => rw [hi] at q; exact iteF q
  | true => rw [hi] at q; exact iteT ⟨_, rfl, _, _, _, _, _, rfl, .ty "bool", ty, kb, _, rfl, q⟩
theorem ev_all {te : TE} {σ : L2.St} {H : Hp} {bs : List Bool} (h : EvL te σ H (bs.map V.bl)) : Ev (tCB (rAll K) (tCons te tNil)) σ H (.bl (bs.all id)) := fun H1 e Q q =>
  h H1 e _ fun p H2 _ e2 hp => ⟨p, bs, rfl, SqL.of hp, q H2 e2⟩
theorem el_lcS {σ : L2.St} {H : Hp} {a : Addr} {xs : List V} {tl te : TE} {t : TT} {j : Nat} {vs : List Nat} (f : Nat → Bool) (v : Nat → V) (h : Ev tl σ H (.ref a)) (hx : SqL K H a xs ∨ SqT K H a xs) (hz : xs.length ≤ 40000)
    (hw : ∀ x, wipe ((wipe σ vs).set j (some x)) vs = wipe σ vs) (ht : ∀ (i : Nat) (x : V) H1, Ex H H1 → xs[i]? = some x → EvT t ((wipe σ vs).set j (some x)) H1 (f i))
    (he : ∀ (i : Nat) (x : V) H1, Ex H H1 → xs[i]? = some x → f i = true → Ev te ((wipe σ vs).set j (some x)) H1 (v i)) : EvL (tLc (iSeq K tl) (gName j) t te vs) σ H (given xs.length f v) := fun H0 e Q q =>
  hx.elim (fun hx => .inl (el_lcL f v h hx hz hw ht he H0 e Q q)) (fun hx => .inr (el_lcT f v h hx hz hw ht he H0 e Q q))
theorem given_D {n : Nat} {l : List PyData} {p : PyData → Bool} (h : n = l.length) : given n (fun _ => true) (fun i => V.bl (p (l.getD i .none))) = (l.map p).map V.bl := by
  subst h
  rw [given_all]
  apply List.ext_getElem?
  intro i
  rw [List.getElem?_map, List.getElem?_map, List.getElem?_map]
  by_cases c : i < l.length
  · rw [List.getElem?_range c, List.getElem?_eq_getElem c]
    simp [List.getD_eq_getElem?_getD, List.getElem?_eq_getElem c]
  · rw [List.getElem?_eq_none (by rw [List.length_range]; omega), List.getElem?_eq_none (show l.length ≤ i by omega)]
    rfl
theorem getD_at {l : List PyData} {i : Nat} {e : PyData} (h : l[i]? = some e) : l.getD i .none = e := by rw [List.getD_eq_getElem?_getD, h]; rfl
/-- what all parts of a list or a tuple are -/
theorem ev_allP {C : Addr} {ok : Addr → Prop} {σ : L2.St} {H : Hp} {a : Addr} {xs : List V} {ds : List PyData} {n j k : Nat} {vs : List Nat} {te : TE} (p : PyData → Bool) (hk : σ[k]? = some (some (.ref a))) (hx : SqL K H a xs ∨ SqT K H a xs) (hl : xs.length = ds.length) (hz : xs.length ≤ 900)
    (all : ∀ (i : Nat) (x : V) (e : PyData), xs[i]? = some x → ds[i]? = some e → Ro K C ok H n x e) (hw : ∀ x, wipe ((wipe σ vs).set j (some x)) vs = wipe σ vs)
    (he : ∀ (x : V) (e : PyData) H1, Ex H H1 → Ro K C ok H1 n x e → Ev te ((wipe σ vs).set j (some x)) H1 (.bl (p e))) : Ev (tCB (rAll K) (tCons (tLc (iSeq K (tVar k)) (gName j) tYes te vs) tNil)) σ H (.bl (ds.all p)) := by
  have := ev_all (K := K) (te := tLc (iSeq K (tVar k)) (gName j) tYes te vs) (σ := σ) (H := H) (bs := ds.map p) (by
    rw [← given_D hl]
    refine el_lcS _ _ (ev_var hk) hx (by omega) hw (fun i x H1 _ _ H2 _ Q q => q H2 (Ex.refl _)) (fun i x H1 e1 hx _ => ?_)
    have hi := (List.getElem?_eq_some_iff.mp hx).1
    have hd : ds[i]? = some (ds[i]'(by omega)) := List.getElem?_eq_getElem _
    have := he x _ H1 e1 ((all i x _ hx hd).ex e1)
    rw [← getD_at hd] at this
    exact this)
  rw [List.all_map] at this
  exact this
def spBetwR (K : PySem.W.Frag) (C : Addr) : Sp := fun vs H Q _ => ∃ x d n ok lo hi, vs = [x, .int lo, .int hi] ∧ Ro K C ok H n x d ∧ Q (.bl (betwD lo hi d)) H
theorem intB_int {C : Addr} {ok : Addr → Prop} {H : Hp} {n : Nat} {x : V} {d : PyData} (h : Ro K C ok H n x d) (b : intB d = true) : ∃ i, x = .int i ∧ d = .int i := by
  cases h <;> first | exact ⟨_, rfl, rfl⟩ | cases b
theorem okr_is_between {C : Addr} (c : ClsAt K C) (T : TA1 K mg) : FnOk P w K mg base CX0 2 T.is_between.a T.is_between.fd ["value", "low", "high"] (spBetwR K C) := by
  refine T.is_between.F.ok sc_is_between (fun vs H Q E h => ?_) (fun cdv A outer s H vs Q E hr h => ?_)
  · obtain ⟨x, d, n, ok, lo, hi, rfl, _⟩ := h; rfl
  obtain ⟨x, d, n, ok, lo, hi, rfl, h, q⟩ := h
  refine ⟨_, (pss_one (ps_ret (pe_and (pe_call (okr_is_integer c T) (hr.mono (by decide)) rfl T.is_integer.m T.is_integer.F.kp T.is_integer.b .nil pass0 (pa_cons (pv 0) pa_nil)) (pe_one (pe_chain op_le op_le (pv 1) (pv 0) (pv 2)))))), ?_⟩
  refine ⟨_, rfl, _, d, n, ok, rfl, h, _, rfl, ?_⟩
  cases hb : intB d with
  | false =>
    rw [show betwD lo hi d = false by cases d <;> first | rfl | cases hb] at q
    exact iteF q
  | true =>
    obtain ⟨i, rfl, rfl⟩ := intB_int h hb
    refine ⟨_, rfl, _, rfl, _, _, rfl, rfl, _, rfl, ite2 (fun c => ?_) (fun c => ?_)⟩
    · have c' := of_decide_eq_true c
      refine ⟨_, rfl, _, _, rfl, rfl, ?_⟩
      have e : betwD lo hi (.int i) = decide (i ≤ hi) := by show decide (lo ≤ i ∧ i ≤ hi) = _; simp [c']
      rw [e] at q; exact q
    · have c' := of_decide_eq_false (Bool.eq_false_iff.mpr c)
      have e : betwD lo hi (.int i) = false := by show decide (lo ≤ i ∧ i ≤ hi) = _; simp [c']
      rw [e] at q; exact q
def spFromR (K : PySem.W.Frag) (C : Addr) : Sp := fun vs H Q _ => ∃ x d n ok lo, vs = [x, .int lo] ∧ Ro K C ok H n x d ∧ Q (.bl (fromD lo d)) H
theorem okr_is_from {C : Addr} (c : ClsAt K C) (T : TA1 K mg) : FnOk P w K mg base CX0 2 T.is_from.a T.is_from.fd ["value", "low"] (spFromR K C) := by
  refine T.is_from.F.ok sc_is_from (fun vs H Q E h => ?_) (fun cdv A outer s H vs Q E hr h => ?_)
  · obtain ⟨x, d, n, ok, lo, rfl, _⟩ := h; rfl
  obtain ⟨x, d, n, ok, lo, rfl, h, q⟩ := h
  refine ⟨_, (pss_one (ps_ret (pe_and (pe_call (okr_is_integer c T) (hr.mono (by decide)) rfl T.is_integer.m T.is_integer.F.kp T.is_integer.b .nil pass0 (pa_cons (pv 0) pa_nil)) (pe_one (pe_cmpR op_le (pv 1) (pv 0) (nomark _)))))), ?_⟩
  refine ⟨_, rfl, _, d, n, ok, rfl, h, _, rfl, ?_⟩
  cases hb : intB d with
  | false =>
    rw [show fromD lo d = false by cases d <;> first | rfl | cases hb] at q
    exact iteF q
  | true =>
    obtain ⟨i, rfl, rfl⟩ := intB_int h hb
    exact ⟨_, rfl, _, rfl, _, _, rfl, rfl, q⟩
def spAreBetwR (K : PySem.W.Frag) (C : Addr) : Sp := fun vs H Q _ => ∃ x d n ok lo hi, vs = [x, .int lo, .int hi] ∧ Ro K C ok H n x d ∧ isSeq d = true ∧ ∀ H', Ex H H' → Q (.bl ((itemsD d).all (betwD lo hi))) H'
theorem okr_are_between (T : TK K mg) : FnOk P w K mg base CX0 3 T.are_between.a T.are_between.fd ["values", "low", "high"] (spAreBetwR K T.C) := by
  refine T.are_between.F.ok sc_are_between (fun vs H Q E h => ?_) (fun cdv A outer s H vs Q E hr h => ?_)
  · obtain ⟨x, d, n, ok, lo, hi, rfl, _⟩ := h; rfl
  obtain ⟨x, d, n, ok, lo, hi, rfl, h, sq, q⟩ := h
  obtain ⟨a, xs, rfl, hs, hl, hz, all⟩ := h.seq sq
  refine ⟨_, (pss_one (ps_ret (pe_callB (kall K rfl) (by rfl) T.z_all (by decide +kernel) (pa_cons (pe_lc (own := [("value", 3)]) (g := gName 3) (by rfl) sc_are_between.nd (kpis K (pv 0)) (blkOk_by (own := [("value", 3)]) (N := ["values", "low", "high", "value"]) (sc := defScope s_are_between) (by decide +kernel)) (fun _ _ _ _ _ => (pg_name (i := 3) sc_are_between.nd rfl (Or.inl rfl))) (fun _ _ _ _ _ => pts_nil) (fun _ _ _ _ _ => (pe_call (okr_is_between T.ca T.toTA1) (hr.mono (by decide)) rfl T.is_between.m T.is_between.F.kp T.is_between.b .nil pass0 (pa_cons (pv 3) (pa_cons (pv 1) (pa_cons (pv 2) pa_nil)))))) pa_nil)))), ?_⟩
  exact ev_allP (C := T.C) (ok := ok) (n := n - 1) (σ := start ["values", "low", "high", "value"] [.ref a, .int lo, .int hi]) (betwD lo hi) rfl (hs.imp (fun z => z.1) (fun z => z.1)) hl hz all (fun x => rfl)
    (fun x e H1 e1 r H2 e2 Q2 q2 => ⟨_, rfl, _, rfl, _, rfl, x, e, n - 1, ok, lo, hi, rfl, r.ex e2, q2 H2 (Ex.refl _)⟩) H (Ex.refl _) _ fun H1 e1 => q H1 e1
def spAreFromR (K : PySem.W.Frag) (C : Addr) : Sp := fun vs H Q _ => ∃ x d n ok lo, vs = [x, .int lo] ∧ Ro K C ok H n x d ∧ isSeq d = true ∧ ∀ H', Ex H H' → Q (.bl ((itemsD d).all (fromD lo))) H'
theorem okr_are_from (T : TK K mg) : FnOk P w K mg base CX0 3 T.are_from.a T.are_from.fd ["values", "low"] (spAreFromR K T.C) := by
  refine T.are_from.F.ok sc_are_from (fun vs H Q E h => ?_) (fun cdv A outer s H vs Q E hr h => ?_)
  · obtain ⟨x, d, n, ok, lo, rfl, _⟩ := h; rfl
  obtain ⟨x, d, n, ok, lo, rfl, h, sq, q⟩ := h
  obtain ⟨a, xs, rfl, hs, hl, hz, all⟩ := h.seq sq
  refine ⟨_, (pss_one (ps_ret (pe_callB (kall K rfl) (by rfl) T.z_all (by decide +kernel) (pa_cons (pe_lc (own := [("value", 2)]) (g := gName 2) (by rfl) sc_are_from.nd (kpis K (pv 0)) (blkOk_by (own := [("value", 2)]) (N := ["values", "low", "value"]) (sc := defScope s_are_from) (by decide +kernel)) (fun _ _ _ _ _ => (pg_name (i := 2) sc_are_from.nd rfl (Or.inl rfl))) (fun _ _ _ _ _ => pts_nil) (fun _ _ _ _ _ => (pe_call (okr_is_from T.ca T.toTA1) (hr.mono (by decide)) rfl T.is_from.m T.is_from.F.kp T.is_from.b .nil pass0 (pa_cons (pv 2) (pa_cons (pv 1) pa_nil))))) pa_nil)))), ?_⟩
  exact ev_allP (C := T.C) (ok := ok) (n := n - 1) (σ := start ["values", "low", "value"] [.ref a, .int lo]) (fromD lo) rfl (hs.imp (fun z => z.1) (fun z => z.1)) hl hz all (fun x => rfl)
    (fun x e H1 e1 r H2 e2 Q2 q2 => ⟨_, rfl, _, rfl, x, e, n - 1, ok, lo, rfl, r.ex e2, q2 H2 (Ex.refl _)⟩) H (Ex.refl _) _ fun H1 e1 => q H1 e1
def rowD (d : PyData) : Bool := isSeq d && decide ((itemsD d).length ≤ 16) && (itemsD d).all (betwD 1 100000000000000000000000000000000000000000000000000)
def spIsRowR (K : PySem.W.Frag) (C : Addr) : Sp := fun vs H Q _ => ∃ x d n ok, vs = [x] ∧ Ro K C ok H n x d ∧ ∀ H', Ex H H' → Q (.bl (rowD d)) H'
theorem okr_is_row (T : TK K mg) : FnOk P w K mg base CX0 4 T.is_row.a T.is_row.fd ["value"] (spIsRowR K T.C) := by
  refine T.is_row.F.ok sc_is_row (fun vs H Q E h => ?_) (fun cdv A outer s H vs Q E hr h => ?_)
  · obtain ⟨x, d, n, ok, rfl, _⟩ := h; rfl
  obtain ⟨x, d, n, ok, rfl, h, q⟩ := h
  refine ⟨_, (pss_cons (ps_if (PW.pt (pw_or (pt_not (pt_val (pe_call (okr_is_list T.ca T.toTA1) (hr.mono (by decide)) rfl T.is_list.m T.is_list.F.kp T.is_list.b .nil pass0 (pa_cons (pv 0) pa_nil)))) (pw_or1 (pt_cmpR op_gt (pe_callB (klen K) (by rfl) T.z_len (by decide +kernel) (pa_cons (pv 0) pa_nil)) (pe_glob (v := .int 16) rfl T.c_MOST_NUMBERS ⟨_, rfl⟩) (nomark _))))) (pss_one (ps_ret pe_bl)) pss_nil)
    (pss_one (ps_ret (pe_call (okr_are_between T) (hr.mono (by decide)) rfl T.are_between.m T.are_between.F.kp T.are_between.b .nil pass0 (pa_cons (pv 0) (pa_cons pe_int (pa_cons (pe_glob (v := .int 100000000000000000000000000000000000000000000000000) rfl T.c_GREATEST ⟨_, rfl⟩) pa_nil))))))), ?_⟩
  refine ⟨_, rfl, x, d, n, ok, rfl, h, fun H1 e1 => ⟨isSeq d, rfl, ?_⟩⟩
  cases sq : isSeq d with
  | false => exact iteT (iteT (by have := q _ e1; unfold rowD at this; rw [sq] at this; exact this))
  | true =>
  have h1 := h.ex e1
  obtain ⟨a, xs, rfl, hs, hl, hz, all⟩ := h1.seq sq
  refine iteF ⟨_, rfl, _, _, rfl, (hs.imp (fun z => ⟨_, z.1, rfl⟩) (fun z => ⟨_, z.1, rfl⟩)), _, _, rfl, rfl, _, rfl, ite2 (fun c => ?_) (fun c => ?_)⟩
  · have c' := of_decide_eq_true c
    have := q _ e1
    unfold rowD at this
    rw [sq, decide_eq_false (show ¬ (itemsD d).length ≤ 16 by omega)] at this
    exact this
  · have c' := of_decide_eq_false (Bool.eq_false_iff.mpr c)
    refine ⟨_, rfl, .ref a, d, n, ok, 1, 100000000000000000000000000000000000000000000000000, rfl, h1, sq, fun H2 e2 => ?_⟩
    have := q _ (e1.trans e2)
    unfold rowD at this
    rw [sq, decide_eq_true (show (itemsD d).length ≤ 16 by omega)] at this
    exact this
/-- a check of any data: it lets what is right, else raises the error of D with the very value -/
def spChkR (K : PySem.W.Frag) (C D : Addr) (okD : PyData → Bool) : Sp := fun vs H Q E => ∃ x d n ok, vs = [x] ∧ Ro K C ok H n x d ∧ (okD d = true → ∀ H', Ex H H' → Q .non H') ∧
  (okD d = false → ∀ e H', Ex H H' → H' e = some (.xd [("given", x)]) → E (.ref D) (some e) H')
theorem ok_check_row (T : TK K mg) : FnOk P w K mg base (L2.CX P w) 5 T.check_row.a T.check_row.fd ["row"] (spChkR K T.C T.InvalidRow.C rowD) := by
  refine T.check_row.F.okX sc_check_row (fun vs H Q E h => ?_) (fun cdv A outer s H vs Q E hr h => ?_)
  · obtain ⟨x, d, n, ok, rfl, _⟩ := h; rfl
  obtain ⟨x, d, n, ok, rfl, h, q1, q2⟩ := h
  refine ⟨_, (pss_one (ps_if (pt_not (pt_val (pe_call (okr_is_row T) (hr.mono (by decide)) rfl T.is_row.m T.is_row.F.kp T.is_row.b .nil pass0 (pa_cons (pv 0) pa_nil)))) (pss_one (ps_raise rfl (takes_of rfl rfl rfl rfl) (pmk_oex T.InvalidRow.T T.InvalidRow.iC T.InvalidRow.tI (ok_init_InvalidRow T.InvalidRow) (hr.mono (by decide)) T.InvalidRow.b .nil pass0 rfl T.InvalidRow.gC (by exact (pa_cons (pv 0) pa_nil))))) pss_nil)), ?_⟩
  refine ⟨_, rfl, x, d, n, ok, rfl, h, fun H1 e1 => ⟨_, rfl, ?_⟩⟩
  cases c : rowD d with
  | true => exact iteF (q1 c _ e1)
  | false => exact iteT ⟨_, rfl, (by show 1 ≤ 1000; decide), fun a ha => raised ha fun e H' ex he => q2 c e H' (e1.trans ex) he⟩
theorem ok_check_wires (T : TK K mg) : FnOk P w K mg base (L2.CX P w) 4 T.check_wires.a T.check_wires.fd ["wires"] (spChkR K T.C T.InvalidWires.C (betwD 0 24)) := by
  refine T.check_wires.F.okX sc_check_wires (fun vs H Q E h => ?_) (fun cdv A outer s H vs Q E hr h => ?_)
  · obtain ⟨x, d, n, ok, rfl, _⟩ := h; rfl
  obtain ⟨x, d, n, ok, rfl, h, q1, q2⟩ := h
  refine ⟨_, (pss_one (ps_if (pt_not (pt_val (pe_call (okr_is_between T.ca T.toTA1) (hr.mono (by decide)) rfl T.is_between.m T.is_between.F.kp T.is_between.b .nil pass0 (pa_cons (pv 0) (pa_cons pe_int (pa_cons (pe_glob (v := .int 24) rfl T.c_MOST_WIRES_wires ⟨_, rfl⟩) pa_nil)))))) (pss_one (ps_raise rfl (takes_of rfl rfl rfl rfl) (pmk_oex T.InvalidWires.T T.InvalidWires.iC T.InvalidWires.tI (ok_init_InvalidWires T.InvalidWires) (hr.mono (by decide)) T.InvalidWires.b .nil pass0 rfl T.InvalidWires.gC (by exact (pa_cons (pv 0) pa_nil))))) pss_nil)), ?_⟩
  refine ⟨_, rfl, x, d, n, ok, 0, 24, rfl, h, _, rfl, ?_⟩
  cases c : betwD 0 24 d with
  | true => exact iteF (q1 c _ (Ex.refl _))
  | false => exact iteT ⟨_, rfl, (by show 1 ≤ 1000; decide), fun a ha => raised ha fun e H' ex he => q2 c e H' ex he⟩
/-- the row first, and then the wires -/
def spBothR (K : PySem.W.Frag) (C CR CW : Addr) : Sp := fun vs H Q E => ∃ x y dx dy n m ok ok', vs = [x, y] ∧ Ro K C ok H n x dx ∧ Ro K C ok' H m y dy ∧ (rowD dx = true → betwD 0 24 dy = true → ∀ H', Ex H H' → Q .non H') ∧
  (rowD dx = false → ∀ e H', Ex H H' → H' e = some (.xd [("given", x)]) → E (.ref CR) (some e) H') ∧ (rowD dx = true → betwD 0 24 dy = false → ∀ e H', Ex H H' → H' e = some (.xd [("given", y)]) → E (.ref CW) (some e) H')
theorem ok_check_row_and_wires (T : TK K mg) : FnOk P w K mg base (L2.CX P w) 6 T.check_row_and_wires.a T.check_row_and_wires.fd ["row", "wires"] (spBothR K T.C T.InvalidRow.C T.InvalidWires.C) := by
  refine T.check_row_and_wires.F.okX sc_check_row_and_wires (fun vs H Q E h => ?_) (fun cdv A outer s H vs Q E hr h => ?_)
  · obtain ⟨x, y, dx, dy, n, m, ok, ok', rfl, _⟩ := h; rfl
  obtain ⟨x, y, dx, dy, n, m, ok, ok', rfl, hx, hy, q, qr, qw⟩ := h
  refine ⟨_, (pss_cons (ps_expr (by exact (pe_callS (ok_check_row T) (hr.mono (by decide)) rfl T.check_row.m T.check_row.F.kp T.check_row.b (fun σ => passAt (takes_of rfl rfl rfl rfl) σ) (pa_cons (pv 0) pa_nil))))
    (pss_one (ps_expr (by exact (pe_callS (ok_check_wires T) (hr.mono (by decide)) rfl T.check_wires.m T.check_wires.F.kp T.check_wires.b (fun σ => passAt (takes_of rfl rfl rfl rfl) σ) (pa_cons (pv 1) pa_nil)))))), ?_⟩
  refine ⟨_, rfl, x, dx, n, ok, rfl, hx, fun c H1 e1 => ?_, fun c e H' ex he => qr c e H' ex he⟩
  exact ⟨_, rfl, y, dy, m, ok', rfl, hy.ex e1, fun c2 H2 e2 => q c c2 _ (e1.trans e2), fun c2 e H' ex he => qw c c2 e H' (e1.trans ex) he⟩
/-! ### rows that are right -/
theorem Ro.ints {C : Addr} {ok : Addr → Prop} {H : Hp} {n : Nat} {x : V} {d : PyData} {p : PyData → Bool} (h : Ro K C ok H n x d) (sq : isSeq d = true) (al : (itemsD d).all p = true) (hp : ∀ e, p e = true → ∃ i, e = .int i) :
    ∃ a, x = .ref a ∧ (SqL K H a (((itemsD d).map intD).map V.int) ∧ d = .list (itemsD d) ∨ SqT K H a (((itemsD d).map intD).map V.int) ∧ d = .tuple (itemsD d)) := by
  obtain ⟨a, xs, rfl, hs, hl, hz, all⟩ := h.seq sq
  have e : xs = ((itemsD d).map intD).map V.int := by
    apply List.ext_getElem?
    intro i
    rw [List.getElem?_map, List.getElem?_map]
    by_cases hi : i < xs.length
    · have hd : (itemsD d)[i]? = some ((itemsD d)[i]'(by omega)) := List.getElem?_eq_getElem _
      have r := all i _ _ (List.getElem?_eq_getElem hi) hd
      obtain ⟨z, ez⟩ := hp _ (List.all_eq_true.mp al _ (List.getElem_mem (show i < (itemsD d).length by omega)))
      rw [hd, List.getElem?_eq_getElem hi]
      rw [ez] at r ⊢
      generalize xs[i] = xx at r
      generalize n - 1 = nn at r
      cases r with
      | int z => rfl
    · rw [List.getElem?_eq_none (by omega), List.getElem?_eq_none (show (itemsD d).length ≤ i by omega)]; rfl
  rw [← e]
  exact ⟨a, rfl, hs⟩
theorem Ro.row {C : Addr} {ok : Addr → Prop} {H : Hp} {n : Nat} {x : V} {d : PyData} (h : Ro K C ok H n x d) (c : rowD d = true) : ∃ a, x = .ref a ∧ (SqL K H a ((numsD d).map V.int) ∨ SqT K H a ((numsD d).map V.int)) ∧ (numsD d).length ≤ 16 ∧ ∀ k ∈ numsD d, 1 ≤ k := by
  unfold rowD at c
  simp only [Bool.and_eq_true] at c
  obtain ⟨⟨c1, c2⟩, c3⟩ := c
  obtain ⟨a, e, hs⟩ := h.ints c1 c3 betw_isint
  refine ⟨a, e, hs.imp (fun z => z.1) (fun z => z.1), by unfold numsD; rw [List.length_map]; exact of_decide_eq_true c2, fun k hk => ?_⟩
  obtain ⟨y, hy, rfl⟩ := List.mem_map.mp hk
  have := List.all_eq_true.mp c3 y hy
  obtain ⟨i, rfl⟩ := betw_isint y this
  exact (of_decide_eq_true this).1
/-! ### plans -/
def isTup : PyData → Bool
  | .tuple _ => true
  | _ => false
theorem isTup_is (d : PyData) : isTup d = isD "tuple" d := by cases d <;> rfl
def sizesD (d : PyData) : Bool := isTup d && (!(itemsD d).isEmpty && (itemsD d).all (fromD 1))
def planD (d : PyData) : Bool := isTup d && (itemsD d).all sizesD
theorem Ro.istup {C : Addr} {ok : Addr → Prop} {H : Hp} {n k : Nat} {x : V} {d : PyData} {σ : L2.St} (c : ClsAt K C) (h : Ro K C ok H n x d) (hk : σ[k]? = some (some x)) : Ev (tCB (rIsi K) (tCons (tVar k) (tCons (tC (V.ty "tuple")) tNil))) σ H (.bl (isTup d)) := fun H1 e1 Q q => by
  obtain ⟨t, ty, _, kt, _⟩ := (h.ex e1).isi c
  rw [isTup_is] at q
  exact ⟨_, hk, _, _, _, _, _, rfl, .ty _, ty, kt, q H1 (Ex.refl _)⟩
theorem Ro.tupl {C : Addr} {ok : Addr → Prop} {H : Hp} {n : Nat} {x : V} {d : PyData} (h : Ro K C ok H n x d) (t : isTup d = true) : ∃ a xs, x = .ref a ∧ SqT K H a xs ∧ d = .tuple (itemsD d) ∧ True ∧ xs.length = (itemsD d).length ∧ xs.length ≤ 900 ∧
    ∀ (i : Nat) (x : V) (e : PyData), xs[i]? = some x → (itemsD d)[i]? = some e → Ro K C ok H (n - 1) x e := by
  cases h with
  | tup h hl hz all => exact ⟨_, _, rfl, h, rfl, trivial, hl, hz, all⟩
  | _ => cases t
def spSizesR (K : PySem.W.Frag) (C : Addr) : Sp := fun vs H Q _ => ∃ x d n ok, vs = [x] ∧ Ro K C ok H n x d ∧ ∀ H', Ex H H' → Q (.bl (sizesD d)) H'
theorem ok_are_sizes (T : TK K mg) : FnOk P w K mg base CX0 4 T.are_sizes.a T.are_sizes.fd ["value"] (spSizesR K T.C) := by
  refine T.are_sizes.F.ok sc_are_sizes (fun vs H Q E h => ?_) (fun cdv A outer s H vs Q E hr h => ?_)
  · obtain ⟨x, d, n, ok, rfl, _⟩ := h; rfl
  obtain ⟨x, d, n, ok, rfl, h, q⟩ := h
  refine ⟨_, (pss_one (ps_ret (pe_and (pe_callB (kisi K) (by rfl) T.z_isinstance (by decide +kernel) (pa_cons (pv 0) (pa_cons (pe_bltn (v := .ty "tuple") rfl T.z_tuple (by decide +kernel) rfl) pa_nil))) (pe_and (pe_cmpR (kne0 K hr.units) (pv 0) (pe_tup pa_nil) (nomark _)) (pe_one (pe_call (okr_are_from T) (hr.mono (by decide)) rfl T.are_from.m T.are_from.F.kp T.are_from.b .nil pass0 (pa_cons (pv 0) (pa_cons pe_int pa_nil)))))))), ?_⟩
  refine (ev_andV (a := isTup d) (b := !(itemsD d).isEmpty && (itemsD d).all (fromD 1)) (h.istup (k := 0) T.ca rfl) (fun t => ?_)) H (Ex.refl _) _ fun H1 e1 => q H1 e1
  obtain ⟨a, xs, rfl, hs, hd, _, hl, hz, all⟩ := h.tupl t
  have ee : (itemsD d).isEmpty = xs.isEmpty := by
    cases hi : itemsD d <;> cases xs <;> first | rfl | (rw [hi] at hl; cases hl)
  rw [ee]
  refine ev_andV (fun H1 e1 Q q => ⟨_, rfl, Nat.zero_le _, fun z hz => ?_⟩) (fun t => ?_)
  · have e2 := Ex.new (o := .tup []) hz
    exact ⟨a, z, xs, rfl, rfl, ex_t (e1.trans e2) hs, SqT.of upd_same, q _ e2⟩
  · exact fun H1 e1 Q q => ⟨_, rfl, .ref a, d, n, ok, 1, rfl, h.ex e1, by rw [hd]; rfl, fun H2 e2 => q H2 e2⟩
def spPlanR (K : PySem.W.Frag) (C : Addr) : Sp := fun vs H Q _ => ∃ x d n ok, vs = [x] ∧ Ro K C ok H n x d ∧ ∀ H', Ex H H' → Q (.bl (planD d)) H'
theorem ok_is_plan (T : TK K mg) : FnOk P w K mg base CX0 5 T.is_plan.a T.is_plan.fd ["value"] (spPlanR K T.C) := by
  refine T.is_plan.F.ok sc_is_plan (fun vs H Q E h => ?_) (fun cdv A outer s H vs Q E hr h => ?_)
  · obtain ⟨x, d, n, ok, rfl, _⟩ := h; rfl
  obtain ⟨x, d, n, ok, rfl, h, q⟩ := h
  refine ⟨_, (pss_one (ps_ret (pe_and (pe_callB (kisi K) (by rfl) T.z_isinstance (by decide +kernel) (pa_cons (pv 0) (pa_cons (pe_bltn (v := .ty "tuple") rfl T.z_tuple (by decide +kernel) rfl) pa_nil))) (pe_one (pe_callB (kall K rfl) (by rfl) T.z_all (by decide +kernel) (pa_cons (pe_lc (own := [("sizes", 1)]) (g := gName 1) (by rfl) sc_is_plan.nd (kpit K (pv 0)) (blkOk_by (own := [("sizes", 1)]) (N := ["value", "sizes"]) (sc := defScope s_is_plan) (by decide +kernel)) (fun _ _ _ _ _ => (pg_name (i := 1) sc_is_plan.nd rfl (Or.inl rfl))) (fun _ _ _ _ _ => pts_nil) (fun _ _ _ _ _ => (pe_call (ok_are_sizes T) (hr.mono (by decide)) rfl T.are_sizes.m T.are_sizes.F.kp T.are_sizes.b .nil pass0 (pa_cons (pv 1) pa_nil)))) pa_nil)))))), ?_⟩
  refine (ev_andV (a := isTup d) (b := (itemsD d).all sizesD) (h.istup (k := 0) T.ca rfl) (fun t => ?_)) H (Ex.refl _) _ fun H1 e1 => q H1 e1
  obtain ⟨a, xs, rfl, hs, hd, _, hl, hz, all⟩ := h.tupl t
  have := ev_all (K := K) (te := tLc (iTup K (tVar 0)) (gName 1) tYes (tCall (spSizesR K T.C) [] E0 (tCons (tVar 1) tNil)) [1]) (σ := start ["value", "sizes"] [.ref a]) (H := H) (bs := (itemsD d).map sizesD) (by
    rw [← given_D hl]
    refine el_lcT _ _ (ev_var rfl) hs (by omega) (fun x => rfl) (fun i x H1 _ _ H2 _ Q q => q H2 (Ex.refl _)) (fun i x H1 e1 hx _ => ?_)
    have hi := (List.getElem?_eq_some_iff.mp hx).1
    have hd : (itemsD d)[i]? = some ((itemsD d)[i]'(by omega)) := List.getElem?_eq_getElem _
    have r := (all i x _ hx hd).ex e1
    rw [getD_at hd]
    exact fun H2 e2 Q q => ⟨_, rfl, x, _, n - 1, ok, rfl, r.ex e2, fun H3 e3 => q H3 e3⟩)
  rw [List.all_map] at this
  exact this
/-! ### the class Line -/
def spcW (i : Int) : List V := [.str "wires", .int i]
theorem rd_spcW {H : Hp} {a : Addr} {i : Int} (h : H a = some (.tup (spcW i))) : Rd K (fun _ => True) H 1 (.ref a) (.tuple [.str "wires", .int i]) := by
  refine .tup (SqT.of h) trivial rfl (by show 2 ≤ 900; decide) fun j x d hx hd => ?_
  match j, hx, hd with
  | 0, hx, hd => cases Option.some.inj hx; cases Option.some.inj hd; exact .str _ (by decide +kernel) (by decide +kernel)
  | 1, hx, hd => cases Option.some.inj hx; cases Option.some.inj hd; exact .int _
def spIsSpec : Sp := fun vs H Q _ => ∃ (a : Addr) (i : Int), vs = [.ref a] ∧ H a = some (.tup (spcW i)) ∧ 0 ≤ i ∧ i ≤ 10 ∧ ∀ H', Ex H H' → Q (.bl true) H'
theorem ok_is_spec (T : TK K mg) : FnOk P w K mg base CX0 4 T.is_spec.a T.is_spec.fd ["value"] spIsSpec := by
  refine T.is_spec.F.ok sc_is_spec (fun vs H Q E h => ?_) (fun cdv A outer s H vs Q E hr h => ?_)
  · obtain ⟨a, i, rfl, _⟩ := h; rfl
  obtain ⟨a, i, rfl, h, i0, i1, q⟩ := h
  refine ⟨_, (pss_cons (ps_if (PW.pt (pw_or (pt_not (pt_val (pe_callB (kisi K) (by rfl) T.z_isinstance (by decide +kernel) (pa_cons (pv 0) (pa_cons (pe_bltn (v := .ty "tuple") rfl T.z_tuple (by decide +kernel) rfl) pa_nil))))) (pw_or1 (pt_cmpR (keqD K hr.units) (pv 0) (pe_tup pa_nil) (nomark _))))) (pss_one (ps_ret pe_bl)) pss_nil)
    (pss_cons (ps_if (pt_cmpR op_eq (pe_ix (kixt K) (pv 0) pe_int (fun _ _ => rfl)) pe_str (nomark _)) (pss_one (ps_ret (pe_and (pe_cmpR op_eq (pe_callB (klen K) (by rfl) T.z_len (by decide +kernel) (pa_cons (pv 0) pa_nil)) pe_int (nomark _)) (pe_one (pe_call (okr_are_between T) (hr.mono (by decide)) rfl T.are_between.m T.are_between.F.kp T.are_between.b .nil pass0 (pa_cons (pe_slice (kslT K) (pv 0) (po_some pe_int) po_none) (pa_cons pe_int (pa_cons (pe_glob (v := .int 8) rfl T.c_MOST_LETTERS ⟨_, rfl⟩) pa_nil)))))))) pss_nil)
    (pss_cons (ps_if (pt_cmpR op_eq (pe_ix (kixt K) (pv 0) pe_int (fun _ _ => rfl)) pe_str (nomark _)) (pss_one (ps_ret (pe_and (pe_cmpR op_eq (pe_callB (klen K) (by rfl) T.z_len (by decide +kernel) (pa_cons (pv 0) pa_nil)) pe_int (nomark _)) (pe_one (pe_call (ok_is_between T.toTA1) (hr.mono (by decide)) rfl T.is_between.m T.is_between.F.kp T.is_between.b .nil pass0 (pa_cons (pe_ix (kixt K) (pv 0) pe_int (fun _ _ => rfl)) (pa_cons pe_int (pa_cons (pe_glob (v := .int 10) rfl T.c_MOST_WIRES_lines ⟨_, rfl⟩) pa_nil)))))))) pss_nil)
    (pss_one (ps_ret pe_bl))))), ?_⟩
  refine ⟨_, rfl, _, _, _, _, true, rfl, .ty _, tyT (SqT.of h), kit_ty (by decide +kernel), _, rfl, iteF ⟨_, rfl, Nat.zero_le _, fun z hz => ?_⟩⟩
  have e1 := Ex.new (o := .tup []) hz
  have h1 := e1 _ _ h
  have r := rd_spcW (K := K) h1
  have r0 : Rd K (fun _ => True) (upd H z (.tup [])) 1 (.ref z) (.tuple []) := .tup (SqT.of upd_same) trivial rfl (Nat.zero_le _) (fun i x d hx _ => by cases hx)
  refine ⟨_, _, r.dp, r0.dp, r.shaped (by omega), r0.shaped (by omega), _, rfl, iteF ?_⟩
  refine ⟨_, rfl, _, _, _, _, rfl, rfl, SqT.of h1, at_of (show (0 : Int) = ((0 : Nat) : Int) from rfl) rfl, rfl, _, rfl, iteF ?_⟩
  refine ⟨_, rfl, _, _, _, _, rfl, rfl, SqT.of h1, at_of (show (0 : Int) = ((0 : Nat) : Int) from rfl) rfl, rfl, _, rfl, iteT ?_⟩
  refine ⟨_, rfl, _, _, rfl, .inr ⟨_, SqT.of h1, rfl⟩, rfl, _, rfl, iteT ?_⟩
  refine ⟨_, rfl, _, _, _, _, rfl, rfl, SqT.of h1, at_of (show (1 : Int) = ((1 : Nat) : Int) from rfl) rfl, .int i, 0, 10, rfl, Dat.int, fun b hb _ => ?_⟩
  rw [hb i rfl, decide_eq_true (⟨i0, i1⟩ : 0 ≤ i ∧ i ≤ 10)]
  exact q _ e1
def spLnInit (C : Addr) : Sp := fun vs H Q _ => ∃ (p dx a : Addr) (i : Int), vs = [.ref p, .ref a] ∧ H p = some (.ins C dx []) ∧ H a = some (.tup (spcW i)) ∧ 0 ≤ i ∧ i ≤ 10 ∧ ∀ fs H', But p H H' → H' p = some (.ins C dx fs) → Q .non H'
theorem ok_Line_init (T : TK K mg) : FnOk P w K mg base CX0 5 T.m_init.a T.m_init.fd ["self", "spec"] (spLnInit T.C) := by
  refine T.m_init.F.ok sc_Line_init (fun vs H Q E h => ?_) (fun cdv A outer s H vs Q E hr h => ?_)
  · obtain ⟨p, dx, a, i, rfl, _⟩ := h; rfl
  obtain ⟨p, dx, a, i, rfl, hp, ha, i0, i1, q⟩ := h
  refine ⟨_, (pss_cons (ps_if (pt_not (pt_val (pe_call (ok_is_spec T) (hr.mono (by decide)) rfl T.is_spec.m T.is_spec.F.kp T.is_spec.b .nil pass0 (pa_cons (pv 1) pa_nil)))) pss_never pss_nil)
    (pss_cons (ps_fld (pv 0) (pv 1) rfl)
    (pss_cons (ps_fld (pv 0) (pe_lst (pa_cons (pe_lst pa_nil) (pa_cons (pe_lst pa_nil) pa_nil))) rfl)
    (pss_one (ps_fld (pv 0) (pe_lst (pa_cons (pe_lst pa_nil) (pa_cons (pe_lst pa_nil) pa_nil))) rfl))))), ?_⟩
  refine ⟨_, rfl, a, i, rfl, ha, i0, i1, fun H1 e1 => ⟨true, rfl, iteF ?_⟩⟩
  refine ⟨_, rfl, _, rfl, _, _, _, _, rfl, e1 _ _ hp, T.cl, T.n_spec, by decide, ?_⟩
  refine ⟨(by show 0 ≤ sizeLine; decide), fun a0 h0 => ⟨(by show 0 ≤ sizeLine; decide), fun a1 h1 => ⟨(by show 2 ≤ sizeLine; decide), fun sb h2 => ?_⟩⟩⟩
  generalize hg1 : upd H1 p (HO.ins T.C dx (putF (Str.ofString "spec") (V.ref a) [])) = G1 at h0 h1 h2 ⊢
  have g1p : G1 p = some (.ins T.C dx [("spec", .ref a)]) := by rw [← hg1, upd_same]; rfl
  have k1 : But p H G1 := by rw [← hg1]; exact But.pre e1 But.upd
  have f4 : Ex G1 (upd (upd (upd G1 a0 (.lst [])) a1 (.lst [])) sb (.lst [.ref a0, .ref a1])) := ((Ex.new h0).trans (Ex.new h1)).trans (Ex.new h2)
  generalize upd (upd (upd G1 a0 (.lst [])) a1 (.lst [])) sb (.lst [.ref a0, .ref a1]) = G4 at f4 ⊢
  refine ⟨_, rfl, _, _, _, _, rfl, f4 _ _ g1p, T.cl, T.n_sent, (by show 1 < 1000; decide), ?_⟩
  refine ⟨(by show 0 ≤ sizeLine; decide), fun d0 h5 => ⟨(by show 0 ≤ sizeLine; decide), fun d1 h6 => ⟨(by show 2 ≤ sizeLine; decide), fun cb h7 => ?_⟩⟩⟩
  generalize hg5 : upd G4 p (HO.ins T.C dx (putF (Str.ofString "_sent_by") (V.ref sb) [(Str.ofString "spec", V.ref a)])) = G5 at h5 h6 h7 ⊢
  have g5p : G5 p = some (.ins T.C dx [("spec", .ref a), ("_sent_by", .ref sb)]) := by rw [← hg5, upd_same]; rfl
  have k5 : But p G4 G5 := by rw [← hg5]; exact But.upd
  have f8 : Ex G5 (upd (upd (upd G5 d0 (.lst [])) d1 (.lst [])) cb (.lst [.ref d0, .ref d1])) := ((Ex.new h5).trans (Ex.new h6)).trans (Ex.new h7)
  generalize upd (upd (upd G5 d0 (.lst [])) d1 (.lst [])) cb (.lst [.ref d0, .ref d1]) = G8 at f8 ⊢
  refine ⟨_, rfl, _, _, _, _, rfl, f8 _ _ g5p, T.cl, T.n_came, (by show 2 < 1000; decide), ?_⟩
  exact q _ _ ((k1.trans (But.of f4)).trans (k5.trans ((But.of f8).trans But.upd))) upd_same
end
end L2.U


set_option Elab.async false
set_option linter.all false
set_option maxRecDepth 100000
set_option maxHeartbeats 4000000
namespace L2.U
open PySem PySem.Spec PyProof.Rows Evl
section
variable {P : Program} {w : World} {K : PySem.W.Frag} {mg : Str → Option Value} {base : Heap}
/-- a comprehension over a range that makes data -/
theorem lc_rd {σ : L2.St} {H : Hp} {ta : TA} {te : TE} {j m : Nat} {vs : List Nat} {n : Int} {d : Nat → PyData} (h : EvA ta σ H [.int n]) (hn : 0 ≤ n ∧ n ≤ 900) (hw : ∀ x, wipe ((wipe σ vs).set j (some x)) vs = wipe σ vs)
    (he : ∀ (i : Nat) H1, Ex H H1 → (i : Int) < n → ∀ Q : VK, (∀ x H2, Ex H1 H2 → Rd K (fun a => H1 a = none) H2 m x (d i) → Q x H2) → te ((wipe σ vs).set j (some (.int (i : Int)))) H1 Q)
    {Q : VK} (q : ∀ p H', Ex H H' → Rd K (fun a => H a = none) H' (m + 1) (.ref p) (.list ((List.range n.toNat).map d)) → Q (.ref p) H') : tLc (iRng1 ta) (gName j) tYes te vs σ H Q := by
  refine h H (Ex.refl _) _ fun H1 e1 => ⟨n, rfl, by omega, by omega, fun D hD => ?_⟩
  refine lc_range (lo := 0) (n := n.toNat) (fun i H' => Ex H1 H' ∧ ∃ xs, H' D = some (.lst xs) ∧ xs.length = i ∧ RdL K (fun a => H1 a = none ∧ a ≠ D) H' m xs ((List.range i).map d)) ⟨Ex.new hD, [], upd_same, rfl, rfl, fun i x e hx _ => by cases hx⟩ (fun i H' hi p => ⟨hw _, ?_⟩) (fun H' p => ?_)
  · obtain ⟨p1, xs, p2, p3, p4⟩ := p
    have e0 : (0 : Int) + (i : Int) = (i : Int) := Int.zero_add _
    show tYes _ H' (fun b H3 => if b = true then te ((wipe σ vs).set j (some (.int ((0 : Int) + (i : Int))))) H3 fun y H4 => ∃ acc, H4 D = some (.lst acc) ∧ acc.length < sizeLine ∧ _ else _)
    rw [e0]
    refine tyes ?_
    refine he i H' (e1.trans p1) (by omega) _ fun x H2 e2 rx => ⟨xs, e2 _ _ p2, small1000 (by omega), (p1.trans e2).mut hD, xs ++ [x], upd_same, by rw [List.length_append, p3]; rfl, ?_⟩
    rw [List.range_succ, List.map_append]
    refine RdL.snoc ?_ ?_
    · have r1 := p4.ex e2
      exact r1.but (b := D) But.upd (fun a ha => ha.2)
    · have nD : ∀ a, H' a = none → H1 a = none ∧ a ≠ D := fun a ha => ⟨fresh_back p1 ha, fun z => by rw [z, p2] at ha; cases ha⟩
      exact (rx.of nD).but (b := D) But.upd (fun a ha => ha.2)
  · obtain ⟨p1, xs, p2, p3, p4⟩ := p
    have fr : ∀ a, H1 a = none → H a = none := fun a ha => fresh_back e1 ha
    have r := p4.of (ok' := fun a => H a = none) (fun a ha => fr a ha.1)
    exact q D H' (e1.trans p1) (.lst p2 (fr D hD) r.1 (by omega) r.2)
theorem el_lcR2 {σ : L2.St} {H : Hp} {ta : TA} {t : TT} {te : TE} {j : Nat} {vs : List Nat} {lo n : Int} (f : Nat → Bool) (v : Nat → V) (h : EvA ta σ H [.int lo, .int n]) (hn : 0 ≤ lo ∧ lo ≤ 40000 ∧ -40000 ≤ n ∧ n ≤ 40000) (hw : ∀ x, wipe ((wipe σ vs).set j (some x)) vs = wipe σ vs)
    (ht : ∀ (i : Nat) H1, Ex H H1 → lo + (i : Int) < n → EvT t ((wipe σ vs).set j (some (.int (lo + (i : Int))))) H1 (f i)) (he : ∀ (i : Nat) H1, Ex H H1 → lo + (i : Int) < n → f i = true → Ev te ((wipe σ vs).set j (some (.int (lo + (i : Int))))) H1 (v i)) :
    EvL (tLc (iRng2 ta) (gName j) t te vs) σ H (given (n - lo).toNat f v) := fun H0 e Q q => h H0 e _ fun H1 e1 => ⟨lo, n, rfl, ⟨by omega, by omega, by omega, by omega⟩, fun Dl hD =>
  lc_range (lo := lo) (n := (n - lo).toNat) (Cw H1 f v Dl) ⟨hD, Ex.new hD, upd_same⟩ (fun i H' hi p => ⟨hw _, cw_turn p (by omega) (ht i H1 (e.trans e1) (by omega)) (fun hf => he i H1 (e.trans e1) (by omega) hf)⟩) (fun H' p => q Dl H' (fresh_back e1 p.1) (e1.trans p.2.1) p.2.2)⟩
def listI (l : List Int) : PyData := .list (l.map PyData.int)
def list2 (l : List (List Int)) : PyData := .list (l.map listI)
/-- a list of lists of ints -/
theorem rd_list2 {ok : Addr → Prop} {H : Hp} {m : Nat} {x : V} {T : List (List Int)} (h : Rd K ok H m x (list2 T)) : ∃ a vs, x = .ref a ∧ H a = some (.lst vs) ∧ vs.length = T.length ∧ vs.length ≤ 900 ∧ ∀ (i : Nat) (v : V), vs[i]? = some v → ∃ b t, v = .ref b ∧ T[i]? = some t ∧ H b = some (.lst (t.map V.int)) := by
  unfold list2 at h
  cases h with
  | lst h ha hl hz all =>
    rw [List.length_map] at hl
    refine ⟨_, _, rfl, h, hl, hz, fun i v hv => ?_⟩
    have hi := (List.getElem?_eq_some_iff.mp hv).1
    have ht : T[i]? = some (T[i]'(by omega)) := List.getElem?_eq_getElem _
    have r := all i v (listI (T[i]'(by omega))) hv (by rw [List.getElem?_map, ht]; rfl)
    generalize T[i]'(by omega) = t at ht r
    unfold listI at r
    generalize hd : (PyData.list (t.map PyData.int)) = d at r
    cases r with
    | lst h2 ha2 hl2 hz2 all2 =>
      cases hd
      rename_i b xs
      refine ⟨b, t, rfl, ht, ?_⟩
      have : xs = t.map V.int := by
        rw [List.length_map] at hl2
        apply List.ext_getElem?
        intro k
        rw [List.getElem?_map]
        by_cases hk : k < xs.length
        · have h3 : t[k]? = some (t[k]'(by omega)) := List.getElem?_eq_getElem _
          have r2 := all2 k (xs[k]) (.int (t[k]'(by omega))) (List.getElem?_eq_getElem hk) (by rw [List.getElem?_map, h3]; rfl)
          rw [List.getElem?_eq_getElem hk, h3]
          generalize xs[k] = xk at r2
          generalize t[k]'(by omega) = tk at r2
          cases r2
          rfl
        · rw [List.getElem?_eq_none (by omega), List.getElem?_eq_none (by omega)]; rfl
      rw [← this]
      exact h2
    | tup _ _ _ _ _ => cases hd
    | non => cases hd
    | bl _ => cases hd
    | int _ => cases hd
    | str _ _ _ => cases hd
def optV : Option Int → V
  | none => .non
  | some i => .int i
def fstO {α : Type} (p : α → Bool) : Nat → List α → Option Int
  | _, [] => none
  | k, x :: r => if p x then some (k : Int) else fstO p (k + 1) r
theorem fstO_drop {α : Type} {p : α → Bool} {l : List α} {i : Nat} {x : α} (h : l[i]? = some x) (hp : p x = false) : fstO p i (l.drop i) = fstO p (i + 1) (l.drop (i + 1)) := by
  obtain ⟨hi, e⟩ := List.getElem?_eq_some_iff.mp h
  rw [List.drop_eq_getElem_cons hi, e]
  show (if p x then _ else _) = _
  rw [if_neg (by rw [hp]; decide)]
theorem fstO_hit {α : Type} {p : α → Bool} {l : List α} {i : Nat} {x : α} (h : l[i]? = some x) (hp : p x = true) : fstO p i (l.drop i) = some (i : Int) := by
  obtain ⟨hi, e⟩ := List.getElem?_eq_some_iff.mp h
  rw [List.drop_eq_getElem_cons hi, e]
  show (if p x then _ else _) = _
  rw [if_pos hp]
def leftTo (x : Int) (f : Nat → Int) : Nat → Int
  | 0 => -1
  | k + 1 => if x ≤ f k then (k : Int) else leftTo x f k
theorem leftTo_spec (x : Int) (f : Nat → Int) : ∀ m, (leftTo x f m = -1 ∧ ∀ l, l < m → ¬ x ≤ f l) ∨ ∃ L, L < m ∧ leftTo x f m = (L : Int) ∧ x ≤ f L ∧ ∀ l, l < m → x ≤ f l → l ≤ L
  | 0 => .inl ⟨rfl, fun l h => absurd h (Nat.not_lt_zero _)⟩
  | m + 1 => by
    unfold leftTo
    by_cases c : x ≤ f m
    · rw [if_pos c]
      exact .inr ⟨m, by omega, rfl, c, fun l h _ => by omega⟩
    · rw [if_neg c]
      rcases leftTo_spec x f m with ⟨h1, h2⟩ | ⟨L, h1, h2, h3, h4⟩
      · exact .inl ⟨h1, fun l h => by
          by_cases e : l = m
          · rw [e]; exact c
          · exact h2 l (by omega)⟩
      · exact .inr ⟨L, by omega, h2, h3, fun l h g => by
          by_cases e : l = m
          · rw [e] at g; exact absurd g c
          · exact h4 l (by omega) g⟩
theorem range_getD {α β : Type} (g : α → β) : ∀ (l : List α) (d : α), (List.range l.length).map (fun k => g (l.getD k d)) = l.map g := by
  intro l d
  apply List.ext_getElem?
  intro i
  rw [List.getElem?_map, List.getElem?_map]
  by_cases hi : i < l.length
  · rw [List.getElem?_range hi, List.getElem?_eq_getElem hi]
    show some (g (l.getD i d)) = some (g l[i])
    rw [List.getD_eq_getElem?_getD, List.getElem?_eq_getElem hi]
    rfl
  · rw [List.getElem?_eq_none (by rw [List.length_range]; omega), List.getElem?_eq_none (by omega)]
    rfl
theorem given_ints {n : Nat} {f : Nat → Bool} : given n f (fun l : Nat => V.int (l : Int)) = (((List.range n).filter f).map fun l : Nat => (l : Int)).map V.int := by
  unfold given
  rw [List.map_map]
  rfl
theorem ints_getD {ns : List Int} {i : Nat} (h : i < ns.length) : (ns.map V.int)[i]? = some (.int (ns.getD i 0)) := by
  rw [List.getElem?_map, List.getElem?_eq_getElem h, List.getD_eq_getElem?_getD, List.getElem?_eq_getElem h]
  rfl
theorem cutV_take {xs : List V} {k : Nat} : cutV xs none (some (k : Int)) = xs.take k := by
  unfold cutV
  rw [HT.sIx_nat]
  show (xs.drop 0).take (min k xs.length - 0) = _
  rw [List.drop_zero, Nat.sub_zero]
  exact List.take_eq_take_iff.mpr (by omega)
theorem any_ne {n : Nat} {f : Nat → Bool} : (!PyData.eqv (.list ((((List.range n).filter f).map fun l : Nat => (l : Int)).map PyData.int)) (.list [])) = (List.range n).any f := by
  cases c : (List.range n).filter f with
  | nil =>
    have : (List.range n).any f = false := by
      rw [List.any_eq_false]
      intro x hx hf
      have := List.mem_filter.mpr ⟨hx, hf⟩
      rw [c] at this
      cases this
    rw [this]
    rfl
  | cons y ys =>
    have : (List.range n).any f = true := by
      rw [List.any_eq_true]
      have := List.mem_filter.mp (show y ∈ (List.range n).filter f by rw [c]; exact List.mem_cons_self)
      exact ⟨y, this⟩
    rw [this]
    rfl
def rowB (m : Nat) (t : Nat → Bool) : PyData := .list ((List.range (m + 1)).map fun a => .bool (t a))
theorem rd_rowB {ok : Addr → Prop} {H : Hp} {j m : Nat} {x : V} {t : Nat → Bool} (h : Rd K ok H j x (rowB m t)) : ∃ b xs, x = .ref b ∧ H b = some (.lst xs) ∧ ∀ a, a ≤ m → xs[a]? = some (.bl (t a)) := by
  unfold rowB at h
  generalize hd : (PyData.list ((List.range (m + 1)).map fun a => PyData.bool (t a))) = d at h
  cases h with
  | lst h ha hl hz all =>
    cases hd
    rw [List.length_map, List.length_range] at hl
    refine ⟨_, _, rfl, h, fun a ha => ?_⟩
    have hx := List.getElem?_eq_getElem (show a < _ by rw [hl]; omega)
    rw [hx]
    have r := all a _ (.bool (t a)) hx (by rw [List.getElem?_map, List.getElem?_range (by omega)]; rfl)
    generalize (_ : List V)[a]'_ = y at r ⊢
    cases r
    rfl
  | _ => cases hd
theorem lc_rdS {σ : L2.St} {H : Hp} {ta : TA} {te : TE} {i j m : Nat} {vs : List Nat} {n : Int} {d : Nat → PyData} {rest : TS} {D : Ends} (h : EvA ta σ H [.int n]) (hn : 0 ≤ n ∧ n ≤ 900) (hw : ∀ x, wipe ((wipe σ vs).set j (some x)) vs = wipe σ vs)
    (he : ∀ (i : Nat) H1, Ex H H1 → (i : Int) < n → ∀ Q : VK, (∀ x H2, Ex H1 H2 → Rd K (fun a => H1 a = none) H2 m x (d i) → Q x H2) → te ((wipe σ vs).set j (some (.int (i : Int)))) H1 Q)
    (q : ∀ p H', Ex H H' → Rd K (fun a => H a = none) H' (m + 1) (.ref p) (.list ((List.range n.toNat).map d)) → rest D (σ.set i (some (.ref p))) H') : tSeq (tAsg (tLc (iRng1 ta) (gName j) tYes te vs) (gName i)) rest D σ H :=
  lc_rd (K := K) (Q := fun v H' => rest D (σ.set i (some v)) H') h hn hw he q
theorem gn_ {i : Nat} {v : V} {σ : L2.St} {H : Hp} {k : L2.St → Hp → Prop} (h : k (σ.set i (some v)) H) : gName i v σ H k := h
theorem el_seq {i : Nat} {te : TE} {xs : List V} {rest : TS} {D : Ends} {σ : L2.St} {H : Hp} (h : EvL te σ H xs) (q : ∀ p H', H p = none → Ex H H' → H' p = some (.lst xs) → rest D (σ.set i (some (.ref p))) H') : tSeq (tAsg te (gName i)) rest D σ H := h H (Ex.refl _) _ q
theorem four_le : 4 ≤ sizeLine := by decide
theorem three_le : 3 ≤ sizeLine := by decide
theorem six_le : 6 ≤ sizeLine := by decide
theorem ev_seq {i : Nat} {te : TE} {v : V} {rest : TS} {D : Ends} {σ : L2.St} {H : Hp} (h : Ev te σ H v) (q : ∀ H', Ex H H' → rest D (σ.set i (some v)) H') : tSeq (tAsg te (gName i)) rest D σ H := h H (Ex.refl _) _ q
theorem ten_le : 10 ≤ sizeLine := by decide
theorem butMut {b p : Addr} {H H' : Hp} {o : HO} (k : But b H H') (h : H p = Option.none) : But b H (upd H' p o) := fun a u ha hu => by
  rw [upd_ne (ne_of_none hu h)]
  exact k a u ha hu
theorem box_mut {H : Hp} {b p : Addr} {n : Nat} {o : HO} (h : BoxAt H b n) (hp : p ≠ b) : BoxAt (upd H p o) b n := by
  obtain ⟨d, m, c, f, h, r⟩ := h
  exact ⟨d, m, c, f, by rw [upd_ne (Ne.symm hp)]; exact h, r⟩
theorem nuMin2_int (i j : Int) : nuMin2 (.int i) (.int j) = some (.int (if j < i then j else i)) := by
  show some (if decide (j < i) = true then V.int j else V.int i) = _
  by_cases c : j < i
  · rw [if_pos (decide_eq_true c), if_pos c]
  · rw [if_neg (by rw [decide_eq_false c]; decide), if_neg c]
def m3 (i j k : Int) : Int := if k < (if j < i then j else i) then k else (if j < i then j else i)
theorem nuMin3_int (i j k : Int) : nuMin3 (.int i) (.int j) (.int k) = some (.int (m3 i j k)) := by
  unfold nuMin3
  rw [nuMin2_int]
  exact nuMin2_int _ _
theorem but_fresh {H H' : Hp} {b f : Addr} {n m : Nat} (k : But b H H') (hb : BoxAt H b n) (hb2 : BoxAt H' b m) (h : H' f = none) : H f = none := by
  obtain ⟨o, ho⟩ := hb.some
  exact k.none ho h (hb2.ne h)
theorem box_ne {H : Hp} {b a : Addr} {n : Nat} (hb : BoxAt H b n) (h : H a = none) : a ≠ b := hb.ne h
def Fr (H : Hp) : Addr → Prop := fun a => H a = none

theorem dec0 (n : Nat) : decide (V.int (n : Int) = V.int 0) = decide (n = 0) := by
  by_cases c : n = 0
  · rw [c]; rfl
  · rw [decide_eq_false c]
    exact decide_eq_false fun e => c (by have := V.int.inj e; omega)
def GoodR (ns : List Int) : Prop := ns.length ≤ 16 ∧ ∀ z ∈ ns, 1 ≤ z ∧ z ≤ 100000000000000000000000000000000000000000000000000
theorem betw_all {lo hi : Int} {ns : List Int} (h : ∀ z ∈ ns, lo ≤ z ∧ z ≤ hi) : (ns.map PyData.int).all (betwD lo hi) = true := by
  rw [List.all_eq_true]
  intro d hd
  obtain ⟨z, hz, rfl⟩ := List.mem_map.mp hd
  exact decide_eq_true (h z hz)
theorem row_list {ns : List Int} (g : GoodR ns) : rowD (.list (ns.map PyData.int)) = true := by
  unfold rowD
  rw [Bool.and_eq_true, Bool.and_eq_true]
  exact ⟨⟨rfl, decide_eq_true (by show (ns.map PyData.int).length ≤ 16; rw [List.length_map]; exact g.1)⟩, betw_all g.2⟩
theorem row_tup {ns : List Int} (g : GoodR ns) : rowD (.tuple (ns.map PyData.int)) = true := by
  unfold rowD
  rw [Bool.and_eq_true, Bool.and_eq_true]
  exact ⟨⟨rfl, decide_eq_true (by show (ns.map PyData.int).length ≤ 16; rw [List.length_map]; exact g.1)⟩, betw_all g.2⟩
theorem nums_map {ns : List Int} : (ns.map PyData.int).map intD = ns := by
  rw [List.map_map]
  have : intD ∘ PyData.int = id := rfl
  rw [this, List.map_id]
theorem rd_ilist {ok : Addr → Prop} {H : Hp} {a : Addr} {ns : List Int} (h : H a = some (.lst (ns.map V.int))) (o : ok a) (l : ns.length ≤ 900) : Rd K ok H 1 (.ref a) (.list (ns.map PyData.int)) :=
  have rd := rdl_ints (K := K) (ok := ok) (H := H) (n := 0) ns
  .lst h o rd.1 (by rw [List.length_map]; exact l) rd.2
theorem rd_ituple {ok : Addr → Prop} {H : Hp} {a : Addr} {ns : List Int} (h : SqT K H a (ns.map V.int)) (o : ok a) (l : ns.length ≤ 900) : Rd K ok H 1 (.ref a) (.tuple (ns.map PyData.int)) :=
  have rd := rdl_ints (K := K) (ok := ok) (H := H) (n := 0) ns
  .tup h o rd.1 (by rw [List.length_map]; exact l) rd.2
theorem rd_lst_at {ok : Addr → Prop} {H : Hp} {n : Nat} {p : Addr} {ds : List PyData} (h : Rd K ok H n (.ref p) (.list ds)) : ∃ xs, H p = some (.lst xs) ∧ ok p ∧ xs.length = ds.length ∧ xs.length ≤ 900 ∧ ∀ (i : Nat) (x : V) (d : PyData), xs[i]? = some x → ds[i]? = some d → Rd K ok H (n - 1) x d := by
  cases h with
  | lst h ha hl hz all => exact ⟨_, h, ha, hl, hz, all⟩
theorem ixN_int {n : Nat} {i : Int} (h0 : 0 ≤ i) (h : i < (n : Int)) : ixN n i = some i.toNat := by
  have := ixN_nat (n := n) (j := i.toNat) (by omega)
  rwa [show ((i.toNat : Nat) : Int) = i by omega] at this
theorem nine_le : 9 ≤ sizeLine := by decide
theorem one_le : 1 ≤ sizeLine := by decide
theorem new_at {X : Hp} {p : Addr} {o : HO} (h : X p = none) : Ex X (upd X p o) ∧ upd X p o p = some o := ⟨Ex.new h, upd_same⟩
theorem ex_but {b : Addr} {H H' : Hp} (hb : H b = none) (k : But b H H') : Ex H H' := fun a o h => k a o (by rintro rfl; rw [hb] at h; cases h) h
def sufs : List Int → List (List Int)
  | [] => [[]]
  | x :: ns => (x :: ns) :: sufs ns
theorem sufs_at : ∀ (ns : List Int) (k : Nat), k ≤ ns.length → (sufs ns)[k]? = some (ns.drop k)
  | [], 0, _ => rfl
  | x :: ns, 0, _ => rfl
  | x :: ns, k + 1, h => sufs_at ns k (Nat.le_of_succ_le_succ h)
theorem sufs_len : ∀ ns : List Int, (sufs ns).length = ns.length + 1
  | [] => rfl
  | x :: ns => congrArg (· + 1) (sufs_len ns)
theorem lc_rd2 {σ : L2.St} {H : Hp} {ta : TA} {te : TE} {j m : Nat} {vs : List Nat} {lo n : Int} {d : Nat → PyData} (h : EvA ta σ H [.int lo, .int n]) (hn : 0 ≤ lo ∧ lo ≤ 900 ∧ -900 ≤ n ∧ n ≤ 900) (hw : ∀ x, wipe ((wipe σ vs).set j (some x)) vs = wipe σ vs)
    (he : ∀ (i : Nat) H1, Ex H H1 → lo + (i : Int) < n → ∀ Q : VK, (∀ x H2, Ex H1 H2 → Rd K (fun a => H1 a = none) H2 m x (d i) → Q x H2) → te ((wipe σ vs).set j (some (.int (lo + (i : Int))))) H1 Q)
    {Q : VK} (q : ∀ p H', Ex H H' → H p = none → Rd K (fun a => H a = none) H' (m + 1) (.ref p) (.list ((List.range (n - lo).toNat).map d)) → Q (.ref p) H') : tLc (iRng2 ta) (gName j) tYes te vs σ H Q := by
  refine h H (Ex.refl _) _ fun H1 e1 => ⟨lo, n, rfl, ⟨by omega, by omega, by omega, by omega⟩, fun D hD => ?_⟩
  refine lc_range (lo := lo) (n := (n - lo).toNat) (fun i H' => Ex H1 H' ∧ ∃ xs, H' D = some (.lst xs) ∧ xs.length = i ∧ RdL K (fun a => H1 a = none ∧ a ≠ D) H' m xs ((List.range i).map d)) ⟨Ex.new hD, [], upd_same, rfl, rfl, fun i x e hx _ => by cases hx⟩ (fun i H' hi p => ⟨hw _, ?_⟩) (fun H' p => ?_)
  · obtain ⟨p1, xs, p2, p3, p4⟩ := p
    refine tyes ?_
    refine he i H' (e1.trans p1) (by omega) _ fun x H2 e2 rx => ⟨xs, e2 _ _ p2, small1000 (by omega), (p1.trans e2).mut hD, xs ++ [x], upd_same, by rw [List.length_append, p3]; rfl, ?_⟩
    rw [List.range_succ, List.map_append]
    refine RdL.snoc ?_ ?_
    · have r1 := p4.ex e2
      exact r1.but (b := D) But.upd (fun a ha => ha.2)
    · have nD : ∀ a, H' a = none → H1 a = none ∧ a ≠ D := fun a ha => ⟨fresh_back p1 ha, fun z => by rw [z, p2] at ha; cases ha⟩
      exact (rx.of nD).but (b := D) But.upd (fun a ha => ha.2)
  · obtain ⟨p1, xs, p2, p3, p4⟩ := p
    have fr : ∀ a, H1 a = none → H a = none := fun a ha => fresh_back e1 ha
    have r := p4.of (ok' := fun a => H a = none) (fun a ha => fr a ha.1)
    exact q D H' (e1.trans p1) (fr D hD) (.lst p2 (fr D hD) r.1 (by omega) r.2)
theorem rd_listI {ok : Addr → Prop} {H : Hp} {m : Nat} {x : V} {t : List Int} (h : Rd K ok H m x (listI t)) : ∃ o, x = .ref o ∧ ok o ∧ H o = some (.lst (t.map V.int)) ∧ t.length ≤ 900 := by
  unfold listI at h
  generalize hd : (PyData.list (t.map PyData.int)) = d at h
  cases h with
  | lst h2 ha2 hl2 hz2 all2 =>
    cases hd
    rename_i b xs
    have e : xs = t.map V.int := by
      apply List.ext_getElem?
      intro i
      by_cases hi : i < xs.length
      · have hx := List.getElem?_eq_getElem hi
        have ht : i < t.length := by rw [List.length_map] at hl2; omega
        have r := all2 i _ (.int t[i]) hx (by rw [List.getElem?_map, List.getElem?_eq_getElem ht]; rfl)
        rw [hx, List.getElem?_map, List.getElem?_eq_getElem ht]
        generalize xs[i] = y at r ⊢
        cases r
        rfl
      · rw [List.getElem?_eq_none (by omega), List.getElem?_eq_none (by rw [List.length_map] at hl2 ⊢; omega)]
    rw [e] at h2
    exact ⟨b, rfl, ha2, h2, by rw [List.length_map] at hl2; omega⟩
  | _ => cases hd
theorem RdL.app {ok : Addr → Prop} {H : Hp} {n : Nat} {xs ys : List V} {ds es : List PyData} (h1 : RdL K ok H n xs ds) (h2 : RdL K ok H n ys es) : RdL K ok H n (xs ++ ys) (ds ++ es) := by
  refine ⟨by rw [List.length_append, List.length_append, h1.1, h2.1], fun i x d hx hd => ?_⟩
  by_cases c : i < xs.length
  · rw [List.getElem?_append_left c] at hx
    rw [List.getElem?_append_left (by rw [← h1.1]; exact c)] at hd
    exact h1.2 i x d hx hd
  · rw [List.getElem?_append_right (by omega)] at hx
    rw [List.getElem?_append_right (by rw [← h1.1]; omega), ← h1.1] at hd
    exact h2.2 _ x d hx hd
theorem gnv {i : Nat} {v v' : V} {σ : L2.St} {H : Hp} {k : L2.St → Hp → Prop} (e : v = v') (h : gName i v' σ H k) : gName i v σ H k := e ▸ h
theorem cutV_drop {xs : List V} {k : Nat} (h : k ≤ xs.length) : cutV xs (some (k : Int)) none = xs.drop k := by
  unfold cutV
  rw [HT.sIx_nat, HT.sIx_none, Nat.min_eq_left h]
  exact List.take_of_length_le (by rw [List.length_drop]; omega)
theorem cutV_len {xs : List V} {lo hi : Option Int} : (cutV xs lo hi).length ≤ xs.length := by
  unfold cutV
  rw [List.length_take, List.length_drop]
  omega
section
variable {σ : L2.St} {H : Hp} {ta tb : TE} {xs ys : List V}
theorem el_catL (ha : EvL ta σ H xs) (hb : EvL tb σ H ys) (hz : xs.length + ys.length ≤ 100000) : EvL (tOp rCat ta tb) σ H (xs ++ ys) := fun H1 e Q q =>
  ha H1 e _ fun p H2 hp e2 h2 => hb H2 (e.trans e2) _ fun p' H3 hp' e3 h3 => ⟨p, p', xs, ys, rfl, rfl, e3 _ _ h2, h3, sz_of hz, fun l hl => q l _ (fresh_back (e2.trans e3) hl) ((e2.trans e3).trans (Ex.new hl)) upd_same⟩
theorem el_repL {n : Int} (ha : EvL ta σ H xs) (hb : ∀ H1, Ex H H1 → Ev tb σ H1 (.int n)) (h1 : -(2 ^ 63) ≤ n) (h2 : n < 2 ^ 63) (hz : xs.length * n.toNat ≤ 100000) : EvL (tOp rRep ta tb) σ H (List.replicate n.toNat xs).flatten := fun H1 e Q q =>
  ha H1 e _ fun p H2 hp e2 h3 => hb H2 (e.trans e2) H2 (Ex.refl _) _ fun H3 e3 => ⟨p, n, xs, rfl, rfl, e3 _ _ h3, h1, h2, sz_of hz, fun l hl => q l _ (fresh_back (e2.trans e3) hl) ((e2.trans e3).trans (Ex.new hl)) upd_same⟩
/-- items[:i] + [x] + items[j:] -/
theorem el_mid {a : Addr} {i j : Int} {te tf tg : TE} {x : V} (h : Ev ta σ H (.ref a)) (hs : SqL K H a xs) (h1 : Ev te σ H (.int i)) (h2 : Ev tf σ H x) (h3 : Ev tg σ H (.int j)) (hl : xs.length ≤ 1000) :
    EvL (tOp rCat (tOp rCat (tSl (rSlL K) ta tNoPart (tPart te)) (tLst (tCons tf tNil))) (tSl (rSlL K) ta (tPart tg) tNoPart)) σ H (cutV xs none (some i) ++ [x] ++ cutV xs (some j) none) := by
  have c1 := @cutV_len xs none (some i)
  have c2 := @cutV_len xs (some j) none
  refine el_catL (el_catL (el_sl h eo_none (eo_some h1) hs) (el_lst (ea_cons h2 ea_nil) (by show 1 ≤ 100000; decide)) ?_) (el_sl h (eo_some h3) eo_none hs) ?_
  · rw [List.length_singleton]; omega
  · rw [List.length_append, List.length_singleton]; omega
end
theorem ints_mid {ns : List Int} {v : Int} {i j : Nat} (hj : j ≤ ns.length) : cutV (ns.map V.int) none (some (i : Int)) ++ [V.int v] ++ cutV (ns.map V.int) (some (j : Int)) none = (ns.take i ++ [v] ++ ns.drop j).map V.int := by
  rw [cutV_take, cutV_drop (by rw [List.length_map]; exact hj), List.map_append, List.map_append, List.map_take, List.map_drop]
  rfl
def Cb (n k : Nat) : Int := PySem.W.mcComb (n : Int) (k : Int)
abbrev Pr := Int × List Int
def stepP (w rest : Nat) (T : List (List Pr)) (b : Pr) (size : Nat) : Pr :=
  if b.1 < ((T.getD (w - size - 1) []).getD rest (0, [])).1 * Cb w size then (((T.getD (w - size - 1) []).getD rest (0, [])).1 * Cb w size, (size : Int) :: ((T.getD (w - size - 1) []).getD rest (0, [])).2) else b
def bestP (T : List (List Pr)) (w rest : Nat) : Pr := (List.range (w - rest - 2)).foldl (fun b i => stepP w rest T b (i + 1)) (Cb w (w - rest), [((w - rest : Nat) : Int)])
def toldP : Nat → List (List Pr)
  | 0 => []
  | k + 1 => toldP k ++ [(List.range k).map (bestP (toldP k) k)]
def stepR (T : List (List Int)) (k left : Nat) (b : Int) (size : Nat) : Int :=
  if k = left + size then (if Cb k size > b then Cb k size else b)
  else if left + size + 1 < k then (if Cb k size * (T.getD (k - size - 1) []).getD left 0 > b then Cb k size * (T.getD (k - size - 1) []).getD left 0 else b) else b
def bestR (T : List (List Int)) (k left : Nat) : Int := (List.range (k - left)).foldl (fun b i => stepR T k left b (i + 1)) 0
def rT : Nat → List (List Int)
  | 0 => []
  | k + 1 => rT k ++ [(List.range (k + 1)).map (bestR (rT k) k)]
def vP (k rest : Nat) : Int := (bestP (toldP k) k rest).1
def vR (k left : Nat) : Int := bestR (rT k) k left
end
end L2.U


set_option Elab.async false
set_option linter.all false
set_option maxRecDepth 100000
set_option maxHeartbeats 4000000
namespace L2.U
open PySem PySem.Spec PyProof.Rows Evl
section
variable {P : Program} {w : World} {K : PySem.W.Frag} {mg : Str → Option Value} {base : Heap}
theorem ne_of_none' {H : Hp} {a p : Addr} {o : HO} (h : H a = some o) (hp : H p = none) : p ≠ a := by rintro rfl; rw [h] at hp; cases hp
def rowP (k : Nat) : List Pr := (List.range k).map (bestP (toldP k) k)
theorem toldP_len : ∀ m, (toldP m).length = m
  | 0 => rfl
  | k + 1 => by rw [toldP, List.length_append, toldP_len k]; rfl
theorem toldP_at : ∀ (m k : Nat), k < m → (toldP m)[k]? = some (rowP k)
  | m + 1, k, h => by
    rw [toldP]
    by_cases c : k < m
    · rw [List.getElem?_append_left (by rw [toldP_len]; exact c)]
      exact toldP_at m k c
    · obtain rfl : k = m := by omega
      rw [List.getElem?_append_right (by rw [toldP_len]; exact Nat.le_refl _), toldP_len, Nat.sub_self]
      rfl
theorem rowP_len (k : Nat) : (rowP k).length = k := by unfold rowP; rw [List.length_map, List.length_range]
theorem rowP_at {k r : Nat} (h : r < k) : (rowP k)[r]? = some (bestP (toldP k) k r) := by unfold rowP; rw [List.getElem?_map, List.getElem?_range h]; rfl
theorem best_in : ∀ k : Fin 25, ∀ r : Fin 25, r.val < k.val → (bestP (toldP k.val) k.val r.val).2.length ≤ 24 ∧ 1 ≤ (bestP (toldP k.val) k.val r.val).1 ∧ (bestP (toldP k.val) k.val r.val).1 ≤ 10000000000000000000000000 := by decide +kernel
theorem cb_in : ∀ n : Fin 25, ∀ k : Fin 25, 0 ≤ Cb n.val k.val ∧ Cb n.val k.val < 2 ^ 40 := by decide +kernel
def prD (e : Pr) : PyData := .tuple [.int e.1, .tuple (e.2.map PyData.int)]
def rowD2 (r : List Pr) : PyData := .list (r.map prD)
def pTab (T : List (List Pr)) : PyData := .list (T.map rowD2)
theorem rd_itup {ok : Addr → Prop} {H : Hp} {m : Nat} {x : V} {t : List Int} (h : Rd K ok H m x (.tuple (t.map PyData.int))) : ∃ o, x = .ref o ∧ ok o ∧ SqT K H o (t.map V.int) := by
  generalize hd : (PyData.tuple (t.map PyData.int)) = d at h
  cases h with
  | tup h2 ha2 hl2 hz2 all2 =>
    cases hd
    rename_i b xs
    have e : xs = t.map V.int := by
      apply List.ext_getElem?
      intro i
      by_cases hi : i < xs.length
      · have hx := List.getElem?_eq_getElem hi
        have ht : i < t.length := by rw [List.length_map] at hl2; omega
        have r := all2 i _ (.int t[i]) hx (by rw [List.getElem?_map, List.getElem?_eq_getElem ht]; rfl)
        rw [hx, List.getElem?_map, List.getElem?_eq_getElem ht]
        generalize xs[i] = y at r ⊢
        cases r
        rfl
      · rw [List.getElem?_eq_none (by omega), List.getElem?_eq_none (by rw [List.length_map] at hl2 ⊢; omega)]
    rw [e] at h2
    exact ⟨b, rfl, ha2, h2⟩
  | _ => cases hd
theorem rd_prD {ok : Addr → Prop} {H : Hp} {m : Nat} {x : V} {e : Pr} (h : Rd K ok H m x (prD e)) : ∃ t s, x = .ref t ∧ ok t ∧ ok s ∧ SqT K H t [.int e.1, .ref s] ∧ SqT K H s (e.2.map V.int) := by
  unfold prD at h
  cases h with
  | tup h ha hl hz all =>
    rename_i t xs
    match xs, hl, all with
    | [x, y], _, all =>
      have h0 := all 0 x (.int e.1) rfl rfl
      have h1 := all 1 y (.tuple (e.2.map PyData.int)) rfl rfl
      cases h0
      obtain ⟨s, rfl, os, hs⟩ := rd_itup h1
      exact ⟨t, s, rfl, ha, os, h, hs⟩
theorem rd_row {ok : Addr → Prop} {H : Hp} {m : Nat} {x : V} {r : List Pr} (h : Rd K ok H m x (rowD2 r)) : ∃ b us, x = .ref b ∧ H b = some (.lst us) ∧ us.length = r.length ∧ ∀ (i : Nat) (e : Pr), r[i]? = some e → ∃ t s, us[i]? = some (.ref t) ∧ SqT K H t [.int e.1, .ref s] ∧ SqT K H s (e.2.map V.int) := by
  unfold rowD2 at h
  generalize hd : (PyData.list (r.map prD)) = d at h
  cases h with
  | lst h ha hl hz all =>
    cases hd
    rw [List.length_map] at hl
    refine ⟨_, _, rfl, h, hl, fun i e he => ?_⟩
    have hi := (List.getElem?_eq_some_iff.mp he).1
    have hx := List.getElem?_eq_getElem (show i < _ by rw [hl]; exact hi)
    have rr := all i _ (prD e) hx (by rw [List.getElem?_map, he]; rfl)
    obtain ⟨t, s, e1, _, _, h1, h2⟩ := rd_prD rr
    exact ⟨t, s, by rw [hx, e1], h1, h2⟩
  | _ => cases hd
theorem rd_pt {ok : Addr → Prop} {H : Hp} {m : Nat} {x : V} {T : List (List Pr)} (h : Rd K ok H m x (pTab T)) : ∃ p vs, x = .ref p ∧ H p = some (.lst vs) ∧ vs.length = T.length ∧ ∀ (i : Nat) (r : List Pr), T[i]? = some r → ∃ v, vs[i]? = some v ∧ Rd K ok H (m - 1) v (rowD2 r) := by
  unfold pTab at h
  generalize hd : (PyData.list (T.map rowD2)) = d at h
  cases h with
  | lst h ha hl hz all =>
    cases hd
    rw [List.length_map] at hl
    refine ⟨_, _, rfl, h, hl, fun i r hr => ?_⟩
    have hi := (List.getElem?_eq_some_iff.mp hr).1
    have hx := List.getElem?_eq_getElem (show i < _ by rw [hl]; exact hi)
    exact ⟨_, hx, all i _ (rowD2 r) hx (by rw [List.getElem?_map, hr]; rfl)⟩
  | _ => cases hd
def bI (w r i : Nat) : Pr := (List.range i).foldl (fun b i => stepP w r (toldP w) b (i + 1)) (Cb w (w - r), [((w - r : Nat) : Int)])
theorem bI_step (w r i : Nat) : bI w r (i + 1) = stepP w r (toldP w) (bI w r i) (i + 1) := by
  unfold bI
  rw [List.range_succ, List.foldl_append]
  rfl
theorem told_get {w r : Nat} {d : Pr} {k : Nat} (hk : k < w) (hr : r < k) : ((toldP w).getD k []).getD r d = bestP (toldP k) k r := by
  rw [List.getD_eq_getElem?_getD (l := toldP w), toldP_at w k hk]
  show (rowP k).getD r d = _
  rw [List.getD_eq_getElem?_getD, rowP_at hr]
  rfl
theorem bI_len {w r : Nat} (hw : w ≤ 24) : ∀ i, i + 2 ≤ w - r → (bI w r i).2.length ≤ 25
  | 0, _ => by show [_].length ≤ 25; exact Nat.le_add_left 1 24
  | i + 1, h => by
    rw [bI_step]
    unfold stepP
    rw [told_get (show w - (i + 1) - 1 < w by omega) (show r < w - (i + 1) - 1 by omega)]
    split
    · have := (best_in ⟨w - (i + 1) - 1, by omega⟩ ⟨r, by omega⟩ (by show r < w - (i + 1) - 1; omega)).1
      show (_ :: _).length ≤ 25
      rw [List.length_cons]
      simp only at this
      omega
    · exact bI_len hw i (by omega)
theorem rd_new {ok : Addr → Prop} {H : Hp} {t s : Addr} {e : Pr} (ht : SqT K H t [.int e.1, .ref s]) (ot : ok t) (hs : SqT K H s (e.2.map V.int)) (os : ok s) (hl : e.2.length ≤ 900) : Rd K ok H 2 (.ref t) (prD e) := by
  refine .tup ht ot rfl (by show 2 ≤ 900; omega) fun i x d hx hd => ?_
  match i, hx, hd with
  | 0, hx, hd => cases hx; cases hd; exact .int _
  | 1, hx, hd =>
    cases hx; cases hd
    have rd := rdl_ints (K := K) (ok := ok) (H := H) (n := 0) e.2
    exact .tup hs os rd.1 (by rw [List.length_map]; exact hl) rd.2
def spBest (K : PySem.W.Frag) : Sp := fun vs H Q _ => ∃ (w r m : Nat) (p : Addr) (ok : Addr → Prop), vs = [.int (w : Int), .int (r : Int), .ref p] ∧ r < w ∧ w ≤ 24 ∧ Rd K ok H m (.ref p) (pTab (toldP w)) ∧
  ∀ q H', Ex H H' → Rd K (fun a => H a = none) H' 2 (.ref q) (prD (bestP (toldP w) w r)) → Q (.ref q) H'
theorem ok_best (T : TK K mg) : FnOk P w K mg base CX0 1 T.best.a T.best.fd ["wires", "rest", "told"] (spBest K) := by
  refine T.best.F.ok sc_best (fun vs H Q E h => ?_) (fun cdv A outer s H vs Q E hr h => ?_)
  · obtain ⟨w, r, m, p, ok, rfl, _⟩ := h; rfl
  obtain ⟨w, r, m, p, ok, rfl, hrw, hw, hp, q⟩ := h
  refine ⟨_, (pss_cons (ps_set (i := 3) sc_best.nd rfl (Or.inl rfl) (pe_op op_sub (pv 0) (pv 1)))
    (pss_cons (ps_set (i := 4) sc_best.nd rfl (Or.inl rfl) (pe_tup (pa_cons (pe_callBfun cr_comb rfl T.c_comb (pa_cons (pv 0) (pa_cons (pv 3) pa_nil))) (pa_cons (pe_tup (pa_cons (pv 3) pa_nil)) pa_nil))))
    (pss_cons (ps_for PassesOwn.never rfl (pi_range2 rfl T.z_range (pa_cons pe_int (pa_cons (pe_op op_sub (pv 3) pe_int) pa_nil))) (pg_name (i := 5) sc_best.nd rfl (Or.inl rfl)) (pss_cons (ps_asg (pe_ix (kixl K) (pe_ix (kixl K) (pv 2) (pe_op op_sub (pe_op op_sub (pv 0) (pv 5)) pe_int) (fun _ _ => rfl)) (pv 1) (fun _ _ => rfl)) (pg_tup (by rfl) (pgs_cons (pg_name (i := 6) sc_best.nd rfl (Or.inl rfl)) (pgs_cons (pg_name (i := 7) sc_best.nd rfl (Or.inl rfl)) pgs_nil))))
    (pss_cons (ps_aug (i := 6) sc_best.nd rfl (Or.inl rfl) (pe_callBfun cr_comb rfl T.c_comb (pa_cons (pv 0) (pa_cons (pv 5) pa_nil))) ip_mulC)
    (pss_one (ps_if (pt_cmpR op_gt (pv 6) (pe_ix (kixt K) (pv 4) pe_int (fun _ _ => rfl)) (nomark _)) (pss_one (ps_set (i := 4) sc_best.nd rfl (Or.inl rfl) (pe_tup (pa_cons (pv 6) (pa_cons (pe_op (kcatA K) (pe_tup (pa_cons (pv 5) pa_nil)) (pv 7)) pa_nil))))) pss_nil)))))
    (pss_one (ps_ret (pv 4)))))), ?_⟩
  obtain ⟨p', vs, hpe, hvs, _, pall⟩ := rd_pt hp
  cases hpe
  have cb0 := cb_in ⟨w, by omega⟩ ⟨w - r, by omega⟩
  simp only at cb0
  refine ⟨_, rfl, _, rfl, _, _, rfl, rfl, _, rfl, _, rfl, _, _, rfl, by omega, by omega, by omega, by omega, _, rfl, one_le, fun s0 hs0 => ⟨two_le, fun t0 ht0 => ?_⟩⟩
  have x0 := Ex.new (o := .tup [.int ((w : Int) - (r : Int))]) hs0
  have x1 := Ex.new (o := .tup [.int (PySem.W.mcComb (w : Int) ((w : Int) - (r : Int))), .ref s0]) ht0
  have t00 : H t0 = none := fresh_back x0 ht0
  have r0 : Rd K (fun a => H a = none) _ 2 (.ref t0) (prD (bI w r 0)) := rd_new (e := bI w r 0) (SqT.of (by
    rw [upd_same]
    show some (HO.tup [V.int (PySem.W.mcComb (w : Int) ((w : Int) - (r : Int))), .ref s0]) = some (.tup [.int (Cb w (w - r)), .ref s0])
    unfold Cb
    rw [show ((w - r : Nat) : Int) = (w : Int) - (r : Int) by omega])) t00 (SqT.of (x1 _ _ (by
    rw [upd_same]
    show some (HO.tup [V.int ((w : Int) - (r : Int))]) = some (.tup ([((w - r : Nat) : Int)].map V.int))
    rw [show ((w - r : Nat) : Int) = (w : Int) - (r : Int) by omega]
    rfl))) hs0 (by show 1 ≤ 900; omega)
  have x01 := x0.trans x1
  generalize upd (upd H s0 _) t0 _ = H1 at x01 r0 ⊢
  refine ⟨_, rfl, _, _, rfl, rfl, 1, (w : Int) - (r : Int) - 1, rfl, ⟨by omega, by omega, by omega, by omega⟩, for_range (lo := 1) (n := ((w : Int) - (r : Int) - 1 - 1).toNat) (fun i σ H' => Ex H H' ∧ ∃ (t : Addr) (v5 v6 v7 : Option V), Rd K (fun a => H a = none) H' 2 (.ref t) (prD (bI w r i)) ∧ σ = [some (.int (w : Int)), some (.int (r : Int)), some (.ref p), some (.int ((w : Int) - (r : Int))), some (.ref t), v5, v6, v7]) ⟨x01, t0, _, _, _, r0, rfl⟩ ?_ ?_⟩
  · rintro i σ H' hi ⟨e, t, v5, v6, v7, rt, rfl⟩
    have hk : r < w - (i + 1) - 1 := by omega
    have hk2 : w - (i + 1) - 1 < w := by omega
    obtain ⟨v, hv, rv⟩ := pall (w - (i + 1) - 1) (rowP (w - (i + 1) - 1)) (toldP_at w _ hk2)
    obtain ⟨b, us, rfl, hb, _, uall⟩ := rd_row rv
    obtain ⟨u, s, hu, h1, h2⟩ := uall r (bestP (toldP (w - (i + 1) - 1)) (w - (i + 1) - 1) r) (rowP_at hk)
    have bi := best_in ⟨w - (i + 1) - 1, by omega⟩ ⟨r, by omega⟩ hk
    simp only at bi
    have lb := bI_len (r := r) hw i (by omega)
    have st := bI_step w r i
    unfold stepP at st
    rw [told_get hk2 hk] at st
    generalize bestP (toldP (w - (i + 1) - 1)) (w - (i + 1) - 1) r = en at h1 h2 bi st hu
    have cb1 := cb_in ⟨w, by omega⟩ ⟨i + 1, by omega⟩
    simp only at cb1
    have ec : PySem.W.mcComb (w : Int) (1 + (i : Int)) = Cb w (i + 1) := by unfold Cb; rw [show ((i + 1 : Nat) : Int) = 1 + (i : Int) by omega]
    refine ⟨_, rfl, _, rfl, _, rfl, _, _, rfl, rfl, _, _, rfl, rfl, p, vs, _, .ref b, rfl, rfl, SqL.of (e _ _ hvs), at_of (show (w : Int) - (1 + (i : Int)) - 1 = ((w - (i + 1) - 1 : Nat) : Int) by omega) hv, _, rfl, b, us, _, .ref u, rfl, rfl, SqL.of (e _ _ hb), atI_nat hu, u, _, rfl, ex_t e h1, rfl, _, _, rfl, _, _, rfl, rfl, ?_⟩
    refine ⟨_, rfl, _, rfl, _, rfl, _, _, rfl, by omega, by omega, by omega, by omega, _, _, rfl, rfl, .inr ⟨by rw [ec]; omega, by rw [ec]; omega⟩, ?_⟩
    obtain ⟨t', s', hte, ot, os, ht1, ht2⟩ := rd_prD rt
    cases hte
    refine ⟨_, rfl, _, rfl, t, _, 0, .int (bI w r i).1, rfl, rfl, ht1, rfl, _, _, rfl, rfl, _, rfl, ite2 (fun c => ?_) (fun c => ?_)⟩
    · have c := of_decide_eq_true c
      rw [ec] at c
      rw [if_pos c] at st
      refine ⟨_, rfl, _, rfl, one_le, fun y hy => ⟨_, rfl, y, s, _, en.2.map V.int, rfl, rfl, SqT.of upd_same, ex_t (Ex.new hy) (ex_t e h2), Nat.le_of_lt (small1000 (by rw [List.length_map]; show 1 + _ ≤ 1000; omega)), (fun z => by cases z), fun _ z => ?_, fun _ _ z hz => ?_⟩⟩
      · have xy := Ex.new (o := .tup [.int (1 + (i : Int))]) hy
        refine ⟨two_le, fun g hg => ?_⟩
        have xg := Ex.new (o := .tup [.int (en.1 * PySem.W.mcComb (w : Int) (1 + (i : Int))), .ref y]) hg
        refine ⟨(e.trans xy).trans xg, g, _, _, _, ?_, rfl⟩
        rw [st]
        refine rd_new (SqT.of (by rw [upd_same, ec])) (fresh_back e (fresh_back xy hg)) (SqT.of (xg _ _ (by
          rw [upd_same]
          have : en.2 = [] := List.map_eq_nil_iff.mp z
          show some (HO.tup [V.int (1 + (i : Int))]) = some (.tup (((((i + 1 : Nat) : Int)) :: en.2).map V.int))
          rw [this, show ((i + 1 : Nat) : Int) = 1 + (i : Int) by omega]
          rfl))) (fresh_back e hy) (by show (_ :: _).length ≤ 900; rw [List.length_cons]; omega)
      · have xy := Ex.new (o := .tup [.int (1 + (i : Int))]) hy
        have xz := Ex.new (o := .tup ([.int (1 + (i : Int))] ++ en.2.map V.int)) hz
        refine ⟨two_le, fun g hg => ?_⟩
        have xg := Ex.new (o := .tup [.int (en.1 * PySem.W.mcComb (w : Int) (1 + (i : Int))), .ref z]) hg
        refine ⟨((e.trans xy).trans xz).trans xg, g, _, _, _, ?_, rfl⟩
        rw [st]
        refine rd_new (SqT.of (by rw [upd_same, ec])) (fresh_back e (fresh_back xy (fresh_back xz hg))) (SqT.of (xg _ _ (by
          rw [upd_same]
          show some (HO.tup ([V.int (1 + (i : Int))] ++ en.2.map V.int)) = some (.tup (((((i + 1 : Nat) : Int)) :: en.2).map V.int))
          rw [show ((i + 1 : Nat) : Int) = 1 + (i : Int) by omega]
          rfl))) (fresh_back e (fresh_back xy hz)) (by show (_ :: _).length ≤ 900; rw [List.length_cons]; omega)
    · have c := of_decide_eq_false (Bool.eq_false_iff.mpr c)
      rw [ec] at c
      rw [if_neg c] at st
      refine ⟨e, t, _, _, _, ?_, rfl⟩
      rw [st]
      exact rt
  · rintro σ H' ⟨e, t, v5, v6, v7, rt, rfl⟩
    rw [show ((w : Int) - (r : Int) - 1 - 1).toNat = w - r - 2 by omega] at rt
    exact ⟨_, rfl, q t H' e rt⟩
end
end L2.U


set_option Elab.async false
set_option linter.all false
set_option maxRecDepth 100000
set_option maxHeartbeats 4000000
namespace L2.U
open PySem PySem.Spec PyProof.Rows Evl
section
variable {P : Program} {w : World} {K : PySem.W.Frag} {mg : Str → Option Value} {base : Heap}
section
variable {xs : List V} {a : Addr} {g : TG} {tb : TS} {D : Ends} {σ : L2.St} {H H0 : Hp} {i : Nat}
theorem for_seqV (hi : σ[i]? = some (some (.ref a))) (hs : SqL K H0 a xs ∨ SqT K H0 a xs) (e0 : Ex H0 H) (Pv : Nat → L2.St → Hp → Prop) (h0 : Pv 0 σ H) (hE : ∀ i σ H', Pv i σ H' → Ex H0 H')
    (hst : ∀ i x σ H, xs[i]? = some x → Pv i σ H → g x σ H fun σ2 H2 => tb { D with nx := Pv (i + 1), ct := Pv (i + 1), bk := D.nx } σ2 H2) (hd : ∀ σ H, Pv xs.length σ H → D.nx σ H) : tFor (iSeq K (tVar i)) g tb D σ H :=
  hs.elim (fun h => .inl ⟨_, hi, a, rfl, ⟨_, ex_l e0 h⟩, for_list (xs := xs) Pv h0 (fun i σ H' _ p => ex_l (hE i σ H' p) h) hst hd⟩)
    (fun h => .inr ⟨_, hi, a, rfl, ⟨_, ex_t e0 h⟩, for_tup (xs := xs) Pv h0 (fun i σ H' _ p => ex_t (hE i σ H' p) h) hst hd⟩)
theorem for_revV {F : Addr} {o : HO} (hi : σ[i]? = some (some (.ref a))) (hs : SqL K H a xs ∨ SqT K H a xs) (hF : H F = some o) (Pv : Nat → L2.St → Hp → Prop) (h0 : ∀ H', Ex H H' → Pv 0 σ H')
    (hst : ∀ (Pr : Hp → Prop), (∀ G G', But F G G' → Pr G → Pr G') → ∀ i x σ H, xs.reverse[i]? = some x → Pv i σ H → Pr H → g x σ H fun σ2 H2 => tb { D with nx := fun σ H => Pv (i + 1) σ H ∧ Pr H, ct := fun σ H => Pv (i + 1) σ H ∧ Pr H, bk := D.nx } σ2 H2) (hd : ∀ σ H, Pv xs.length σ H → D.nx σ H) : tFor (iSeq K (tRevS K (tVar i))) g tb D σ H :=
  hs.elim (fun h => .inl ⟨_, hi, a, xs, rfl, .inl ⟨h, fun r hr => by
      have rF : r ≠ F := by rintro rfl; rw [hF] at hr; cases hr
      have hl : xs.reverse.length = xs.length := List.length_reverse
      exact ⟨r, rfl, ⟨_, SqL.of upd_same⟩, for_list (xs := xs.reverse) (fun i σ H => Pv i σ H ∧ SqL K H r xs.reverse) ⟨h0 _ (Ex.new hr), SqL.of upd_same⟩ (fun i σ H' _ p => p.2) (fun i x σ H hx p => hst (fun G => SqL K G r xs.reverse) (fun _ _ k h => k.sql rF h) i x σ H hx p.1 p.2) (fun σ H p => hd σ H (hl ▸ p.1))⟩⟩⟩)
    (fun h => .inr ⟨_, hi, a, xs, rfl, .inr ⟨h, fun r hr => by
      have rF : r ≠ F := by rintro rfl; rw [hF] at hr; cases hr
      have hl : xs.reverse.length = xs.length := List.length_reverse
      exact ⟨r, rfl, ⟨_, SqT.of upd_same⟩, for_tup (xs := xs.reverse) (fun i σ H => Pv i σ H ∧ SqT K H r xs.reverse) ⟨h0 _ (Ex.new hr), SqT.of upd_same⟩ (fun i σ H' _ p => p.2) (fun i x σ H hx p => hst (fun G => SqT K G r xs.reverse) (fun _ _ k h => k.sqt rF h) i x σ H hx p.1 p.2) (fun σ H p => hd σ H (hl ▸ p.1))⟩⟩⟩)
end
def spMostTold (K : PySem.W.Frag) : Sp := fun vs H Q _ => ∃ m : Nat, vs = [.int (m : Int)] ∧ m ≤ 24 ∧ ∀ p H', Ex H H' → Rd K (fun a => H a = none) H' 4 (.ref p) (pTab (toldP (m + 1))) → Q (.ref p) H'
theorem ok_most_told (T : TK K mg) : FnOk P w K mg base CX0 2 T.most_told.a T.most_told.fd ["most"] (spMostTold K) := by
  refine T.most_told.F.ok sc_most_told (fun vs H Q E h => ?_) (fun cdv A outer s H vs Q E hr h => ?_)
  · obtain ⟨m, rfl, _⟩ := h; rfl
  obtain ⟨m, rfl, hm, q⟩ := h
  refine ⟨_, (pss_cons (ps_set (i := 1) sc_most_told.nd rfl (Or.inr rfl) (pe_lst pa_nil))
    (pss_cons (ps_for PassesOwn.never rfl (pi_range1 rfl T.z_range (pa_cons (pe_op op_add (pv 0) pe_int) pa_nil)) (pg_name (i := 2) sc_most_told.nd rfl (Or.inr rfl)) (pss_one (ps_expr (pe_bm PySem.F.plainAttrs_list PySem.F.slot_list_append PySem.F.type_list_append mt_append (pv 1) (pa_cons (pe_lc (own := [("rest", 3)]) (g := gName 3) (by rfl) sc_most_told.nd (pi_range1 rfl T.z_range (pa_cons (pv 2) pa_nil)) (blkOk_by (own := [("rest", 3)]) (N := ["most", "told", "wires", "rest"]) (sc := defScope s_most_told) (by decide +kernel)) (fun _ _ _ _ _ => (pg_name (i := 3) sc_most_told.nd rfl (Or.inl rfl))) (fun _ _ _ _ _ => pts_nil) (fun _ _ _ _ _ => (pe_call (ok_best T) (hr.mono (by decide)) rfl T.best.m T.best.F.kp T.best.b .nil pass0 (pa_cons (pv 2) (pa_cons (pv 3) (pa_cons (pv 1) pa_nil)))))) pa_nil)))))
    (pss_one (ps_ret (pv 1))))), ?_⟩
  refine ⟨Nat.zero_le _, fun F hF => ?_⟩
  refine ⟨_, rfl, _, _, rfl, rfl, (m : Int) + 1, rfl, by omega, by omega, for_range (lo := 0) (n := ((m : Int) + 1).toNat) (fun i σ H' => Ex H H' ∧ ∃ (xs : List V) (v2 : Option V), H' F = some (.lst xs) ∧ xs.length = i ∧ RdL K (fun a => H a = none ∧ a ≠ F) H' 3 xs ((toldP i).map rowD2) ∧ σ = [some (.int (m : Int)), some (.ref F), v2, none]) ⟨Ex.new hF, [], _, upd_same, rfl, RdL.nil, rfl⟩ ?_ ?_⟩
  · rintro i σ H' hi ⟨e, xs, v2, hFF, hl, rl, rfl⟩
    rw [Int.zero_add]
    refine ⟨_, rfl, .inl ⟨rfl, _, SqL.of hFF⟩, ?_⟩
    have rF : Rd K (fun _ => True) H' 4 (.ref F) (pTab (toldP i)) := .lst hFF trivial rl.1 (by omega) fun i x d hx hd => (rl.2 i x d hx hd).of fun _ _ => trivial
    refine lc_rd (K := K) (σ := [some (.int (m : Int)), some (.ref F), some (.int (i : Int)), none]) (H := H') (n := (i : Int)) (m := 2) (vs := [3]) (d := fun r => prD (bestP (toldP i) i r)) (ea_cons (ev_var rfl) ea_nil) ⟨by omega, by omega⟩ (fun _ => rfl) (fun r H1 e1 hr Q1 q1 => ⟨_, rfl, _, rfl, _, rfl, i, r, 4, F, _, rfl, by omega, by omega, rF.ex e1, fun q H' e' r' => q1 _ _ e' r'⟩) (fun p H2 e2 r2 => ?_)
    have hp2 : Rd K (fun a => H' a = none) H2 3 (.ref p) (rowD2 (rowP i)) := by
      unfold rowD2 rowP
      rw [List.map_map]
      rw [Int.toNat_natCast] at r2
      exact r2
    have F2 := e2 _ _ hFF
    refine ⟨F, xs, .ref p, rfl, rfl, F2, small1000 (by omega), (e.trans e2).mut hF, xs ++ [.ref p], _, upd_same, by rw [List.length_append, hl]; rfl, ?_, rfl⟩
    rw [toldP, List.map_append]
    refine RdL.snoc ((rl.ex e2).but (b := F) But.upd (fun a ha => ha.2)) ?_
    exact (hp2.of fun a ha => ⟨fresh_back e ha, fun z => by rw [z, hFF] at ha; cases ha⟩).but (b := F) But.upd (fun a ha => ha.2)
  · rintro σ H' ⟨e, xs, v2, hFF, hl, rl, rfl⟩
    rw [show ((m : Int) + 1).toNat = m + 1 by omega] at rl hl
    exact ⟨_, rfl, q F H' e (.lst hFF hF rl.1 (by omega) fun i x d hx hd => (rl.2 i x d hx hd).of fun a ha => ha.1)⟩
def lastO (x : Int) (k : Nat) : Option Int := if leftTo x (vP k) k < 0 then none else some (leftTo x (vP k) k)
def spMostRest (K : PySem.W.Frag) : Sp := fun vs H Q _ => ∃ (x : Int) (v : V) (k m : Nat) (ok : Addr → Prop), vs = [.int x, v] ∧ Rd K ok H m v (rowD2 (rowP k)) ∧ k ≤ 24 ∧ ∀ H', Ex H H' → Q (optV (lastO x k)) H'
theorem ok_most_rest (T : TK K mg) : FnOk P w K mg base CX0 1 T.most_rest.a T.most_rest.fd ["number", "by_rest"] (spMostRest K) := by
  refine T.most_rest.F.ok sc_most_rest (fun vs H Q E h => ?_) (fun cdv A outer s H vs Q E hr h => ?_)
  · obtain ⟨x, v, k, m, ok, rfl, _⟩ := h; rfl
  obtain ⟨x, v, k, m, ok, rfl, hv, hk, q⟩ := h
  refine ⟨_, (pss_cons (ps_for PassesOwn.never rfl (pi_range3 rfl T.z_range (pa_cons (pe_op op_sub (pe_callB (klen K) (by rfl) T.z_len (by decide +kernel) (pa_cons (pv 1) pa_nil)) pe_int) (pa_cons (pe_un un_neg pe_int) (pa_cons (pe_un un_neg pe_int) pa_nil)))) (pg_name (i := 2) sc_most_rest.nd rfl (Or.inl rfl)) (pss_one (ps_if (pt_cmpR op_ge (pe_ix (kixt K) (pe_ix (kixl K) (pv 1) (pv 2) (fun _ _ => rfl)) pe_int (fun _ _ => rfl)) (pv 0) (nomark _)) (pss_one (ps_ret (pv 2))) pss_nil)))
    (pss_one (ps_ret pe_non))), ?_⟩
  obtain ⟨b, us, rfl, hb, hul, uall⟩ := rd_row hv
  rw [rowP_len] at hul
  have hrg : RgC ((k : Int) - 1) (-1) (-1) k := by
    have := RgC.neg (i := (k : Int) - 1) (j := -1) (by omega) (by omega) (by omega) (by omega)
    rw [show ((k : Int) - 1 - -1).toNat = k by omega] at this
    exact this
  refine ⟨_, rfl, _, k, rfl, .inl ⟨us, SqL.of hb, hul.symm⟩, _, _, rfl, rfl, 1, rfl, 1, rfl, (k : Int) - 1, -1, -1, k, rfl, hrg, for_rangeC (lo := (k : Int) - 1) (c := -1) (n := k) (fun i σ H' => H' = H ∧ leftTo x (vP k) k = leftTo x (vP k) (k - i) ∧ ∃ v2 : Option V, σ = [some (.int x), some (.ref b), v2]) ⟨rfl, rfl, _, rfl⟩ ?_ ?_⟩
  · rintro i σ H' hi ⟨rfl, hL, v2, rfl⟩
    obtain ⟨t, s, hu, h1, h2⟩ := uall (k - 1 - i) _ (rowP_at (show k - 1 - i < k by omega))
    have ki : k - i = (k - 1 - i) + 1 := by omega
    have hL2 : leftTo x (vP k) k = if x ≤ vP k (k - 1 - i) then ((k - 1 - i : Nat) : Int) else leftTo x (vP k) (k - 1 - i) := by rw [hL, ki]; rfl
    refine ⟨_, rfl, _, rfl, b, us, _, .ref t, rfl, rfl, SqL.of hb, at_of (show (k : Int) - 1 + (i : Int) * -1 = ((k - 1 - i : Nat) : Int) by omega) hu, t, _, 0, .int _, rfl, rfl, h1, rfl, _, rfl, _, _, rfl, rfl, _, rfl, ite2 (fun c => ?_) (fun c => ?_)⟩
    · have c : x ≤ vP k (k - 1 - i) := of_decide_eq_true c
      rw [if_pos c] at hL2
      refine ⟨_, rfl, ?_⟩
      have := q H' (Ex.refl _)
      unfold lastO at this
      rw [hL2, if_neg (by omega)] at this
      rw [show (k : Int) - 1 + (i : Int) * -1 = ((k - 1 - i : Nat) : Int) by omega]
      exact this
    · have c : ¬ x ≤ vP k (k - 1 - i) := of_decide_eq_false (Bool.eq_false_iff.mpr c)
      rw [if_neg c] at hL2
      exact ⟨rfl, by rw [hL2, show k - (i + 1) = k - 1 - i by omega], _, rfl⟩
  · rintro σ H' ⟨rfl, hL, v2, rfl⟩
    rw [Nat.sub_self] at hL
    have := q H' (Ex.refl _)
    unfold lastO at this
    rw [hL, if_pos (by show (-1 : Int) < 0; decide)] at this
    exact this
def nextO (x : Int) : Option Int → Option Int
  | none => none
  | some l => fstO (fun w : Nat => decide (0 ≤ leftTo x (vP w) w ∧ l ≤ leftTo x (vP w) w)) 0 (List.range 25)
def spLeastW (K : PySem.W.Frag) : Sp := fun vs H Q _ => ∃ (x : Int) (o : Option Int) (v : V) (m : Nat) (ok : Addr → Prop), vs = [.int x, optV o, v] ∧ Rd K ok H m v (pTab (toldP 25)) ∧ ∀ H', Ex H H' → Q (optV (nextO x o)) H'
theorem ok_least (T : TK K mg) : FnOk P w K mg base CX0 2 T.least.a T.least.fd ["number", "need", "told"] (spLeastW K) := by
  refine T.least.F.ok sc_least (fun vs H Q E h => ?_) (fun cdv A outer s H vs Q E hr h => ?_)
  · obtain ⟨x, o, v, m, ok, rfl, _⟩ := h; rfl
  obtain ⟨x, o, v, m, ok, rfl, hv, q⟩ := h
  refine ⟨_, (pss_cons (ps_if (pt_cmpR op_isN (pv 1) pe_non (nomark _)) (pss_one (ps_ret pe_non)) pss_nil)
    (pss_cons (ps_for PassesOwn.never rfl (pi_enumS (by rfl) T.z_enumerate (pa_cons (pv 2) pa_nil)) (pg_tup (by rfl) (pgs_cons (pg_name (i := 3) sc_least.nd rfl (Or.inl rfl)) (pgs_cons (pg_name (i := 4) sc_least.nd rfl (Or.inl rfl)) pgs_nil))) (pss_cons (ps_set (i := 5) sc_least.nd rfl (Or.inl rfl) (pe_call (ok_most_rest T) (hr.mono (by decide)) rfl T.most_rest.m T.most_rest.F.kp T.most_rest.b .nil pass0 (pa_cons (pv 0) (pa_cons (pv 4) pa_nil))))
    (pss_one (ps_if (PW.pt (pw_and (pt_cmpR op_notN (pv 5) pe_non (nomark _)) (pw_and1 (pt_cmpR op_ge (pv 5) (pv 1) (nomark _))))) (pss_one (ps_ret (pv 3))) pss_nil))))
    (pss_one (ps_ret pe_non)))), ?_⟩
  obtain ⟨p, vs, rfl, hvs, hvl, vall⟩ := rd_pt hv
  rw [toldP_len] at hvl
  cases o with
  | none => exact ⟨_, rfl, rfl, _, rfl, iteT (q H (Ex.refl _))⟩
  | some l =>
  refine ⟨_, rfl, rfl, _, rfl, iteF ?_⟩
  refine for_enum (p := 3) (q := 4) (xs := vs) (fun R r => ⟨_, rfl, r⟩) (.inl (SqL.of hvs)) (fun i σ H' => Ex H H' ∧ nextO x (some l) = fstO (fun w : Nat => decide (0 ≤ leftTo x (vP w) w ∧ l ≤ leftTo x (vP w) w)) i ((List.range 25).drop i) ∧ ∃ v3 v4 v5, σ = [some (.int x), some (.int l), some (.ref p), v3, v4, v5]) ⟨Ex.refl _, rfl, _, _, _, rfl⟩ (fun i σ H' _ p => p.1) ?_ ?_
  · rintro i y σ H' t hy ⟨e, hf, v3, v4, v5, rfl⟩ ht
    have hi := (List.getElem?_eq_some_iff.mp hy).1
    obtain ⟨y', hy', ry⟩ := vall i (rowP i) (toldP_at 25 i (by omega))
    rw [hy] at hy'
    cases hy'
    have et := Ex.new (o := .tup [.int (i : Int), y]) ht
    refine ⟨_, rfl, _, rfl, x, y, i, _, _, rfl, (ry.ex e).ex et, by omega, fun H2 e2 => ?_⟩
    have hz : (List.range 25)[i]? = some i := List.getElem?_range (by omega)
    have e3 := (e.trans et).trans e2
    unfold lastO
    by_cases c : leftTo x (vP i) i < 0
    · rw [if_pos c]
      exact ⟨_, rfl, rfl, _, rfl, iteF (iteF ⟨e3, hf.trans (fstO_drop hz (decide_eq_false (by omega))), _, _, _, rfl⟩)⟩
    · rw [if_neg c]
      refine ⟨_, rfl, rfl, _, rfl, iteT ⟨_, rfl, _, rfl, _, _, rfl, rfl, _, rfl, ite2 (fun c2 => ?_) (fun c2 => ?_)⟩⟩
      · have c2 := of_decide_eq_true c2
        have := q H2 e3
        rw [hf, fstO_hit hz (decide_eq_true ⟨by omega, c2⟩)] at this
        exact ⟨_, rfl, this⟩
      · have c2 := of_decide_eq_false (Bool.eq_false_iff.mpr c2)
        exact ⟨e3, hf.trans (fstO_drop hz (decide_eq_false fun z => c2 z.2)), _, _, _, rfl⟩
  · rintro σ H' ⟨e, hf, v3, v4, v5, rfl⟩
    have := q H' e
    rw [hf, hvl] at this
    exact this
end
end L2.U


set_option Elab.async false
set_option linter.all false
set_option maxRecDepth 100000
set_option maxHeartbeats 4000000
namespace L2.U
open PySem PySem.Spec PyProof.Rows Evl
section
variable {P : Program} {w : World} {K : PySem.W.Frag} {mg : Str → Option Value} {base : Heap}
def leastO : List Int → Option Int
  | [] => some 0
  | x :: ns => nextO x (leastO ns)
def leastL : List Int → List (Option Int)
  | [] => [some 0]
  | x :: ns => leastO (x :: ns) :: leastL ns
theorem leastL_head : ∀ ns, ∃ r, leastL ns = leastO ns :: r
  | [] => ⟨[], rfl⟩
  | x :: ns => ⟨leastL ns, rfl⟩
theorem leastL_len : ∀ ns, (leastL ns).length = ns.length + 1
  | [] => rfl
  | x :: ns => congrArg (· + 1) (leastL_len ns)
def canG : List Int → Nat → Bool
  | [], _ => true
  | x :: ns, k => decide (0 ≤ leftTo x (vP k) k) && canG ns (leftTo x (vP k) k).toNat
theorem leftTo_lt (x : Int) (f : Nat → Int) (m : Nat) : leftTo x f m < m := by
  rcases leftTo_spec x f m with ⟨h, _⟩ | ⟨L, h1, h2, _⟩ <;> omega
theorem same_val : ∀ k : Fin 25, ∀ r : Fin 25, r.val < k.val → vP k.val r.val = vR k.val r.val := by decide +kernel
theorem val_mono : ∀ k : Fin 24, ∀ r : Fin 24, r.val < k.val → vR k.val r.val ≤ vR (k.val + 1) r.val := by decide +kernel
theorem val_in : ∀ k : Fin 25, ∀ r : Fin 25, r.val < k.val → 1 ≤ vR k.val r.val ∧ vR k.val r.val ≤ 10000000000000000000000000 := by decide +kernel
theorem vR_mono {r : Nat} : ∀ (d k : Nat), r < k → k + d ≤ 24 → vR k r ≤ vR (k + d) r
  | 0, k, _, _ => Int.le_refl _
  | d + 1, k, h, h2 => Int.le_trans (vR_mono d k h (by omega)) (val_mono ⟨k + d, by omega⟩ ⟨r, by omega⟩ (by show r < k + d; omega))
def canT : List Int → Nat → Bool
  | [], _ => true
  | x :: ns, k => (List.range k).any fun left => decide (x ≤ vR k left) && canT ns left
theorem canT_cons {x : Int} {ns : List Int} {k : Nat} : canT (x :: ns) k = true ↔ ∃ l, l < k ∧ x ≤ vR k l ∧ canT ns l = true := by
  show (List.range k).any _ = true ↔ _
  rw [List.any_eq_true]
  constructor
  · rintro ⟨l, hl, h⟩
    rw [Bool.and_eq_true] at h
    exact ⟨l, List.mem_range.mp hl, of_decide_eq_true h.1, h.2⟩
  · rintro ⟨l, hl, h1, h2⟩
    exact ⟨l, List.mem_range.mpr hl, by rw [Bool.and_eq_true]; exact ⟨decide_eq_true h1, h2⟩⟩
theorem canT_mono : ∀ (ns : List Int) (k k' : Nat), k ≤ k' → k' ≤ 24 → canT ns k = true → canT ns k' = true
  | [], _, _, _, _, _ => rfl
  | x :: ns, k, k', h1, h2, h => by
    obtain ⟨l, hl, h3, h4⟩ := canT_cons.mp h
    refine canT_cons.mpr ⟨l, by omega, Int.le_trans h3 ?_, h4⟩
    have := vR_mono (r := l) (k' - k) k hl (by omega)
    rwa [show k + (k' - k) = k' by omega] at this
theorem leftTo_congr {x : Int} {f g : Nat → Int} : ∀ m, (∀ l, l < m → f l = g l) → leftTo x f m = leftTo x g m
  | 0, _ => rfl
  | m + 1, h => by
    unfold leftTo
    rw [h m (by omega), leftTo_congr m fun l hl => h l (by omega)]
theorem leftTo_PR {x : Int} {k : Nat} (hk : k ≤ 24) : leftTo x (vP k) k = leftTo x (vR k) k := leftTo_congr k fun l hl => same_val ⟨k, by omega⟩ ⟨l, by omega⟩ hl
theorem canG_canT : ∀ (ns : List Int) (k : Nat), k ≤ 24 → canG ns k = canT ns k
  | [], _, _ => rfl
  | x :: ns, k, hk => by
    show (decide (0 ≤ leftTo x (vP k) k) && canG ns (leftTo x (vP k) k).toNat) = _
    rw [leftTo_PR hk]
    rcases leftTo_spec x (vR k) k with ⟨h1, h2⟩ | ⟨L, h1, h2, h3, h4⟩
    · rw [h1, decide_eq_false (by decide)]
      refine (Bool.eq_false_iff.mpr fun c => ?_).symm
      obtain ⟨l, hl, h3, _⟩ := canT_cons.mp c
      exact h2 l hl h3
    · rw [h2, decide_eq_true (by omega), Int.toNat_natCast, canG_canT ns L (by omega), Bool.true_and]
      cases hc : canT ns L with
      | true => exact (canT_cons.mpr ⟨L, h1, h3, hc⟩).symm
      | false =>
        refine (Bool.eq_false_iff.mpr fun c => ?_).symm
        obtain ⟨l, hl, g1, g2⟩ := canT_cons.mp c
        have := canT_mono ns l L (h4 l hl g1) (by omega) g2
        rw [hc] at this
        cases this
theorem fstO_some {α : Type} {p : α → Bool} : ∀ {l : List α} {k : Nat} {j : Int}, fstO p k l = some j → ∃ i x, j = ((k + i : Nat) : Int) ∧ l[i]? = some x ∧ p x = true ∧ ∀ i' x', i' < i → l[i']? = some x' → p x' = false
  | [], k, j, h => by cases h
  | y :: r, k, j, h => by
    unfold fstO at h
    by_cases c : p y = true
    · rw [if_pos c] at h
      exact ⟨0, y, (Option.some.inj h).symm, rfl, c, fun i' x' hi _ => absurd hi (Nat.not_lt_zero _)⟩
    · rw [if_neg c] at h
      obtain ⟨i, x, e, hx, hp, hq⟩ := fstO_some h
      refine ⟨i + 1, x, by rw [e]; congr 1; omega, hx, hp, fun i' x' hi hx' => ?_⟩
      cases i' with
      | zero => cases Option.some.inj hx'; exact Bool.eq_false_iff.mpr c
      | succ i' => exact hq i' x' (by omega) hx'
theorem fstO_none {α : Type} {p : α → Bool} : ∀ {l : List α} {k : Nat}, fstO p k l = none → ∀ (i : Nat) (x : α), l[i]? = some x → p x = false
  | [], k, _, i, x, hx => by cases hx
  | y :: r, k, h, i, x, hx => by
    unfold fstO at h
    by_cases c : p y = true
    · rw [if_pos c] at h; cases h
    · rw [if_neg c] at h
      cases i with
      | zero => cases Option.some.inj hx; exact Bool.eq_false_iff.mpr c
      | succ i => exact fstO_none h i x hx
theorem fst25_some {p : Nat → Bool} {j : Int} (h : fstO p 0 (List.range 25) = some j) : ∃ i : Nat, j = (i : Int) ∧ i ≤ 24 ∧ p i = true ∧ ∀ i', i' < i → p i' = false := by
  obtain ⟨i, x, e, hx, hp, hq⟩ := fstO_some h
  have hi := (List.getElem?_eq_some_iff.mp hx).1
  rw [List.length_range] at hi
  rw [List.getElem?_range hi] at hx
  cases hx
  exact ⟨i, by rw [e, Nat.zero_add], by omega, hp, fun i' hi' => hq i' i' hi' (List.getElem?_range (by omega))⟩
theorem fst25_none {p : Nat → Bool} (h : fstO p 0 (List.range 25) = none) : ∀ i, i ≤ 24 → p i = false := fun i hi => fstO_none h i i (List.getElem?_range (by omega))
/-- the least wires are the first for which the row can be raised -/
def LeastIs (ns : List Int) : Option Int → Prop
  | none => ∀ k, k ≤ 24 → canT ns k = false
  | some j => ∃ l : Nat, j = (l : Int) ∧ l ≤ 24 ∧ ∀ k, k ≤ 24 → (canT ns k = true ↔ l ≤ k)
theorem least_is : ∀ ns, LeastIs ns (leastO ns)
  | [] => ⟨0, rfl, by omega, fun k _ => ⟨fun _ => Nat.zero_le _, fun _ => rfl⟩⟩
  | x :: ns => by
    have ih := least_is ns
    show LeastIs (x :: ns) (nextO x (leastO ns))
    cases ho : leastO ns with
    | none =>
      rw [ho] at ih
      intro k hk
      refine Bool.eq_false_iff.mpr fun c => ?_
      obtain ⟨l, hl, _, h⟩ := canT_cons.mp c
      rw [ih l (by omega)] at h
      cases h
    | some j =>
      rw [ho] at ih
      obtain ⟨l, rfl, hl, hc⟩ := ih
      have key : ∀ w, w ≤ 24 → (decide (0 ≤ leftTo x (vP w) w ∧ (l : Int) ≤ leftTo x (vP w) w) = true ↔ canT (x :: ns) w = true) := fun w hw => by
        rw [leftTo_PR hw, decide_eq_true_iff, canT_cons]
        rcases leftTo_spec x (vR w) w with ⟨h1, h2⟩ | ⟨L, h1, h2, h3, h4⟩
        · rw [h1]
          exact ⟨fun h => by omega, fun ⟨m, hm, h3, _⟩ => absurd h3 (h2 m hm)⟩
        · rw [h2]
          exact ⟨fun h => ⟨L, h1, h3, (hc L (by omega)).mpr (by omega)⟩, fun ⟨m, hm, g1, g2⟩ => by
            have := h4 m hm g1
            have := (hc m (by omega)).mp g2
            omega⟩
      rw [show nextO x (some (l : Int)) = fstO (fun w : Nat => decide (0 ≤ leftTo x (vP w) w ∧ (l : Int) ≤ leftTo x (vP w) w)) 0 (List.range 25) from rfl]
      cases hf : fstO (fun w : Nat => decide (0 ≤ leftTo x (vP w) w ∧ (l : Int) ≤ leftTo x (vP w) w)) 0 (List.range 25) with
      | none =>
        intro k hk
        have := fst25_none hf k hk
        refine Bool.eq_false_iff.mpr fun c => ?_
        rw [(key k hk).mpr c] at this
        cases this
      | some j =>
        obtain ⟨i, rfl, hi, h1, h2⟩ := fst25_some hf
        refine ⟨i, rfl, hi, fun k hk => ⟨fun c => ?_, fun h => canT_mono (x :: ns) i k h hk ((key i hi).mp h1)⟩⟩
        apply Classical.byContradiction
        intro no
        have := h2 k (by omega)
        rw [(key k hk).mpr c] at this
        cases this
theorem least_unique {ns : List Int} {o : Option Int} (h : LeastIs ns o) : o = leastO ns := by
  have g := least_is ns
  cases o with
  | none =>
    cases hl : leastO ns with
    | none => rfl
    | some j =>
      rw [hl] at g
      obtain ⟨l, rfl, hl24, hc⟩ := g
      have := h l hl24
      rw [(hc l hl24).mpr (Nat.le_refl _)] at this
      cases this
  | some j =>
    obtain ⟨l, rfl, hl24, hc⟩ := h
    cases hl : leastO ns with
    | none =>
      rw [hl] at g
      have := g l hl24
      rw [(hc l hl24).mpr (Nat.le_refl _)] at this
      cases this
    | some j' =>
      rw [hl] at g
      obtain ⟨l', rfl, hl24', hc'⟩ := g
      have h1 := (hc l' hl24').mp ((hc' l' hl24').mpr (Nat.le_refl _))
      have h2 := (hc' l hl24).mp ((hc l hl24).mpr (Nat.le_refl _))
      rw [show l = l' by omega]
theorem cb_up : ∀ n : Fin 25, ∀ k : Fin 25, k.val < n.val → Cb n.val k.val * ((n.val : Int) - (k.val : Int)) = Cb n.val (k.val + 1) * ((k.val : Int) + 1) := by decide +kernel
theorem cb_zero : ∀ n : Fin 25, Cb n.val 0 = 1 := by decide +kernel
def spChoose : Sp := fun vs H Q _ => ∃ n k : Nat, vs = [.int (n : Int), .int (k : Int)] ∧ n ≤ 24 ∧ k ≤ n ∧ Q (.int (Cb n k)) H
theorem ok_law_choose (T : TK K mg) : FnOk P w K mg base CX0 1 T.law_choose.a T.law_choose.fd ["many", "few"] spChoose := by
  refine T.law_choose.F.ok sc_law_choose (fun vs H Q E h => ?_) (fun cdv A outer s H vs Q E hr h => ?_)
  · obtain ⟨n, k, rfl, _⟩ := h; rfl
  obtain ⟨n, k, rfl, hn, hk, q⟩ := h
  refine ⟨_, (pss_cons (ps_set (i := 2) sc_law_choose.nd rfl (Or.inl rfl) pe_int)
    (pss_cons (ps_for PassesOwn.never rfl (pi_range1 rfl T.z_range (pa_cons (pv 1) pa_nil)) (pg_name (i := 3) sc_law_choose.nd rfl (Or.inl rfl)) (pss_one (ps_set (i := 2) sc_law_choose.nd rfl (Or.inl rfl) (pe_op op_fdiv (pe_op op_mul (pv 2) (pe_op op_sub (pv 0) (pv 3))) (pe_op op_add (pv 3) pe_int)))))
    (pss_one (ps_ret (pv 2))))), ?_⟩
  refine ⟨_, rfl, (k : Int), rfl, by omega, by omega, for_range (lo := 0) (n := ((k : Int)).toNat) (fun i σ H' => H' = H ∧ ∃ v, σ = [some (.int (n : Int)), some (.int (k : Int)), some (.int (Cb n i)), v]) ⟨rfl, none, by rw [cb_zero ⟨n, by omega⟩]; rfl⟩ ?_ ?_⟩
  · rintro i σ H' hi ⟨rfl, v, rfl⟩
    rw [Int.zero_add]
    have up := cb_up ⟨n, by omega⟩ ⟨i, by omega⟩ (by show i < n; omega)
    simp only at up
    refine ⟨_, rfl, _, rfl, _, rfl, _, _, rfl, rfl, _, _, rfl, rfl, .inr ⟨by omega, by omega⟩, _, rfl, _, _, rfl, rfl, _, _, rfl, rfl, ⟨by omega, by omega⟩, rfl, some (.int (i : Int)), ?_⟩
    rw [show Cb n (i + 1) = Cb n i * ((n : Int) - (i : Int)) / ((i : Int) + 1) by rw [up, Int.mul_ediv_cancel _ (by omega)]]
    rfl
  · rintro σ H' ⟨rfl, v, rfl⟩
    rw [Int.toNat_natCast]
    exact ⟨_, rfl, q⟩
theorem rT_len : ∀ m, (rT m).length = m
  | 0 => rfl
  | k + 1 => by rw [rT, List.length_append, rT_len k]; rfl
def rowR (k : Nat) : List Int := (List.range (k + 1)).map (bestR (rT k) k)
theorem rT_at : ∀ (m k : Nat), k < m → (rT m)[k]? = some (rowR k)
  | m + 1, k, h => by
    rw [rT]
    by_cases c : k < m
    · rw [List.getElem?_append_left (by rw [rT_len]; exact c)]
      exact rT_at m k c
    · obtain rfl : k = m := by omega
      rw [List.getElem?_append_right (by rw [rT_len]; exact Nat.le_refl _), rT_len, Nat.sub_self]
      rfl
def bJ (k left i : Nat) : Int := (List.range i).foldl (fun b i => stepR (rT k) k left b (i + 1)) 0
theorem bJ_step (k left i : Nat) : bJ k left (i + 1) = stepR (rT k) k left (bJ k left i) (i + 1) := by
  unfold bJ
  rw [List.range_succ, List.foldl_append]
  rfl
theorem rT_get {k j l : Nat} {d : Int} (hj : j < k) (hl : l ≤ j) : ((rT k).getD j []).getD l d = vR j l := by
  rw [List.getD_eq_getElem?_getD (l := rT k), rT_at k j hj]
  show (rowR j).getD l d = _
  unfold rowR
  rw [List.getD_eq_getElem?_getD, List.getElem?_map, List.getElem?_range (by omega)]
  rfl
def spRaised (K : PySem.W.Frag) : Sp := fun vs H Q _ => ∃ m : Nat, vs = [.int (m : Int)] ∧ m ≤ 24 ∧ ∀ p H', Ex H H' → Rd K (fun a => H a = none) H' 2 (.ref p) (list2 (rT (m + 1))) → Q (.ref p) H'
theorem ok_law_raised (T : TK K mg) : FnOk P w K mg base CX0 2 T.law_raised.a T.law_raised.fd ["most"] (spRaised K) := by
  refine T.law_raised.F.ok sc_law_raised (fun vs H Q E h => ?_) (fun cdv A outer s H vs Q E hr h => ?_)
  · obtain ⟨m, rfl, _⟩ := h; rfl
  obtain ⟨m, rfl, hm, q⟩ := h
  refine ⟨_, (pss_cons (ps_set (i := 1) sc_law_raised.nd rfl (Or.inl rfl) (pe_lst pa_nil))
    (pss_cons (ps_for PassesOwn.never rfl (pi_range1 rfl T.z_range (pa_cons (pe_op op_add (pv 0) pe_int) pa_nil)) (pg_name (i := 2) sc_law_raised.nd rfl (Or.inl rfl)) (pss_cons (ps_set (i := 3) sc_law_raised.nd rfl (Or.inl rfl) (pe_lst pa_nil))
    (pss_cons (ps_for PassesOwn.never rfl (pi_range1 rfl T.z_range (pa_cons (pe_op op_add (pv 2) pe_int) pa_nil)) (pg_name (i := 4) sc_law_raised.nd rfl (Or.inl rfl)) (pss_cons (ps_set (i := 5) sc_law_raised.nd rfl (Or.inl rfl) pe_int)
    (pss_cons (ps_for PassesOwn.never rfl (pi_range2 rfl T.z_range (pa_cons pe_int (pa_cons (pe_op op_add (pe_op op_sub (pv 2) (pv 4)) pe_int) pa_nil))) (pg_name (i := 6) sc_law_raised.nd rfl (Or.inl rfl)) (pss_one (ps_if (pt_cmpR op_eq (pe_op op_sub (pv 2) (pv 6)) (pv 4) (nomark _)) (pss_one (ps_set (i := 5) sc_law_raised.nd rfl (Or.inl rfl) (pe_callB (call_max2 rfl) (by rfl) T.z_max (by decide +kernel) (pa_cons (pv 5) (pa_cons (pe_call (ok_law_choose T) (hr.mono (by decide)) rfl T.law_choose.m T.law_choose.F.kp T.law_choose.b .nil pass0 (pa_cons (pv 2) (pa_cons (pv 6) pa_nil))) pa_nil))))) (pss_one (ps_if (pt_cmpR op_gt (pe_op op_sub (pe_op op_sub (pv 2) (pv 6)) pe_int) (pv 4) (nomark _)) (pss_one (ps_set (i := 5) sc_law_raised.nd rfl (Or.inl rfl) (pe_callB (call_max2 rfl) (by rfl) T.z_max (by decide +kernel) (pa_cons (pv 5) (pa_cons (pe_op op_mul (pe_call (ok_law_choose T) (hr.mono (by decide)) rfl T.law_choose.m T.law_choose.F.kp T.law_choose.b .nil pass0 (pa_cons (pv 2) (pa_cons (pv 6) pa_nil))) (pe_ix (kixl K) (pe_ix (kixl K) (pv 1) (pe_op op_sub (pe_op op_sub (pv 2) (pv 6)) pe_int) (fun _ _ => rfl)) (pv 4) (fun _ _ => rfl))) pa_nil))))) pss_nil)))))
    (pss_one (ps_expr (pe_bm PySem.F.plainAttrs_list PySem.F.slot_list_append PySem.F.type_list_append mt_append (pv 3) (pa_cons (pv 5) pa_nil)))))))
    (pss_one (ps_expr (pe_bm PySem.F.plainAttrs_list PySem.F.slot_list_append PySem.F.type_list_append mt_append (pv 1) (pa_cons (pv 3) pa_nil)))))))
    (pss_one (ps_ret (pv 1))))), ?_⟩
  refine ⟨Nat.zero_le _, fun F hF => ?_⟩
  refine ⟨_, rfl, _, _, rfl, rfl, (m : Int) + 1, rfl, by omega, by omega, for_range (lo := 0) (n := ((m : Int) + 1).toNat) (fun k σ G => Ex H G ∧ ∃ (xs : List V) (v2 v3 v4 v5 v6 : Option V), G F = some (.lst xs) ∧ xs.length = k ∧ RdL K (fun a => H a = none ∧ a ≠ F) G 1 xs ((rT k).map listI) ∧ σ = [some (.int (m : Int)), some (.ref F), v2, v3, v4, v5, v6]) ⟨Ex.new hF, [], _, _, _, _, _, upd_same, rfl, RdL.nil, rfl⟩ ?_ ?_⟩
  · rintro k σ G hk ⟨eg, xs, v2, v3, v4, v5, v6, hFG, hxl, rF, rfl⟩
    rw [Int.zero_add]
    refine ⟨Nat.zero_le _, fun L hL => ⟨_, rfl, _, _, rfl, rfl, (k : Int) + 1, rfl, by omega, by omega, for_range (lo := 0) (n := ((k : Int) + 1).toNat) (fun l σ G1 => Ex G G1 ∧ ∃ v4 v5 v6 : Option V, G1 L = some (.lst (((List.range l).map (bestR (rT k) k)).map V.int)) ∧ σ = [some (.int (m : Int)), some (.ref F), some (.int (k : Int)), some (.ref L), v4, v5, v6]) ⟨Ex.new hL, _, _, _, upd_same, rfl⟩ ?_ ?_⟩⟩
    · rintro l σ G1 hl ⟨eg1, v4, v5, v6, hLG, rfl⟩
      rw [Int.zero_add]
      have hl' : l ≤ k := by omega
      refine ⟨_, rfl, _, rfl, _, _, rfl, rfl, _, _, rfl, rfl, 1, (k : Int) - (l : Int) + 1, rfl, ⟨by omega, by omega, by omega, by omega⟩, for_range (lo := 1) (n := ((k : Int) - (l : Int) + 1 - 1).toNat) (fun i σ G2 => G2 = G1 ∧ ∃ v6 : Option V, σ = [some (.int (m : Int)), some (.ref F), some (.int (k : Int)), some (.ref L), some (.int (l : Int)), some (.int (bJ k l i)), v6]) ⟨rfl, _, rfl⟩ ?_ ?_⟩
      · rintro i σ G2 hi ⟨rfl, v6, rfl⟩
        have ii : i + 1 ≤ k - l := by omega
        have st := bJ_step k l i
        unfold stepR at st
        have ec : ((i + 1 : Nat) : Int) = 1 + (i : Int) := by omega
        refine ⟨_, rfl, _, rfl, _, _, rfl, rfl, _, rfl, rfl, _, rfl, ite2 (fun c => ?_) (fun c => ?_)⟩
        · have c : (k : Int) - (1 + (i : Int)) = (l : Int) := V.int.inj (of_decide_eq_true c)
          rw [if_pos (show k = l + (i + 1) by omega)] at st
          refine ⟨_, rfl, _, rfl, _, rfl, k, i + 1, by rw [ec]; rfl, by omega, by omega, _, _, rfl, rfl, some (.int (1 + (i : Int))), ?_⟩
          rw [st]
          rfl
        · have c : ¬ (k : Int) - (1 + (i : Int)) = (l : Int) := fun e => c (decide_eq_true (show V.int ((k : Int) - (1 + (i : Int))) = V.int (l : Int) by rw [e]))
          rw [if_neg (show ¬ k = l + (i + 1) by omega)] at st
          refine ⟨_, rfl, _, rfl, _, _, rfl, rfl, _, _, rfl, rfl, _, rfl, _, _, rfl, rfl, _, rfl, ite2 (fun c2 => ?_) (fun c2 => ?_)⟩
          · have c2 := of_decide_eq_true c2
            rw [if_pos (show l + (i + 1) + 1 < k by omega), rT_get (show k - (i + 1) - 1 < k by omega) (show l ≤ k - (i + 1) - 1 by omega)] at st
            have fG := eg1 _ _ hFG
            have rr := rF.2 (k - (i + 1) - 1)
            obtain ⟨x, hx⟩ : ∃ x, xs[k - (i + 1) - 1]? = some x := ⟨_, List.getElem?_eq_getElem (by omega)⟩
            obtain ⟨o, rfl, _, ho, _⟩ := rd_listI (rr x (listI (rowR (k - (i + 1) - 1))) hx (by rw [List.getElem?_map, rT_at k _ (by omega)]; rfl))
            have cb1 := cb_in ⟨k, by omega⟩ ⟨i + 1, by omega⟩
            simp only at cb1
            refine ⟨_, rfl, _, rfl, _, rfl, k, i + 1, by rw [ec]; rfl, by omega, by omega, _, rfl, _, rfl, _, rfl, _, _, rfl, rfl, _, _, rfl, rfl, F, xs, _, .ref o, rfl, rfl, SqL.of fG, at_of (show (k : Int) - (1 + (i : Int)) - 1 = ((k - (i + 1) - 1 : Nat) : Int) by omega) hx, _, rfl, o, _, _, .int (vR (k - (i + 1) - 1) l), rfl, rfl, SqL.of (eg1 _ _ ho), atI_nat ?_, _, _, rfl, rfl, .inl ⟨by omega, by omega⟩, _, _, rfl, rfl, some (.int (1 + (i : Int))), ?_⟩
            · unfold rowR
              rw [List.getElem?_map, List.getElem?_map, List.getElem?_range (by omega)]
              rfl
            · rw [st]
              rfl
          · have c2 : ¬ (l : Int) < (k : Int) - (1 + (i : Int)) - 1 := of_decide_eq_false (Bool.eq_false_iff.mpr c2)
            rw [if_neg (show ¬ l + (i + 1) + 1 < k by omega)] at st
            refine ⟨rfl, some (.int (1 + (i : Int))), ?_⟩
            rw [st]
            rfl
      · rintro σ G2 ⟨rfl, v6, rfl⟩
        refine ⟨_, rfl, .inl ⟨rfl, _, SqL.of hLG⟩, _, rfl, L, _, _, rfl, rfl, hLG, small1000 (by rw [List.length_map, List.length_map, List.length_range]; omega), eg1.mut hL, _, _, _, ?_, rfl⟩
        rw [upd_same, List.range_succ, List.map_append, List.map_append, show ((k : Int) - (l : Int) + 1 - 1).toNat = k - l by omega]
        rfl
    · rintro σ G1 ⟨eg1, v4, v5, v6, hLG, rfl⟩
      have LF : L ≠ F := by rintro rfl; rw [hFG] at hL; cases hL
      have fG := eg1 _ _ hFG
      refine ⟨_, rfl, .inl ⟨rfl, _, SqL.of fG⟩, _, rfl, F, xs, .ref L, rfl, rfl, fG, small1000 (by omega), (eg.trans eg1).mut hF, xs ++ [.ref L], _, _, _, _, _, upd_same, by rw [List.length_append, hxl]; rfl, ?_, rfl⟩
      rw [rT, List.map_append]
      refine RdL.snoc ((rF.ex eg1).but (b := F) But.upd (fun a ha => ha.2)) ?_
      rw [show ((k : Int) + 1).toNat = k + 1 by omega] at hLG
      exact rd_ilist (ns := (List.range (k + 1)).map (bestR (rT k) k)) (by rw [upd_ne LF]; exact hLG) ⟨fresh_back eg hL, LF⟩ (by rw [List.length_map, List.length_range]; omega)
  · rintro σ G ⟨eg, xs, v2, v3, v4, v5, v6, hFG, hxl, rF, rfl⟩
    rw [show ((m : Int) + 1).toNat = m + 1 by omega] at rF hxl
    exact ⟨_, rfl, q F G eg (.lst hFG hF rF.1 (by omega) fun i x d hx hd => (rF.2 i x d hx hd).of fun a ha => ha.1)⟩
def tablesW (ns : List Int) : PyData := .list ((sufs ns).map fun ms => rowB 24 (canT ms))
def spWTables (K : PySem.W.Frag) : Sp := fun vs H Q _ => ∃ (a p : Addr) (ns : List Int) (j : Nat) (ok : Addr → Prop), vs = [.ref a, .ref p] ∧ SqL K H a (ns.map V.int) ∧ ns.length ≤ 100 ∧ Rd K ok H j (.ref p) (list2 (rT 25)) ∧
  ∀ q H', Ex H H' → Rd K (fun a => H a = none) H' 2 (.ref q) (tablesW ns) → Q (.ref q) H'
theorem rd_raised {ok : Addr → Prop} {H : Hp} {j : Nat} {x : V} (h : Rd K ok H j x (list2 (rT 25))) : ∃ p vs, x = .ref p ∧ H p = some (.lst vs) ∧ vs.length = 25 ∧ ∀ k, k ≤ 24 → ∃ b, vs[k]? = some (.ref b) ∧ H b = some (.lst ((rowR k).map V.int)) := by
  obtain ⟨p, vs, rfl, hp, hl, _, all⟩ := rd_list2 h
  rw [rT_len] at hl
  refine ⟨p, vs, rfl, hp, hl, fun k hk => ?_⟩
  obtain ⟨b, t, e1, e2, e3⟩ := all k _ (List.getElem?_eq_getElem (by omega))
  rw [rT_at 25 k (by omega)] at e2
  cases e2
  exact ⟨b, by rw [List.getElem?_eq_getElem (by omega), e1], e3⟩
theorem rowR_at {k l : Nat} (h : l ≤ k) : ((rowR k).map V.int)[l]? = some (.int (vR k l)) := by
  unfold rowR
  rw [List.getElem?_map, List.getElem?_map, List.getElem?_range (by omega)]
  rfl
theorem rd_rb {ok : Addr → Prop} {H : Hp} {L : Addr} {m : Nat} {t : Nat → Bool} (hL : H L = some (.lst ((List.range (m + 1)).map fun a => V.bl (t a)))) (o : ok L) (hm : m ≤ 100) : Rd K ok H 1 (.ref L) (rowB m t) := by
  unfold rowB
  refine .lst hL o (by rw [List.length_map, List.length_map]) (by rw [List.length_map, List.length_range]; omega) fun i x d hx hd => ?_
  rw [List.getElem?_map] at hx hd
  obtain ⟨y, hy, rfl⟩ := Option.map_eq_some_iff.mp hx
  rw [hy] at hd
  cases hd
  exact .bl _
theorem ok_law_wire_tables (T : TK K mg) : FnOk P w K mg base CX0 2 T.law_wire_tables.a T.law_wire_tables.fd ["row", "raised"] (spWTables K) := by
  refine T.law_wire_tables.F.ok sc_law_wire_tables (fun vs H Q E h => ?_) (fun cdv A outer s H vs Q E hr h => ?_)
  · obtain ⟨a, p, ns, j, ok, rfl, _⟩ := h; rfl
  obtain ⟨a, p, ns, j, ok, rfl, ha, hl100, hp, q⟩ := h
  refine ⟨_, (pss_cons (ps_set (i := 2) sc_law_wire_tables.nd rfl (Or.inr rfl) (pe_lst (pa_cons (pe_op op_rep (pe_lst (pa_cons pe_bl pa_nil)) (pe_callB (klen K) (by rfl) T.z_len (by decide +kernel) (pa_cons (pv 1) pa_nil))) pa_nil)))
    (pss_cons (ps_for PassesOwn.never rfl (kpil K (pe_revL (pv 0))) (pg_name (i := 3) sc_law_wire_tables.nd rfl (Or.inr rfl)) (pss_cons (ps_set (i := 4) sc_law_wire_tables.nd rfl (Or.inl rfl) (pe_lst pa_nil))
    (pss_cons (ps_for PassesOwn.never rfl (pi_range1 rfl T.z_range (pa_cons (pe_callB (klen K) (by rfl) T.z_len (by decide +kernel) (pa_cons (pv 1) pa_nil)) pa_nil)) (pg_name (i := 5) sc_law_wire_tables.nd rfl (Or.inr rfl)) (pss_cons (ps_setLc (i := 6) (own := [("left", 7)]) (g := gName 7) (by rfl) sc_law_wire_tables.nd rfl rfl (sw_true rfl rfl rfl (by decide +kernel)) (pi_range1 rfl T.z_range (pa_cons (pv 5) pa_nil)) (blkOk_by (own := [("left", 7)]) (N := ["row", "raised", "tables", "number", "here", "k", "ways", "left"]) (sc := defScope s_law_wire_tables) (by decide +kernel)) (fun _ _ _ _ _ => (pg_name (i := 7) sc_law_wire_tables.nd rfl (Or.inl rfl))) (fun _ _ _ _ _ => (pts_one (PW.pt (pw_and (pt_cmpR op_ge (pe_ix (kixl K) (pe_ix (kixl K) (pv 1) (pv 5) (fun _ _ => rfl)) (pv 7) (fun _ _ => rfl)) (pv 3) (nomark _)) (pw_and1 (pt_val (pe_ix (kixl K) (pe_ix (kixl K) (pv 2) pe_int (fun _ _ => rfl)) (pv 7) (fun _ _ => rfl)))))))) (fun _ _ _ _ _ => (pv 7)))
    (pss_one (ps_expr (pe_bm PySem.F.plainAttrs_list PySem.F.slot_list_append PySem.F.type_list_append mt_append (pv 4) (pa_cons (pe_cmpR (kneD K hr.units) (pv 6) (pe_lst pa_nil) (nomark _)) pa_nil))))))
    (pss_one (ps_set (i := 2) sc_law_wire_tables.nd rfl (Or.inr rfl) (pe_op op_cat (pe_lst (pa_cons (pv 4) pa_nil)) (pv 2)))))))
    (pss_one (ps_ret (pv 2))))), ?_⟩
  obtain ⟨p', vs, hpe, hvs, hvl, vall⟩ := rd_raised hp
  cases hpe
  refine ⟨one_le, fun u0 hu0 => ⟨_, rfl, _, 25, rfl, .inl ⟨vs, ex_l (Ex.new hu0) (SqL.of hvs), hvl.symm⟩, u0, 25, [.bl true], rfl, rfl, upd_same, by decide, by decide, by show 1 * 25 ≤ sizeLine; decide, fun u1 hu1 => ⟨one_le, fun u2 hu2 => ?_⟩⟩⟩
  have x0 := Ex.new (o := .lst [.bl true]) hu0
  have x1 := Ex.new (o := .lst (List.replicate (25 : Int).toNat [V.bl true]).flatten) hu1
  have x2 := Ex.new (o := .lst [.ref u1]) hu2
  have rl : (List.replicate (25 : Int).toNat [V.bl true]).flatten = (List.range (24 + 1)).map fun _ => V.bl true := by
    rw [rep_one, List.map_const', List.length_range]
    rfl
  have e0 := (x0.trans x1).trans x2
  have r0 : Rd K (fun a => H a = none) (upd (upd (upd H u0 (.lst [.bl true])) u1 (.lst (List.replicate (25 : Int).toNat [V.bl true]).flatten)) u2 (.lst [.ref u1])) 2 (.ref u2) (tablesW []) := .lst upd_same (fresh_back (x0.trans x1) hu2) rfl (by show 1 ≤ 900; omega) fun i x d hx hd => by
    match i, hx, hd with
    | 0, hx, hd =>
      cases hx; cases hd
      exact rd_rb (x2 _ _ (by rw [upd_same, rl]; rfl)) (fresh_back x0 hu1) (by omega)
  generalize upd (upd (upd H u0 _) u1 _) u2 _ = H0 at e0 r0 ⊢
  refine ⟨_, rfl, a, _, rfl, ex_l e0 ha, fun rv hrv => ?_⟩
  have ev := Ex.new (o := .lst (ns.map V.int).reverse) hrv
  have rvs : upd H0 rv (.lst (ns.map V.int).reverse) rv = some (.lst (ns.map V.int).reverse) := upd_same
  generalize upd H0 rv (.lst (ns.map V.int).reverse) = H1 at ev rvs ⊢
  have e01 := e0.trans ev
  refine ⟨rv, rfl, ⟨_, SqL.of rvs⟩, for_list (xs := (ns.map V.int).reverse) (fun i σ H' => Ex H1 H' ∧ ∃ (tp : Addr) (v3 v4 v5 v6 : Option V), Rd K (fun a => H a = none) H' 2 (.ref tp) (tablesW (ns.reverse.take i).reverse) ∧ σ = [some (.ref a), some (.ref p), some (.ref tp), v3, v4, v5, v6, none])
    ⟨Ex.refl _, u2, _, _, _, _, r0.ex ev, rfl⟩ (fun i σ H' _ p => ex_l p.1 (SqL.of rvs)) ?_ ?_⟩
  · rintro i v σ H' hx ⟨e, tp, v3, v4, v5, v6, rt, rfl⟩
    have hi1 := (List.getElem?_eq_some_iff.mp hx).1
    rw [← List.map_reverse] at hx
    obtain ⟨x, hx1, rfl⟩ := ints_get hx
    have et : (ns.reverse.take (i + 1)).reverse = x :: (ns.reverse.take i).reverse := by
      rw [List.take_add_one, hx1, List.reverse_append]
      rfl
    have lms : ((ns.reverse.take i).reverse).length ≤ 100 := by rw [List.length_reverse, List.length_take, List.length_reverse]; omega
    rw [et]
    generalize (ns.reverse.take i).reverse = ms at rt lms ⊢
    have eh := e01.trans e
    obtain ⟨txs, htp, tpok, txl, _, tall⟩ := rd_lst_at rt
    rw [List.length_map, sufs_len] at txl
    have hd0 : ((sufs ms).map fun ms => rowB 24 (canT ms))[0]? = some (rowB 24 (canT ms)) := by
      rw [List.getElem?_map, sufs_at ms 0 (Nat.zero_le _)]
      rfl
    have hx0 := List.getElem?_eq_getElem (show 0 < txs.length by omega)
    have rp0 := tall 0 _ _ hx0 hd0
    obtain ⟨pb, ps, hpe, hps, pval⟩ := rd_rowB rp0
    rw [hpe] at hx0 rp0
    refine ⟨Nat.zero_le _, fun F hF => ?_⟩
    have eF := Ex.new (o := .lst []) hF
    obtain ⟨Tn, hTn⟩ : ∃ Tn, Tn = canT (x :: ms) := ⟨_, rfl⟩
    refine ⟨_, rfl, _, 25, rfl, .inl ⟨vs, SqL.of (eF _ _ (eh _ _ hvs)), hvl.symm⟩, 25, rfl, by decide, by decide, for_range (lo := 0) (n := 25) (fun k σ G => Ex H' G ∧ ∃ v5 v6 : Option V, G F = some (.lst ((List.range k).map fun a => V.bl (Tn a))) ∧ σ = [some (.ref a), some (.ref p), some (.ref tp), some (.int x), some (.ref F), v5, v6, none]) ⟨eF, _, _, upd_same, rfl⟩ ?_ ?_⟩
    · rintro k σ G hk ⟨eg, v5, v6, hFG, rfl⟩
      rw [Int.zero_add]
      obtain ⟨b, hb, hbs⟩ := vall k (by omega)
      have ehg := eh.trans eg
      have c1 := el_lcR1 (σ := [some (.ref a), some (.ref p), some (.ref tp), some (.int x), some (.ref F), some (.int (k : Int)), v6, none]) (H := G) (ta := tCons (tVar 5) tNil)
        (t := tAnd (tTest (tOp (rI0 fun i j => V.bl (decide (j ≤ i))) (tOp (rIxL K) (tOp (rIxL K) (tVar 1) (tVar 5)) (tVar 7)) (tVar 3))) (tB (tOp (rIxL K) (tOp (rIxL K) (tVar 2) (tC (V.int 0))) (tVar 7)))) (te := tVar 7) (j := 7) (vs := [7]) (n := (k : Int)) (fun l => decide (x ≤ vR k l) && canT ms l) (fun l => .int (l : Int))
        (ea_cons (ev_var rfl) ea_nil) ⟨by omega, by omega⟩ (fun _ => rfl)
        (fun l G2 eg2 hl2 => et_and (et_test (ev_op (ev_op (ev_op (ev_var rfl) (ev_var rfl) (rv_ixL (SqL.of (eg2 _ _ (ehg _ _ hvs))) (atI_nat hb))) (ev_var rfl) (rv_ixL (SqL.of (eg2 _ _ (ehg _ _ hbs))) (atI_nat (rowR_at (by omega))))) (ev_var rfl) rv_I0)) fun _ => et_B (ev_op (ev_op (ev_var rfl) ev_c (rv_ixL (SqL.of (eg2 _ _ (eg _ _ htp))) (at_of (show (0 : Int) = ((0 : Nat) : Int) from rfl) hx0))) (ev_var rfl) (rv_ixL (SqL.of (eg2 _ _ (eg _ _ hps))) (atI_nat (pval l (by omega)))))) (fun l G2 eg2 hl2 _ => ev_var rfl)
      rw [given_ints, Int.toNat_natCast] at c1
      refine gn_ (el_seq (i := 6) c1 fun w G2 hw eg2 hwv => ?_)
      refine ⟨_, rfl, .inl ⟨rfl, _, SqL.of (eg2 _ _ hFG)⟩, _, rfl, Nat.zero_le _, fun z hz => ?_⟩
      have eg3 := Ex.new (o := .lst []) hz
      have rdi := rdl_ints (K := K) (ok := fun _ => True) (H := upd G2 z (.lst [])) (n := 0) (((List.range k).filter fun l => decide (x ≤ vR k l) && canT ms l).map fun l : Nat => (l : Int))
      have fl := List.length_filter_le (fun l => decide (x ≤ vR k l) && canT ms l) (List.range k)
      rw [List.length_range] at fl
      have rdw : Rd K (fun _ => True) (upd G2 z (.lst [])) 1 (.ref w) _ := .lst (eg3 _ _ hwv) trivial rdi.1 (by rw [List.length_map, List.length_map]; omega) rdi.2
      have rde : Rd K (fun _ => True) (upd G2 z (.lst [])) 1 (.ref z) (.list []) := .lst upd_same trivial rfl (Nat.zero_le _) (fun i x d hx _ => by cases hx)
      refine ⟨_, _, rdw.dp, rde.dp, rdw.shaped (by omega), rde.shaped (by omega), F, _, _, rfl, rfl, eg3 _ _ (eg2 _ _ hFG), small1000 (by rw [List.length_map, List.length_range]; omega), ?_⟩
      refine ⟨((eg.trans eg2).trans eg3).mut hF, _, _, ?_, rfl⟩
      rw [upd_same, any_ne, List.range_succ (n := k), List.map_append, hTn]
      rfl
    · rintro σ G ⟨eg, v5, v6, hFG, rfl⟩
      have htpG := eg _ _ htp
      refine ⟨_, rfl, one_le, fun o ho => ?_⟩
      have eo := Ex.new (o := .lst [.ref F]) ho
      refine ⟨_, rfl, o, tp, _, _, rfl, rfl, upd_same, eo _ _ htpG, Nat.le_of_lt (small1000 (by show 1 + _ ≤ 1000; omega)), fun np hnp => ?_⟩
      have en := Ex.new (o := .lst ([.ref F] ++ txs)) hnp
      have rF : Rd K (fun a => H a = none) G 1 (.ref F) (rowB 24 (canT (x :: ms))) := by
        rw [← hTn]
        exact rd_rb hFG (fresh_back eh hF) (by omega)
      have fr0 : ∀ a, upd G o (.lst [.ref F]) a = none → H a = none := fun a ha => fresh_back ((eh.trans eg).trans eo) ha
      refine ⟨((e.trans eg).trans eo).trans en, np, _, _, _, _, .lst upd_same (fr0 np hnp) (by rw [List.length_append, List.length_map, sufs_len, txl]; show 1 + _ = _ + 1 + 1; omega) (by rw [List.length_append]; show 1 + _ ≤ 900; omega) fun i y d hy hd => ?_, rfl⟩
      cases i with
      | zero =>
        cases hy
        cases hd
        exact (rF.ex eo).ex en
      | succ i => exact (((tall i y d hy hd).ex eg).ex eo).ex en
  · rintro σ H' ⟨e, tp, v3, v4, v5, v6, rt, rfl⟩
    rw [List.length_reverse, List.length_map, ← List.length_reverse, List.take_length, List.reverse_reverse] at rt
    exact ⟨_, rfl, q tp H' (e01.trans e) rt⟩
end
end L2.U


set_option Elab.async false
set_option linter.all false
set_option maxRecDepth 100000
set_option maxHeartbeats 4000000
namespace L2.U
open PySem PySem.Spec PyProof.Rows Evl
section
variable {P : Program} {w : World} {K : PySem.W.Frag} {mg : Str → Option Value} {base : Heap}
/-! ### sizes and plans, as lists -/
def prodL : Int → List Int → Int
  | _, [] => 1
  | k, z :: s => Cb k.toNat z.toNat * prodL (k - z - 1) s
def okL : Int → List Int → Prop
  | _, [] => True
  | k, z :: s => 1 ≤ z ∧ z ≤ k ∧ okL (k - z - 1) s
def useL (s : List Int) : Int := s.sum + (s.length : Int) - 1
theorem okL_of : ∀ (s : List Int) (k : Int), (∀ z ∈ s, 1 ≤ z) → useL s ≤ k → okL k s
  | [], _, _, _ => trivial
  | z :: s, k, h, u => by
    have hz := h z List.mem_cons_self
    have hs : ∀ y ∈ s, 1 ≤ y := fun y hy => h y (List.mem_cons_of_mem _ hy)
    have sn : 0 ≤ s.sum := by
      clear u h
      induction s with
      | nil => exact Int.le_refl 0
      | cons y s ih =>
        rw [List.sum_cons]
        have := hs y List.mem_cons_self
        have := ih fun x hx => hs x (List.mem_cons_of_mem _ hx)
        omega
    unfold useL at u
    rw [List.sum_cons, List.length_cons] at u
    refine ⟨hz, by omega, okL_of s _ hs ?_⟩
    unfold useL
    omega
def fct : Nat → Int
  | 0 => 1
  | n + 1 => ((n + 1 : Nat) : Int) * fct n
theorem fct_step : ∀ n : Fin 25, ∀ z : Fin 25, 1 ≤ z.val → z.val ≤ n.val → 1 ≤ Cb n.val z.val ∧ Cb n.val z.val * fct (n.val - z.val - 1) ≤ fct n.val := by decide +kernel
theorem fct_in : ∀ n : Fin 25, 1 ≤ fct n.val ∧ fct n.val ≤ 1000000000000000000000000 := by decide +kernel
theorem prod_in : ∀ (s : List Int) (k : Int), k ≤ 24 → okL k s → 1 ≤ prodL k s ∧ prodL k s ≤ fct k.toNat
  | [], k, hk, _ => ⟨Int.le_refl 1, (fct_in ⟨k.toNat, by omega⟩).1⟩
  | z :: s, k, hk, h => by
    obtain ⟨h1, h2, h3⟩ := h
    obtain ⟨p1, p2⟩ := prod_in s (k - z - 1) (by omega) h3
    have f := fct_step ⟨k.toNat, by omega⟩ ⟨z.toNat, by omega⟩ (by show 1 ≤ z.toNat; omega) (by show z.toNat ≤ k.toNat; omega)
    simp only at f
    rw [show k.toNat - z.toNat - 1 = (k - z - 1).toNat by omega] at f
    show 1 ≤ Cb k.toNat z.toNat * prodL (k - z - 1) s ∧ Cb k.toNat z.toNat * prodL (k - z - 1) s ≤ fct k.toNat
    have a := Int.mul_le_mul_of_nonneg_left p2 (show 0 ≤ Cb k.toNat z.toNat by omega)
    have b : 1 * 1 ≤ Cb k.toNat z.toNat * prodL (k - z - 1) s := Int.mul_le_mul f.1 p1 (by omega) (by omega)
    exact ⟨by omega, by omega⟩
theorem prod_big {s : List Int} {k : Int} (hk : k ≤ 24) (h : okL k s) : 1 ≤ prodL k s ∧ prodL k s ≤ 1000000000000000000000000 := by
  have p := prod_in s k hk h
  have f := (fct_in ⟨k.toNat, by omega⟩).2
  simp only at f
  omega
/-- what is multiplied before place i -/
def preL (k : Int) (s : List Int) (i : Nat) : Int × Int := (s.take i).foldl (fun st z => (st.1 * Cb st.2.toNat z.toNat, st.2 - z - 1)) (1, k)
theorem preL_step {k : Int} {s : List Int} {i : Nat} {z : Int} (h : s[i]? = some z) : preL k s (i + 1) = ((preL k s i).1 * Cb (preL k s i).2.toNat z.toNat, (preL k s i).2 - z - 1) := by
  unfold preL
  rw [List.take_add_one, h, List.foldl_append]
  rfl
theorem preL_all {k : Int} {s : List Int} (hk : k ≤ 24) : ∀ i, i ≤ s.length → (preL k s i).1 * prodL (preL k s i).2 (s.drop i) = prodL k s ∧ (okL k s → okL (preL k s i).2 (s.drop i) ∧ 1 ≤ (preL k s i).1 ∧ (preL k s i).2 ≤ k)
  | 0, _ => ⟨by show 1 * prodL k s = _; rw [Int.one_mul], fun h => ⟨h, Int.le_refl 1, Int.le_refl _⟩⟩
  | i + 1, h => by
    obtain ⟨a, b⟩ := preL_all hk (k := k) (s := s) i (by omega)
    have hz : s[i]? = some s[i] := List.getElem?_eq_getElem (by omega)
    rw [preL_step hz]
    have dr : s.drop i = s[i] :: s.drop (i + 1) := List.drop_eq_getElem_cons (by omega)
    rw [dr] at a b
    generalize s[i] = z at a b
    refine ⟨by rw [← a]; show _ * _ * _ = _ * (_ * _); rw [Int.mul_assoc], fun ok => ?_⟩
    obtain ⟨o, p1, p2⟩ := b ok
    obtain ⟨o1, o2, o3⟩ := o
    have f := (fct_step ⟨(preL k s i).2.toNat, by omega⟩ ⟨z.toNat, by omega⟩ (by show 1 ≤ z.toNat; omega) (by show z.toNat ≤ (preL k s i).2.toNat; omega)).1
    simp only at f
    have : 1 * 1 ≤ (preL k s i).1 * Cb (preL k s i).2.toNat z.toNat := Int.mul_le_mul p1 f (by omega) (by omega)
    exact ⟨o3, by show 1 ≤ (preL k s i).1 * Cb (preL k s i).2.toNat z.toNat; omega, by show _ - z - 1 ≤ k; omega⟩
/-- the product so far is never great -/
theorem preL_in {k : Int} {s : List Int} {i : Nat} (hk : k ≤ 24) (ok : okL k s) (h : i ≤ s.length) : (preL k s i).1 ≤ 1000000000000000000000000 := by
  obtain ⟨a, b⟩ := preL_all hk (k := k) (s := s) i h
  obtain ⟨o, p1, p2⟩ := b ok
  have q := (prod_in _ _ (by omega) o).1
  have t := (prod_big hk ok).2
  have : (preL k s i).1 * 1 ≤ (preL k s i).1 * prodL (preL k s i).2 (s.drop i) := Int.mul_le_mul_of_nonneg_left q (by omega)
  omega
def spProd (K : PySem.W.Frag) : Sp := fun vs H Q _ => ∃ (a : Addr) (s : List Int) (k : Int), vs = [.ref a, .int k] ∧ SqT K H a (s.map V.int) ∧ okL k s ∧ k ≤ 24 ∧ ∀ H', Ex H H' → Q (.int (prodL k s)) H'
theorem ok_raised_by (T : TK K mg) : FnOk P w K mg base CX0 2 T.raised_by.a T.raised_by.fd ["sizes", "wires"] (spProd K) := by
  refine T.raised_by.F.ok sc_raised_by (fun vs H Q E h => ?_) (fun cdv A outer s H vs Q E hr h => ?_)
  · obtain ⟨a, z, k, rfl, _⟩ := h; rfl
  obtain ⟨a, sz, k, rfl, ha, ok, hk, q⟩ := h
  refine ⟨_, (pss_cons (ps_set (i := 2) sc_raised_by.nd rfl (Or.inl rfl) pe_int)
    (pss_cons (ps_set (i := 3) sc_raised_by.nd rfl (Or.inl rfl) (pv 1))
    (pss_cons (ps_for PassesOwn.never rfl (kpit K (pv 0)) (pg_name (i := 4) sc_raised_by.nd rfl (Or.inl rfl)) (pss_cons (ps_aug (i := 2) sc_raised_by.nd rfl (Or.inl rfl) (pe_callBfun cr_comb rfl T.c_comb (pa_cons (pv 3) (pa_cons (pv 4) pa_nil))) ip_mulC)
    (pss_one (ps_set (i := 3) sc_raised_by.nd rfl (Or.inl rfl) (pe_op op_sub (pe_op op_sub (pv 3) (pv 4)) pe_int)))))
    (pss_one (ps_ret (pv 2)))))), ?_⟩
  refine ⟨_, rfl, _, rfl, a, rfl, ⟨_, ha⟩, for_tup (xs := sz.map V.int) (fun i σ H' => H' = H ∧ ∃ v, σ = [some (.ref a), some (.int k), some (.int (preL k sz i).1), some (.int (preL k sz i).2), v]) ⟨rfl, none, rfl⟩ (fun i σ H' _ p => by rw [p.1]; exact ha) ?_ ?_⟩
  · rintro i y σ H' hy ⟨rfl, v, rfl⟩
    obtain ⟨z, hz, rfl⟩ := ints_get hy
    have hi := (List.getElem?_eq_some_iff.mp hz).1
    obtain ⟨e, b⟩ := preL_all hk (k := k) (s := sz) i (by omega)
    obtain ⟨o, p1, p2⟩ := b ok
    rw [List.drop_eq_getElem_cons hi, (List.getElem?_eq_some_iff.mp hz).2] at o
    obtain ⟨o1, o2, o3⟩ := o
    have st := preL_step (k := k) hz
    have cb := cb_in ⟨(preL k sz i).2.toNat, by omega⟩ ⟨z.toNat, by omega⟩
    simp only at cb
    have ec : PySem.W.mcComb (preL k sz i).2 z = Cb (preL k sz i).2.toNat z.toNat := by unfold Cb; rw [Int.toNat_of_nonneg (by omega), Int.toNat_of_nonneg (by omega)]
    refine ⟨_, rfl, _, rfl, _, rfl, _, _, rfl, by omega, by omega, by omega, by omega, _, _, rfl, rfl, .inr ⟨by rw [ec]; omega, by rw [ec]; omega⟩, ?_⟩
    refine ⟨_, rfl, _, rfl, _, _, rfl, rfl, _, _, rfl, rfl, rfl, some (.int z), ?_⟩
    rw [st, ec]
    rfl
  · rintro σ H' ⟨rfl, v, rfl⟩
    have e := (preL_all hk (k := k) (s := sz) sz.length (Nat.le_refl _)).1
    rw [List.drop_length] at e
    rw [List.length_map]
    refine ⟨_, rfl, ?_⟩
    rw [show (preL k sz sz.length).1 = prodL k sz by rw [← e]; show _ = _ * 1; rw [Int.mul_one]]
    exact q _ (Ex.refl _)
/-! ### whether a plan fits -/
def fitsL : List Int → Int → List PyData → Bool
  | [], _, [] => true
  | x :: ns, k, d :: ds => (sizesD d && decide (useL (numsD d) ≤ k)) && (decide (x ≤ prodL k (numsD d)) && fitsL ns (k - useL (numsD d)) ds)
  | _, _, _ => false
theorem fitsL_cons (x : Int) (ns : List Int) (k : Int) (d : PyData) (ds : List PyData) : fitsL (x :: ns) k (d :: ds) = ((sizesD d && decide (useL (numsD d) ≤ k)) && (decide (x ≤ prodL k (numsD d)) && fitsL ns (k - useL (numsD d)) ds)) := rfl
def fitsD (ns : List Int) (k : Int) (d : PyData) : Bool := isTup d && decide ((itemsD d).length = ns.length) && fitsL ns k (itemsD d)
theorem from_isint {lo : Int} : ∀ e, fromD lo e = true → ∃ i, e = .int i := fun e h => by cases e <;> first | exact ⟨_, rfl⟩ | cases h
theorem sizes_get {C : Addr} {ok : Addr → Prop} {H : Hp} {n : Nat} {x : V} {d : PyData} (h : Ro K C ok H n x d) (c : sizesD d = true) : ∃ a, x = .ref a ∧ SqT K H a ((numsD d).map V.int) ∧ (numsD d) ≠ [] ∧ (∀ z ∈ numsD d, 1 ≤ z) ∧ (numsD d).length ≤ 900 := by
  unfold sizesD at c
  simp only [Bool.and_eq_true] at c
  obtain ⟨c1, c2, c3⟩ := c
  have sq : isSeq d = true := by cases d <;> first | rfl | cases c1
  obtain ⟨a, e, hs⟩ := h.ints sq c3 from_isint
  obtain ⟨_, xs, _, _, _, _, hl, hz, _⟩ := h.tupl c1
  refine ⟨a, e, ?_, fun z => ?_, fun z hz => ?_, by unfold numsD; rw [List.length_map]; omega⟩
  · rcases hs with hs | hs
    · rw [hs.2] at c1; cases c1
    · exact hs.1
  · unfold numsD at z
    rw [List.map_eq_nil_iff] at z
    rw [z] at c2
    cases c2
  · obtain ⟨y, hy, rfl⟩ := List.mem_map.mp hz
    have := List.all_eq_true.mp c3 y hy
    obtain ⟨i, rfl⟩ := from_isint y this
    exact of_decide_eq_true this
theorem fits_sizes : ∀ {ns : List Int} {k : Int} {ds : List PyData}, fitsL ns k ds = true → ds.all sizesD = true
  | [], _, [], _ => rfl
  | x :: ns, k, d :: ds, h => by
    unfold fitsL at h
    simp only [Bool.and_eq_true] at h
    rw [List.all_cons, h.1.1, fits_sizes h.2.2]
    rfl
theorem fits_plan {ns : List Int} {k : Int} {d : PyData} (h : planD d = false) : fitsD ns k d = false := by
  rw [Bool.eq_false_iff]
  intro c
  unfold fitsD at c
  simp only [Bool.and_eq_true] at c
  unfold planD at h
  rw [c.1.1, fits_sizes c.2] at h
  cases h
theorem use_pos {s : List Int} (h : ∀ z ∈ s, 1 ≤ z) (ne : s ≠ []) : 1 ≤ useL s := by
  cases s with
  | nil => exact absurd rfl ne
  | cons z s =>
    have hz := h z List.mem_cons_self
    have hs : ∀ y ∈ s, 1 ≤ y := fun y hy => h y (List.mem_cons_of_mem _ hy)
    have sn : 0 ≤ s.sum := by
      clear h ne
      induction s with
      | nil => exact Int.le_refl 0
      | cons y s ih =>
        rw [List.sum_cons]
        have := hs y List.mem_cons_self
        have := ih fun x hx => hs x (List.mem_cons_of_mem _ hx)
        omega
    unfold useL
    rw [List.sum_cons, List.length_cons]
    omega
def spFitsR (K : PySem.W.Frag) (C CR CW : Addr) : Sp := fun vs H Q E => ∃ x y z dx dy dz n m l ok ok' ok2, vs = [x, y, z] ∧ Ro K C ok H n x dx ∧ Ro K C ok' H m y dy ∧ Ro K C ok2 H l z dz ∧ (rowD dx = true → betwD 0 24 dy = true → ∀ H', Ex H H' → Q (.bl (fitsD (numsD dx) (intD dy) dz)) H') ∧
  (rowD dx = false → ∀ e H', Ex H H' → H' e = some (.xd [("given", x)]) → E (.ref CR) (some e) H') ∧ (rowD dx = true → betwD 0 24 dy = false → ∀ e H', Ex H H' → H' e = some (.xd [("given", y)]) → E (.ref CW) (some e) H')
theorem betw_get {C : Addr} {lo hi : Int} {ok : Addr → Prop} {H : Hp} {n : Nat} {x : V} {d : PyData} (h : Ro K C ok H n x d) (c : betwD lo hi d = true) : ∃ i, x = .int i ∧ d = .int i ∧ lo ≤ i ∧ i ≤ hi := by
  cases h with
  | int i => exact ⟨i, rfl, rfl, of_decide_eq_true c⟩
  | _ => cases c
theorem ok_raise_fits (T : TK K mg) : FnOk P w K mg base (L2.CX P w) 7 T.raise_fits.a T.raise_fits.fd ["row", "wires", "value"] (spFitsR K T.C T.InvalidRow.C T.InvalidWires.C) := by
  refine T.raise_fits.F.okX sc_raise_fits (fun vs H Q E h => ?_) (fun cdv A outer s H vs Q E hr h => ?_)
  · obtain ⟨x, y, z, dx, dy, dz, n, m, l, ok, ok', ok2, rfl, _⟩ := h; rfl
  obtain ⟨x, y, z, dx, dy, dz, n, m, l, ok, ok', ok2, rfl, hx, hy, hz, q, qr, qw⟩ := h
  refine ⟨_, (pss_cons (ps_expr (by exact (pe_callS (ok_check_row_and_wires T) (hr.mono (by decide)) rfl T.check_row_and_wires.m T.check_row_and_wires.F.kp T.check_row_and_wires.b (fun σ => passAt (takes_of rfl rfl rfl rfl) σ) (pa_cons (pv 0) (pa_cons (pv 1) pa_nil)))))
    (pss_cons (ps_if (PW.pt (pw_or (pt_not (pt_val (pe_call (ok_is_plan T) (hr.mono (by decide)) rfl T.is_plan.m T.is_plan.F.kp T.is_plan.b .nil pass0 (pa_cons (pv 2) pa_nil)))) (pw_or1 (pt_cmpR op_ne (pe_callB (klen K) (by rfl) T.z_len (by decide +kernel) (pa_cons (pv 2) pa_nil)) (pe_callB (klen K) (by rfl) T.z_len (by decide +kernel) (pa_cons (pv 0) pa_nil)) (nomark _))))) (pss_one (ps_ret pe_bl)) pss_nil)
    (pss_cons (ps_set (i := 3) sc_raise_fits.nd rfl (Or.inl rfl) (pv 1))
    (pss_cons (ps_for (passes_of rfl) rfl (pi_zipS (by rfl) T.z_zip (pa_cons (pv 0) (pa_cons (pv 2) pa_nil))) (pg_tup (by rfl) (pgs_cons (pg_name (i := 4) sc_raise_fits.nd rfl (Or.inl rfl)) (pgs_cons (pg_name (i := 5) sc_raise_fits.nd rfl (Or.inl rfl)) pgs_nil))) (pss_cons (ps_if (PW.pt (pw_or (pt_cmpR op_gt (pe_op op_sub (pe_op op_add (pe_callB (ksum K rfl) (by rfl) T.z_sum (by decide +kernel) (pa_cons (pv 5) pa_nil)) (pe_callB (klen K) (by rfl) T.z_len (by decide +kernel) (pa_cons (pv 5) pa_nil))) pe_int) (pv 3) (nomark _)) (pw_or1 (pt_cmpR op_lt (pe_call (ok_raised_by T) (hr.mono (by decide)) rfl T.raised_by.m T.raised_by.F.kp T.raised_by.b .nil pass0 (pa_cons (pv 5) (pa_cons (pv 3) pa_nil))) (pv 4) (nomark _))))) (pss_one (ps_ret pe_bl)) pss_nil)
    (pss_one (ps_set (i := 3) sc_raise_fits.nd rfl (Or.inl rfl) (pe_op op_add (pe_op op_sub (pe_op op_sub (pv 3) (pe_callB (ksum K rfl) (by rfl) T.z_sum (by decide +kernel) (pa_cons (pv 5) pa_nil))) (pe_callB (klen K) (by rfl) T.z_len (by decide +kernel) (pa_cons (pv 5) pa_nil))) pe_int)))))
    (pss_one (ps_ret pe_bl)))))), ?_⟩
  refine ⟨_, rfl, _, rfl, x, y, dx, dy, n, m, ok, ok', rfl, hx, hy, fun c c2 H1 e1 => ?_, fun c e H' ex he => qr c e H' ex he, fun c c2 e H' ex he => qw c c2 e H' ex he⟩
  obtain ⟨a, rfl, ha, hl16, hpos⟩ := (hx.ex e1).row c
  obtain ⟨k, rfl, rfl, k0, k1⟩ := betw_get hy c2
  refine ⟨_, rfl, z, dz, l, ok2, rfl, hz.ex e1, fun H2 e2 => ⟨planD dz, rfl, ?_⟩⟩
  have e12 := e1.trans e2
  cases hp : planD dz with
  | false => exact iteT (iteT (by have := q c c2 H2 e12; rw [fits_plan hp] at this; exact this))
  | true =>
  have hp' := hp
  unfold planD at hp'
  rw [Bool.and_eq_true] at hp'
  obtain ⟨b, us, rfl, hb, hd, _, hul, huz, uall⟩ := (hz.ex e12).tupl hp'.1
  have ha2 := ha.imp (ex_l e2) (ex_t e2)
  refine iteF ⟨_, rfl, _, us.length, rfl, .inr ⟨us, hb, rfl⟩, _, rfl, _, (numsD dx).length, rfl, ha2.imp (fun z => ⟨_, z, (List.length_map ..).symm⟩) (fun z => ⟨_, z, (List.length_map ..).symm⟩), rfl, _, rfl, ite2 (fun cc => ?_) (fun cc => ?_)⟩
  · have cc : ¬ us.length = (numsD dx).length := fun z => by simp [z] at cc
    have := q c c2 H2 e12
    unfold fitsD at this
    rw [decide_eq_false (show ¬ (itemsD dz).length = (numsD dx).length by omega), Bool.and_false, Bool.false_and] at this
    exact this
  · have cc : us.length = (numsD dx).length := by
      apply Classical.byContradiction
      intro no
      apply cc
      simp
      omega
    have q2 : ∀ H', Ex H2 H' → Q (.bl (fitsL (numsD dx) k (itemsD dz))) H' := fun H' e' => by
      have := q c c2 H' (e12.trans e')
      unfold fitsD at this
      rw [hp'.1, decide_eq_true (show (itemsD dz).length = (numsD dx).length by omega)] at this
      exact this
    clear q qr qw
    refine ⟨_, rfl, for_zipS (xs := (numsD dx).map V.int) (ys := us) (a := a) (b := b) (fun R r => ⟨_, rfl, _, rfl, r⟩) (by rw [List.length_map]; exact cc.symm) ha2 hb
      (fun i σ G => Ex H2 G ∧ ∃ (left : Int) (v4 v5 : Option V), 0 ≤ left ∧ left ≤ 24 ∧ fitsL (numsD dx) k (itemsD dz) = fitsL ((numsD dx).drop i) left ((itemsD dz).drop i) ∧ σ = [some (.ref a), some (.int k), some (.ref b), some (.int left), v4, v5])
      ⟨Ex.refl _, k, _, _, k0, k1, rfl, rfl⟩ (fun i σ G p => p.1) ?_ ?_⟩
    · rintro i u v t σ G hu hv ⟨eg, left, v4, v5, l0, l1, hf, rfl⟩ ht
      obtain ⟨x, hxi, rfl⟩ := ints_get hu
      have hi := (List.getElem?_eq_some_iff.mp hxi).1
      have hi2 : i < (itemsD dz).length := by omega
      have d1 : (numsD dx).drop i = x :: (numsD dx).drop (i + 1) := by rw [List.drop_eq_getElem_cons hi, (List.getElem?_eq_some_iff.mp hxi).2]
      have d2 : (itemsD dz).drop i = (itemsD dz)[i] :: (itemsD dz).drop (i + 1) := List.drop_eq_getElem_cons hi2
      have si := List.all_eq_true.mp hp'.2 _ (List.getElem_mem hi2)
      have ru := uall i v _ hv (List.getElem?_eq_getElem hi2)
      rw [d1, d2] at hf
      generalize (itemsD dz)[i] = e at hf si ru
      obtain ⟨g, rfl, hg, gne, gpos, _⟩ := sizes_get ru si
      have et := Ex.new (o := .tup [.int x, .ref g]) ht
      have hg2 := ex_t (eg.trans et) hg
      have up := use_pos gpos gne
      refine ⟨t, _, rfl, SqT.of upd_same, rfl, _, _, rfl, _, _, rfl, rfl, ?_⟩
      rw [fitsL_cons, si, Bool.true_and] at hf
      refine ⟨_, rfl, g, _, rfl, .inr hg2, _, rfl, _, _, rfl, .inr ⟨_, hg2, rfl⟩, _, _, rfl, rfl, _, _, rfl, rfl, _, rfl, _, _, rfl, rfl, _, rfl, ite2 (fun cu => ?_) (fun cu => ?_)⟩
      · have cu := of_decide_eq_true cu
        rw [List.length_map] at cu
        rw [decide_eq_false (show ¬ useL (numsD e) ≤ left by unfold useL; omega), Bool.false_and] at hf
        have := q2 _ (eg.trans et)
        rw [hf] at this
        exact this
      · have cu := of_decide_eq_false (Bool.eq_false_iff.mpr cu)
        rw [List.length_map] at cu
        have cu' : useL (numsD e) ≤ left := by unfold useL; omega
        rw [decide_eq_true cu', Bool.true_and] at hf
        refine ⟨_, rfl, _, rfl, g, numsD e, left, rfl, hg2, okL_of _ _ gpos cu', l1, fun H3 e3 => ⟨_, rfl, _, _, rfl, rfl, _, rfl, ite2 (fun cp => ?_) (fun cp => ?_)⟩⟩
        · have cp := of_decide_eq_true cp
          rw [decide_eq_false (show ¬ x ≤ prodL left (numsD e) by omega), Bool.false_and] at hf
          have := q2 _ ((eg.trans et).trans e3)
          rw [hf] at this
          exact this
        · have cp := of_decide_eq_false (Bool.eq_false_iff.mpr cp)
          rw [decide_eq_true (show x ≤ prodL left (numsD e) by omega), Bool.true_and] at hf
          have hg3 := ex_t e3 hg2
          refine ⟨_, rfl, _, rfl, g, _, rfl, .inr hg3, _, _, rfl, rfl, _, rfl, _, _, rfl, .inr ⟨_, hg3, rfl⟩, _, _, rfl, rfl, _, _, rfl, rfl, (eg.trans et).trans e3, left - useL (numsD e), some (.int x), some (.ref g), by omega, by omega, hf, ?_⟩
          rw [show left - useL (numsD e) = left - (numsD e).sum - (((numsD e).map V.int).length : Int) + 1 by unfold useL; rw [List.length_map]; omega]
          rfl
    · rintro σ G ⟨eg, left, v4, v5, l0, l1, hf, rfl⟩
      rw [List.length_map, List.drop_length, show (numsD dx).length = (itemsD dz).length by omega, List.drop_length] at hf
      have := q2 G eg
      rw [hf] at this
      exact this
end
end L2.U


set_option Elab.async false
set_option linter.all false
set_option maxRecDepth 100000
set_option maxHeartbeats 4000000
namespace L2.U
open PySem PySem.Spec PyProof.Rows Evl
section
variable {P : Program} {w : World} {K : PySem.W.Frag} {mg : Str → Option Value} {base : Heap}
theorem rd_rowK {ok : Addr → Prop} {H : Hp} {m : Nat} {x : V} {r : List Pr} (h : Rd K ok H m x (rowD2 r)) : ∃ b us, x = .ref b ∧ H b = some (.lst us) ∧ us.length = r.length ∧ ∀ (i : Nat) (e : Pr), r[i]? = some e → ∃ t s, us[i]? = some (.ref t) ∧ SqT K H t [.int e.1, .ref s] ∧ SqT K H s (e.2.map V.int) ∧ ok s := by
  unfold rowD2 at h
  generalize hd : (PyData.list (r.map prD)) = d at h
  cases h with
  | lst h ha hl hz all =>
    cases hd
    rw [List.length_map] at hl
    refine ⟨_, _, rfl, h, hl, fun i e he => ?_⟩
    have hi := (List.getElem?_eq_some_iff.mp he).1
    have hx := List.getElem?_eq_getElem (show i < _ by rw [hl]; exact hi)
    have rr := all i _ (prD e) hx (by rw [List.getElem?_map, he]; rfl)
    obtain ⟨t, s, e1, _, os, h1, h2⟩ := rd_prD rr
    exact ⟨t, s, by rw [hx, e1], h1, h2, os⟩
  | _ => cases hd
def tupI (s : List Int) : PyData := .tuple (s.map PyData.int)
def planP (L : List (List Int)) : PyData := .tuple (L.map tupI)
def plG : List Int → Nat → List (List Int)
  | [], _ => []
  | x :: ns, k => (bestP (toldP k) k (leftTo x (vP k) k).toNat).2 :: plG ns (leftTo x (vP k) k).toNat
theorem plG_len : ∀ (ns : List Int) (k : Nat), (plG ns k).length = ns.length
  | [], _ => rfl
  | x :: ns, k => congrArg (· + 1) (plG_len ns _)
theorem rd_tupI {ok : Addr → Prop} {H : Hp} {s : Addr} {t : List Int} (hs : SqT K H s (t.map V.int)) (os : ok s) (hl : t.length ≤ 900) : Rd K ok H 1 (.ref s) (tupI t) := by
  have rd := rdl_ints (K := K) (ok := ok) (H := H) (n := 0) t
  exact .tup hs os rd.1 (by rw [List.length_map]; exact hl) rd.2
/-- tuples of ints, whatever address they have -/
def TupL (K : PySem.W.Frag) (ok : Addr → Prop) (G : Hp) (rs : List V) (dn : List (List Int)) : Prop := rs.length = dn.length ∧ ∀ (j : Nat) (y : V) (s : List Int), rs[j]? = some y → dn[j]? = some s → ∃ a, y = .ref a ∧ ok a ∧ SqT K G a (s.map V.int) ∧ s.length ≤ 900
theorem sqt_upd {G : Hp} {R s : Addr} {rs : List V} {xs : List V} {o : HO} (h : SqT K G s xs) (hR : G R = some (.lst rs)) : SqT K (upd G R o) s xs := by
  rcases h with (h | ⟨p, h⟩) | h
  · exact .inl (.inl (by rw [upd_ne (fun z => by rw [z, hR] at h; cases h)]; exact h))
  · exact .inl (.inr ⟨p, by rw [upd_ne (fun z => by rw [z, hR] at h; cases h)]; exact h⟩)
  · exact .inr h
theorem TupL.ex {ok : Addr → Prop} {G G' : Hp} {rs : List V} {dn : List (List Int)} (e : Ex G G') (h : TupL K ok G rs dn) : TupL K ok G' rs dn := ⟨h.1, fun j y s hy hs => by
  obtain ⟨a, e1, o, h1, l⟩ := h.2 j y s hy hs
  exact ⟨a, e1, o, ex_t e h1, l⟩⟩
theorem TupL.upd {ok : Addr → Prop} {G : Hp} {rs : List V} {dn : List (List Int)} {R : Addr} {zs : List V} {o : HO} (hR : G R = some (.lst zs)) (h : TupL K ok G rs dn) : TupL K ok (L2.upd G R o) rs dn := ⟨h.1, fun j y s hy hs => by
  obtain ⟨a, e1, oa, h1, l⟩ := h.2 j y s hy hs
  exact ⟨a, e1, oa, sqt_upd h1 hR, l⟩⟩
theorem TupL.snoc {ok : Addr → Prop} {G : Hp} {rs : List V} {dn : List (List Int)} {a : Addr} {s : List Int} (h : TupL K ok G rs dn) (oa : ok a) (ha : SqT K G a (s.map V.int)) (l : s.length ≤ 900) : TupL K ok G (rs ++ [.ref a]) (dn ++ [s]) := by
  refine ⟨by rw [List.length_append, List.length_append, h.1]; rfl, fun j y t hy ht => ?_⟩
  by_cases c : j < rs.length
  · rw [List.getElem?_append_left c] at hy
    rw [List.getElem?_append_left (by rw [← h.1]; exact c)] at ht
    exact h.2 j y t hy ht
  · have hi := (List.getElem?_eq_some_iff.mp hy).1
    rw [List.length_append, List.length_singleton] at hi
    obtain rfl : j = rs.length := by omega
    rw [List.getElem?_append_right (Nat.le_refl _), Nat.sub_self] at hy
    rw [h.1, List.getElem?_append_right (Nat.le_refl _), Nat.sub_self] at ht
    cases Option.some.inj hy
    cases Option.some.inj ht
    exact ⟨a, rfl, oa, ha, l⟩
theorem TupL.rdl {ok : Addr → Prop} {G : Hp} {rs : List V} {dn : List (List Int)} (h : TupL K ok G rs dn) : RdL K ok G 1 rs (dn.map tupI) := ⟨by rw [List.length_map, h.1], fun i x d hx hd => by
  rw [List.getElem?_map] at hd
  obtain ⟨s, hs, rfl⟩ := Option.map_eq_some_iff.mp hd
  obtain ⟨a, rfl, oa, ha, l⟩ := h.2 i x s hx hs
  exact rd_tupI ha oa l⟩
def spPlanD (K : PySem.W.Frag) (C CR CW : Addr) : Sp := fun vs H Q E => ∃ x y dx dy n m ok ok', vs = [x, y] ∧ Ro K C ok H n x dx ∧ Ro K C ok' H m y dy ∧
  (rowD dx = true → betwD 0 24 dy = true → canG (numsD dx) (intD dy).toNat = true → ∀ p H', Ex H H' → Rd K (Fr H) H' 2 (.ref p) (planP (plG (numsD dx) (intD dy).toNat)) → Q (.ref p) H') ∧
  (rowD dx = true → betwD 0 24 dy = true → canG (numsD dx) (intD dy).toNat = false → ∀ H', Ex H H' → Q .non H') ∧
  (rowD dx = false → ∀ e H', Ex H H' → H' e = some (.xd [("given", x)]) → E (.ref CR) (some e) H') ∧ (rowD dx = true → betwD 0 24 dy = false → ∀ e H', Ex H H' → H' e = some (.xd [("given", y)]) → E (.ref CW) (some e) H')
theorem ok_raise_plan (T : TK K mg) : FnOk P w K mg base (L2.CX P w) 7 T.raise_plan.a T.raise_plan.fd ["row", "wires"] (spPlanD K T.C T.InvalidRow.C T.InvalidWires.C) := by
  refine T.raise_plan.F.okX sc_raise_plan (fun vs H Q E h => ?_) (fun cdv A outer s H vs Q E hr h => ?_)
  · obtain ⟨x, y, dx, dy, n, m, ok, ok', rfl, _⟩ := h; rfl
  obtain ⟨x, y, dx, dy, n, m, ok, ok', rfl, hx, hy, q1, q2, qr, qw⟩ := h
  refine ⟨_, (pss_cons (ps_expr (by exact (pe_callS (ok_check_row_and_wires T) (hr.mono (by decide)) rfl T.check_row_and_wires.m T.check_row_and_wires.F.kp T.check_row_and_wires.b (fun σ => passAt (takes_of rfl rfl rfl rfl) σ) (pa_cons (pv 0) (pa_cons (pv 1) pa_nil)))))
    (pss_cons (ps_set (i := 2) sc_raise_plan.nd rfl (Or.inl rfl) (pe_call (ok_most_told T) (hr.mono (by decide)) rfl T.most_told.m T.most_told.F.kp T.most_told.b .nil pass0 (pa_cons (pv 1) pa_nil)))
    (pss_cons (ps_set (i := 3) sc_raise_plan.nd rfl (Or.inl rfl) (pe_lst pa_nil))
    (pss_cons (ps_set (i := 4) sc_raise_plan.nd rfl (Or.inl rfl) (pv 1))
    (pss_cons (ps_for (passes_of rfl) rfl (kpis K (pv 0)) (pg_name (i := 5) sc_raise_plan.nd rfl (Or.inl rfl)) (pss_cons (ps_set (i := 6) sc_raise_plan.nd rfl (Or.inl rfl) (pe_call (ok_most_rest T) (hr.mono (by decide)) rfl T.most_rest.m T.most_rest.F.kp T.most_rest.b .nil pass0 (pa_cons (pv 5) (pa_cons (pe_ix (kixl K) (pv 2) (pv 4) (fun _ _ => rfl)) pa_nil))))
    (pss_cons (ps_if (pt_cmpR op_isN (pv 6) pe_non (nomark _)) (pss_one (ps_ret pe_non)) pss_nil)
    (pss_cons (ps_expr (pe_bm PySem.F.plainAttrs_list PySem.F.slot_list_append PySem.F.type_list_append mt_append (pv 3) (pa_cons (pe_ix (kixt K) (pe_ix (kixl K) (pe_ix (kixl K) (pv 2) (pv 4) (fun _ _ => rfl)) (pv 6) (fun _ _ => rfl)) pe_int (fun _ _ => rfl)) pa_nil)))
    (pss_one (ps_set (i := 4) sc_raise_plan.nd rfl (Or.inl rfl) (pv 6)))))))
    (pss_one (ps_ret (pe_callTy (ktuple K) (by rfl) T.z_tuple (by decide +kernel) (pa_cons (pv 3) pa_nil))))))))), ?_⟩
  refine ⟨_, rfl, _, rfl, x, y, dx, dy, n, m, ok, ok', rfl, hx, hy, fun c c2 H1 e1 => ?_, fun c e H' ex he => qr c e H' ex he, fun c c2 e H' ex he => qw c c2 e H' ex he⟩
  obtain ⟨k0, rfl, rfl, k00, k01⟩ := betw_get hy c2
  obtain ⟨k, rfl⟩ : ∃ k : Nat, k0 = (k : Int) := ⟨k0.toNat, by omega⟩
  have hk : k ≤ 24 := by omega
  have q1 := q1 c c2
  have q2 := q2 c c2
  have ek : (intD (.int (k : Int))).toNat = k := rfl
  rw [ek] at q1 q2
  clear qr qw c2 k00 k01
  refine ⟨_, rfl, k, rfl, hk, fun p H2 e2 rp => ⟨Nat.zero_le _, fun R hR => ⟨_, rfl, ?_⟩⟩⟩
  have e12 := e1.trans e2
  have e3 := Ex.new (o := .lst []) hR
  obtain ⟨a, rfl, ha, hl16, _⟩ := (hx.ex e12).row c
  obtain ⟨p', vs, hpe, hvs, hvl, vall⟩ := rd_pt rp
  cases hpe
  have R2 : H R = none := fresh_back e12 hR
  refine for_seqV (i := 0) (H0 := H2) rfl ha e3 (fun i σ H' => Ex H2 H' ∧ ∃ (rs : List V) (dn : List (List Int)) (l : Nat) (v5 v6 : Option V), H' R = some (.lst rs) ∧ rs.length = i ∧ TupL K (fun a => H a = none) H' rs dn ∧ plG (numsD dx) k = dn ++ plG ((numsD dx).drop i) l ∧ l ≤ k ∧ canG (numsD dx) k = canG ((numsD dx).drop i) l ∧ σ = [some (.ref a), some (.int (k : Int)), some (.ref p), some (.ref R), some (.int (l : Int)), v5, v6]) ⟨e3, [], [], k, _, _, upd_same, rfl, ⟨rfl, fun j y s h _ => by cases h⟩, by rw [List.drop_zero]; rfl, Nat.le_refl _, by rw [List.drop_zero], rfl⟩ (fun i σ H' p => p.1) ?_ ?_
  · rintro i y σ H' hy ⟨e, rs, dn, l, v5, v6, hRR, hrl, rl, hpl, hlk, hc, rfl⟩
    obtain ⟨z, hz, rfl⟩ := ints_get hy
    have hi := (List.getElem?_eq_some_iff.mp hz).1
    have dr : (numsD dx).drop i = z :: (numsD dx).drop (i + 1) := by rw [List.drop_eq_getElem_cons hi]; congr 1; exact (List.getElem?_eq_some_iff.mp hz).2
    rw [dr] at hc hpl
    obtain ⟨v, hv, rv⟩ := vall l (rowP l) (toldP_at (k + 1) l (by omega))
    refine ⟨_, rfl, _, rfl, _, rfl, p, vs, _, v, rfl, rfl, SqL.of (e _ _ hvs), atI_nat hv, z, v, l, _, _, rfl, rv.ex e, by omega, fun H3 e4 => ?_⟩
    have e23 := e.trans e4
    have lt := leftTo_lt z (vP l) l
    unfold lastO
    by_cases cc : leftTo z (vP l) l < 0
    · rw [if_pos cc]
      refine ⟨_, rfl, rfl, _, rfl, iteT ?_⟩
      refine q2 ?_ H3 (e12.trans e23)
      rw [hc]
      show (decide _ && _) = false
      rw [decide_eq_false (by omega)]
      rfl
    · rw [if_neg cc]
      refine ⟨_, rfl, rfl, _, rfl, iteF ?_⟩
      obtain ⟨b, us, rfl, hb, _, uall⟩ := rd_rowK (rv.ex e23)
      have hL : (leftTo z (vP l) l).toNat < l := by omega
      obtain ⟨t, s, hu, h1, h2, os⟩ := uall (leftTo z (vP l) l).toNat _ (rowP_at hL)
      have bi := (best_in ⟨l, by omega⟩ ⟨(leftTo z (vP l) l).toNat, by omega⟩ hL).1
      simp only at bi
      have hR3 := e4 _ _ hRR
      refine ⟨_, rfl, .inl ⟨rfl, _, SqL.of hR3⟩, _, rfl, _, rfl, p, vs, _, .ref b, rfl, rfl, SqL.of (e23 _ _ hvs), atI_nat hv, _, rfl, b, us, _, .ref t, rfl, rfl, SqL.of hb, at_of (show leftTo z (vP l) l = ((leftTo z (vP l) l).toNat : Int) by omega) hu, t, _, 1, .ref s, rfl, rfl, h1, rfl, R, rs, _, rfl, rfl, hR3, small1000 (by omega), _, rfl, ?_⟩
      refine ⟨e23.mut hR, rs ++ [.ref s], dn ++ [(bestP (toldP l) l (leftTo z (vP l) l).toNat).2], (leftTo z (vP l) l).toNat, some (.int z), some (.int (leftTo z (vP l) l)), upd_same, by rw [List.length_append, hrl]; rfl, ?_, ?_, by omega, ?_, ?_⟩
      · exact ((rl.ex e4).upd hR3).snoc (fresh_back e1 os) (sqt_upd h2 hR3) (by omega)
      · rw [hpl, List.append_assoc]
        rfl
      · rw [hc]
        show (decide _ && _) = _
        rw [decide_eq_true (by omega)]
        rfl
      · rw [Int.toNat_of_nonneg (by omega)]
        rfl
  · rintro σ H' ⟨e, rs, dn, l, v5, v6, hRR, hrl, rl, hpl, hlk, hc, rfl⟩
    rw [List.length_map] at hc hpl hrl
    rw [List.drop_length] at hc hpl
    refine ⟨_, rfl, R, rs, rfl, .inl ⟨SqL.of hRR, fun t ht => q1 hc t _ ((e12.trans e).trans (Ex.new ht)) ?_⟩⟩
    rw [hpl, show dn ++ plG [] l = dn from List.append_nil dn]
    have r2 := (rl.ex (Ex.new (o := .tup rs) ht)).rdl
    exact .tup (SqT.of upd_same) (fresh_back (e12.trans e) ht) r2.1 (by omega) r2.2
theorem okc_raise_plan (T : TK K mg) : FnOk P w K mg base CX0 7 T.raise_plan.a T.raise_plan.fd ["row", "wires"] (fun vs H Q _ => ∃ x dx n ok k, vs = [x, .int ((k : Nat) : Int)] ∧ Ro K T.C ok H n x dx ∧ rowD dx = true ∧ k ≤ 24 ∧ (canG (numsD dx) k = true → ∀ p H', Ex H H' → Rd K (Fr H) H' 2 (.ref p) (planP (plG (numsD dx) k)) → Q (.ref p) H') ∧ (canG (numsD dx) k = false → ∀ H', Ex H H' → Q .non H')) := fn_calm (ok_raise_plan T) fun vs H Q E h => by
  obtain ⟨x, dx, n, ok, k, rfl, hx, c, hk, q1, q2⟩ := h
  have b : betwD 0 24 (.int (k : Int)) = true := decide_eq_true ⟨by omega, by omega⟩
  exact ⟨x, _, dx, _, n, 0, ok, fun _ => True, rfl, hx, .int _, fun _ _ => q1, fun _ _ => q2, fun z => no_way c z, fun _ z => no_way b z⟩
def spCanRx (K : PySem.W.Frag) (C CR CW : Addr) : Sp := fun vs H Q E => ∃ x y dx dy n m ok ok', vs = [x, y] ∧ Ro K C ok H n x dx ∧ Ro K C ok' H m y dy ∧ (rowD dx = true → betwD 0 24 dy = true → ∀ (b : Bool) H', Ex H H' → Q (.bl b) H') ∧
  (rowD dx = false → ∀ e H', Ex H H' → H' e = some (.xd [("given", x)]) → E (.ref CR) (some e) H') ∧ (rowD dx = true → betwD 0 24 dy = false → ∀ e H', Ex H H' → H' e = some (.xd [("given", y)]) → E (.ref CW) (some e) H')
theorem ok_can_raise (T : TK K mg) : FnOk P w K mg base (L2.CX P w) 8 T.can_raise.a T.can_raise.fd ["row", "wires"] (spCanRx K T.C T.InvalidRow.C T.InvalidWires.C) := by
  refine T.can_raise.F.okX sc_can_raise (fun vs H Q E h => ?_) (fun cdv A outer s H vs Q E hr h => ?_)
  · obtain ⟨x, y, dx, dy, n, m, ok, ok', rfl, _⟩ := h; rfl
  obtain ⟨x, y, dx, dy, n, m, ok, ok', rfl, hx, hy, q, qr, qw⟩ := h
  refine ⟨_, (pss_one (ps_ret (pe_cmpR op_notN (by exact (pe_callS (ok_raise_plan T) (hr.mono (by decide)) rfl T.raise_plan.m T.raise_plan.F.kp T.raise_plan.b (fun σ => passAt (takes_of rfl rfl rfl rfl) σ) (pa_cons (pv 0) (pa_cons (pv 1) pa_nil)))) pe_non (nomark _)))), ?_⟩
  exact ⟨_, rfl, _, rfl, x, y, dx, dy, n, m, ok, ok', rfl, hx, hy, fun c c2 _ p H' e _ => ⟨rfl, q c c2 true H' e⟩, fun c c2 _ H' e => ⟨rfl, q c c2 false H' e⟩, qr, qw⟩
def spLeastsR (K : PySem.W.Frag) (C CR : Addr) : Sp := fun vs H Q E => ∃ (x : V) (dx : PyData) (n : Nat) (ok : Addr → Prop), vs = [x] ∧ Ro K C ok H n x dx ∧ (rowD dx = true → ∀ p H', H p = none → Ex H H' → H' p = some (.lst ((leastL (numsD dx)).map optV)) → Q (.ref p) H') ∧
  (rowD dx = false → ∀ e H', Ex H H' → H' e = some (.xd [("given", x)]) → E (.ref CR) (some e) H')
theorem ok_leasts (T : TK K mg) : FnOk P w K mg base (L2.CX P w) 7 T.leasts.a T.leasts.fd ["row"] (spLeastsR K T.C T.InvalidRow.C) := by
  refine T.leasts.F.okX sc_leasts (fun vs H Q E h => ?_) (fun cdv A outer s H vs Q E hr h => ?_)
  · obtain ⟨x, dx, n, ok, rfl, _⟩ := h; rfl
  obtain ⟨x, dx, n, ok, rfl, hx, q, qr⟩ := h
  refine ⟨_, (pss_cons (ps_expr (by exact (pe_callS (ok_check_row T) (hr.mono (by decide)) rfl T.check_row.m T.check_row.F.kp T.check_row.b (fun σ => passAt (takes_of rfl rfl rfl rfl) σ) (pa_cons (pv 0) pa_nil))))
    (pss_cons (ps_set (i := 1) sc_leasts.nd rfl (Or.inl rfl) (pe_call (ok_most_told T) (hr.mono (by decide)) rfl T.most_told.m T.most_told.F.kp T.most_told.b .nil pass0 (pa_cons (pe_glob (v := .int 24) rfl T.c_MOST_WIRES_wires ⟨_, rfl⟩) pa_nil)))
    (pss_cons (ps_set (i := 2) sc_leasts.nd rfl (Or.inl rfl) (pe_lst (pa_cons pe_int pa_nil)))
    (pss_cons (ps_for (passes_of rfl) rfl (kpis K (pe_revS (pv 0))) (pg_name (i := 3) sc_leasts.nd rfl (Or.inl rfl)) (pss_one (ps_expr (pe_bm PySem.F.plainAttrs_list PySem.F.slot_list_append PySem.F.type_list_append mt_append (pv 2) (pa_cons (pe_call (ok_least T) (hr.mono (by decide)) rfl T.least.m T.least.F.kp T.least.b .nil pass0 (pa_cons (pv 3) (pa_cons (pe_ix (kixl K) (pv 2) (pe_un un_neg pe_int) (fun _ _ => rfl)) (pa_cons (pv 1) pa_nil)))) pa_nil)))))
    (pss_one (ps_ret (pe_revL (pv 2)))))))), ?_⟩
  refine ⟨_, rfl, x, dx, n, ok, rfl, hx, fun c H1 e1 => ⟨24, rfl, by omega, fun p H2 e2 rp => ⟨one_le, fun F hF => ?_⟩⟩, fun c e H' ex he => qr c e H' ex he⟩
  have q := q c
  have e12 := e1.trans e2
  have e3 := Ex.new (o := .lst [.int 0]) hF
  obtain ⟨a, rfl, ha, hl16, _⟩ := (hx.ex e12).row c
  have F0 : H F = none := fresh_back e12 hF
  have ha3 : SqL K (upd H2 F (.lst [.int 0])) a ((numsD dx).map V.int) ∨ SqT K (upd H2 F (.lst [.int 0])) a ((numsD dx).map V.int) := ha.imp (ex_l e3) (ex_t e3)
  have hF3 := upd_same (H := H2) (a := F) (o := .lst [.int 0])
  have rp3 := rp.ex e3
  generalize upd H2 F (.lst [.int 0]) = H3 at e3 ha3 hF3 rp3 ⊢
  generalize numsD dx = ns at ha3 q hl16
  refine for_revV (i := 0) (F := F) rfl ha3 hF3 (fun i σ H' => Ex H2 H' ∧ ∃ v3 : Option V, H' F = some (.lst (((leastL (ns.reverse.take i).reverse).map optV).reverse)) ∧ σ = [some (.ref a), some (.ref p), some (.ref F), v3]) (fun H' e => ⟨e3.trans e, _, e _ _ hF3, rfl⟩) ?_ ?_
  · rintro Pr cl i y σ H' hy ⟨e, v3, hFF, rfl⟩ hP
    have hi := (List.getElem?_eq_some_iff.mp hy).1
    rw [List.length_reverse, List.length_map] at hi
    rw [← List.map_reverse] at hy
    obtain ⟨z, hz, rfl⟩ := ints_get hy
    have et : (ns.reverse.take (i + 1)).reverse = z :: (ns.reverse.take i).reverse := by
      rw [List.take_add_one, hz, List.reverse_append]
      rfl
    rw [et]
    have lms : (ns.reverse.take i).reverse.length ≤ 16 := by rw [List.length_reverse, List.length_take, List.length_reverse]; omega
    generalize (ns.reverse.take i).reverse = ms at hFF lms
    obtain ⟨r, hr⟩ := leastL_head ms
    have hl : ((leastL ms).map optV).reverse = (r.map optV).reverse ++ [optV (leastO ms)] := by rw [hr, List.map_cons, List.reverse_cons]
    refine ⟨_, rfl, .inl ⟨rfl, _, SqL.of hFF⟩, _, rfl, _, rfl, 1, rfl, F, _, _, optV (leastO ms), rfl, rfl, SqL.of hFF, by rw [hl]; exact at_neg1, _, rfl, z, leastO ms, _, _, _, rfl, (rp.ex e), fun H4 e4 => ?_⟩
    have hF4 := e4 _ _ hFF
    refine ⟨F, _, _, rfl, rfl, hF4, small1000 (by rw [List.length_reverse, List.length_map, leastL_len]; omega), ⟨(e.trans e4).mut hF, _, by rw [upd_same]; show _ = some (HO.lst ((optV (nextO z (leastO ms)) :: (leastL ms).map optV).reverse)); rw [List.reverse_cons], rfl⟩, cl H' _ ((But.of e4).trans But.upd) hP⟩
  · rintro σ H' ⟨e, v3, hFF, rfl⟩
    rw [List.length_map, ← List.length_reverse, List.take_length, List.reverse_reverse] at hFF
    exact ⟨_, rfl, F, _, rfl, SqL.of hFF, fun g hg => q g _ (fresh_back (e12.trans e) hg) ((e12.trans e).trans (Ex.new hg)) (by rw [upd_same, List.reverse_reverse])⟩
theorem okc_leasts (T : TK K mg) : FnOk P w K mg base CX0 7 T.leasts.a T.leasts.fd ["row"] (fun vs H Q _ => ∃ (x : V) (dx : PyData) (n : Nat) (ok : Addr → Prop), vs = [x] ∧ Ro K T.C ok H n x dx ∧ rowD dx = true ∧ ∀ p H', H p = none → Ex H H' → H' p = some (.lst ((leastL (numsD dx)).map optV)) → Q (.ref p) H') := fn_calm (ok_leasts T) fun vs H Q E h => by
  obtain ⟨x, dx, n, ok, rfl, hx, c, q⟩ := h
  exact ⟨x, dx, n, ok, rfl, hx, fun _ => q, fun z => no_way c z⟩
/-! ### the greatest number on so many wires -/
def IsMx (k : Nat) (m : Int) : Prop := m ∈ rowR k ∧ ∀ y ∈ rowR k, y ≤ m
theorem vR_self : ∀ k : Fin 25, vR k.val k.val = 0 := by decide +kernel
theorem mem_rowR {k : Nat} {y : Int} : y ∈ rowR k ↔ ∃ l, l ≤ k ∧ y = vR k l := by
  unfold rowR
  rw [List.mem_map]
  exact ⟨fun ⟨l, hl, e⟩ => ⟨l, by have := List.mem_range.mp hl; omega, e.symm⟩, fun ⟨l, hl, e⟩ => ⟨l, List.mem_range.mpr (by omega), e.symm⟩⟩
theorem mem_rowP {k : Nat} {y : Int} : y ∈ (rowP k).map Prod.fst ↔ ∃ l, l < k ∧ y = vP k l := by
  unfold rowP
  rw [List.map_map, List.mem_map]
  exact ⟨fun ⟨l, hl, e⟩ => ⟨l, List.mem_range.mp hl, e.symm⟩, fun ⟨l, hl, e⟩ => ⟨l, List.mem_range.mpr hl, e.symm⟩⟩
theorem mx_zero : IsMx 0 0 := ⟨mem_rowR.mpr ⟨0, Nat.le_refl _, by decide +kernel⟩, fun y hy => by
  obtain ⟨l, hl, rfl⟩ := mem_rowR.mp hy
  obtain rfl : l = 0 := by omega
  decide +kernel⟩
theorem mx_of {k : Nat} {m : Int} (hk : k ≤ 24) (h : m ∈ (rowP k).map Prod.fst) (hm : ∀ y ∈ (rowP k).map Prod.fst, y ≤ m) : IsMx k m := by
  obtain ⟨r, hr, e⟩ := mem_rowP.mp h
  have sv := same_val ⟨k, by omega⟩ ⟨r, by omega⟩ hr
  have vi := (val_in ⟨k, by omega⟩ ⟨r, by omega⟩ hr).1
  simp only at sv vi
  refine ⟨mem_rowR.mpr ⟨r, by omega, by rw [e, sv]⟩, fun y hy => ?_⟩
  obtain ⟨l, hl, rfl⟩ := mem_rowR.mp hy
  by_cases c : l < k
  · have sl := same_val ⟨k, by omega⟩ ⟨l, by omega⟩ c
    simp only at sl
    rw [← sl]
    exact hm _ (mem_rowP.mpr ⟨l, c, rfl⟩)
  · obtain rfl : l = k := by omega
    have := vR_self ⟨l, by omega⟩
    simp only at this
    rw [this, e, sv]
    omega
theorem mx_unique {k : Nat} {m n : Int} (h : IsMx k m) (g : IsMx k n) : m = n := by
  have := h.2 n g.1
  have := g.2 m h.1
  omega
def spMostR (K : PySem.W.Frag) (C CW : Addr) : Sp := fun vs H Q E => ∃ y dy m ok, vs = [y] ∧ Ro K C ok H m y dy ∧ (betwD 0 24 dy = true → ∀ mx H', Ex H H' → IsMx (intD dy).toNat mx → Q (.int mx) H') ∧ (betwD 0 24 dy = false → ∀ e H', Ex H H' → H' e = some (.xd [("given", y)]) → E (.ref CW) (some e) H')
theorem ok_most_raised (T : TK K mg) : FnOk P w K mg base (L2.CX P w) 5 T.most_raised.a T.most_raised.fd ["wires"] (spMostR K T.C T.InvalidWires.C) := by
  refine T.most_raised.F.okX sc_most_raised (fun vs H Q E h => ?_) (fun cdv A outer s H vs Q E hr h => ?_)
  · obtain ⟨y, dy, m, ok, rfl, _⟩ := h; rfl
  obtain ⟨y, dy, m, ok, rfl, hy, q, qw⟩ := h
  refine ⟨_, (pss_cons (ps_expr (by exact (pe_callS (ok_check_wires T) (hr.mono (by decide)) rfl T.check_wires.m T.check_wires.F.kp T.check_wires.b (fun σ => passAt (takes_of rfl rfl rfl rfl) σ) (pa_cons (pv 0) pa_nil))))
    (pss_one (ps_ret (pe_callBK (kmaxD K rfl hr.units) (by rfl) T.z_max (by decide +kernel) (pa_cons (pe_lc (own := [("number", 1), ("_", 2)]) (g := gTup K 2 (gCons (gName 1) (gCons (gName 2) gNil))) (by rfl) sc_most_raised.nd (kpil K (pe_ix (kixl K) (pe_call (ok_most_told T) (hr.mono (by decide)) rfl T.most_told.m T.most_told.F.kp T.most_told.b .nil pass0 (pa_cons (pv 0) pa_nil)) (pv 0) (fun _ _ => rfl))) (blkOk_by (own := [("number", 1), ("_", 2)]) (N := ["wires", "number", "_"]) (sc := defScope s_most_raised) (by decide +kernel)) (fun _ _ _ _ _ => (kpg_tup K (by rfl) (pgs_cons (pg_name (i := 1) sc_most_raised.nd rfl (Or.inl rfl)) (pgs_cons (pg_name (i := 2) sc_most_raised.nd rfl (Or.inl rfl)) pgs_nil)))) (fun _ _ _ _ _ => pts_nil) (fun _ _ _ _ _ => (pv 1))) pa_nil) (pk_cons pe_int pk_nil))))), ?_⟩
  refine ⟨_, rfl, y, dy, m, ok, rfl, hy, fun c H1 e1 => ?_, fun c e H' ex he => qw c e H' ex he⟩
  obtain ⟨k0, rfl, rfl, k00, k01⟩ := betw_get hy c
  obtain ⟨k, rfl⟩ : ∃ k : Nat, k0 = (k : Int) := ⟨k0.toNat, by omega⟩
  have q := q c
  have ek : (intD (.int (k : Int))).toNat = k := rfl
  rw [ek] at q
  refine ⟨_, rfl, k, rfl, by omega, fun p H2 e2 rp => ?_⟩
  have e12 := e1.trans e2
  obtain ⟨p', vs, hpe, hvs, hvl, vall⟩ := rd_pt rp
  cases hpe
  obtain ⟨v, hv, rv⟩ := vall k (rowP k) (toldP_at (k + 1) k (by omega))
  obtain ⟨b, us, rfl, hb, hul, uall⟩ := rd_row rv
  rw [rowP_len] at hul
  refine ⟨_, rfl, p, vs, _, .ref b, rfl, rfl, SqL.of hvs, atI_nat hv, b, rfl, ⟨us, SqL.of hb⟩, fun Dl hD => lc_list (xs := us) (Cw H2 (fun _ => true) (fun i => .int (vP k i)) Dl) ⟨hD, Ex.new hD, upd_same⟩ (fun i H' _ p => ex_l p.2.1 (SqL.of hb)) ?_ ?_⟩
  · intro i x H' hx pc
    have hi := (List.getElem?_eq_some_iff.mp hx).1
    obtain ⟨t, s, hu, h1, h2⟩ := uall i _ (rowP_at (show i < k by omega))
    rw [hx] at hu
    cases hu
    exact ⟨t, _, rfl, ex_t pc.2.1 h1, rfl, _, _, rfl, _, _, rfl, rfl, rfl, cw_turn pc (by omega) (fun H3 _ Q k => k H3 (Ex.refl _)) (fun _ => ev_var rfl)⟩
  · intro H' pc
    have e : given us.length (fun _ => true) (fun i => V.int (vP k i)) = ((rowP k).map Prod.fst).map V.int := by
      rw [given_all, hul]
      unfold rowP
      rw [List.map_map, List.map_map]
      rfl
    have hD := pc.2.2
    rw [e] at hD
    exact ⟨Dl, (rowP k).map Prod.fst, .int 0, rfl, rfl, SqL.of hD, fun z => by
      have l0 : k = 0 := by
        have := congrArg List.length z
        rw [List.length_map, rowP_len] at this
        exact this
      subst l0
      exact q 0 H' (e12.trans pc.2.1) mx_zero, fun mx h1 h2 => q mx H' (e12.trans pc.2.1) (mx_of (by omega) h1 h2)⟩
theorem okc_most_raised (T : TK K mg) : FnOk P w K mg base CX0 5 T.most_raised.a T.most_raised.fd ["wires"] (fun vs H Q _ => ∃ k : Nat, vs = [.int (k : Int)] ∧ k ≤ 24 ∧ ∀ mx H', Ex H H' → IsMx k mx → Q (.int mx) H') := fn_calm (ok_most_raised T) fun vs H Q E h => by
  obtain ⟨k, rfl, hk, q⟩ := h
  exact ⟨_, _, 0, fun _ => True, rfl, .int _, fun _ => q, fun z => no_way (decide_eq_true (⟨by omega, by omega⟩ : 0 ≤ (k : Int) ∧ (k : Int) ≤ 24)) z⟩
theorem okc_raise_fits (T : TK K mg) : FnOk P w K mg base CX0 7 T.raise_fits.a T.raise_fits.fd ["row", "wires", "value"] (fun vs H Q _ => ∃ x z dx dz n l ok ok2 k, vs = [x, .int ((k : Nat) : Int), z] ∧ Ro K T.C ok H n x dx ∧ Ro K T.C ok2 H l z dz ∧ rowD dx = true ∧ k ≤ 24 ∧ ∀ H', Ex H H' → Q (.bl (fitsD (numsD dx) (k : Int) dz)) H') := fn_calm (ok_raise_fits T) fun vs H Q E h => by
  obtain ⟨x, z, dx, dz, n, l, ok, ok2, k, rfl, hx, hz, c, hk, q⟩ := h
  have b : betwD 0 24 (.int (k : Int)) = true := decide_eq_true ⟨by omega, by omega⟩
  exact ⟨x, _, z, dx, _, dz, n, 0, l, ok, fun _ => True, ok2, rfl, hx, .int _, hz, fun _ _ => q, fun z => no_way c z, fun _ z => no_way b z⟩
end
end L2.U


set_option Elab.async false
set_option linter.all false
set_option maxRecDepth 100000
set_option maxHeartbeats 4000000
namespace L2.U
open PySem PySem.Spec PyProof.Rows Evl
section
variable {P : Program} {w : World} {K : PySem.W.Frag} {mg : Str → Option Value} {base : Heap}
theorem TupL.but {ok : Addr → Prop} {b : Addr} {G G' : Hp} {rs : List V} {dn : List (List Int)} (k : But b G G') (w : ∀ a, ok a → a ≠ b) (h : TupL K ok G rs dn) : TupL K ok G' rs dn := ⟨h.1, fun j y s hy hs => by
  obtain ⟨a, e1, o, h1, l⟩ := h.2 j y s hy hs
  exact ⟨a, e1, o, k.sqt (w _ o) h1, l⟩⟩
/-- a plan that some wires let -/
def useP (L : List (List Int)) : Int := (L.map useL).sum
structure GoodP (w : Int) (m : Nat) (L : List (List Int)) : Prop where
  ne : ∀ s ∈ L, s ≠ []
  pos : ∀ s ∈ L, ∀ z ∈ s, 1 ≤ z
  len : ∀ s ∈ L, s.length ≤ 100
  use : useP L ≤ w
  many : L.length ≤ m
theorem good_nil {w : Int} {m : Nat} (h : 0 ≤ w) : GoodP w m [] := ⟨(fun s h => by cases h), (fun s h => by cases h), (fun s h => by cases h), h, Nat.zero_le _⟩
def spLPlan (K : PySem.W.Frag) : Sp := fun vs H Q _ => ∃ (b : Addr) (k w m : Nat), vs = [.ref b, .int (w : Int), .int (m : Int)] ∧ BoxAt H b (k + 400) ∧ w ≤ 24 ∧ m ≤ 16 ∧
  ∀ p L H', GoodP (w : Int) m L → Rd K (fun a => a ≠ b) H' 2 (.ref p) (planP L) → BoxAt H' b k → But b H H' → Q (.ref p) H'
theorem ok_law_plan (T : TK K mg) : FnOk P w K mg base CX0 2 T.law_plan.a T.law_plan.fd ["box", "wires", "many"] (spLPlan K) := by
  refine T.law_plan.F.ok sc_law_plan (fun vs H Q E h => ?_) (fun cdv A outer s H vs Q E hr h => ?_)
  · obtain ⟨b, k, w, m, rfl, _⟩ := h; rfl
  obtain ⟨b, k, w, m, rfl, hB, hw, hm, q⟩ := h
  refine ⟨_, (pss_cons (ps_par (i := 3) (j := 4) (by rfl) sc_law_plan.nd rfl rfl (by decide) rfl rfl (pa_cons (pe_lst pa_nil) (pa_cons (pv 1) pa_nil)) (by rfl))
    (pss_cons (ps_for PassesOwn.never rfl (pi_range1 rfl T.z_range (pa_cons (pv 2) pa_nil)) (pg_name (i := 5) sc_law_plan.nd rfl (Or.inl rfl)) (pss_one (ps_if (pt_cmpR op_gt (pv 4) pe_int (nomark _)) (pss_cons (ps_set (i := 6) sc_law_plan.nd rfl (Or.inl rfl) (pe_op op_add pe_int (pe_call (ok_law_take T.toTA1) (hr.mono (by decide)) rfl T.law_take.m T.law_take.F.kp T.law_take.b .nil pass0 (pa_cons (pv 0) (pa_cons (pe_callB (call_min2 rfl) (by rfl) T.z_min (by decide +kernel) (pa_cons (pe_op op_fdiv (pe_op op_add (pv 4) pe_int) pe_int) (pa_cons (pe_ifExp (pt_cmpR op_gt (pv 2) pe_int (nomark _)) pe_int pe_int) pa_nil))) pa_nil)))))
    (pss_cons (ps_par (i := 7) (j := 8) (by rfl) sc_law_plan.nd rfl rfl (by decide) rfl rfl (pa_cons (pe_lst pa_nil) (pa_cons (pe_op op_add (pe_op op_sub (pv 4) (pv 6)) pe_int) pa_nil)) (by rfl))
    (pss_cons (ps_for PassesOwn.never rfl (pi_range1 rfl T.z_range (pa_cons (pv 6) pa_nil)) (pg_name (i := 9) sc_law_plan.nd rfl (Or.inl rfl)) (pss_cons (ps_set (i := 10) sc_law_plan.nd rfl (Or.inl rfl) (pe_op op_add pe_int (pe_call (ok_law_take T.toTA1) (hr.mono (by decide)) rfl T.law_take.m T.law_take.F.kp T.law_take.b .nil pass0 (pa_cons (pv 0) (pa_cons (pe_callB (call_min2 rfl) (by rfl) T.z_min (by decide +kernel) (pa_cons (pe_ifExp (pt_cmpR op_gt (pv 2) pe_int (nomark _)) pe_int pe_int) (pa_cons (pe_op op_sub (pv 8) (pe_op op_sub (pe_op op_sub (pv 6) (pv 9)) pe_int)) pa_nil))) pa_nil)))))
    (pss_cons (ps_expr (pe_bm PySem.F.plainAttrs_list PySem.F.slot_list_append PySem.F.type_list_append mt_append (pv 7) (pa_cons (pv 10) pa_nil)))
    (pss_one (ps_set (i := 8) sc_law_plan.nd rfl (Or.inl rfl) (pe_op op_sub (pv 8) (pv 10)))))))
    (pss_cons (ps_expr (pe_bm PySem.F.plainAttrs_list PySem.F.slot_list_append PySem.F.type_list_append mt_append (pv 3) (pa_cons (pe_callTy (ktuple K) (by rfl) T.z_tuple (by decide +kernel) (pa_cons (pv 7) pa_nil)) pa_nil)))
    (pss_one (ps_set (i := 4) sc_law_plan.nd rfl (Or.inl rfl) (pv 8))))))) pss_nil)))
    (pss_one (ps_ret (pe_callTy (ktuple K) (by rfl) T.z_tuple (by decide +kernel) (pa_cons (pv 3) pa_nil)))))), ?_⟩
  refine ⟨Nat.zero_le _, fun F hF => ⟨_, rfl, _, _, rfl, ?_⟩⟩
  have Fb : F ≠ b := hB.ne hF
  refine ⟨_, rfl, (m : Int), rfl, by omega, by omega, for_range (lo := 0) (n := ((m : Int)).toNat) (fun i σ H' => BoxAt H' b (k + 20 * (17 - i)) ∧ But b H H' ∧ ∃ (rs : List V) (L : List (List Int)) (c : Nat) (v5 v6 v7 v8 v9 v10 : Option V), H' F = some (.lst rs) ∧ TupL K (fun a => a ≠ b) H' rs L ∧ GoodP ((w : Int) - (c : Int)) i L ∧ useP L = (w : Int) - (c : Int) ∧ σ = [some (.ref b), some (.int (w : Int)), some (.int (m : Int)), some (.ref F), some (.int (c : Int)), v5, v6, v7, v8, v9, v10])
    ⟨(hB.ex (Ex.new hF)).le (by omega), But.of (Ex.new hF), [], [], w, _, _, _, _, _, _, upd_same, ⟨rfl, fun j y s h _ => by cases h⟩, good_nil (by omega), (by show (0 : Int) = _; omega), rfl⟩ ?_ ?_⟩
  · rintro i σ H' hi ⟨B, kb, rs, L, c, v5, v6, v7, v8, v9, v10, hFF, tl, gp, hu, rfl⟩
    rw [Int.zero_add]
    have hi17 : i < 16 := by omega
    refine ⟨_, rfl, _, _, rfl, rfl, _, rfl, ite2 (fun cc => ?_) (fun cc => ⟨B.le (by omega), kb, rs, L, c, _, _, _, _, _, _, hFF, tl, ⟨gp.ne, gp.pos, gp.len, gp.use, by have := gp.many; omega⟩, hu, rfl⟩)⟩
    have cc : 0 < (c : Int) := of_decide_eq_true cc
    have hM : ∀ (σ : L2.St) (G : Hp), σ[2]? = some (some (.int (m : Int))) → ∃ M : Int, 2 ≤ M ∧ M ≤ 4 ∧ Ev (tIf (tTest (tOp (rI0 fun i j => V.bl (decide (j < i))) (tVar 2) (tC (V.int 8)))) (tC (V.int 2)) (tC (V.int 4))) σ G (.int M) := fun σ G hσ => by
      have ts := et_test (σ := σ) (H := G) (ev_op (r := rI0 fun i j => V.bl (decide (j < i))) (ta := tVar 2) (tb := tC (V.int 8)) (ev_var hσ) ev_c (rv_I0 (g := fun i j => V.bl (decide (j < i))) (i := (m : Int)) (j := 8)))
      cases hb : decide (8 < (m : Int)) with
      | true => rw [hb] at ts; exact ⟨2, by omega, by omega, ev_if ts (fun _ => ev_c) (fun h => by cases h)⟩
      | false => rw [hb] at ts; exact ⟨4, by omega, by omega, ev_if ts (fun h => by cases h) (fun _ => ev_c)⟩
    obtain ⟨M, M2, M4, evM⟩ := hM [some (.ref b), some (.int (w : Int)), some (.int (m : Int)), some (.ref F), some (.int (c : Int)), some (.int (i : Int)), v6, v7, v8, v9, v10] H' rfl
    refine ⟨_, rfl, _, rfl, _, _, rfl, rfl, _, _, rfl, rfl, ⟨by omega, by omega⟩, evM H' (Ex.refl _) _ fun H3 e3 => ⟨_, _, rfl, ?_⟩⟩
    obtain ⟨N, hN, hN1, hN2, hN3⟩ : ∃ N : Int, (if M < ((c : Int) + 1) / 2 then M else ((c : Int) + 1) / 2) = N ∧ 1 ≤ N ∧ N ≤ ((c : Int) + 1) / 2 ∧ N ≤ 4 := ⟨_, rfl, by split <;> omega, by split <;> omega, by split <;> omega⟩
    rw [hN]
    refine ⟨b, N, k + 20 * (17 - i) - 1, rfl, by omega, by omega, (B.ex e3).le (by omega), fun t H4 t0 t1 B4 k4 => ⟨_, _, rfl, rfl, Nat.zero_le _, fun S hS => ⟨_, rfl, _, rfl, _, _, rfl, rfl, _, _, rfl, rfl, _, _, rfl, ?_⟩⟩⟩
    have hF4 := k4 _ _ Fb (e3 _ _ hFF)
    have SF : S ≠ F := fun z => by rw [z, hF4] at hS; cases hS
    have Sb : S ≠ b := B4.ne hS
    have e5 := Ex.new (o := .lst []) hS
    have tl4 := ((tl.ex e3).but k4 fun a h => h).ex e5
    have kb4 := (kb.trans (But.of e3)).trans (k4.trans (But.of e5))
    have B5 := B4.ex e5
    have hF5 := e5 _ _ hF4
    have hS5 := upd_same (H := H4) (a := S) (o := .lst [])
    generalize upd H4 S (.lst []) = H5 at e5 tl4 kb4 B5 hF5 hS5 ⊢
    refine ⟨_, rfl, 1 + t, rfl, by omega, by omega, for_range (lo := 0) (n := (1 + t).toNat) (fun j σ G => BoxAt G b (k + 20 * (17 - i) - 1 - j) ∧ But b H G ∧ G F = some (.lst rs) ∧ TupL K (fun a => a ≠ b) G rs L ∧ ∃ (ss : List Int) (left : Int) (v9 v10 : Option V), G S = some (.lst (ss.map V.int)) ∧ ss.length = j ∧ (∀ z ∈ ss, 1 ≤ z) ∧ left = (c : Int) - t - ss.sum ∧ 1 + t - (j : Int) ≤ left ∧ σ = [some (.ref b), some (.int (w : Int)), some (.int (m : Int)), some (.ref F), some (.int (c : Int)), some (.int (i : Int)), some (.int (1 + t)), some (.ref S), some (.int left), v9, v10])
      ⟨B5, kb4, hF5, tl4, [], (c : Int) - (1 + t) + 1, _, _, hS5, rfl, (fun z hz => by cases hz), by show _ = (c : Int) - t - 0; omega, by omega, rfl⟩ ?_ ?_⟩
    · rintro j σ G hj ⟨Bg, kg, hFg, tg, ss, left, v9, v10, hSg, hsl, hsp, hle, hll, rfl⟩
      rw [Int.zero_add]
      obtain ⟨M', M2', M4', evM'⟩ := hM [some (.ref b), some (.int (w : Int)), some (.int (m : Int)), some (.ref F), some (.int (c : Int)), some (.int (i : Int)), some (.int (1 + t)), some (.ref S), some (.int left), some (.int (j : Int)), v10] G rfl
      refine ⟨_, rfl, evM' G (Ex.refl _) _ fun G2 eg => ⟨_, rfl, _, rfl, _, rfl, _, _, rfl, rfl, _, _, rfl, rfl, _, _, rfl, rfl, _, _, rfl, ?_⟩⟩
      obtain ⟨N', hN', hN1', hN2', hN3'⟩ : ∃ N' : Int, (if left - (1 + t - (j : Int) - 1) < M' then left - (1 + t - (j : Int) - 1) else M') = N' ∧ 1 ≤ N' ∧ N' ≤ left - (1 + t - (j : Int) - 1) ∧ N' ≤ 4 := ⟨_, rfl, by split <;> omega, by split <;> omega, by split <;> omega⟩
      rw [hN']
      refine ⟨b, N', k + 20 * (17 - i) - 1 - (j + 1), rfl, by omega, by omega, (Bg.ex eg).le (by omega), fun r G3 r0 r1 B3 k3 => ⟨_, _, rfl, rfl, ?_⟩⟩
      have hF3 := k3 _ _ Fb (eg _ _ hFg)
      have hS3 := k3 _ _ Sb (eg _ _ hSg)
      refine ⟨_, rfl, .inl ⟨rfl, _, SqL.of hS3⟩, _, rfl, S, _, _, rfl, rfl, hS3, small1000 (by rw [List.length_map]; omega), _, rfl, _, rfl, _, _, rfl, rfl, ?_⟩
      refine ⟨box_mut B3 Sb, ?_, by rw [upd_ne SF.symm]; exact hF3, (((tg.ex eg).but k3 fun a h => h).upd hS3), ss ++ [1 + r], left - (1 + r), _, _, by rw [upd_same, List.map_append]; rfl, by rw [List.length_append, hsl]; rfl, fun z hz => ?_, ?_, by omega, rfl⟩
      · have h0 : H S = none := by
          apply Classical.byContradiction
          intro no
          obtain ⟨o, ho⟩ := Option.ne_none_iff_exists'.mp no
          have := k4 _ _ Sb (e3 _ _ (kb _ _ Sb ho))
          rw [hS] at this
          cases this
        exact butMut ((kg.trans (But.of eg)).trans k3) h0
      · rcases List.mem_append.mp hz with h | h
        · exact hsp z h
        · rw [List.mem_singleton] at h; omega
      · rw [List.sum_append, hle]
        show _ = (c : Int) - t - (ss.sum + ((1 + r) + 0))
        omega
    · rintro σ G ⟨Bg, kg, hFg, tg, ss, left, v9, v10, hSg, hsl, hsp, hle, hll, rfl⟩
      rw [show (((1 + t).toNat : Nat) : Int) = 1 + t by omega] at hll
      have hF0 : H F = none := hF
      refine ⟨_, rfl, .inl ⟨rfl, _, SqL.of hFg⟩, _, rfl, S, _, rfl, .inl ⟨SqL.of hSg, fun U hU => ?_⟩⟩
      have eu := Ex.new (o := .tup (ss.map V.int)) hU
      have hFu := eu _ _ hFg
      have Ub : U ≠ b := Bg.ne hU
      refine ⟨F, rs, _, rfl, rfl, hFu, small1000 (by have := tl.1; have := gp.many; omega), _, rfl, ?_⟩
      have uz : useL ss = (c : Int) - left := by unfold useL; omega
      have le0 : 0 ≤ left := by omega
      have uu : useP (L ++ [ss]) = (w : Int) - ((left.toNat : Nat) : Int) := by
        unfold useP at hu ⊢
        rw [List.map_append, List.sum_append, hu]
        show _ + (useL ss + 0) = _
        omega
      refine ⟨(box_mut (Bg.ex eu) Fb).le (by omega), butMut (kg.trans (But.of eu)) hF0, rs ++ [.ref U], L ++ [ss], left.toNat, some (.int (i : Int)), some (.int (1 + t)), some (.ref S), some (.int left), v9, v10, upd_same, ((tg.ex eu).upd hFu).snoc Ub (sqt_upd (SqT.of upd_same) hFu) (by omega), ⟨?_, ?_, ?_, by omega, by rw [List.length_append]; have := gp.many; show _ + 1 ≤ _; omega⟩, uu, ?_⟩
      · intro x hx
        rcases List.mem_append.mp hx with h | h
        · exact gp.ne x h
        · rw [List.mem_singleton] at h; rw [h]; intro z; rw [z] at hsl; have : 0 = (1 + t).toNat := hsl; omega
      · intro x hx
        rcases List.mem_append.mp hx with h | h
        · exact gp.pos x h
        · rw [List.mem_singleton] at h; rw [h]; exact hsp
      · intro x hx
        rcases List.mem_append.mp hx with h | h
        · exact gp.len x h
        · rw [List.mem_singleton] at h; rw [h]; omega
      · rw [Int.toNat_of_nonneg le0]
        rfl
  · rintro σ H' ⟨B, kb, rs, L, c, v5, v6, v7, v8, v9, v10, hFF, tl, gp, hu, rfl⟩
    refine ⟨_, rfl, F, rs, rfl, .inl ⟨SqL.of hFF, fun U hU => ?_⟩⟩
    have eu := Ex.new (o := .tup rs) hU
    have r2 := (tl.ex eu).rdl
    exact q U L _ ⟨gp.ne, gp.pos, gp.len, by have := gp.use; omega, by have := gp.many; omega⟩ (.tup (SqT.of upd_same) (B.ne hU) r2.1 (by have := tl.1; have := gp.many; omega) r2.2) ((B.ex eu).le (by omega)) (kb.trans (But.of eu))
end
end L2.U


set_option Elab.async false
set_option linter.all false
set_option maxRecDepth 100000
set_option maxHeartbeats 4000000
namespace L2.U
open PySem PySem.Spec PyProof.Rows Evl
section
variable {P : Program} {w : World} {K : PySem.W.Frag} {mg : Str → Option Value} {base : Heap}
theorem planR {ok : Addr → Prop} {H : Hp} {n : Nat} {x : V} {L : List (List Int)} (h : Rd K ok H n x (planP L)) : ∃ a xs, x = .ref a ∧ ok a ∧ SqT K H a xs ∧ xs.length = L.length ∧ xs.length ≤ 900 ∧ ∀ (i : Nat) (s : List Int), L[i]? = some s → ∃ c, xs[i]? = some (.ref c) ∧ SqT K H c (s.map V.int) ∧ ok c := by
  unfold planP at h
  generalize hd : (PyData.tuple (L.map tupI)) = d at h
  cases h with
  | tup h ha hl hz all =>
    cases hd
    rw [List.length_map] at hl
    refine ⟨_, _, rfl, ha, h, hl, hz, fun i s hs => ?_⟩
    have hi := (List.getElem?_eq_some_iff.mp hs).1
    have hx := List.getElem?_eq_getElem (show i < _ by rw [hl]; exact hi)
    obtain ⟨o, e, oo, so⟩ := rd_itup (all i _ (tupI s) hx (by rw [List.getElem?_map, hs]; rfl))
    exact ⟨o, by rw [hx, e], so, oo⟩
  | _ => cases hd
theorem ev_use {σ : L2.St} {H : Hp} {j : Nat} {c : Addr} {s : List Int} (hj : σ[j]? = some (some (.ref c))) (hc : SqT K H c (s.map V.int)) : Ev (tOp (rI0 fun i j => V.int (i - j)) (tOp (rI0 fun i j => V.int (i + j)) (tCB (rSumS K) (tCons (tVar j) tNil)) (tCB (rLen K) (tCons (tVar j) tNil))) (tC (V.int 1))) σ H (.int (useL s)) := fun H1 e Q q => by
  refine ⟨_, hj, c, s, rfl, .inr (ex_t e hc), _, hj, _, _, rfl, .inr ⟨_, ex_t e hc, rfl⟩, _, _, rfl, rfl, _, _, rfl, rfl, ?_⟩
  have := q H1 (Ex.refl _)
  unfold useL at this
  rw [List.length_map]
  exact this
def spUse (K : PySem.W.Frag) : Sp := fun vs H Q _ => ∃ x L n ok, vs = [x] ∧ Rd K ok H n x (planP L) ∧ ∀ H', Ex H H' → Q (.int (useP L)) H'
theorem ok_law_use (T : TK K mg) : FnOk P w K mg base CX0 1 T.law_use.a T.law_use.fd ["value"] (spUse K) := by
  refine T.law_use.F.ok sc_law_use (fun vs H Q E h => ?_) (fun cdv A outer s H vs Q E hr h => ?_)
  · obtain ⟨x, L, n, ok, rfl, _⟩ := h; rfl
  obtain ⟨x, L, n, ok, rfl, h, q⟩ := h
  refine ⟨_, (pss_one (ps_ret (pe_callB (ksum K rfl) (by rfl) T.z_sum (by decide +kernel) (pa_cons (pe_lc (own := [("sizes", 1)]) (g := gName 1) (by rfl) sc_law_use.nd (kpit K (pv 0)) (blkOk_by (own := [("sizes", 1)]) (N := ["value", "sizes"]) (sc := defScope s_law_use) (by decide +kernel)) (fun _ _ _ _ _ => (pg_name (i := 1) sc_law_use.nd rfl (Or.inl rfl))) (fun _ _ _ _ _ => pts_nil) (fun _ _ _ _ _ => (pe_op op_sub (pe_op op_add (pe_callB (ksum K rfl) (by rfl) T.z_sum (by decide +kernel) (pa_cons (pv 1) pa_nil)) (pe_callB (klen K) (by rfl) T.z_len (by decide +kernel) (pa_cons (pv 1) pa_nil))) pe_int))) pa_nil)))), ?_⟩
  obtain ⟨a, xs, rfl, _, hs, hl, hz, all⟩ := planR h
  have el := el_lcT (K := K) (tl := tVar 0) (t := tYes) (te := tOp (rI0 fun i j => V.int (i - j)) (tOp (rI0 fun i j => V.int (i + j)) (tCB (rSumS K) (tCons (tVar 1) tNil)) (tCB (rLen K) (tCons (tVar 1) tNil))) (tC (V.int 1))) (σ := start ["value", "sizes"] [.ref a]) (H := H) (j := 1) (vs := [1]) (fun _ => true) (fun i => .int (useL (L.getD i []))) (ev_var rfl) hs (by omega) (fun x => rfl) (fun i x H1 _ _ H2 _ Q q => q H2 (Ex.refl _)) (fun i x H1 e1 hx _ => by
    have hi := (List.getElem?_eq_some_iff.mp hx).1
    have hL : L[i]? = some (L[i]'(by omega)) := List.getElem?_eq_getElem _
    obtain ⟨c, hc, sc, _⟩ := all i _ hL
    rw [hx] at hc
    cases Option.some.inj hc
    rw [List.getD_eq_getElem?_getD, hL]
    exact ev_use rfl (ex_t e1 sc))
  have e : given xs.length (fun _ => true) (fun i => V.int (useL (L.getD i []))) = (L.map useL).map V.int := by
    rw [given_all, hl, ← range_getD useL L [], List.map_map]
    rfl
  rw [e] at el
  exact el H (Ex.refl _) (fun v H2 => rSumS K [v] H2 Q) fun p H2 _ e2 hp => ⟨p, L.map useL, rfl, .inl (SqL.of hp), q H2 e2⟩
theorem ok_law_product (T : TK K mg) : FnOk P w K mg base CX0 2 T.law_product.a T.law_product.fd ["sizes", "k"] (spProd K) := by
  refine T.law_product.F.ok sc_law_product (fun vs H Q E h => ?_) (fun cdv A outer s H vs Q E hr h => ?_)
  · obtain ⟨a, z, k, rfl, _⟩ := h; rfl
  obtain ⟨a, sz, k, rfl, ha, ok, hk, q⟩ := h
  refine ⟨_, (pss_cons (ps_set (i := 2) sc_law_product.nd rfl (Or.inl rfl) pe_int)
    (pss_cons (ps_for PassesOwn.never rfl (kpit K (pv 0)) (pg_name (i := 3) sc_law_product.nd rfl (Or.inl rfl)) (pss_one (ps_par (i := 2) (j := 1) (by rfl) sc_law_product.nd rfl rfl (by decide) rfl rfl (pa_cons (pe_op op_mul (pv 2) (pe_call (ok_law_choose T) (hr.mono (by decide)) rfl T.law_choose.m T.law_choose.F.kp T.law_choose.b .nil pass0 (pa_cons (pv 1) (pa_cons (pv 3) pa_nil)))) (pa_cons (pe_op op_sub (pe_op op_sub (pv 1) (pv 3)) pe_int) pa_nil)) (by rfl))))
    (pss_one (ps_ret (pv 2))))), ?_⟩
  refine ⟨_, rfl, a, rfl, ⟨_, ha⟩, for_tup (xs := sz.map V.int) (fun i σ H' => H' = H ∧ ∃ v, σ = [some (.ref a), some (.int (preL k sz i).2), some (.int (preL k sz i).1), v]) ⟨rfl, none, rfl⟩ (fun i σ H' _ p => by rw [p.1]; exact ha) ?_ ?_⟩
  · rintro i y σ H' hy ⟨rfl, v, rfl⟩
    obtain ⟨z, hz, rfl⟩ := ints_get hy
    have hi := (List.getElem?_eq_some_iff.mp hz).1
    obtain ⟨e, b⟩ := preL_all hk (k := k) (s := sz) i (by omega)
    obtain ⟨o, p1, p2⟩ := b ok
    rw [List.drop_eq_getElem_cons hi, (List.getElem?_eq_some_iff.mp hz).2] at o
    obtain ⟨o1, o2, o3⟩ := o
    have st := preL_step (k := k) hz
    have cb := cb_in ⟨(preL k sz i).2.toNat, by omega⟩ ⟨z.toNat, by omega⟩
    simp only at cb
    refine ⟨_, rfl, _, rfl, _, rfl, (preL k sz i).2.toNat, z.toNat, (by rw [Int.toNat_of_nonneg (by omega), Int.toNat_of_nonneg (by omega)]; rfl), by omega, by omega, _, _, rfl, rfl, .inr ⟨by omega, by omega⟩, _, rfl, _, rfl, _, _, rfl, rfl, _, _, rfl, rfl, _, _, rfl, rfl, some (.int z), ?_⟩
    rw [st]
    rfl
  · rintro σ H' ⟨rfl, v, rfl⟩
    have e := (preL_all hk (k := k) (s := sz) sz.length (Nat.le_refl _)).1
    rw [List.drop_length] at e
    rw [List.length_map]
    refine ⟨_, rfl, ?_⟩
    rw [show (preL k sz sz.length).1 = prodL k sz by rw [← e]; show _ = _ * 1; rw [Int.mul_one]]
    exact q _ (Ex.refl _)
/-! ### what a plan reaches -/
def reachL : Int → List (List Int) → List Int
  | _, [] => []
  | k, s :: L => prodL k s :: reachL (k - useL s) L
theorem reachL_len : ∀ (L : List (List Int)) (k : Int), (reachL k L).length = L.length
  | [], _ => rfl
  | s :: L, k => congrArg (· + 1) (reachL_len L _)
def wireL (k : Int) (L : List (List Int)) (i : Nat) : Int := k - useP (L.take i)
theorem wireL_step {k : Int} {L : List (List Int)} {i : Nat} {s : List Int} (h : L[i]? = some s) : wireL k L (i + 1) = wireL k L i - useL s := by
  unfold wireL useP
  rw [List.take_add_one, h, List.map_append, List.sum_append]
  show k - (_ + (useL s + 0)) = _
  omega
theorem use_nonneg {L : List (List Int)} (ne : ∀ s ∈ L, s ≠ []) (pos : ∀ s ∈ L, ∀ z ∈ s, 1 ≤ z) : 0 ≤ useP L := by
  induction L with
  | nil => exact Int.le_refl 0
  | cons s L ih =>
    have := use_pos (pos s List.mem_cons_self) (ne s List.mem_cons_self)
    have := ih (fun x hx => ne x (List.mem_cons_of_mem _ hx)) (fun x hx => pos x (List.mem_cons_of_mem _ hx))
    show 0 ≤ useL s + useP L
    omega
theorem useP_split {L : List (List Int)} {i : Nat} {s : List Int} (h : L[i]? = some s) : useP L = useP (L.take i) + useL s + useP (L.drop (i + 1)) := by
  have hi := (List.getElem?_eq_some_iff.mp h).1
  have e : L = L.take i ++ s :: L.drop (i + 1) := by
    conv => lhs; rw [← List.take_append_drop i L, List.drop_eq_getElem_cons hi, (List.getElem?_eq_some_iff.mp h).2]
  conv => lhs; rw [e]
  unfold useP
  rw [List.map_append, List.sum_append, List.map_cons, List.sum_cons]
  omega
theorem GoodP.at {k : Int} {m : Nat} {L : List (List Int)} {i : Nat} {s : List Int} (g : GoodP k m L) (h : L[i]? = some s) : okL (wireL k L i) s ∧ useL s ≤ wireL k L i ∧ 1 ≤ useL s ∧ wireL k L i ≤ k := by
  have hm := List.mem_of_getElem? h
  have sp := useP_split h
  have u := g.use
  have d0 := use_nonneg (L := L.drop (i + 1)) (fun x hx => g.ne x (List.mem_of_mem_drop hx)) (fun x hx => g.pos x (List.mem_of_mem_drop hx))
  have t0 := use_nonneg (L := L.take i) (fun x hx => g.ne x (List.mem_of_mem_take hx)) (fun x hx => g.pos x (List.mem_of_mem_take hx))
  have up := use_pos (g.pos s hm) (g.ne s hm)
  have le : useL s ≤ wireL k L i := by unfold wireL; omega
  exact ⟨okL_of s _ (g.pos s hm) le, le, up, by unfold wireL; omega⟩
theorem reach_at : ∀ (L : List (List Int)) (k : Int) (i : Nat) (s : List Int), L[i]? = some s → (reachL k L)[i]? = some (prodL (wireL k L i) s)
  | t :: L, k, 0, s, h => by
    cases Option.some.inj h
    show some (prodL k t) = some (prodL (k - useP []) t)
    rw [show k - useP [] = k from Int.sub_zero k]
  | t :: L, k, i + 1, s, h => by
    show (reachL (k - useL t) L)[i]? = _
    rw [reach_at L (k - useL t) i s h]
    congr 2
    unfold wireL useP
    rw [List.take_succ_cons, List.map_cons, List.sum_cons]
    omega
theorem reach_take : ∀ (L : List (List Int)) (k : Int) (i : Nat) (s : List Int), L[i]? = some s → (reachL k L).take (i + 1) = (reachL k L).take i ++ [prodL (wireL k L i) s] := fun L k i s h => by
  rw [List.take_add_one, reach_at L k i s h]
  rfl
theorem reach_in {k : Int} {m : Nat} {L : List (List Int)} (g : GoodP k m L) (hk : k ≤ 24) : ∀ y ∈ reachL k L, 1 ≤ y ∧ y ≤ 1000000000000000000000000 := fun y hy => by
  obtain ⟨i, hi⟩ := List.mem_iff_getElem?.mp hy
  have hl := (List.getElem?_eq_some_iff.mp hi).1
  rw [reachL_len] at hl
  have hL : L[i]? = some L[i] := List.getElem?_eq_getElem hl
  rw [reach_at L k i _ hL] at hi
  cases Option.some.inj hi
  obtain ⟨o, _, _, le⟩ := g.at hL
  exact prod_big (by omega) o
def spReached (K : PySem.W.Frag) : Sp := fun vs H Q _ => ∃ x L n ok k m, vs = [x, .int k] ∧ Rd K ok H n x (planP L) ∧ GoodP k m L ∧ k ≤ 24 ∧ ∀ p H', H p = none → Ex H H' → H' p = some (.lst ((reachL k L).map V.int)) → Q (.ref p) H'
theorem ok_law_reached (T : TK K mg) : FnOk P w K mg base CX0 3 T.law_reached.a T.law_reached.fd ["value", "wires"] (spReached K) := by
  refine T.law_reached.F.ok sc_law_reached (fun vs H Q E h => ?_) (fun cdv A outer s H vs Q E hr h => ?_)
  · obtain ⟨x, L, n, ok, k, m, rfl, _⟩ := h; rfl
  obtain ⟨x, L, n, ok, k, m, rfl, h, g, hk, q⟩ := h
  refine ⟨_, (pss_cons (ps_par (i := 2) (j := 3) (by rfl) sc_law_reached.nd rfl rfl (by decide) rfl rfl (pa_cons (pe_lst pa_nil) (pa_cons (pv 1) pa_nil)) (by rfl))
    (pss_cons (ps_for PassesOwn.never rfl (kpit K (pv 0)) (pg_name (i := 4) sc_law_reached.nd rfl (Or.inl rfl)) (pss_cons (ps_expr (pe_bm PySem.F.plainAttrs_list PySem.F.slot_list_append PySem.F.type_list_append mt_append (pv 2) (pa_cons (pe_call (ok_law_product T) (hr.mono (by decide)) rfl T.law_product.m T.law_product.F.kp T.law_product.b .nil pass0 (pa_cons (pv 4) (pa_cons (pv 3) pa_nil))) pa_nil)))
    (pss_one (ps_set (i := 3) sc_law_reached.nd rfl (Or.inl rfl) (pe_op op_add (pe_op op_sub (pe_op op_sub (pv 3) (pe_callB (ksum K rfl) (by rfl) T.z_sum (by decide +kernel) (pa_cons (pv 4) pa_nil))) (pe_callB (klen K) (by rfl) T.z_len (by decide +kernel) (pa_cons (pv 4) pa_nil))) pe_int)))))
    (pss_one (ps_ret (pv 2))))), ?_⟩
  obtain ⟨a, xs, rfl, _, hs, hl, hz, all⟩ := planR h
  refine ⟨Nat.zero_le _, fun F hF => ⟨_, rfl, _, _, rfl, ?_⟩⟩
  have e0 := Ex.new (o := .lst []) hF
  refine ⟨_, rfl, a, rfl, ⟨_, ex_t e0 hs⟩, for_tup (xs := xs) (fun i σ G => Ex H G ∧ ∃ v, G F = some (.lst (((reachL k L).take i).map V.int)) ∧ σ = [some (.ref a), some (.int k), some (.ref F), some (.int (wireL k L i)), v]) ⟨e0, none, upd_same, by
    rw [show wireL k L 0 = k from Int.sub_zero k]
    rfl⟩ (fun i σ G _ p => ex_t p.1 hs) ?_ ?_⟩
  · rintro i y σ G hy ⟨eg, v, hFF, rfl⟩
    have hi := (List.getElem?_eq_some_iff.mp hy).1
    have hL : L[i]? = some (L[i]'(by omega)) := List.getElem?_eq_getElem _
    obtain ⟨c, hc, sc, _⟩ := all i _ hL
    rw [hy] at hc
    cases Option.some.inj hc
    obtain ⟨o, le, up, wk⟩ := g.at hL
    have rt := reach_take L k i _ hL
    have ws := wireL_step (k := k) hL
    generalize L[i]'(by omega) = sz at sc o le up rt ws
    refine ⟨_, rfl, .inl ⟨rfl, _, SqL.of hFF⟩, _, rfl, _, rfl, c, sz, _, rfl, ex_t eg sc, o, by omega, fun G2 e2 => ?_⟩
    have hF2 := e2 _ _ hFF
    have e3 : Ex H (upd G2 F (.lst (((reachL k L).take i).map V.int ++ [.int (prodL (wireL k L i) sz)]))) := (eg.trans e2).mut hF
    refine ⟨F, _, _, rfl, rfl, hF2, small1000 (by rw [List.length_map, List.length_take]; omega), _, rfl, _, rfl, c, sz, rfl, .inr (ex_t e3 sc), _, _, rfl, rfl, _, rfl, _, _, rfl, .inr ⟨_, ex_t e3 sc, rfl⟩, _, _, rfl, rfl, _, _, rfl, rfl, e3, some (.ref c), by rw [upd_same, rt, List.map_append]; rfl, ?_⟩
    rw [ws, show wireL k L i - useL sz = wireL k L i - sz.sum - ((sz.map V.int).length : Int) + 1 by unfold useL; rw [List.length_map]; omega]
    rfl
  · rintro σ G ⟨eg, v, hFF, rfl⟩
    rw [show xs.length = (reachL k L).length by rw [reachL_len, hl], List.take_length] at hFF
    exact ⟨_, rfl, q F G hF eg hFF⟩
/-! ### own judging -/
theorem given_empty {n : Nat} {f : Nat → Bool} {v : Nat → V} : (given n f v).isEmpty = (List.range n).all fun i => !f i := by
  unfold given
  rw [Bool.eq_iff_iff, List.isEmpty_iff, List.map_eq_nil_iff, List.filter_eq_nil_iff, List.all_eq_true]
  exact ⟨fun h i hi => by simpa using h i hi, fun h i hi => by simpa using h i hi⟩
theorem all_range {n : Nat} {l : List PyData} {p : PyData → Bool} (h : n = l.length) : ((List.range n).all fun i => p (l.getD i .none)) = l.all p := by
  subst h
  have := congrArg (fun m : List Bool => m.all id) (range_getD p l .none)
  rw [List.all_map, List.all_map] at this
  exact this
theorem ev_isD {C : Addr} {ok : Addr → Prop} {σ : L2.St} {H : Hp} {n k : Nat} {x : V} {d : PyData} (c : ClsAt K C) (h : Ro K C ok H n x d) (hk : σ[k]? = some (some x)) : EvT (tB (tCB (rIsi K) (tCons (tVar k) (tCons (tC (V.ty "int")) tNil)))) σ H (isD "int" d) ∧ EvT (tB (tCB (rIsi K) (tCons (tVar k) (tCons (tC (V.ty "bool")) tNil)))) σ H (isD "bool" d) ∧ EvT (tB (tCB (rIsi K) (tCons (tVar k) (tCons (tC (V.ty "tuple")) tNil)))) σ H (isTup d) := by
  refine ⟨fun H1 e1 Q q => ?_, fun H1 e1 Q q => ?_, fun H1 e1 Q q => ?_⟩
  · obtain ⟨t, ty, _, _, ki, _⟩ := (h.ex e1).isi c
    exact ⟨_, hk, _, _, _, _, _, rfl, .ty _, ty, ki, _, rfl, q H1 (Ex.refl _)⟩
  · obtain ⟨t, ty, _, _, _, kb⟩ := (h.ex e1).isi c
    exact ⟨_, hk, _, _, _, _, _, rfl, .ty _, ty, kb, _, rfl, q H1 (Ex.refl _)⟩
  · obtain ⟨t, ty, _, kt, _⟩ := (h.ex e1).isi c
    rw [isTup_is] at q
    exact ⟨_, hk, _, _, _, _, _, rfl, .ty _, ty, kt, _, rfl, q H1 (Ex.refl _)⟩
theorem isD_intB (d : PyData) : (isD "int" d && !isD "bool" d) = intB d := by cases d <;> rfl
theorem bad_is : ∀ d : PyData, (!fromD 1 d) = (!isD "int" d || (isD "bool" d || decide (intD d < 1)))
  | .int i => by
    show (!decide (1 ≤ i)) = decide (i < 1)
    by_cases z : 1 ≤ i
    · rw [decide_eq_true z, decide_eq_false (by omega)]; rfl
    · rw [decide_eq_false z, decide_eq_true (by omega)]; rfl
  | .none => rfl
  | .bool _ => rfl
  | .str _ => rfl
  | .list _ => rfl
  | .tuple _ => rfl
  | .dict _ => rfl
theorem ev_bad {C : Addr} {ok : Addr → Prop} {σ : L2.St} {H : Hp} {n k : Nat} {x : V} {d : PyData} (c : ClsAt K C) (h : Ro K C ok H n x d) (hk : σ[k]? = some (some x)) :
    EvT (tOr (tNot (tB (tCB (rIsi K) (tCons (tVar k) (tCons (tC (V.ty "int")) tNil))))) (tOr (tB (tCB (rIsi K) (tCons (tVar k) (tCons (tC (V.ty "bool")) tNil)))) (tTest (tOp (rI0 fun i j => V.bl (decide (i < j))) (tVar k) (tC (V.int 1)))))) σ H (!fromD 1 d) := by
  obtain ⟨a, b, _⟩ := ev_isD c h hk
  have e := bad_is d
  rw [e]
  refine et_or (et_not a) fun ha => et_or b fun hb => ?_
  have ib : intB d = true := by
    rw [← isD_intB, hb]
    cases hq : isD "int" d with
    | true => rfl
    | false => rw [hq] at ha; cases ha
  obtain ⟨i, rfl, rfl⟩ := intB_int h ib
  exact et_test (ev_op (ev_var hk) ev_c (rv_I0 (g := fun (i j : Int) => V.bl (decide (i < j)))))
def spIsSizesL (K : PySem.W.Frag) (C : Addr) : Sp := fun vs H Q _ => ∃ x d n ok, vs = [x] ∧ Ro K C ok H n x d ∧ ∀ H', Ex H H' → Q (.bl (sizesD d)) H'
theorem ok_law_is_sizes (T : TK K mg) : FnOk P w K mg base CX0 1 T.law_is_sizes.a T.law_is_sizes.fd ["thing"] (spIsSizesL K T.C) := by
  refine T.law_is_sizes.F.ok sc_law_is_sizes (fun vs H Q E h => ?_) (fun cdv A outer s H vs Q E hr h => ?_)
  · obtain ⟨x, d, n, ok, rfl, _⟩ := h; rfl
  obtain ⟨x, d, n, ok, rfl, h, q⟩ := h
  refine ⟨_, (pss_cons (ps_if (PW.pt (pw_or (pt_not (pt_val (pe_callB (kisi K) (by rfl) T.z_isinstance (by decide +kernel) (pa_cons (pv 0) (pa_cons (pe_bltn (v := .ty "tuple") rfl T.z_tuple (by decide +kernel) rfl) pa_nil))))) (pw_or1 (pt_cmpR op_eq (pe_callB (klen K) (by rfl) T.z_len (by decide +kernel) (pa_cons (pv 0) pa_nil)) pe_int (nomark _))))) (pss_one (ps_ret pe_bl)) pss_nil)
    (pss_one (ps_ret (pe_cmpR (keql0 K hr.units) (pe_lc (own := [("one", 1)]) (g := gName 1) (by rfl) sc_law_is_sizes.nd (kpit K (pv 0)) (blkOk_by (own := [("one", 1)]) (N := ["thing", "one"]) (sc := defScope s_law_is_sizes) (by decide +kernel)) (fun _ _ _ _ _ => (pg_name (i := 1) sc_law_is_sizes.nd rfl (Or.inl rfl))) (fun _ _ _ _ _ => (pts_one (PW.pt (pw_or (pt_not (pt_val (pe_callB (kisi K) (by rfl) T.z_isinstance (by decide +kernel) (pa_cons (pv 1) (pa_cons (pe_bltn (v := .ty "int") rfl T.z_int (by decide +kernel) rfl) pa_nil))))) (pw_or (pt_val (pe_callB (kisi K) (by rfl) T.z_isinstance (by decide +kernel) (pa_cons (pv 1) (pa_cons (pe_bltn (v := .ty "bool") rfl T.z_bool (by decide +kernel) rfl) pa_nil)))) (pw_or1 (pt_cmpR op_lt (pv 1) pe_int (nomark _)))))))) (fun _ _ _ _ _ => (pv 1))) (pe_lst pa_nil) (nomark _))))), ?_⟩
  obtain ⟨_, _, tt⟩ := ev_isD (σ := start ["thing", "one"] [x]) (k := 0) T.ca h rfl
  refine q_when (b := !isTup d || (itemsD d).isEmpty) (et_or (et_not tt) fun ht => ?_) (fun hb H1 e1 => ?_) (fun hb H1 e1 => ?_)
  · have ht : isTup d = true := by simpa using ht
    obtain ⟨a, xs, rfl, hs, hd, _, hl, hz, all⟩ := h.tupl ht
    have ee : (itemsD d).isEmpty = decide (V.int (xs.length : Int) = V.int 0) := by
      cases hi : itemsD d with
      | nil => rw [hi] at hl; rw [hl]; rfl
      | cons y ys =>
        rw [hi] at hl
        rw [hl]
        exact (decide_eq_false fun z => by
          have := V.int.inj z
          rw [List.length_cons] at this
          omega).symm
    rw [ee]
    exact et_test (ev_op (fun H1 e1 Q q => ⟨_, rfl, _, _, rfl, .inr ⟨_, ex_t e1 hs, rfl⟩, q H1 (Ex.refl _)⟩) ev_c (rv_eq rfl))
  · have : sizesD d = false := by
      unfold sizesD
      cases h1 : isTup d <;> cases h2 : (itemsD d).isEmpty <;> rw [h1, h2] at hb <;> first | rfl | cases hb
    have q2 := q H1 e1
    rw [this] at q2
    exact q2
  · have hb2 : isTup d = true ∧ (itemsD d).isEmpty = false := by
      cases h1 : isTup d <;> cases h2 : (itemsD d).isEmpty <;> rw [h1, h2] at hb <;> first | exact ⟨rfl, rfl⟩ | cases hb
    obtain ⟨a, xs, rfl, hs, hd, _, hl, hz, all⟩ := (h.ex e1).tupl hb2.1
    refine s_ret (v := .bl (sizesD d)) ?_ (fun H2 e2 => q H2 (e1.trans e2))
    have es : sizesD d = (given xs.length (fun i => !fromD 1 ((itemsD d).getD i .none)) (fun i => xs.getD i .non)).isEmpty := by
      unfold sizesD
      rw [hb2.1, hb2.2, given_empty]
      simp only [Bool.not_not]
      rw [all_range hl]
      rfl
    rw [es]
    refine ev_opLL (el_lcT (fun i => !fromD 1 ((itemsD d).getD i .none)) (fun i => xs.getD i .non) (ev_var rfl) hs (by omega) (fun x => rfl) (fun i x H2 e2 hx => ?_) (fun i x H2 e2 hx _ => ?_)) (el_lst ea_nil (by decide)) (fun p p2 H2 h1 h2 e2 => ?_)
    · have hi := (List.getElem?_eq_some_iff.mp hx).1
      have hd2 : (itemsD d)[i]? = some ((itemsD d)[i]'(by omega)) := List.getElem?_eq_getElem _
      rw [getD_at hd2]
      exact ev_bad T.ca ((all i x _ hx hd2).ex e2) rfl
    · rw [List.getD_eq_getElem?_getD, hx]
      exact ev_var rfl
    · exact fun H3 e3 Q q => ⟨p, p2, _, rfl, rfl, SqL.of (e3 _ _ h1), SqL.of (e3 _ _ h2), q H3 (Ex.refl _)⟩
def spFitsL (K : PySem.W.Frag) (C : Addr) : Sp := fun vs H Q _ => ∃ (a : Addr) (ns : List Int) (k : Int) (z : V) (dz : PyData) (n : Nat) (ok : Addr → Prop), vs = [.ref a, .int k, z] ∧ SqL K H a (ns.map V.int) ∧ ns.length ≤ 100 ∧ k ≤ 24 ∧ Ro K C ok H n z dz ∧ ∀ H', Ex H H' → Q (.bl (fitsD ns k dz)) H'
theorem ok_law_fits (T : TK K mg) : FnOk P w K mg base CX0 3 T.law_fits.a T.law_fits.fd ["row", "wires", "value"] (spFitsL K T.C) := by
  refine T.law_fits.F.ok sc_law_fits (fun vs H Q E h => ?_) (fun cdv A outer s H vs Q E hr h => ?_)
  · obtain ⟨a, ns, k, z, dz, n, ok, rfl, _⟩ := h; rfl
  obtain ⟨a, ns, k, z, dz, n, ok, rfl, ha, hn, hk, hz, q⟩ := h
  refine ⟨_, (pss_cons (ps_if (PW.pt (pw_or (pt_not (pt_val (pe_callB (kisi K) (by rfl) T.z_isinstance (by decide +kernel) (pa_cons (pv 2) (pa_cons (pe_bltn (v := .ty "tuple") rfl T.z_tuple (by decide +kernel) rfl) pa_nil))))) (pw_or1 (pt_cmpR op_ne (pe_callB (klen K) (by rfl) T.z_len (by decide +kernel) (pa_cons (pv 2) pa_nil)) (pe_callB (klen K) (by rfl) T.z_len (by decide +kernel) (pa_cons (pv 0) pa_nil)) (nomark _))))) (pss_one (ps_ret pe_bl)) pss_nil)
    (pss_cons (ps_set (i := 3) sc_law_fits.nd rfl (Or.inl rfl) (pv 1))
    (pss_cons (ps_for PassesOwn.never rfl (pi_range1 rfl T.z_range (pa_cons (pe_callB (klen K) (by rfl) T.z_len (by decide +kernel) (pa_cons (pv 0) pa_nil)) pa_nil)) (pg_name (i := 4) sc_law_fits.nd rfl (Or.inl rfl)) (pss_cons (ps_if (PW.pt (pw_or (pt_not (pt_val (pe_call (ok_law_is_sizes T) (hr.mono (by decide)) rfl T.law_is_sizes.m T.law_is_sizes.F.kp T.law_is_sizes.b .nil pass0 (pa_cons (pe_ix (kixt K) (pv 2) (pv 4) (fun _ _ => rfl)) pa_nil)))) (pw_or1 (pt_cmpR op_gt (pe_op op_sub (pe_op op_add (pe_callB (ksum K rfl) (by rfl) T.z_sum (by decide +kernel) (pa_cons (pe_ix (kixt K) (pv 2) (pv 4) (fun _ _ => rfl)) pa_nil)) (pe_callB (klen K) (by rfl) T.z_len (by decide +kernel) (pa_cons (pe_ix (kixt K) (pv 2) (pv 4) (fun _ _ => rfl)) pa_nil))) pe_int) (pv 3) (nomark _))))) (pss_one (ps_ret pe_bl)) pss_nil)
    (pss_cons (ps_if (pt_cmpR op_lt (pe_call (ok_law_product T) (hr.mono (by decide)) rfl T.law_product.m T.law_product.F.kp T.law_product.b .nil pass0 (pa_cons (pe_ix (kixt K) (pv 2) (pv 4) (fun _ _ => rfl)) (pa_cons (pv 3) pa_nil))) (pe_ix (kixl K) (pv 0) (pv 4) (fun _ _ => rfl)) (nomark _)) (pss_one (ps_ret pe_bl)) pss_nil)
    (pss_one (ps_set (i := 3) sc_law_fits.nd rfl (Or.inl rfl) (pe_op op_add (pe_op op_sub (pe_op op_sub (pv 3) (pe_callB (ksum K rfl) (by rfl) T.z_sum (by decide +kernel) (pa_cons (pe_ix (kixt K) (pv 2) (pv 4) (fun _ _ => rfl)) pa_nil))) (pe_callB (klen K) (by rfl) T.z_len (by decide +kernel) (pa_cons (pe_ix (kixt K) (pv 2) (pv 4) (fun _ _ => rfl)) pa_nil))) pe_int))))))
    (pss_one (ps_ret pe_bl))))), ?_⟩
  obtain ⟨_, _, tt⟩ := ev_isD (σ := start ["row", "wires", "value", "k", "at"] [.ref a, .int k, z]) (k := 2) T.ca hz rfl
  refine q_when (b := !isTup dz || !decide ((itemsD dz).length = ns.length)) (et_or (et_not tt) fun ht => ?_) (fun hb H1 e1 => ?_) (fun hb H1 e1 => ?_)
  · have ht : isTup dz = true := by simpa using ht
    obtain ⟨b, us, rfl, hb, hd, _, hul, huz, uall⟩ := hz.tupl ht
    have ee : (!decide ((itemsD dz).length = ns.length)) = !decide (V.int (us.length : Int) = V.int (ns.length : Int)) := by
      rw [← hul]
      congr 1
      exact decide_eq_decide.mpr ⟨fun z => by rw [z], fun z => by have := V.int.inj z; omega⟩
    rw [ee]
    exact et_test (ev_op (fun H1 e1 Q q => ⟨_, rfl, _, _, rfl, .inr ⟨_, ex_t e1 hb, rfl⟩, q H1 (Ex.refl _)⟩) (fun H1 e1 Q q => ⟨_, rfl, _, _, rfl, .inl ⟨_, ex_l e1 ha, (List.length_map ..).symm⟩, q H1 (Ex.refl _)⟩) (rv_ne rfl))
  · have : fitsD ns k dz = false := by
      unfold fitsD
      cases h1 : isTup dz <;> cases h2 : decide ((itemsD dz).length = ns.length) <;> rw [h1, h2] at hb <;> first | rfl | cases hb
    have q2 := q H1 e1
    rw [this] at q2
    exact q2
  · have hb2 : isTup dz = true ∧ (itemsD dz).length = ns.length := by
      cases h1 : isTup dz <;> cases h2 : decide ((itemsD dz).length = ns.length) <;> rw [h1, h2] at hb <;> first | exact ⟨rfl, of_decide_eq_true h2⟩ | cases hb
    obtain ⟨b, us, rfl, hb, hd, _, hul, huz, uall⟩ := (hz.ex e1).tupl hb2.1
    have ha1 := ex_l e1 ha
    have q2 : ∀ H', Ex H1 H' → Q (.bl (fitsL ns k (itemsD dz))) H' := fun H' e' => by
      have := q H' (e1.trans e')
      unfold fitsD at this
      rw [hb2.1, decide_eq_true hb2.2] at this
      exact this
    clear q
    refine ⟨_, rfl, _, rfl, _, _, rfl, .inl ⟨_, ha1, rfl⟩, ((ns.map V.int).length : Int), rfl, by omega, by rw [List.length_map]; omega, for_range (lo := 0) (n := (((ns.map V.int).length : Int)).toNat) (fun i σ G => Ex H1 G ∧ ∃ (left : Int) (v4 : Option V), left ≤ 24 ∧ fitsL ns k (itemsD dz) = fitsL (ns.drop i) left ((itemsD dz).drop i) ∧ σ = [some (.ref a), some (.int k), some (.ref b), some (.int left), v4]) ⟨Ex.refl _, k, none, hk, rfl, rfl⟩ ?_ ?_⟩
    · rintro i σ G hi ⟨eg, left, v4, l1, hf, rfl⟩
      rw [Int.zero_add]
      rw [Int.toNat_natCast, List.length_map] at hi
      have hxi : ns[i]? = some ns[i] := List.getElem?_eq_getElem hi
      have hi2 : i < (itemsD dz).length := by omega
      have hv : us[i]? = some (us[i]'(by omega)) := List.getElem?_eq_getElem _
      have d1 : ns.drop i = ns[i] :: ns.drop (i + 1) := List.drop_eq_getElem_cons hi
      have d2 : (itemsD dz).drop i = (itemsD dz)[i] :: (itemsD dz).drop (i + 1) := List.drop_eq_getElem_cons hi2
      have ru := uall i _ _ hv (List.getElem?_eq_getElem hi2)
      rw [d1, d2, fitsL_cons] at hf
      generalize (itemsD dz)[i] = e at hf ru
      have hx2 : (ns.map V.int)[i]? = some (.int ns[i]) := by rw [List.getElem?_map, hxi]; rfl
      generalize ns[i] = x at hf hx2
      generalize us[i]'(by omega) = v at hv ru
      have hbG := ex_t eg hb
      refine ⟨_, rfl, _, rfl, b, us, _, v, rfl, rfl, hbG, atI_nat hv, v, e, n - 1, ok, rfl, ru.ex eg, fun G2 e2 => ⟨sizesD e, rfl, ?_⟩⟩
      cases hs : sizesD e with
      | false =>
        rw [hs, Bool.false_and, Bool.false_and] at hf
        have := q2 _ (eg.trans e2)
        rw [hf] at this
        exact iteT (iteT this)
      | true =>
      rw [hs, Bool.true_and] at hf
      obtain ⟨g, rfl, hg, gne, gpos, _⟩ := sizes_get ru hs
      have hg2 := ex_t (eg.trans e2) hg
      have hb2' := ex_t e2 hbG
      refine iteF ⟨_, rfl, _, rfl, b, us, _, _, rfl, rfl, hb2', atI_nat hv, g, _, rfl, .inr hg2, _, rfl, _, rfl, b, us, _, _, rfl, rfl, hb2', atI_nat hv, _, _, rfl, .inr ⟨_, hg2, rfl⟩, _, _, rfl, rfl, _, _, rfl, rfl, _, rfl, _, _, rfl, rfl, _, rfl, ite2 (fun cu => ?_) (fun cu => ?_)⟩
      · have cu := of_decide_eq_true cu
        rw [List.length_map] at cu
        rw [decide_eq_false (show ¬ useL (numsD e) ≤ left by unfold useL; omega), Bool.false_and] at hf
        have := q2 _ (eg.trans e2)
        rw [hf] at this
        exact this
      · have cu := of_decide_eq_false (Bool.eq_false_iff.mpr cu)
        rw [List.length_map] at cu
        have cu' : useL (numsD e) ≤ left := by unfold useL; omega
        rw [decide_eq_true cu', Bool.true_and] at hf
        have up := use_pos gpos gne
        refine ⟨_, rfl, _, rfl, b, us, _, _, rfl, rfl, hb2', atI_nat hv, _, rfl, g, numsD e, left, rfl, hg2, okL_of _ _ gpos cu', l1, fun H3 e3 => ⟨_, rfl, _, rfl, a, _, _, _, rfl, rfl, ex_l ((eg.trans e2).trans e3) ha1, atI_nat hx2, _, _, rfl, rfl, _, rfl, ite2 (fun cp => ?_) (fun cp => ?_)⟩⟩
        · have cp := of_decide_eq_true cp
          rw [decide_eq_false (show ¬ x ≤ prodL left (numsD e) by omega), Bool.false_and] at hf
          have := q2 _ ((eg.trans e2).trans e3)
          rw [hf] at this
          exact this
        · have cp := of_decide_eq_false (Bool.eq_false_iff.mpr cp)
          rw [decide_eq_true (show x ≤ prodL left (numsD e) by omega), Bool.true_and] at hf
          have hg3 := ex_t e3 hg2
          have hb3 := ex_t e3 hb2'
          refine ⟨_, rfl, _, rfl, _, rfl, b, us, _, _, rfl, rfl, hb3, atI_nat hv, g, _, rfl, .inr hg3, _, _, rfl, rfl, _, rfl, _, rfl, b, us, _, _, rfl, rfl, hb3, atI_nat hv, _, _, rfl, .inr ⟨_, hg3, rfl⟩, _, _, rfl, rfl, _, _, rfl, rfl, (eg.trans e2).trans e3, left - useL (numsD e), some (.int (i : Int)), by omega, hf, ?_⟩
          rw [show left - useL (numsD e) = left - (numsD e).sum - (((numsD e).map V.int).length : Int) + 1 by unfold useL; rw [List.length_map]; omega]
          rfl
    · rintro σ G ⟨eg, left, v4, l1, hf, rfl⟩
      rw [Int.toNat_natCast, List.length_map, List.drop_length, ← hb2.2, List.drop_length] at hf
      have := q2 G eg
      rw [hf] at this
      exact this
end
end L2.U


set_option Elab.async false
set_option linter.all false
set_option maxRecDepth 100000
set_option maxHeartbeats 4000000
namespace L2.U
open PySem PySem.Spec PyProof.Rows Evl
section
variable {P : Program} {w : World} {K : PySem.W.Frag} {mg : Str → Option Value} {base : Heap}
/-! ### values that are made -/
abbrev PV := (Addr → Prop) → V → Hp → Prop
def addS (S : Addr → Prop) (D : Addr) : Addr → Prop := fun a => S a ∨ a = D
def Av (K : PySem.W.Frag) (C : Addr) (n : Nat) : PV := fun S v H => ∃ d, Ro K C (fun a => ¬ S a) H n v d
def LP (P : PV) (lo hi : Nat) : PV := fun S v H => ∃ p xs, v = .ref p ∧ H p = some (.lst xs) ∧ ¬ S p ∧ lo ≤ xs.length ∧ xs.length ≤ hi ∧ ∀ x ∈ xs, P (addS S p) x H
def TP (K : PySem.W.Frag) (P : PV) (lo hi : Nat) : PV := fun S v H => ∃ p xs, v = .ref p ∧ SqT K H p xs ∧ lo ≤ xs.length ∧ xs.length ≤ hi ∧ ∀ x ∈ xs, P S x H
structure Cl (P : PV) : Prop where
  ex : ∀ {S x H H'}, Ex H H' → P S x H → P S x H'
  new : ∀ {S x H D}, H D = none → P S x H → P (addS S D) x H
  mt : ∀ {S x H H' D zs}, S D → H D = some (.lst zs) → But D H H' → P S x H → P S x H'
  less : ∀ {S S' : Addr → Prop} {x H}, (∀ a, S' a → S a) → P S x H → P S' x H
theorem Ro.new {C : Addr} {S : Addr → Prop} {H : Hp} {n : Nat} {x : V} {d : PyData} {D : Addr} (hD : H D = none) (h : Ro K C (fun a => ¬ S a) H n x d) : Ro K C (fun a => ¬ addS S D a) H n x d := by
  induction h with
  | non => exact .non
  | bl b => exact .bl b
  | int i => exact .int i
  | str z h h2 => exact .str z h h2
  | lst h ha hl hz _ ih => exact .lst h (fun z => z.elim ha fun e => by rw [e, hD] at h; cases h) hl hz ih
  | tup h hl hz _ ih => exact .tup h hl hz ih
  | dct h => exact .dct h
  | own h => exact .own h
theorem cl_av {C : Addr} {n : Nat} : Cl (Av K C n) where
  ex e h := h.elim fun d r => ⟨d, r.ex e⟩
  new hD h := h.elim fun d r => ⟨d, r.new hD⟩
  mt hD hz k h := h.elim fun d r => ⟨d, r.but hz k fun a ha z => ha (z ▸ hD)⟩
  less w h := h.elim fun d r => ⟨d, r.of fun a ha z => ha (w a z)⟩
theorem cl_lp {P : PV} {lo hi : Nat} (c : Cl P) : Cl (LP P lo hi) where
  ex e h := by
    obtain ⟨p, xs, rfl, hp, sp, l0, l1, al⟩ := h
    exact ⟨p, xs, rfl, e _ _ hp, sp, l0, l1, fun x hx => c.ex e (al x hx)⟩
  new hD h := by
    obtain ⟨p, xs, rfl, hp, sp, l0, l1, al⟩ := h
    exact ⟨p, xs, rfl, hp, (fun z => z.elim sp fun e => by rw [e, hD] at hp; cases hp), l0, l1, fun x hx => c.less (fun a h => h.elim (fun h => h.elim (fun h => .inl (.inl h)) .inr) fun h => .inl (.inr h)) (c.new hD (al x hx))⟩
  mt hD hz k h := by
    obtain ⟨p, xs, rfl, hp, sp, l0, l1, al⟩ := h
    exact ⟨p, xs, rfl, k _ _ (fun z => sp (by rw [z]; exact hD)) hp, sp, l0, l1, fun x hx => c.mt (.inl hD) hz k (al x hx)⟩
  less w h := by
    obtain ⟨p, xs, rfl, hp, sp, l0, l1, al⟩ := h
    exact ⟨p, xs, rfl, hp, fun z => sp (w p z), l0, l1, fun x hx => c.less (fun a h => h.imp (w a) id) (al x hx)⟩
theorem cl_tp {P : PV} {lo hi : Nat} (c : Cl P) : Cl (TP K P lo hi) where
  ex e h := by
    obtain ⟨p, xs, rfl, hp, l0, l1, al⟩ := h
    exact ⟨p, xs, rfl, ex_t e hp, l0, l1, fun x hx => c.ex e (al x hx)⟩
  new hD h := by
    obtain ⟨p, xs, rfl, hp, l0, l1, al⟩ := h
    exact ⟨p, xs, rfl, hp, l0, l1, fun x hx => c.new hD (al x hx)⟩
  mt hD hz k h := by
    obtain ⟨p, xs, rfl, hp, l0, l1, al⟩ := h
    exact ⟨p, xs, rfl, sqt_but hz k hp, l0, l1, fun x hx => c.mt hD hz k (al x hx)⟩
  less w h := by
    obtain ⟨p, xs, rfl, hp, l0, l1, al⟩ := h
    exact ⟨p, xs, rfl, hp, l0, l1, fun x hx => c.less w (al x hx)⟩
theorem pick_ds {α : Type} {P : V → α → Prop} : ∀ {xs : List V}, (∀ x ∈ xs, ∃ d, P x d) → ∃ ds : List α, xs.length = ds.length ∧ ∀ (i : Nat) (x : V) (d : α), xs[i]? = some x → ds[i]? = some d → P x d
  | [], _ => ⟨[], rfl, fun i x d h _ => by cases h⟩
  | x :: xs, h => by
    obtain ⟨d, hd⟩ := h x List.mem_cons_self
    obtain ⟨ds, hl, al⟩ := pick_ds fun y hy => h y (List.mem_cons_of_mem _ hy)
    refine ⟨d :: ds, by rw [List.length_cons, List.length_cons, hl], fun i y e hy he => ?_⟩
    cases i with
    | zero => cases Option.some.inj hy; cases Option.some.inj he; exact hd
    | succ i => exact al i y e hy he
section
variable {C : Addr} {n m lo hi lo' hi' : Nat} {S : Addr → Prop} {v : V} {H : Hp} {P P' : PV}
theorem Av.upL (h : LP (Av K C n) lo hi S v H) (l : hi ≤ 900) : Av K C (n + 1) S v H := by
  obtain ⟨p, xs, rfl, hp, sp, l0, l1, al⟩ := h
  obtain ⟨ds, hl, ald⟩ := pick_ds fun x hx => cl_av.less (fun a h => .inl h) (al x hx)
  exact ⟨_, .lst hp sp hl (by omega) ald⟩
theorem Av.upT (h : TP K (Av K C n) lo hi S v H) (l : hi ≤ 900) : Av K C (n + 1) S v H := by
  obtain ⟨p, xs, rfl, hp, l0, l1, al⟩ := h
  obtain ⟨ds, hl, ald⟩ := pick_ds al
  exact ⟨_, .tup hp hl (by omega) ald⟩
theorem Av.le (h : Av K C n S v H) (l : n ≤ m) : Av K C m S v H := h.elim fun d r => ⟨d, r.le l⟩
theorem TP.mono (w : ∀ x, P S x H → P' S x H) (l : lo' ≤ lo) (u : hi ≤ hi') (h : TP K P lo hi S v H) : TP K P' lo' hi' S v H := by
  obtain ⟨p, xs, rfl, hp, l0, l1, al⟩ := h
  exact ⟨p, xs, rfl, hp, by omega, by omega, fun x hx => w x (al x hx)⟩
end
def EvM (te : TE) (σ : L2.St) (H : Hp) (R : V → Hp → Prop) : Prop := ∀ H1, Ex H H1 → ∀ Q : VK, (∀ v H2, Ex H1 H2 → R v H2 → Q v H2) → te σ H1 Q
def EvN (ta : TA) (σ : L2.St) (H : Hp) (R : V → Hp → Prop) (k : Nat) : Prop := ∀ H1, Ex H H1 → ∀ Q : List V → Hp → Prop, (∀ vs H2, Ex H1 H2 → vs.length = k → (∀ v ∈ vs, R v H2) → Q vs H2) → ta σ H1 Q
/-- what is kept out is alive -/
def Ct (S : Addr → Prop) (H : Hp) : Prop := ∀ a, S a → ∃ o, H a = some o
theorem Ct.ex {S : Addr → Prop} {H H' : Hp} (e : Ex H H') (h : Ct S H) : Ct S H' := fun a ha => (h a ha).elim fun o ho => ⟨o, e _ _ ho⟩
theorem Ct.fresh {S : Addr → Prop} {H H' : Hp} {p : Addr} (h : Ct S H) (e : Ex H H') (hp : H' p = none) : ¬ S p := fun z => (h p z).elim fun o ho => by
  rw [e _ _ ho] at hp
  cases hp
theorem Ct.add {S : Addr → Prop} {H : Hp} {D : Addr} {o : HO} (h : Ct S H) (hD : H D = some o) : Ct (addS S D) H := fun a ha => ha.elim (h a) fun e => ⟨o, e ▸ hD⟩
theorem Ct.but {S : Addr → Prop} {H H' : Hp} {D : Addr} {o : HO} (k : But D H H') (hD : H' D = some o) (h : Ct S H) : Ct S H' := fun a ha => by
  by_cases c : a = D
  · exact ⟨o, c ▸ hD⟩
  · obtain ⟨u, hu⟩ := h a ha
    exact ⟨u, k _ _ c hu⟩
section
variable {C : Addr} {n lo hi lo' hi' k : Nat} {S : Addr → Prop} {v : V} {H : Hp} {P P' : PV} {σ : L2.St} {te tb : TE} {ta : TA}
theorem em_of (c : Cl P) (h : Ev te σ H v) (r : P S v H) : EvM te σ H (P S) := fun H1 e1 Q q => h H1 e1 _ fun H2 e2 => q v H2 e2 (c.ex (e1.trans e2) r)
theorem em_imp {R R' : V → Hp → Prop} (h : EvM te σ H R) (w : ∀ v H', R v H' → R' v H') : EvM te σ H R' := fun H1 e1 Q q => h H1 e1 _ fun v H2 e2 r => q v H2 e2 (w v H2 r)
theorem em_le {m : Nat} (h : EvM te σ H (Av K C n S)) (l : n ≤ m) : EvM te σ H (Av K C m S) := em_imp h fun v H' r => r.le l
theorem em_upL {m : Nat} (h : EvM te σ H (LP (Av K C n) lo hi S)) (l : hi ≤ 900) (u : n + 1 ≤ m) : EvM te σ H (Av K C m S) := em_imp h fun v H' r => (Av.upL r l).le u
theorem em_upT {m : Nat} (h : EvM te σ H (TP K (Av K C n) lo hi S)) (l : hi ≤ 900) (u : n + 1 ≤ m) : EvM te σ H (Av K C m S) := em_imp h fun v H' r => (Av.upT r l).le u
theorem en_nil {R : V → Hp → Prop} : EvN tNil σ H R 0 := fun H1 e1 Q q => q [] H1 (Ex.refl _) rfl (fun v h => by cases h)
theorem en_cons (c : Cl P) (h : EvM te σ H (P S)) (t : EvN ta σ H (P S) k) : EvN (tCons te ta) σ H (P S) (k + 1) := fun H1 e1 Q q =>
  h H1 e1 _ fun v H2 e2 r => t H2 (e1.trans e2) _ fun vs H3 e3 l al => q (v :: vs) H3 (e2.trans e3) (by rw [List.length_cons, l]) fun u hu => by
    rcases List.mem_cons.mp hu with rfl | hu
    · exact c.ex e3 r
    · exact al u hu
theorem em_list (c : Cl P) (hS : Ct S H) (h : EvN ta σ H (P S) k) (hk : k ≤ 100) : EvM (tLst ta) σ H (LP P k k S) := fun H1 e1 Q q =>
  h H1 e1 _ fun vs H2 e2 l al => ⟨Nat.le_of_lt (small1000 (by omega)), fun p hp => q _ _ (e2.trans (Ex.new hp)) ⟨p, vs, rfl, upd_same, hS.fresh (e1.trans e2) hp, by omega, by omega, fun x hx => c.ex (Ex.new hp) (c.new hp (al x hx))⟩⟩
theorem em_tup (c : Cl P) (h : EvN ta σ H (P S) k) (hk : k ≤ 100) : EvM (tTup ta) σ H (TP K P k k S) := fun H1 e1 Q q =>
  h H1 e1 _ fun vs H2 e2 l al => ⟨Nat.le_of_lt (small1000 (by omega)), fun p hp => q _ _ (e2.trans (Ex.new hp)) ⟨p, vs, rfl, SqT.of upd_same, by omega, by omega, fun x hx => c.ex (Ex.new hp) (al x hx)⟩⟩
theorem em_catT (c : Cl P) (h1 : EvM te σ H (TP K P lo hi S)) (h2 : EvM tb σ H (TP K P lo' hi' S)) (l : hi + hi' ≤ 900) : EvM (tOp (rCatA K) te tb) σ H (TP K P (lo + lo') (hi + hi') S) := fun H1 e1 Q q =>
  h1 H1 e1 _ fun u H2 e2 r2 => h2 H2 (e1.trans e2) _ fun v H3 e3 r3 => by
    obtain ⟨p, xs, rfl, hp, l0, l1, al⟩ := (cl_tp c).ex e3 r2
    obtain ⟨p', xs', rfl, hp', l0', l1', al'⟩ := r3
    refine ⟨p, p', xs, xs', rfl, rfl, hp, hp', Nat.le_of_lt (small1000 (by omega)), fun z => q _ _ (e2.trans e3) ⟨p', xs', rfl, hp', by rw [z] at l0; have : lo ≤ 0 := l0; omega, by omega, al'⟩, fun _ z => q _ _ (e2.trans e3) ⟨p, xs, rfl, hp, by rw [z] at l0'; have : lo' ≤ 0 := l0'; omega, by omega, al⟩, fun _ _ z hz => q _ _ (e2.trans (e3.trans (Ex.new hz))) ⟨z, _, rfl, SqT.of upd_same, by rw [List.length_append]; omega, by rw [List.length_append]; omega, fun x hx => ?_⟩⟩
    rcases List.mem_append.mp hx with hx | hx
    · exact c.ex (Ex.new hz) (al x hx)
    · exact c.ex (Ex.new hz) (al' x hx)
theorem cut_mem {xs : List V} {l u : Option Int} {x : V} (h : x ∈ cutV xs l u) : x ∈ xs := by
  unfold cutV at h
  exact List.mem_of_mem_drop (List.mem_of_mem_take h)
theorem em_slT {tl th : TO} {l u : Option Int} (c : Cl P) (h : EvM te σ H (TP K P lo hi S)) (h1 : EvO tl σ H l) (h2 : EvO th σ H u) : EvM (tSl (rSlA K) te tl th) σ H (TP K P 0 hi S) := fun H1 e1 Q q =>
  h H1 e1 _ fun v H2 e2 r => h1 H2 (e1.trans e2) _ fun H3 e3 => h2 H3 (e1.trans (e2.trans e3)) _ fun H4 e4 => by
    obtain ⟨p, xs, rfl, hp, l0, l1, al⟩ := (cl_tp c).ex (e3.trans e4) r
    exact ⟨p, xs, rfl, hp, fun _ => q _ _ (e2.trans (e3.trans e4)) ⟨p, xs, rfl, hp, Nat.zero_le _, l1, al⟩, fun _ z hz => q _ _ (e2.trans (e3.trans (e4.trans (Ex.new hz)))) ⟨z, _, rfl, SqT.of upd_same, Nat.zero_le _, Nat.le_trans cutV_len l1, fun x hx => c.ex (Ex.new hz) (al x (cut_mem hx))⟩⟩
theorem em_revT (c : Cl P) (h : EvM te σ H (TP K P lo hi S)) : EvM (tRevS K te) σ H (TP K P lo hi S) := fun H1 e1 Q q =>
  h H1 e1 _ fun v H2 e2 r => by
    obtain ⟨p, xs, rfl, hp, l0, l1, al⟩ := r
    exact ⟨p, xs, rfl, .inr ⟨hp, fun z hz => q _ _ (e2.trans (Ex.new hz)) ⟨z, _, rfl, SqT.of upd_same, by rw [List.length_reverse]; exact l0, by rw [List.length_reverse]; exact l1, fun x hx => c.ex (Ex.new hz) (al x (List.mem_reverse.mp hx))⟩⟩⟩
theorem em_repT {m : Nat} {j : Int} (c : Cl P) (h : EvM te σ H (TP K P 1 1 S)) (hb : Ev tb σ H (.int j)) (j0 : 0 ≤ j) (j1 : j ≤ (m : Int)) (hm : m ≤ 900) : EvM (tOp (rRepA K) te tb) σ H (TP K P 0 m S) := fun H1 e1 Q q =>
  h H1 e1 _ fun v H2 e2 r => hb H2 (e1.trans e2) _ fun H3 e3 => by
    obtain ⟨p, xs, rfl, hp, l0, l1, al⟩ := (cl_tp c).ex e3 r
    refine ⟨p, j, xs, rfl, rfl, hp, fun z => by rw [z] at l0; exact absurd l0 (by decide), j0, by omega, by omega, fun z H' e hz => q _ _ (e2.trans (e3.trans e)) ⟨z, _, rfl, hz, Nat.zero_le _, ?_, fun x hx => ?_⟩⟩
    · rw [List.length_flatten, List.map_replicate, List.sum_replicate_nat]
      rw [show xs.length = 1 by omega]
      omega
    · obtain ⟨ys, hy, hx⟩ := List.mem_flatten.mp hx
      rw [(List.mem_replicate.mp hy).2] at hx
      exact c.ex e (al x hx)
theorem em_listOf (c : Cl P) (hS : Ct S H) (h : EvM te σ H (TP K P lo hi S)) : EvM (tCB (rListOf K) (tCons te tNil)) σ H (LP P lo hi S) := fun H1 e1 Q q =>
  h H1 e1 _ fun v H2 e2 r => by
    obtain ⟨p, xs, rfl, hp, l0, l1, al⟩ := r
    exact ⟨p, xs, rfl, .inr hp, fun z hz => q _ _ (e2.trans (Ex.new hz)) ⟨z, xs, rfl, upd_same, hS.fresh (e1.trans e2) hz, l0, l1, fun x hx => c.ex (Ex.new hz) (c.new hz (al x hx))⟩⟩
theorem em_tupOf (c : Cl P) (h : EvM te σ H (LP P lo hi S)) : EvM (tCB (rTupOf K) (tCons te tNil)) σ H (TP K P lo hi S) := fun H1 e1 Q q =>
  h H1 e1 _ fun v H2 e2 r => by
    obtain ⟨p, xs, rfl, hp, sp, l0, l1, al⟩ := r
    exact ⟨p, xs, rfl, .inl ⟨SqL.of hp, fun z hz => q _ _ (e2.trans (Ex.new hz)) ⟨z, xs, rfl, SqT.of upd_same, l0, l1, fun x hx => c.ex (Ex.new hz) (c.less (fun a h => .inl h) (al x hx))⟩⟩⟩
theorem em_cat (c : Cl P) (hS : Ct S H) (h1 : EvM te σ H (LP P lo hi S)) (h2 : EvM tb σ H (LP P lo' hi' S)) (l : hi + hi' ≤ 900) : EvM (tOp rCat te tb) σ H (LP P (lo + lo') (hi + hi') S) := fun H1 e1 Q q =>
  h1 H1 e1 _ fun u H2 e2 r2 => h2 H2 (e1.trans e2) _ fun v H3 e3 r3 => by
    obtain ⟨p, xs, rfl, hp, sp, l0, l1, al⟩ := (cl_lp c).ex e3 r2
    obtain ⟨p', xs', rfl, hp', sp', l0', l1', al'⟩ := r3
    refine ⟨p, p', xs, xs', rfl, rfl, hp, hp', Nat.le_of_lt (small1000 (by omega)), fun z hz => q _ _ (e2.trans (e3.trans (Ex.new hz))) ⟨z, _, rfl, upd_same, hS.fresh (e1.trans (e2.trans e3)) hz, by rw [List.length_append]; omega, by rw [List.length_append]; omega, fun x hx => ?_⟩⟩
    rcases List.mem_append.mp hx with hx | hx
    · exact c.ex (Ex.new hz) (c.new hz (c.less (fun a h => .inl h) (al x hx)))
    · exact c.ex (Ex.new hz) (c.new hz (c.less (fun a h => .inl h) (al' x hx)))
theorem em_sl {tl th : TO} {l u : Option Int} (c : Cl P) (hS : Ct S H) (h : EvM te σ H (LP P lo hi S)) (h1 : EvO tl σ H l) (h2 : EvO th σ H u) : EvM (tSl (rSlL K) te tl th) σ H (LP P 0 hi S) := fun H1 e1 Q q =>
  h H1 e1 _ fun v H2 e2 r => h1 H2 (e1.trans e2) _ fun H3 e3 => h2 H3 (e1.trans (e2.trans e3)) _ fun H4 e4 => by
    obtain ⟨p, xs, rfl, hp, sp, l0, l1, al⟩ := (cl_lp c).ex (e3.trans e4) r
    exact ⟨p, xs, rfl, SqL.of hp, fun z hz => q _ _ (e2.trans (e3.trans (e4.trans (Ex.new hz)))) ⟨z, _, rfl, upd_same, hS.fresh (e1.trans (e2.trans (e3.trans e4))) hz, Nat.zero_le _, Nat.le_trans cutV_len l1, fun x hx => c.ex (Ex.new hz) (c.new hz (c.less (fun a h => .inl h) (al x (cut_mem hx))))⟩⟩
theorem em_repL {m : Nat} {j : Int} (c : Cl P) (hS : Ct S H) (h : EvM te σ H (LP P 1 1 S)) (hb : Ev tb σ H (.int j)) (j0 : 0 ≤ j) (j1 : j ≤ (m : Int)) (hm : m ≤ 900) : EvM (tOp rRep te tb) σ H (LP P 0 m S) := fun H1 e1 Q q =>
  h H1 e1 _ fun v H2 e2 r => hb H2 (e1.trans e2) _ fun H3 e3 => by
    obtain ⟨p, xs, rfl, hp, sp, l0, l1, al⟩ := (cl_lp c).ex e3 r
    refine ⟨p, j, xs, rfl, rfl, hp, by omega, by omega, ?_, fun z hz => q _ _ (e2.trans (e3.trans (Ex.new hz))) ⟨z, _, rfl, upd_same, hS.fresh (e1.trans (e2.trans e3)) hz, Nat.zero_le _, ?_, fun x hx => ?_⟩⟩
    · rw [show xs.length = 1 by omega]
      exact Nat.le_of_lt (small1000 (by omega))
    · rw [List.length_flatten, List.map_replicate, List.sum_replicate_nat]
      rw [show xs.length = 1 by omega]
      omega
    · obtain ⟨ys, hy, hx⟩ := List.mem_flatten.mp hx
      rw [(List.mem_replicate.mp hy).2] at hx
      exact c.ex (Ex.new hz) (c.new hz (c.less (fun a h => .inl h) (al x hx)))
theorem em_dict : EvM tDNewK σ H (Av K C n S) := fun H1 e1 Q q p hp => q _ _ (Ex.new hp) ⟨_, .dct upd_same⟩
theorem em_make {i : Int} (T : TK K mg) (i0 : 0 ≤ i) (i1 : i ≤ 10) : EvM (tMakeX T.C (spLnInit T.C) (fun _ => E0) (tCons (tTup (tCons (tC (.str "wires")) (tCons (tC (.int i)) tNil))) tNil)) σ H (Av K T.C n S) := fun H1 e1 Q q => by
  refine ⟨two_le, fun a ha => ?_⟩
  show ∀ x dx, upd H1 a (.tup (spcW i)) x = none → upd H1 a (.tup (spcW i)) dx = none → dx ≠ x → spLnInit T.C [.ref x, .ref a] (upd (upd (upd H1 a (.tup (spcW i))) dx (.own x)) x (.ins T.C dx [])) (fun v H2 => v = .non ∧ Q (.ref x) H2) E0
  have e2 := Ex.new (o := .tup (spcW i)) ha
  have h2 : upd H1 a (.tup (spcW i)) a = some (.tup (spcW i)) := upd_same
  generalize upd H1 a (.tup (spcW i)) = G at e2 h2
  intro x dx hx hdx hne
  have ax : a ≠ x := fun z => by rw [z, hx] at h2; cases h2
  have adx : a ≠ dx := fun z => by rw [z, hdx] at h2; cases h2
  refine ⟨x, dx, a, i, rfl, upd_same, by rw [upd_ne ax, upd_ne adx]; exact h2, i0, i1, fun fs H3 k3 hx3 => ⟨rfl, q _ _ ?_ ⟨_, .own hx3⟩⟩⟩
  refine e2.trans fun b o hb => k3 b o (fun z => by rw [z, hx] at hb; cases hb) ?_
  rw [upd_ne (fun z => by rw [z, hx] at hb; cases hb), upd_ne (fun z => by rw [z, hdx] at hb; cases hb)]
  exact hb
theorem em_non : EvM (tC .non) σ H (Av K C n S) := em_of cl_av ev_c ⟨_, .non⟩
theorem em_bl (b : Bool) : EvM (tC (.bl b)) σ H (Av K C n S) := em_of cl_av ev_c ⟨_, .bl b⟩
theorem em_int (i : Int) : EvM (tC (.int i)) σ H (Av K C n S) := em_of cl_av ev_c ⟨_, .int i⟩
theorem em_str (s : Str) (h1 : s.length ≤ 1000) (h2 : PyData.strOk s = true) : EvM (tC (.str s)) σ H (Av K C n S) := em_of cl_av ev_c ⟨_, .str s h1 h2⟩
theorem em_evi {i : Int} (h : Ev te σ H (.int i)) : EvM te σ H (Av K C n S) := em_of cl_av h ⟨_, .int i⟩
theorem em_lst0 (hS : Ct S H) : EvM (tLst tNil) σ H (Av K C (n + 1) S) := em_upL (em_list cl_av hS en_nil (by omega)) (by omega) (Nat.le_add_left _ _)
theorem em_tup0 : EvM (tTup tNil) σ H (TP K (Av K C n) 0 0 S) := em_tup cl_av en_nil (by omega)
theorem em_tup1 (h : EvM te σ H (Av K C n S)) : EvM (tTup (tCons te tNil)) σ H (TP K (Av K C n) 1 1 S) := em_tup cl_av (en_cons cl_av h en_nil) (by omega)
theorem em_lst1 (hS : Ct S H) (h : EvM te σ H (Av K C n S)) : EvM (tLst (tCons te tNil)) σ H (LP (Av K C n) 1 1 S) := em_list cl_av hS (en_cons cl_av h en_nil) (by omega)
theorem ev_neg (i : Int) : Ev (tUn (rU fun i => V.int (-i)) (tC (V.int i))) σ H (.int (-i)) := ev_un ev_c (fun H1 e Q k => ⟨i, rfl, k H1 (Ex.refl _)⟩)
theorem em_ex {R : V → Hp → Prop} {H' : Hp} (h : EvM te σ H R) (e : Ex H H') : EvM te σ H' R := fun H1 e1 => h H1 (e.trans e1)
end
end
end L2.U


set_option Elab.async false
set_option linter.all false
set_option maxRecDepth 100000
set_option maxHeartbeats 4000000
namespace L2.U
open PySem PySem.Spec PyProof.Rows Evl
section
variable {P : Program} {w : World} {K : PySem.W.Frag} {mg : Str → Option Value} {base : Heap}
structure PlAt (K : PySem.W.Frag) (H : Hp) (a : Addr) (xs : List V) (L : List (List Int)) : Prop where
  hs : SqT K H a xs
  hl : xs.length = L.length
  all : ∀ (i : Nat) (s : List Int), L[i]? = some s → ∃ c, xs[i]? = some (.ref c) ∧ SqT K H c (s.map V.int)
theorem PlAt.ex {H H' : Hp} {a : Addr} {xs : List V} {L : List (List Int)} (e : Ex H H') (h : PlAt K H a xs L) : PlAt K H' a xs L := ⟨ex_t e h.hs, h.hl, fun i s hi => (h.all i s hi).elim fun c hc => ⟨c, hc.1, ex_t e hc.2⟩⟩
theorem PlAt.but {H H' : Hp} {a b : Addr} {xs zs : List V} {L : List (List Int)} (hb : H b = some (.lst zs)) (k : But b H H') (h : PlAt K H a xs L) : PlAt K H' a xs L := ⟨sqt_but hb k h.hs, h.hl, fun i s hi => (h.all i s hi).elim fun c hc => ⟨c, hc.1, sqt_but hb k hc.2⟩⟩
theorem av_sizes {C c : Addr} {S : Addr → Prop} {G : Hp} {s : List Int} (h : SqT K G c (s.map V.int)) (l : s.length ≤ 900) : Av K C 1 S (.ref c) G := by
  refine ⟨tupI s, .tup h (by rw [List.length_map, List.length_map]) (by rw [List.length_map]; exact l) fun i x d hx hd => ?_⟩
  obtain ⟨z, hz, rfl⟩ := ints_get hx
  rw [List.getElem?_map, hz] at hd
  cases Option.some.inj hd
  exact .int z
theorem tp_sizes {C c : Addr} {S : Addr → Prop} {G : Hp} {s : List Int} (h : SqT K G c (s.map V.int)) : TP K (Av K C 0) s.length s.length S (.ref c) G := by
  refine ⟨c, _, rfl, h, by rw [List.length_map]; exact Nat.le_refl _, by rw [List.length_map]; exact Nat.le_refl _, fun x hx => ?_⟩
  obtain ⟨z, _, rfl⟩ := List.mem_map.mp hx
  exact ⟨_, .int z⟩
theorem PlAt.av {C : Addr} {S : Addr → Prop} {G : Hp} {a : Addr} {xs : List V} {L : List (List Int)} (h : PlAt K G a xs L) (g : ∀ s ∈ L, s.length ≤ 100) : ∀ x ∈ xs, Av K C 1 S x G := fun x hx => by
  obtain ⟨i, hi⟩ := List.mem_iff_getElem?.mp hx
  have hl := (List.getElem?_eq_some_iff.mp hi).1
  have hL : L[i]? = some (L[i]'(by rw [← h.hl]; exact hl)) := List.getElem?_eq_getElem _
  obtain ⟨c, hc, sc⟩ := h.all i _ hL
  rw [hi] at hc
  cases Option.some.inj hc
  exact av_sizes sc (by have := g _ (List.mem_of_getElem? hL); omega)
theorem PlAt.tp {C : Addr} {S : Addr → Prop} {G : Hp} {a : Addr} {xs : List V} {L : List (List Int)} (h : PlAt K G a xs L) (g : ∀ s ∈ L, s.length ≤ 100) : TP K (Av K C 1) xs.length xs.length S (.ref a) G := ⟨a, xs, rfl, h.hs, Nat.le_refl _, Nat.le_refl _, h.av g⟩
def isB (b : Addr) : Addr → Prop := fun a => a = b
theorem box_lst {H : Hp} {b : Addr} {n : Nat} (h : BoxAt H b n) : ∃ zs, H b = some (.lst zs) := by
  obtain ⟨d, m, c, f, h, _⟩ := h
  exact ⟨_, h⟩
/-- what near's steps keep -/
structure NC (K : PySem.W.Frag) (b : Addr) (H : Hp) (k : Nat) (a : Addr) (xs : List V) (L : List (List Int)) (G : Hp) : Prop where
  kb : But b H G
  B : BoxAt G b k
  pl : PlAt K G a xs L
theorem NC.ex {b : Addr} {H G G' : Hp} {k : Nat} {a : Addr} {xs : List V} {L : List (List Int)} (e : Ex G G') (h : NC K b H k a xs L G) : NC K b H k a xs L G' := ⟨h.kb.trans (But.of e), h.B.ex e, h.pl.ex e⟩
theorem NC.upd {b D : Addr} {H G : Hp} {k : Nat} {a : Addr} {xs zs : List V} {L : List (List Int)} {o : HO} (hD : H D = none) (Db : D ≠ b) (hz : G D = some (.lst zs)) (h : NC K b H k a xs L G) : NC K b H k a xs L (L2.upd G D o) := ⟨butMut h.kb hD, box_mut h.B Db, h.pl.but hz But.upd⟩
theorem NC.none {b p : Addr} {H G : Hp} {k : Nat} {a : Addr} {xs : List V} {L : List (List Int)} (h : NC K b H k a xs L G) (hp : G p = Option.none) : H p = Option.none ∧ p ≠ b := by
  have pb : p ≠ b := h.B.ne hp
  refine ⟨?_, pb⟩
  apply Classical.byContradiction
  intro no
  obtain ⟨o, ho⟩ := Option.ne_none_iff_exists'.mp no
  have := h.kb _ _ pb ho
  rw [hp] at this
  cases this
theorem NC.ct {b : Addr} {H G : Hp} {k : Nat} {a : Addr} {xs : List V} {L : List (List Int)} (h : NC K b H k a xs L G) : Ct (isB b) G := fun x hx => by
  obtain ⟨zs, hz⟩ := box_lst h.B
  exact ⟨_, by rw [show x = b from hx]; exact hz⟩
/-- a list under work -/
def WL (K : PySem.W.Frag) (C : Addr) (n : Nat) (S : Addr → Prop) (p : Addr) (m : Nat) (G : Hp) : Prop := ∃ ys, G p = some (.lst ys) ∧ ys.length ≤ m ∧ ∀ y ∈ ys, Av K C n S y G
theorem WL.ex {C p : Addr} {n m : Nat} {S : Addr → Prop} {G G' : Hp} (e : Ex G G') (h : WL K C n S p m G) : WL K C n S p m G' := h.elim fun ys ⟨a, b, c⟩ => ⟨ys, e _ _ a, b, fun y hy => cl_av.ex e (c y hy)⟩
theorem WL.new {C p D : Addr} {n m : Nat} {S : Addr → Prop} {G : Hp} (hD : G D = none) (h : WL K C n S p m G) : WL K C n (addS S D) p m G := h.elim fun ys ⟨a, b, c⟩ => ⟨ys, a, b, fun y hy => cl_av.new hD (c y hy)⟩
theorem WL.upd {C p D : Addr} {n m : Nat} {S : Addr → Prop} {G : Hp} {zs us : List V} (hS : S D) (hD : G D = some (.lst zs)) (ne : p ≠ D) (h : WL K C n S p m G) : WL K C n S p m (L2.upd G D (.lst us)) := h.elim fun ys ⟨a, b, c⟩ => ⟨ys, by rw [upd_ne ne]; exact a, b, fun y hy => cl_av.mt hS hD But.upd (c y hy)⟩
theorem WL.lp {C p : Addr} {n m : Nat} {S S' : Addr → Prop} {G : Hp} (w : ∀ a, addS S' p a → S a) (np : ¬ S' p) (h : WL K C n S p m G) : LP (Av K C n) 0 m S' (.ref p) G := h.elim fun ys ⟨a, b, c⟩ => ⟨p, ys, rfl, a, np, Nat.zero_le _, b, fun y hy => cl_av.less w (c y hy)⟩
theorem LP.wl {C : Addr} {n lo hi : Nat} {S : Addr → Prop} {v : V} {G : Hp} (h : LP (Av K C n) lo hi S v G) : ∃ p, v = .ref p ∧ ¬ S p ∧ WL K C n (addS S p) p hi G := by
  obtain ⟨p, ys, e, a, b, _, c, d⟩ := h
  exact ⟨p, e, b, ys, a, c, d⟩
theorem em_repS {σ : L2.St} {G : Hp} {C : Addr} {S : Addr → Prop} {n m : Nat} {te : TE} (h : Ev te σ G (.int (m : Int))) (hm : m ≤ 16) : EvM (tOp rRepS (tC (.str "1")) te) σ G (Av K C n S) := fun H1 e1 Q q => h H1 e1 _ fun H2 e2 => ⟨m, rfl, rfl, hm, fun z z1 z2 => q _ _ e2 ⟨_, .str z z1 z2⟩⟩
theorem ev_ixT {σ : L2.St} {G : Hp} {p : Addr} {xs : List V} {i : Nat} {x : V} {te tf : TE} (h1 : Ev te σ G (.ref p)) (h2 : Ev tf σ G (.int (i : Int))) (hs : SqT K G p xs) (hx : xs[i]? = some x) : Ev (tOp (rIxT K) te tf) σ G x := ev_op h1 h2 (rv_ixT hs (atI_nat hx))
theorem em_upd {C : Addr} {n : Nat} {S : Addr → Prop} {σ : L2.St} {G : Hp} {te t1 t2 tm : TE} {lo hi : Nat} {i j : Int} (hv : EvM te σ G (TP K (Av K C n) lo hi S)) (hm : EvM tm σ G (Av K C n S)) (h1 : Ev t1 σ G (.int i)) (h2 : Ev t2 σ G (.int j)) (l : hi ≤ 100) :
    EvM (tOp (rCatA K) (tOp (rCatA K) (tSl (rSlA K) te tNoPart (tPart t1)) (tTup (tCons tm tNil))) (tSl (rSlA K) te (tPart t2) tNoPart)) σ G (TP K (Av K C n) 1 201 S) :=
  em_imp (em_catT cl_av (em_catT cl_av (em_slT cl_av hv eo_none (eo_some h1)) (em_tup1 hm) (by omega)) (em_slT cl_av hv (eo_some h2) eo_none) (by omega)) fun v H' r => r.mono (fun x h => h) (by omega) (by omega)
theorem em_listN {C : Addr} {n k : Nat} {S : Addr → Prop} {σ : L2.St} {H : Hp} {ta : TA} (hS : Ct S H) (h : EvN ta σ H (Av K C n S) k) (hk : k ≤ 100) : EvM (tLst ta) σ H (fun v G => ∃ p, v = .ref p ∧ H p = none ∧ ¬ S p ∧ WL K C n (addS S p) p k G) := fun H1 e1 Q q =>
  h H1 e1 _ fun vs H2 e2 l al => ⟨Nat.le_of_lt (small1000 (by omega)), fun p hp => q _ _ (e2.trans (Ex.new hp)) ⟨p, rfl, fresh_back (e1.trans e2) hp, hS.fresh (e1.trans e2) hp, vs, upd_same, by omega, fun x hx => cl_av.ex (Ex.new hp) (cl_av.new hp (al x hx))⟩⟩
/-- extending a list under work -/
theorem WL.cat {C p : Addr} {n m j lo : Nat} {S : Addr → Prop} {G : Hp} {z : Addr} {zs : List V} (hS : S p) (h : WL K C n S p m G) (hz : G z = some (.lst zs)) (lz : zs.length ≤ j) (hzs : ∀ y ∈ zs, Av K C n S y G) (hm : m + j ≤ 900) : ∃ ys, G p = some (.lst ys) ∧ ys.length + zs.length ≤ sizeLine ∧ WL K C n S p (m + j) (L2.upd G p (.lst (ys ++ zs))) := by
  obtain ⟨ys, a, b, c⟩ := h
  refine ⟨ys, a, Nat.le_of_lt (small1000 (by omega)), ys ++ zs, upd_same, by rw [List.length_append]; omega, fun y hy => ?_⟩
  rcases List.mem_append.mp hy with hy | hy
  · exact cl_av.mt hS a But.upd (c y hy)
  · exact cl_av.mt hS a But.upd (hzs y hy)
theorem WL.push {C p : Addr} {n m : Nat} {S : Addr → Prop} {G : Hp} {y : V} (hS : S p) (h : WL K C n S p m G) (hy : Av K C n S y G) (hm : m + 1 ≤ 900) : ∃ ys, G p = some (.lst ys) ∧ ys.length < sizeLine ∧ WL K C n S p (m + 1) (L2.upd G p (.lst (ys ++ [y]))) := by
  obtain ⟨ys, a, b, c⟩ := h
  refine ⟨ys, a, small1000 (by omega), ys ++ [y], upd_same, by rw [List.length_append]; show _ + 1 ≤ _; omega, fun z hz => ?_⟩
  rcases List.mem_append.mp hz with hz | hz
  · exact cl_av.mt hS a But.upd (c z hz)
  · rw [List.mem_singleton] at hz
    rw [hz]
    exact cl_av.mt hS a But.upd hy
theorem WL.but {C p b : Addr} {n m : Nat} {S : Addr → Prop} {G G' : Hp} {zs : List V} (hS : S b) (hb : G b = some (.lst zs)) (ne : p ≠ b) (k : But b G G') (h : WL K C n S p m G) : WL K C n S p m G' := h.elim fun ys ⟨a, l, c⟩ => ⟨ys, k _ _ ne a, l, fun y hy => cl_av.mt hS hb k (c y hy)⟩
theorem seq_asg {te : TE} {g : TG} {rest : TS} {D : Ends} {σ : L2.St} {H : Hp} (h : te σ H fun v H1 => g v σ H1 (rest D)) : tSeq (tAsg te g) rest D σ H := h
theorem seq_for {ti : TI} {g : TG} {tb rest : TS} {D : Ends} {σ : L2.St} {H : Hp} (h : tFor ti g tb { D with nx := rest D } σ H) : tSeq (tFor ti g tb) rest D σ H := h
theorem for_listM {te : TE} {g : TG} {tb : TS} {D : Ends} {σ : L2.St} {H : Hp} (h : te σ H fun x H1 => ∃ a, x = .ref a ∧ (∃ xs, SqL K H1 a xs) ∧ ∃ W : Nat → Nat → L2.St → Hp → Prop, (∃ m, W 0 m σ H1) ∧ ∀ i m σ H, W i m σ H →
      ((Itl K a).stop i H ∧ D.nx σ H) ∨ ((Itl K a).go i H ∧ ∃ N : L2.St → Hp → Prop, (∀ σ' H', N σ' H' → ∃ m', m' < m ∧ W (i + 1) m' σ' H') ∧ ∀ v H', (Itl K a).yld i H v H' → g v σ H' fun σ2 H2 => tb { D with nx := N, ct := N, bk := D.nx } σ2 H2)) : tFor (iList K te) g tb D σ H := h
end
end L2.U


set_option Elab.async false
set_option linter.all false
set_option maxRecDepth 100000
set_option maxHeartbeats 4000000
namespace L2.U
open PySem PySem.Spec PyProof.Rows Evl
section
variable {P : Program} {w : World} {K : PySem.W.Frag} {mg : Str → Option Value} {base : Heap}
def spNear (K : PySem.W.Frag) (C : Addr) : Sp := fun vs H Q _ => ∃ (b : Addr) (x : V) (L : List (List Int)) (n k m : Nat) (w : Int) (ok : Addr → Prop), vs = [.ref b, x] ∧ BoxAt H b (k + 3) ∧ Rd K ok H n x (planP L) ∧ GoodP w m L ∧ w ≤ 24 ∧ m ≤ 16 ∧
  ∀ v H', But b H H' → BoxAt H' b k → LP (Av K C 3) 0 900 (isB b) v H' → Q v H'
theorem sum_le {s : List Int} (h : ∀ z ∈ s, 1 ≤ z) : 0 ≤ s.sum := by
  induction s with
  | nil => exact Int.le_refl 0
  | cons y s ih =>
    rw [List.sum_cons]
    have := h y List.mem_cons_self
    have := ih fun x hx => h x (List.mem_cons_of_mem _ hx)
    omega
theorem ok_law_near (T : TK K mg) : FnOk P w K mg base CX0 8 T.law_near.a T.law_near.fd ["box", "value"] (spNear K T.C) := by
  refine T.law_near.F.ok sc_law_near (fun vs H Q E h => ?_) (fun cdv A outer s H vs Q E hr h => ?_)
  · obtain ⟨b, x, L, n, k, m, w, ok, rfl, _⟩ := h; rfl
  obtain ⟨b, x, L, n, k, m, w, ok, rfl, hB, hx, gp, hw, hm, q⟩ := h
  refine ⟨_, (pss_cons (ps_par (i := 2) (j := 3) (by rfl) sc_law_near.nd rfl rfl (by decide) rfl rfl (pa_cons (pe_callB (klen K) (by rfl) T.z_len (by decide +kernel) (pa_cons (pv 1) pa_nil)) (pa_cons (pe_lst (pa_cons (pe_callTy (klist K) (by rfl) T.z_list (by decide +kernel) (pa_cons (pv 1) pa_nil)) (pa_cons (pe_op (kcatA K) (pv 1) (pe_tup (pa_cons (pe_tup (pa_cons pe_int pa_nil)) pa_nil))) (pa_cons (pe_slice (kslT K) (pv 1) po_none (po_some (pe_un un_neg pe_int))) (pa_cons (pe_slice (kslT K) (pv 1) (po_some pe_int) po_none) (pa_cons (pe_revS (pv 1)) (pa_cons (pe_tup pa_nil) (pa_cons (pe_lst pa_nil) (pa_cons pe_non (pa_cons pe_int (pa_cons pe_bl (pa_cons pe_str (pa_cons pe_dnewK pa_nil))))))))))))) pa_nil)) (by rfl))
    (pss_cons (ps_expr (pe_bm PySem.F.plainAttrs_list PySem.F.slot_list_extend PySem.F.type_list_extend mt_extend (pv 3) (pa_cons (pe_lst (pa_cons (pe_op (kcatA K) (pv 1) (pe_tup (pa_cons (pe_tup pa_nil) pa_nil))) (pa_cons (pe_tup (pa_cons (pe_tup pa_nil) pa_nil)) (pa_cons (pe_op (kcatA K) (pv 1) (pe_tup (pa_cons pe_int pa_nil))) (pa_cons (pe_tup (pa_cons (pv 1) pa_nil)) (pa_cons (by exact (pe_makeX T.mkc (ok_Line_init T) (hr.mono (by decide)) rfl T.gL T.m_init.b (fun σ => pass0At) (pa_cons (pe_tup (pa_cons pe_str (pa_cons pe_int pa_nil))) pa_nil))) (pa_cons (pe_op (krepA K) (pe_tup (pa_cons (by exact (pe_makeX T.mkc (ok_Line_init T) (hr.mono (by decide)) rfl T.gL T.m_init.b (fun σ => pass0At) (pa_cons (pe_tup (pa_cons pe_str (pa_cons pe_int pa_nil))) pa_nil))) pa_nil)) (pv 2)) (pa_cons (pe_op op_repS pe_str (pv 2)) pa_nil)))))))) pa_nil)))
    (pss_cons (ps_if (pt_cmpR op_eq (pv 2) pe_int (nomark _)) (pss_one (ps_ret (pv 3))) pss_nil)
    (pss_cons (ps_asg (pe_tup (pa_cons (pe_call (ok_law_take T.toTA1) (hr.mono (by decide)) rfl T.law_take.m T.law_take.F.kp T.law_take.b .nil pass0 (pa_cons (pv 0) (pa_cons (pv 2) pa_nil))) (pa_cons (pe_call (ok_law_take T.toTA1) (hr.mono (by decide)) rfl T.law_take.m T.law_take.F.kp T.law_take.b .nil pass0 (pa_cons (pv 0) (pa_cons (pv 2) pa_nil))) pa_nil))) (pg_tup (by rfl) (pgs_cons (pg_name (i := 4) sc_law_near.nd rfl (Or.inr rfl)) (pgs_cons (pg_name (i := 5) sc_law_near.nd rfl (Or.inl rfl)) pgs_nil))))
    (pss_cons (ps_par (i := 6) (j := 7) (by rfl) sc_law_near.nd rfl rfl (by decide) rfl rfl (pa_cons (pe_ix (kixt K) (pv 1) (pv 4) (fun _ _ => rfl)) (pa_cons (pe_lc (own := [("k", 13)]) (g := gName 13) (by rfl) sc_law_near.nd (pi_range1 rfl T.z_range (pa_cons (pe_callB (klen K) (by rfl) T.z_len (by decide +kernel) (pa_cons (pe_ix (kixt K) (pv 1) (pv 4) (fun _ _ => rfl)) pa_nil)) pa_nil)) (blkOk_by (own := [("k", 13)]) (N := ["box", "value", "m", "found", "at", "other", "sizes", "ones", "j", "kinds", "odd", "one", "turned", "k"]) (sc := defScope s_law_near) (by decide +kernel)) (fun _ _ _ _ _ => (pg_name (i := 13) sc_law_near.nd rfl (Or.inl rfl))) (fun _ _ _ _ _ => (pts_one (pt_cmpR op_eq (pe_ix (kixt K) (pe_ix (kixt K) (pv 1) (pv 4) (fun _ _ => rfl)) (pv 13) (fun _ _ => rfl)) pe_int (nomark _)))) (fun _ _ _ _ _ => (pv 13))) pa_nil)) (by rfl))
    (pss_cons (ps_set (i := 8) sc_law_near.nd rfl (Or.inl rfl) (pe_ifExp (pt_cmpR (knel0 K hr.units) (pv 7) (pe_lst pa_nil) (nomark _)) (pe_ix (kixl K) (pv 7) (pe_call (ok_law_take T.toTA1) (hr.mono (by decide)) rfl T.law_take.m T.law_take.F.kp T.law_take.b .nil pass0 (pa_cons (pv 0) (pa_cons (pe_callB (klen K) (by rfl) T.z_len (by decide +kernel) (pa_cons (pv 7) pa_nil)) pa_nil))) (fun _ _ => rfl)) (pe_call (ok_law_take T.toTA1) (hr.mono (by decide)) rfl T.law_take.m T.law_take.F.kp T.law_take.b .nil pass0 (pa_cons (pv 0) (pa_cons (pe_callB (klen K) (by rfl) T.z_len (by decide +kernel) (pa_cons (pv 6) pa_nil)) pa_nil)))))
    (pss_cons (ps_set (i := 9) sc_law_near.nd rfl (Or.inl rfl) (pe_lst (pa_cons (pe_callTy (klist K) (by rfl) T.z_list (by decide +kernel) (pa_cons (pv 6) pa_nil)) (pa_cons (pe_tup pa_nil) (pa_cons pe_non (pa_cons pe_int (pa_cons pe_str (pa_cons pe_dnewK (pa_cons (pe_tup (pa_cons (pv 6) pa_nil)) (pa_cons (pe_op (kcatA K) (pv 6) (pe_tup (pa_cons pe_int pa_nil))) (pa_cons (pe_slice (kslT K) (pv 6) po_none (po_some (pe_un un_neg pe_int))) (pa_cons (pe_revS (pv 6)) (pa_cons (pe_op (kcatA K) (pe_tup (pa_cons pe_int pa_nil)) (pv 6)) (pa_cons (pe_op (kcatA K) (pv 6) (pe_tup (pa_cons pe_int pa_nil))) pa_nil))))))))))))))
    (pss_cons (ps_expr (pe_bm PySem.F.plainAttrs_list PySem.F.slot_list_extend PySem.F.type_list_extend mt_extend (pv 9) (pa_cons (pe_lst (pa_cons (pe_ix (kixt K) (pv 1) (pv 5) (fun _ _ => rfl)) (pa_cons (pe_tup (pa_cons (pe_callB (ksum K rfl) (by rfl) T.z_sum (by decide +kernel) (pa_cons (pv 6) pa_nil)) pa_nil)) (pa_cons (pe_op (krepA K) (pe_tup (pa_cons pe_int pa_nil)) (pe_callB (ksum K rfl) (by rfl) T.z_sum (by decide +kernel) (pa_cons (pv 6) pa_nil))) (pa_cons (pe_op (kcatA K) (pe_op (kcatA K) (pe_slice (kslT K) (pv 6) po_none (po_some (pv 8))) (pe_tup (pa_cons (pe_op op_add (pe_ix (kixt K) (pv 6) (pv 8) (fun _ _ => rfl)) pe_int) pa_nil))) (pe_slice (kslT K) (pv 6) (po_some (pe_op op_add (pv 8) pe_int)) po_none)) pa_nil))))) pa_nil)))
    (pss_cons (ps_for PassesOwn.never rfl (kpil K (pe_lst (pa_cons pe_bl (pa_cons pe_non (pa_cons pe_str (pa_cons (pe_tup (pa_cons pe_int pa_nil)) (pa_cons (pe_lst (pa_cons pe_int pa_nil)) (pa_cons pe_int (pa_cons (pe_un un_neg pe_int) (pa_cons (pe_op op_sub (pe_ix (kixt K) (pv 6) (pv 8) (fun _ _ => rfl)) pe_int) (pa_cons (pe_op op_add (pe_ix (kixt K) (pv 6) (pv 8) (fun _ _ => rfl)) pe_int) (pa_cons (pe_op op_pow pe_int pe_int) (pa_cons pe_dnewK (pa_cons (by exact (pe_makeX T.mkc (ok_Line_init T) (hr.mono (by decide)) rfl T.gL T.m_init.b (fun σ => pass0At) (pa_cons (pe_tup (pa_cons pe_str (pa_cons pe_int pa_nil))) pa_nil))) pa_nil)))))))))))))) (pg_name (i := 10) sc_law_near.nd rfl (Or.inl rfl)) (pss_one (ps_expr (pe_bm PySem.F.plainAttrs_list PySem.F.slot_list_append PySem.F.type_list_append mt_append (pv 9) (pa_cons (pe_op (kcatA K) (pe_op (kcatA K) (pe_slice (kslT K) (pv 6) po_none (po_some (pv 8))) (pe_tup (pa_cons (pv 10) pa_nil))) (pe_slice (kslT K) (pv 6) (po_some (pe_op op_add (pv 8) pe_int)) po_none)) pa_nil)))))
    (pss_cons (ps_for PassesOwn.never rfl (kpil K (pv 9)) (pg_name (i := 11) sc_law_near.nd rfl (Or.inl rfl)) (pss_one (ps_expr (pe_bm PySem.F.plainAttrs_list PySem.F.slot_list_append PySem.F.type_list_append mt_append (pv 3) (pa_cons (pe_op (kcatA K) (pe_op (kcatA K) (pe_slice (kslT K) (pv 1) po_none (po_some (pv 4))) (pe_tup (pa_cons (pv 11) pa_nil))) (pe_slice (kslT K) (pv 1) (po_some (pe_op op_add (pv 4) pe_int)) po_none)) pa_nil)))))
    (pss_cons (ps_set (i := 12) sc_law_near.nd rfl (Or.inl rfl) (pe_callTy (klist K) (by rfl) T.z_list (by decide +kernel) (pa_cons (pv 1) pa_nil)))
    (pss_cons (ps_asg (pe_tup (pa_cons (pe_ix (kixt K) (pv 1) (pv 5) (fun _ _ => rfl)) (pa_cons (pe_ix (kixt K) (pv 1) (pv 4) (fun _ _ => rfl)) pa_nil))) (pg_tup (by rfl) (pgs_cons (pg_sub (pv 12) (pv 4) set_list) (pgs_cons (pg_sub (pv 12) (pv 5) set_list) pgs_nil))))
    (pss_one (ps_ret (pe_op op_cat (pv 3) (pe_lst (pa_cons (pe_callTy (ktuple K) (by rfl) T.z_tuple (by decide +kernel) (pa_cons (pv 12) pa_nil)) pa_nil))))))))))))))))), ?_⟩
  obtain ⟨a, xs, rfl, _, hs, hl, _, all⟩ := planR hx
  have gl := gp.len
  have lm := gp.many
  have n0 : NC K b H (k + 3) a xs L H := ⟨But.of (Ex.refl _), hB, ⟨hs, hl, fun i s hi => (all i s hi).elim fun c hc => ⟨c, hc.1, hc.2.1⟩⟩⟩
  clear hs hl all hB
  have vT : ∀ {σ : L2.St} {G : Hp} {S : Addr → Prop} {k : Nat}, σ[1]? = some (some (.ref a)) → NC K b H k a xs L G → EvM (tVar 1) σ G (TP K (Av K T.C 1) xs.length xs.length S) := fun hσ h => em_of (cl_tp cl_av) (ev_var hσ) (h.pl.tp gl)
  have hl := n0.pl.hl
  refine ⟨_, rfl, _, _, rfl, .inr ⟨_, n0.pl.hs, rfl⟩, em_listN n0.ct (en_cons cl_av (em_upL (em_listOf cl_av n0.ct (vT rfl n0)) (by omega) (show 1 + 1 ≤ 3 by omega)) (en_cons cl_av (em_upT (em_catT cl_av (vT rfl n0) (em_tup1 (em_upT (em_tup1 (em_int 1)) (by omega) (Nat.le_refl _))) (by omega)) (by omega) (by omega)) (en_cons cl_av (em_upT (em_slT cl_av (vT rfl n0) eo_none (eo_some (ev_neg 1))) (by omega) (by omega)) (en_cons cl_av (em_upT (em_slT cl_av (vT rfl n0) (eo_some (ev_c (v := .int 1))) eo_none) (by omega) (by omega)) (en_cons cl_av (em_upT (em_revT cl_av (vT rfl n0)) (by omega) (by omega)) (en_cons cl_av (em_upT (em_tup0 (n := 0)) (by omega) (by omega)) (en_cons cl_av (em_lst0 n0.ct) (en_cons cl_av em_non (en_cons cl_av (em_int 0) (en_cons cl_av (em_bl true) (en_cons cl_av (em_str "" (by decide +kernel) (by decide +kernel)) (en_cons cl_av em_dict en_nil)))))))))))) (by omega) H (Ex.refl _) _ fun v G e r => ⟨_, _, rfl, ?_⟩⟩
  obtain ⟨F, rfl, hF0, nF, wF⟩ := r
  have n1 := n0.ex e
  have Fb : F ≠ b := nF
  have c1 : Ct (addS (isB b) F) G := n1.ct.add wF.choose_spec.1
  refine ⟨_, rfl, .inl ⟨rfl, _, SqL.of wF.choose_spec.1⟩, em_list cl_av c1 (en_cons cl_av (em_upT (em_catT cl_av (vT rfl n1) (em_tup1 (em_upT (em_tup0 (n := 0)) (by omega) (Nat.le_refl _))) (by omega)) (by omega) (show 1 + 1 ≤ 3 by omega)) (en_cons cl_av (em_upT (em_tup1 (em_upT (em_tup0 (n := 0)) (by omega) (Nat.le_refl _))) (by omega) (by omega)) (en_cons cl_av (em_upT (em_catT cl_av (vT rfl n1) (em_tup1 (em_int 1)) (by omega)) (by omega) (by omega)) (en_cons cl_av (em_upT (em_tup1 (em_upT (vT rfl n1) (by omega) (Nat.le_refl _))) (by omega) (by omega)) (en_cons cl_av (em_make T (by omega) (by omega)) (en_cons cl_av (em_upT (em_repT (m := 16) cl_av (em_tup1 (em_make (n := 0) T (by omega) (by omega))) (ev_var rfl) (by omega) (by omega) (by omega)) (by omega) (by omega)) (en_cons cl_av (em_repS (ev_var rfl) (by omega)) en_nil))))))) (by omega) G (Ex.refl _) _ fun v G2 e2 r2 => ?_⟩
  obtain ⟨z, zs, rfl, hz, nz, _, lz, az⟩ := r2
  obtain ⟨ys, hys, sz1, wF2⟩ := (wF.ex e2).cat (lo := 0) (.inr rfl) hz lz (fun y hy => cl_av.less (fun a h => .inl h) (az y hy)) (by omega)
  refine ⟨F, z, ys, zs, rfl, rfl, hys, hz, sz1, ?_⟩
  have n2 := (n1.ex e2).upd hF0 Fb hys (o := .lst (ys ++ zs))
  generalize upd G2 F (.lst (ys ++ zs)) = G3 at wF2 n2 ⊢
  clear hys sz1 hz az lz nz wF n1 e2
  refine ⟨_, rfl, rfl, _, rfl, ite2 (fun cm => ?_) (fun cm => ?_)⟩
  · exact ⟨_, rfl, q _ _ n2.kb (n2.B.le (by omega)) ((wF2.lp (fun a h => h) nF).elim fun p h => ⟨p, h.elim fun ys h => ⟨ys, h.1, h.2.1, h.2.2.1, by omega, by omega, h.2.2.2.2.2⟩⟩)⟩
  have cm : 0 < xs.length := by
    apply Classical.byContradiction
    intro no
    apply cm
    rw [show xs.length = 0 by omega]
    rfl
  have hB3 := n2.B
  refine ⟨_, rfl, _, rfl, b, (xs.length : Int), k + 2, rfl, by omega, by omega, hB3, fun i0 H1 ia ib B1 k1 => ?_⟩
  obtain ⟨zb, hzb⟩ := box_lst hB3
  have n3 : NC K b H (k + 2) a xs L H1 := ⟨n2.kb.trans k1, B1, n2.pl.but hzb k1⟩
  have wF3 := wF2.but (.inl rfl) hzb Fb k1
  refine ⟨_, rfl, _, rfl, b, (xs.length : Int), k + 1, rfl, by omega, by omega, B1, fun o0 H2 oa ob B2 k2 => ?_⟩
  obtain ⟨zb2, hzb2⟩ := box_lst B1
  have n4 : NC K b H (k + 1) a xs L H2 := ⟨n3.kb.trans k2, B2, n3.pl.but hzb2 k2⟩
  have wF4 := wF3.but (.inl rfl) hzb2 Fb k2
  refine ⟨two_le, fun t ht => ⟨t, _, rfl, SqT.of upd_same, rfl, _, _, rfl, _, _, rfl, rfl, ?_⟩⟩
  have n5 := n4.ex (Ex.new (o := .tup [.int i0, .int o0]) ht)
  have wF5 := wF4.ex (Ex.new (o := .tup [.int i0, .int o0]) ht)
  generalize upd H2 t (.tup [.int i0, .int o0]) = G4 at n5 wF5 ⊢
  clear n2 n3 n4 wF2 wF3 wF4 hzb hzb2 B1 B2 k1 k2 ht hB3
  obtain ⟨i, rfl, hi⟩ : ∃ i : Nat, i0 = (i : Int) ∧ i < xs.length := ⟨i0.toNat, by omega, by omega⟩
  obtain ⟨ot, rfl, hot⟩ : ∃ o : Nat, o0 = (o : Int) ∧ o < xs.length := ⟨o0.toNat, by omega, by omega⟩
  have hLi : L[i]? = some (L[i]'(by omega)) := List.getElem?_eq_getElem _
  have hLo : L[ot]? = some (L[ot]'(by omega)) := List.getElem?_eq_getElem _
  have spi := gp.pos _ (List.mem_of_getElem? hLi)
  have sni := gp.ne _ (List.mem_of_getElem? hLi)
  have sli := gp.len _ (List.mem_of_getElem? hLi)
  have slo := gp.len _ (List.mem_of_getElem? hLo)
  have ug := (gp.at hLi).2
  generalize L[i]'(by omega) = s at hLi spi sni sli ug
  generalize L[ot]'(by omega) = so at hLo slo
  have ss0 := sum_le spi
  have ss1 : s.sum ≤ 24 := by
    have h1 := ug.1
    have h2 := ug.2.2
    have : 1 ≤ s.length := by
      cases s with
      | nil => exact absurd rfl sni
      | cons _ _ => exact Nat.le_add_left _ _
    unfold useL at h1
    omega
  have sl1 : 1 ≤ s.length := by
    cases s with
    | nil => exact absurd rfl sni
    | cons _ _ => exact Nat.le_add_left _ _
  obtain ⟨c, hxc, hc⟩ := n5.pl.all i s hLi
  obtain ⟨co, hxo, hco⟩ := n5.pl.all ot so hLo
  obtain ⟨os, EL⟩ : ∃ os : List Int, (∀ z ∈ os, 0 ≤ z ∧ z < (s.length : Int)) ∧ os.length ≤ s.length ∧ EvL (tLc (iRng1 (tCons (tCB (rLen K) (tCons (tOp (rIxT K) (tVar 1) (tVar 4)) tNil)) tNil)) (gName 13) (tTest (tOp rEq (tOp (rIxT K) (tOp (rIxT K) (tVar 1) (tVar 4)) (tVar 13)) (tC (V.int 1)))) (tVar 13) [13]) [some (.ref b), some (.ref a), some (.int (xs.length : Int)), some (.ref F), some (.int (i : Int)), some (.int (ot : Int)), none, none, none, none, none, none, none, none] G4 (os.map V.int) := by
    refine ⟨((List.range ((s.map V.int).length : Int).toNat).filter fun l => decide (V.int (s.getD l 0) = V.int 1)).map fun l : Nat => (l : Int), fun z hz => ?_, ?_, ?_⟩
    · obtain ⟨l, hl2, rfl⟩ := List.mem_map.mp hz
      have := List.mem_range.mp (List.mem_filter.mp hl2).1
      rw [Int.toNat_natCast, List.length_map] at this
      omega
    · rw [List.length_map]
      refine Nat.le_trans (List.length_filter_le _ _) ?_
      rw [List.length_range, Int.toNat_natCast, List.length_map]
      exact Nat.le_refl _
    · rw [← given_ints]
      refine el_lcR1 (fun l => decide (V.int (s.getD l 0) = V.int 1)) (fun l => V.int (l : Int)) (ea_cons (fun H1 e1 Q q => ⟨_, rfl, _, rfl, a, xs, _, .ref c, rfl, rfl, ex_t e1 n5.pl.hs, atI_nat hxc, _, _, rfl, .inr ⟨_, ex_t e1 hc, rfl⟩, q H1 (Ex.refl _)⟩) ea_nil) ⟨by omega, by rw [List.length_map]; omega⟩ (fun x => rfl) (fun l H1 e1 hl2 => ?_) (fun l H1 e1 _ _ => ev_var rfl)
      rw [List.length_map] at hl2
      refine et_test (ev_op (ev_ixT (ev_ixT (ev_var rfl) (ev_var rfl) (ex_t e1 n5.pl.hs) hxc) (ev_var rfl) (ex_t e1 hc) (ints_getD (by omega))) ev_c (rv_eq rfl))
  obtain ⟨oin, ol, EL⟩ := EL
  refine ⟨_, rfl, _, rfl, a, xs, _, .ref c, rfl, rfl, n5.pl.hs, atI_nat hxc, EL G4 (Ex.refl _) _ fun O G5 hO0 e5 hO => ⟨_, _, rfl, ?_⟩⟩
  have n6 := n5.ex e5
  have wF6 := wF5.ex e5
  have hc6 := ex_t e5 hc
  have OF : O ≠ F := fun z => by
    obtain ⟨fs, hf, _⟩ := wF5
    rw [z, hf] at hO0
    cases hO0
  have Ob : O ≠ b := n5.B.ne hO0
  have hj : ∀ Q : VK, (∀ (j : Nat) G', j < s.length → NC K b H k a xs L G' → WL K T.C 3 (addS (isB b) F) F 19 G' → Q (.int (j : Int)) G') → tIf (tTest (tOp (rNeL0 K) (tVar 7) (tLst tNil))) (tOp (rIxL K) (tVar 7) (tCall spTake [] E0 (tCons (tVar 0) (tCons (tCB (rLen K) (tCons (tVar 7) tNil)) tNil)))) (tCall spTake [] E0 (tCons (tVar 0) (tCons (tCB (rLen K) (tCons (tVar 6) tNil)) tNil)))
      [some (.ref b), some (.ref a), some (.int (xs.length : Int)), some (.ref F), some (.int (i : Int)), some (.int (ot : Int)), some (.ref c), some (.ref O), none, none, none, none, none, none] G5 Q := fun Q2 q2 => by
    refine ⟨_, rfl, Nat.zero_le _, fun p hp => ⟨O, p, os.map V.int, rfl, rfl, SqL.of ((Ex.new hp) _ _ hO), SqL.of upd_same, _, rfl, ?_⟩⟩
    have ep := Ex.new (o := .lst []) hp
    have n7 := n6.ex ep
    have wF7 := wF6.ex ep
    have hO7 := ep _ _ hO
    have hc7 := ex_t ep hc6
    generalize upd G5 p (.lst []) = G6 at n7 wF7 hO7 hc7 ⊢
    obtain ⟨zb, hzb⟩ := box_lst n7.B
    refine ite2 (fun hne => ?_) (fun _ => ?_)
    · have lo : 0 < os.length := by
        cases os with
        | nil => cases hne
        | cons _ _ => exact Nat.succ_pos _
      refine ⟨_, rfl, _, rfl, _, rfl, _, _, rfl, .inl ⟨_, SqL.of hO7, rfl⟩, b, ((os.map V.int).length : Int), k, rfl, by rw [List.length_map]; omega, by rw [List.length_map]; omega, n7.B, fun r G7 r0 r1 B7 k7 => ?_⟩
      rw [List.length_map] at r1
      obtain ⟨r', rfl⟩ : ∃ r' : Nat, r = (r' : Int) := ⟨r.toNat, by omega⟩
      have hr : os[r']? = some (os[r']'(by omega)) := List.getElem?_eq_getElem _
      have in2 := oin _ (List.mem_of_getElem? hr)
      generalize os[r']'(by omega) = z at hr in2
      refine ⟨O, _, _, .int z, rfl, rfl, SqL.of (k7 _ _ Ob hO7), atI_nat (by rw [List.getElem?_map, hr]; rfl), ?_⟩
      have := q2 z.toNat G7 (by omega) ⟨n7.kb.trans k7, B7, n7.pl.but hzb k7⟩ (wF7.but (.inl rfl) hzb Fb k7)
      rw [Int.toNat_of_nonneg in2.1] at this
      exact this
    · refine ⟨_, rfl, _, rfl, _, _, rfl, .inr ⟨_, hc7, rfl⟩, b, ((s.map V.int).length : Int), k, rfl, by rw [List.length_map]; omega, by rw [List.length_map]; omega, n7.B, fun r G7 r0 r1 B7 k7 => ?_⟩
      rw [List.length_map] at r1
      have := q2 r.toNat G7 (by omega) ⟨n7.kb.trans k7, B7, n7.pl.but hzb k7⟩ (wF7.but (.inl rfl) hzb Fb k7)
      rw [Int.toNat_of_nonneg r0] at this
      exact this
  refine hj _ fun j G7 hjs n7 wF7 => ?_
  clear hj EL hO n5 n6 wF5 wF6 hc6 hc hco e5 hO0
  have at_ : ∀ {G : Hp} {k : Nat}, NC K b H k a xs L G → SqT K G c (s.map V.int) ∧ SqT K G co (so.map V.int) := fun h => by
    obtain ⟨c1, e1, h1⟩ := h.pl.all i s hLi
    obtain ⟨c2, e2, h2⟩ := h.pl.all ot so hLo
    rw [hxc] at e1
    rw [hxo] at e2
    cases e1
    cases e2
    exact ⟨h1, h2⟩
  have sT : ∀ {σ : L2.St} {G : Hp} {S : Addr → Prop} {k : Nat}, σ[6]? = some (some (.ref c)) → NC K b H k a xs L G → EvM (tVar 6) σ G (TP K (Av K T.C 0) s.length s.length S) := fun hσ h => em_of (cl_tp cl_av) (ev_var hσ) (tp_sizes (at_ h).1)
  have evs : ∀ {σ : L2.St} {G : Hp} {k : Nat}, σ[6]? = some (some (.ref c)) → NC K b H k a xs L G → Ev (tCB (rSumS K) (tCons (tVar 6) tNil)) σ G (.int s.sum) := fun hσ h H1 e Q q => ⟨_, hσ, c, s, rfl, .inr (ex_t e (at_ h).1), q H1 (Ex.refl _)⟩
  have evj : ∀ {σ : L2.St} {G : Hp} {k : Nat}, σ[6]? = some (some (.ref c)) → σ[8]? = some (some (.int (j : Int))) → NC K b H k a xs L G → Ev (tOp (rIxT K) (tVar 6) (tVar 8)) σ G (.int (s.getD j 0)) := fun h6 h8 h => ev_ixT (ev_var h6) (ev_var h8) (at_ h).1 (ints_getD hjs)
  have c7 : Ct (addS (isB b) F) G7 := n7.ct.add wF7.choose_spec.1
  have s7 : EvM (tVar 6) [some (.ref b), some (.ref a), some (.int (xs.length : Int)), some (.ref F), some (.int (i : Int)), some (.int (ot : Int)), some (.ref c), some (.ref O), some (.int (j : Int)), none, none, none, none, none] G7 (TP K (Av K T.C 0) s.length s.length (addS (isB b) F)) := sT rfl n7
  dsimp only [gName]
  refine seq_asg (em_listN c7 (en_cons cl_av (em_upL (em_listOf cl_av c7 s7) (by omega) (show 0 + 1 ≤ 2 by omega)) (en_cons cl_av (em_upT (em_tup0 (n := 0)) (by omega) (by omega)) (en_cons cl_av em_non (en_cons cl_av (em_int 1) (en_cons cl_av (em_str "1" (by decide +kernel) (by decide +kernel)) (en_cons cl_av em_dict (en_cons cl_av (em_upT (em_tup1 (em_upT s7 (by omega) (Nat.le_refl _))) (by omega) (by omega)) (en_cons cl_av (em_upT (em_catT cl_av s7 (em_tup1 (em_int 1)) (by omega)) (by omega) (by omega)) (en_cons cl_av (em_upT (em_slT cl_av s7 eo_none (eo_some (ev_neg 1))) (by omega) (by omega)) (en_cons cl_av (em_upT (em_revT cl_av s7) (by omega) (by omega)) (en_cons cl_av (em_upT (em_catT cl_av (em_tup1 (em_int 0)) s7 (by omega)) (by omega) (by omega)) (en_cons cl_av (em_upT (em_catT cl_av s7 (em_tup1 (em_int 0)) (by omega)) (by omega) (by omega)) en_nil)))))))))))) (by omega) G7 (Ex.refl _) _ fun v G8 e8 r8 => ?_)
  obtain ⟨Kd, rfl, hK7, nK, wK⟩ := r8
  have wF8 := (wF7.new hK7).ex e8
  have n8 := n7.ex e8
  obtain ⟨hK0, Kb⟩ := n7.none hK7
  have KF : Kd ≠ F := fun z => nK (.inr z)
  have c8 : Ct (addS (addS (isB b) F) Kd) G8 := (c7.ex e8).add wK.choose_spec.1
  refine ⟨_, rfl, .inl ⟨rfl, _, SqL.of wK.choose_spec.1⟩, em_list cl_av c8 (en_cons cl_av (em_of cl_av (ev_ixT (ev_var rfl) (ev_var rfl) n8.pl.hs hxo) ((av_sizes (at_ n8).2 (by omega)).le (show 1 ≤ 2 by omega))) (en_cons cl_av (em_upT (em_tup1 (em_evi (n := 0) (evs rfl n8))) (by omega) (by omega)) (en_cons cl_av (em_upT (em_repT (m := 24) cl_av (em_tup1 (em_int (n := 0) 1)) (evs rfl n8) ss0 (by omega) (by omega)) (by omega) (by omega)) (en_cons cl_av (em_upT (em_upd (sT rfl n8) (em_evi (ev_op (evj rfl rfl n8) ev_c rv_I0)) (ev_var rfl) (ev_op (ev_var rfl) ev_c rv_I0) (by omega)) (by omega) (by omega)) en_nil)))) (by omega) G8 (Ex.refl _) _ fun v G9 e9 r9 => ?_⟩
  obtain ⟨z, zs, rfl, hz, nz, _, lz, az⟩ := r9
  obtain ⟨ys, hys, sz1, wK9⟩ := (wK.ex e9).cat (lo := 0) (.inr rfl) hz lz (fun y hy => cl_av.less (fun a h => .inl h) (az y hy)) (by omega)
  refine ⟨Kd, z, ys, zs, rfl, rfl, hys, hz, sz1, ?_⟩
  have n9 := (n8.ex e9).upd hK0 Kb hys (o := .lst (ys ++ zs))
  have wF9 := (wF8.ex e9).upd (us := ys ++ zs) (.inr rfl) hys KF.symm
  generalize upd G9 Kd (.lst (ys ++ zs)) = G10 at wK9 n9 wF9 ⊢
  clear hys sz1 hz az lz nz wK n8 wF8 e9 e8 wF7 n7 hK7
  have c10 : Ct (addS (addS (isB b) F) Kd) G10 := (n9.ct.add wF9.choose_spec.1).add wK9.choose_spec.1
  dsimp only
  refine seq_for (for_listM (em_list cl_av c10 (en_cons cl_av (em_bl true) (en_cons cl_av em_non (en_cons cl_av (em_str "1" (by decide +kernel) (by decide +kernel)) (en_cons cl_av (em_upT (em_tup1 (em_int (n := 0) 1)) (by omega) (show 0 + 1 ≤ 1 by omega)) (en_cons cl_av (em_upL (em_lst1 c10 (em_int (n := 0) 1)) (by omega) (by omega)) (en_cons cl_av (em_int 0) (en_cons cl_av (em_evi (ev_neg 1)) (en_cons cl_av (em_evi (ev_op (evj rfl rfl n9) ev_c rv_I0)) (en_cons cl_av (em_evi (ev_op (evj rfl rfl n9) ev_c rv_I0)) (en_cons cl_av (em_evi (ev_op ev_c ev_c (rv_I (by show (0 : Int) ≤ 39 ∧ (39 : Int) ≤ 1000000 ∧ (10 : Int).natAbs < 2 ^ 64; decide)))) (en_cons cl_av em_dict (en_cons cl_av (em_make T (by omega) (by omega)) en_nil)))))))))))) (by omega) G10 (Ex.refl _) _ fun v G11 e11 r11 => ?_))
  obtain ⟨z, zs, rfl, hz, nz, _, lz, az⟩ := r11
  have zK : z ≠ Kd := fun h => nz (.inr h)
  have zF : z ≠ F := fun h => nz (.inl (.inr h))
  have n11 := n9.ex e11
  refine ⟨z, rfl, ⟨_, SqL.of hz⟩, for_list (xs := zs) (fun i' σ G => NC K b H k a xs L G ∧ WL K T.C 2 (addS (addS (isB b) F) Kd) Kd (16 + i') G ∧ WL K T.C 3 (addS (addS (isB b) F) Kd) F 19 G ∧ G z = some (.lst zs) ∧ (∀ y ∈ zs, Av K T.C 1 (addS (addS (isB b) F) Kd) y G) ∧ ∃ v10, σ = [some (.ref b), some (.ref a), some (.int (xs.length : Int)), some (.ref F), some (.int (i : Int)), some (.int (ot : Int)), some (.ref c), some (.ref O), some (.int (j : Int)), some (.ref Kd), v10, none, none, none])
    ⟨n11, wK9.ex e11, wF9.ex e11, hz, fun y hy => cl_av.less (fun a h => .inl h) (az y hy), none, rfl⟩ (fun i' σ G _ p => SqL.of p.2.2.2.1) ?_ ?_⟩
  · rintro i' y σ G hy ⟨nG, wKG, wFG, hzG, azG, v10, rfl⟩
    have hi' := (List.getElem?_eq_some_iff.mp hy).1
    refine ⟨_, rfl, .inl ⟨rfl, _, SqL.of wKG.choose_spec.1⟩, ?_⟩
    refine em_upT (m := 2) (em_upd (n := 1) (em_imp (sT (S := addS (addS (isB b) F) Kd) rfl nG) fun v H' r => r.mono (fun x h => h.le (Nat.zero_le 1)) (Nat.le_refl _) (Nat.le_refl _)) (em_of cl_av (ev_var rfl) (azG y (List.mem_of_getElem? hy))) (ev_var rfl) (ev_op (ev_var rfl) ev_c rv_I0) (by omega)) (by omega) (by omega) G (Ex.refl _) _ fun v G' e' r' => ?_
    obtain ⟨ks, hks, szk, wK'⟩ := (wKG.ex e').push (.inr rfl) r' (by omega)
    refine ⟨Kd, ks, v, rfl, rfl, hks, szk, (nG.ex e').upd hK0 Kb hks, by rw [show 16 + (i' + 1) = 16 + i' + 1 by omega]; exact wK', (wFG.ex e').upd (.inr rfl) hks KF.symm, by rw [upd_ne zK]; exact e' _ _ hzG, fun y hy => cl_av.mt (.inr rfl) hks But.upd (cl_av.ex e' (azG y hy)), _, rfl⟩
  · rintro σ G ⟨nG, wKG, wFG, _, _, v10, rfl⟩
    obtain ⟨ks, hks, lks, aks⟩ := wKG
    dsimp only
    refine seq_for ⟨_, rfl, Kd, rfl, ⟨_, SqL.of hks⟩, for_list (xs := ks) (fun i' σ G => NC K b H k a xs L G ∧ G Kd = some (.lst ks) ∧ (∀ y ∈ ks, Av K T.C 2 (addS (addS (isB b) F) Kd) y G) ∧ WL K T.C 3 (addS (addS (isB b) F) Kd) F (19 + i') G ∧ ∃ v10 v11, σ = [some (.ref b), some (.ref a), some (.int (xs.length : Int)), some (.ref F), some (.int (i : Int)), some (.int (ot : Int)), some (.ref c), some (.ref O), some (.int (j : Int)), some (.ref Kd), v10, v11, none, none])
      ⟨nG, hks, aks, wFG, _, _, rfl⟩ (fun i' σ G _ p => SqL.of p.2.1) ?_ ?_⟩
    · rintro i' y σ G hy ⟨nG, hKG, aKG, wFG, v10, v11, rfl⟩
      have hi' := (List.getElem?_eq_some_iff.mp hy).1
      refine ⟨_, rfl, .inl ⟨rfl, _, SqL.of wFG.choose_spec.1⟩, ?_⟩
      refine em_upT (m := 3) (em_upd (n := 2) (em_imp (vT (S := addS (addS (isB b) F) Kd) rfl nG) fun v H' r => r.mono (fun x h => h.le (show 1 ≤ 2 by omega)) (Nat.le_refl _) (Nat.le_refl _)) (em_of cl_av (ev_var rfl) (aKG y (List.mem_of_getElem? hy))) (ev_var rfl) (ev_op (ev_var rfl) ev_c rv_I0) (by omega)) (by omega) (by omega) G (Ex.refl _) _ fun v G' e' r' => ?_
      obtain ⟨fs, hfs, szf, wF'⟩ := (wFG.ex e').push (.inl (.inr rfl)) r' (by omega)
      refine ⟨F, fs, v, rfl, rfl, hfs, szf, (nG.ex e').upd hF0 Fb hfs, by rw [upd_ne KF]; exact e' _ _ hKG, fun y hy => cl_av.mt (.inl (.inr rfl)) hfs But.upd (cl_av.ex e' (aKG y hy)), by rw [show 19 + (i' + 1) = 19 + i' + 1 by omega]; exact wF', _, _, rfl⟩
    · rintro σ G ⟨nG, _, _, wFG, v10, v11, rfl⟩
      refine ⟨_, rfl, a, xs, rfl, .inr nG.pl.hs, fun D hD => ?_⟩
      have eD := Ex.new (o := .lst xs) hD
      have n12 := nG.ex eD
      have wF12 := wFG.ex eD
      have hDD : upd G D (.lst xs) D = some (.lst xs) := upd_same
      obtain ⟨hD0, Db⟩ := nG.none hD
      have DF : D ≠ F := fun z => by
        obtain ⟨fs, hf, _⟩ := wFG
        rw [z, hf] at hD
        cases hD
      have wF13 := (wFG.new hD).ex eD
      generalize upd G D (.lst xs) = G12 at n12 wF12 hDD wF13 ⊢
      refine ⟨_, rfl, _, rfl, a, xs, _, _, rfl, rfl, n12.pl.hs, atI_nat hxo, _, rfl, _, rfl, a, xs, _, _, rfl, rfl, n12.pl.hs, atI_nat hxc, two_le, fun T1 hT1 => ⟨T1, _, rfl, SqT.of upd_same, rfl, _, _, rfl, _, rfl, _, rfl, D, _, _, i, rfl, rfl, (Ex.new hT1) _ _ hDD, ixN_nat hi, _, _, rfl, _, rfl, _, rfl, D, _, _, ot, rfl, rfl, upd_same, ixN_nat (by rw [List.length_set]; exact hot), rfl, ?_⟩⟩
      have eT := Ex.new (o := .tup [.ref co, .ref c]) hT1
      have n13 := ((n12.ex eT).upd hD0 Db (eT _ _ hDD) (o := .lst (xs.set i (.ref co)))).upd hD0 Db upd_same (o := .lst ((xs.set i (.ref co)).set ot (.ref c)))
      have wF14 := ((wF13.ex eT).upd (us := xs.set i (.ref co)) (.inr rfl) (eT _ _ hDD) DF.symm).upd (us := (xs.set i (.ref co)).set ot (.ref c)) (.inr rfl) upd_same DF.symm
      have hD3 : upd (upd (upd G12 T1 (.tup [.ref co, .ref c])) D (.lst (xs.set i (.ref co)))) D (.lst ((xs.set i (.ref co)).set ot (.ref c))) D = some (.lst ((xs.set i (.ref co)).set ot (.ref c))) := upd_same
      generalize upd (upd (upd G12 T1 (.tup [.ref co, .ref c])) D (.lst (xs.set i (.ref co)))) D (.lst ((xs.set i (.ref co)).set ot (.ref c))) = G13 at n13 wF14 hD3 ⊢
      have nBD : ¬ isB b D := Db
      have lpD : LP (Av K T.C 1) 0 16 (isB b) (.ref D) G13 := ⟨D, _, rfl, hD3, nBD, Nat.zero_le _, by rw [List.length_set, List.length_set]; omega, fun x hx => by
        have hx : x ∈ xs := by
          rcases List.mem_or_eq_of_mem_set hx with h1 | h1
          · rcases List.mem_or_eq_of_mem_set h1 with h2 | h2
            · exact h2
            · rw [h2]; exact List.mem_of_getElem? hxo
          · rw [h1]; exact List.mem_of_getElem? hxc
        exact n13.pl.av gl x hx⟩
      have lpF : LP (Av K T.C 3) 0 (19 + ks.length) (isB b) (.ref F) G13 := wF14.lp (fun x h => h.elim (fun h => .inl (.inl (.inl h))) (fun h => .inl (.inl (.inr h)))) nF
      dsimp only
      refine em_cat cl_av n13.ct (em_of (cl_lp cl_av) (ev_var rfl) lpF) (em_lst1 n13.ct (em_upT (em_tupOf cl_av (em_of (cl_lp cl_av) (ev_var rfl) lpD)) (by omega) (show 1 + 1 ≤ 3 by omega))) (by omega) G13 (Ex.refl _) _ fun v G' e' r' => ?_
      exact q v G' (n13.kb.trans (But.of e')) (n13.B.ex e') (r'.elim fun p h => ⟨p, h.elim fun ys h => ⟨ys, h.1, h.2.1, h.2.2.1, Nat.zero_le _, by omega, h.2.2.2.2.2⟩⟩)
end
end L2.U


set_option Elab.async false
set_option linter.all false
set_option maxRecDepth 100000
set_option maxHeartbeats 4000000
namespace L2.U
open PySem PySem.Spec PyProof.Rows Evl
section
variable {P : Program} {w : World} {K : PySem.W.Frag} {mg : Str → Option Value} {base : Heap}
def spAskedL (K : PySem.W.Frag) (C : Addr) : Sp := fun vs H Q _ => ∃ (a : Addr) (ns : List Int) (k : Nat) (z : V) (dz : PyData) (named : Int) (n : Nat) (ok : Addr → Prop), vs = [.ref a, .int (k : Int), z, .int named] ∧ H a = some (.lst (ns.map V.int)) ∧ GoodR ns ∧ k ≤ 24 ∧ Ro K C ok H n z dz ∧ ∀ H', Ex H H' → Q (.bl (fitsD ns (k : Int) dz)) H'
theorem ok_law_asked (T : TK K mg) : FnOk P w K mg base CX0 10 T.law_asked.a T.law_asked.fd ["row", "wires", "value", "named"] (spAskedL K T.C) := by
  refine T.law_asked.F.ok sc_law_asked (fun vs H Q E h => ?_) (fun cdv A outer s H vs Q E hr h => ?_)
  · obtain ⟨a, ns, k, z, dz, named, n, ok, rfl, _⟩ := h; rfl
  obtain ⟨a, ns, k, z, dz, named, n, ok, rfl, ha, g, hk, hz, q⟩ := h
  refine ⟨_, (pss_cons (ps_set (i := 4) sc_law_asked.nd rfl (Or.inl rfl) (pe_callTy (klist K) (by rfl) T.z_list (by decide +kernel) (pa_cons (pv 0) pa_nil)))
    (pss_cons (ps_if (pt_cmpR op_eq (pv 3) pe_int (nomark _)) (pss_one (ps_set (i := 5) sc_law_asked.nd rfl (Or.inl rfl) (pe_call (okc_raise_fits T) (hr.mono (by decide)) rfl T.raise_fits.m T.raise_fits.F.kp T.raise_fits.b .nil pass0 (pa_cons (pv 4) (pa_cons (pv 1) (pa_cons (pv 2) pa_nil)))))) (pss_one (ps_if (pt_cmpR op_eq (pv 3) pe_int (nomark _)) (pss_one (ps_set (i := 5) sc_law_asked.nd rfl (Or.inl rfl) (by exact (pe_callKw (okc_raise_fits T) (hr.mono (by decide)) rfl T.raise_fits.m T.raise_fits.F.kp T.kb_raise_fits_value_row_wires (fun σ => pass0At) (pk_cons (pv 2) (pk_cons (pv 4) (pk_cons (pv 1) pk_nil))))))) (pss_one (ps_ret (pe_call (okc_raise_fits T) (hr.mono (by decide)) rfl T.raise_fits.m T.raise_fits.F.kp T.raise_fits.b .nil pass0 (pa_cons (pe_callTy (ktuple K) (by rfl) T.z_tuple (by decide +kernel) (pa_cons (pv 4) pa_nil)) (pa_cons (pv 1) (pa_cons (pv 2) pa_nil)))))))))
    (pss_one (ps_ret (pe_ifExp (pt_val (pe_call (ok_law_same T.toTA1) (hr.mono (by decide)) rfl T.law_same.m T.law_same.F.kp T.law_same.b .nil pass0 (pa_cons (pv 4) (pa_cons (pv 0) pa_nil)))) (pv 5) pe_non))))), ?_⟩
  have l9 : ns.length ≤ 900 := by have := g.1; omega
  have nl : numsD (.list (ns.map PyData.int)) = ns := nums_map
  have nt : numsD (.tuple (ns.map PyData.int)) = ns := nums_map
  refine ⟨_, rfl, a, _, rfl, .inl (SqL.of ha), fun c hc => ?_⟩
  have e1 := Ex.new (o := .lst (ns.map V.int)) hc
  have hc1 := upd_same (H := H) (a := c) (o := .lst (ns.map V.int))
  have ha1 := e1 _ _ ha
  have hz1 := hz.ex e1
  generalize upd H c (.lst (ns.map V.int)) = H1 at e1 hc1 ha1 hz1 ⊢
  have rc : Ro K T.C (fun _ => True) H1 1 (.ref c) (.list (ns.map PyData.int)) := .rd (rd_ilist hc1 trivial l9)
  have sm : ∀ G, Ex H1 G → Sm K G 8 (.ref c) (.ref a) := fun G e => ((rd_ilist (ok := fun _ => True) (e _ _ hc1) trivial l9).le (by omega)).sm ((rd_ilist (ok := fun _ => True) (e _ _ ha1) trivial l9).le (by omega))
  refine ⟨_, rfl, rfl, _, rfl, ite2 (fun _ => ?_) (fun _ => ?_)⟩
  · refine ⟨_, rfl, _, rfl, _, rfl, .ref c, z, _, dz, 1, n, _, ok, k, rfl, rc, hz1, row_list g, hk, fun H2 e2 => ?_⟩
    rw [nl]
    exact ⟨_, rfl, _, rfl, .ref c, .ref a, rfl, sm H2 e2, fun H3 e3 => ⟨_, rfl, iteT ⟨_, rfl, q H3 ((e1.trans e2).trans e3)⟩⟩⟩
  refine ⟨_, rfl, rfl, _, rfl, ite2 (fun _ => ?_) (fun _ => ?_)⟩
  · refine ⟨_, rfl, _, rfl, _, rfl, .ref c, z, _, dz, 1, n, _, ok, k, rfl, rc, hz1, row_list g, hk, fun H2 e2 => ?_⟩
    rw [nl]
    exact ⟨_, rfl, _, rfl, .ref c, .ref a, rfl, sm H2 e2, fun H3 e3 => ⟨_, rfl, iteT ⟨_, rfl, q H3 ((e1.trans e2).trans e3)⟩⟩⟩
  refine ⟨_, rfl, c, _, rfl, .inl ⟨SqL.of hc1, fun t ht => ⟨_, rfl, _, rfl, .ref t, z, _, dz, 1, n, _, ok, k, rfl, .rd (rd_ituple (ok := fun _ => True) (SqT.of upd_same) trivial l9), hz1.ex (Ex.new ht), row_tup g, hk, fun H2 e2 => ?_⟩⟩⟩
  rw [nt]
  exact q H2 ((e1.trans (Ex.new ht)).trans e2)
/-! ### rows with numbers of wires -/
def RowV : PV := fun S v H => ∃ r ns, v = .ref r ∧ H r = some (.lst (ns.map V.int)) ∧ ¬ S r ∧ GoodR ns
def PairV (K : PySem.W.Frag) : PV := fun S v H => ∃ t r ns, ∃ k : Nat, v = .ref t ∧ SqT K H t [.ref r, .int (k : Int)] ∧ H r = some (.lst (ns.map V.int)) ∧ ¬ S r ∧ GoodR ns ∧ k ≤ 24
theorem cl_row : Cl RowV where
  ex e h := by
    obtain ⟨r, ns, rfl, hr, sr, g⟩ := h
    exact ⟨r, ns, rfl, e _ _ hr, sr, g⟩
  new hD h := by
    obtain ⟨r, ns, rfl, hr, sr, g⟩ := h
    exact ⟨r, ns, rfl, hr, (fun z => z.elim sr fun e => by rw [e, hD] at hr; cases hr), g⟩
  mt hD hz k h := by
    obtain ⟨r, ns, rfl, hr, sr, g⟩ := h
    exact ⟨r, ns, rfl, k _ _ (fun z => sr (by rw [z]; exact hD)) hr, sr, g⟩
  less w h := by
    obtain ⟨r, ns, rfl, hr, sr, g⟩ := h
    exact ⟨r, ns, rfl, hr, fun z => sr (w _ z), g⟩
theorem cl_pair : Cl (PairV K) where
  ex e h := by
    obtain ⟨t, r, ns, k, rfl, ht, hr, sr, g⟩ := h
    exact ⟨t, r, ns, k, rfl, ex_t e ht, e _ _ hr, sr, g⟩
  new hD h := by
    obtain ⟨t, r, ns, k, rfl, ht, hr, sr, g⟩ := h
    exact ⟨t, r, ns, k, rfl, ht, hr, (fun z => z.elim sr fun e => by rw [e, hD] at hr; cases hr), g⟩
  mt hD hz kk h := by
    obtain ⟨t, r, ns, k, rfl, ht, hr, sr, g⟩ := h
    exact ⟨t, r, ns, k, rfl, sqt_but hz kk ht, kk _ _ (fun z => sr (by rw [z]; exact hD)) hr, sr, g⟩
  less w h := by
    obtain ⟨t, r, ns, k, rfl, ht, hr, sr, g⟩ := h
    exact ⟨t, r, ns, k, rfl, ht, hr, fun z => sr (w _ z), g⟩
section
variable {σ : L2.St} {H : Hp} {S : Addr → Prop} {te tb : TE}
theorem em_pair {k : Nat} (h1 : EvM te σ H (RowV S)) (h2 : Ev tb σ H (.int (k : Int))) (hk : k ≤ 24) : EvM (tTup (tCons te (tCons tb tNil))) σ H (PairV K S) := fun H1 e1 Q q =>
  h1 H1 e1 _ fun v H2 e2 rr => h2 H2 (e1.trans e2) _ fun H3 e3 => ⟨two_le, fun t ht => by
    obtain ⟨r, ns, rfl, hr, sr, g⟩ := cl_row.ex e3 rr
    exact q _ _ (e2.trans (e3.trans (Ex.new ht))) ⟨t, r, ns, k, rfl, SqT.of upd_same, (Ex.new ht) _ _ hr, sr, g, hk⟩⟩
theorem em_ones {m : Nat} (hS : Ct S H) (h : Ev tb σ H (.int (m : Int))) (hm : m ≤ 16) : EvM (tOp rRep (tLst (tCons (tC (.int 1)) tNil)) tb) σ H (RowV S) := fun H1 e1 Q q =>
  ⟨one_le, fun p hp => h _ (e1.trans (Ex.new hp)) _ fun H2 e2 => ⟨p, (m : Int), [.int 1], rfl, rfl, e2 _ _ upd_same, by omega, by omega, Nat.le_of_lt (small1000 (by show 1 * ((m : Int)).toNat ≤ 1000; omega)), fun z hz => q _ _ ((Ex.new hp).trans (e2.trans (Ex.new hz))) ⟨z, List.replicate m 1, rfl, by rw [upd_same, rep_one, Int.toNat_natCast, List.map_replicate], hS.fresh (e1.trans ((Ex.new hp).trans e2)) hz, by rw [List.length_replicate]; exact hm, fun y hy => by rw [(List.mem_replicate.mp hy).2]; decide⟩⟩⟩
theorem em_rowcut {tl th : TO} {l u : Option Int} {xs : List Int} (hS : Ct S H) (h : EvL te σ H (xs.map V.int)) (h1 : EvO tl σ H l) (h2 : EvO th σ H u) (g : ∀ ys : List Int, cutV (xs.map V.int) l u = ys.map V.int → GoodR ys) : EvM (tSl (rSlL K) te tl th) σ H (RowV S) := fun H1 e1 Q q =>
  h H1 e1 _ fun p H2 hp e2 h2' => h1 H2 (e1.trans e2) _ fun H3 e3 => h2 H3 (e1.trans (e2.trans e3)) _ fun H4 e4 => ⟨p, _, rfl, SqL.of ((e3.trans e4) _ _ h2'), fun z hz => by
    obtain ⟨ys, hy⟩ : ∃ ys : List Int, cutV (xs.map V.int) l u = ys.map V.int := by
      unfold cutV
      rw [← List.map_drop, ← List.map_take]
      exact ⟨_, rfl⟩
    exact q _ _ (e2.trans (e3.trans (e4.trans (Ex.new hz)))) ⟨z, ys, rfl, by rw [upd_same, hy], hS.fresh (e1.trans (e2.trans (e3.trans e4))) hz, g ys hy⟩⟩
end
theorem cut_ints {xs ys : List Int} {l u : Option Int} (h : cutV (xs.map V.int) l u = ys.map V.int) : ∀ y ∈ ys, y ∈ xs := fun y hy => by
  have : V.int y ∈ cutV (xs.map V.int) l u := by rw [h]; exact List.mem_map.mpr ⟨y, hy, rfl⟩
  obtain ⟨z, hz, e⟩ := List.mem_map.mp (cut_mem this)
  cases e
  exact hz
/-- asked and judged alike -/
theorem judge_step {C b r : Addr} {σ : L2.St} {G : Hp} {ns : List Int} {k j n l : Nat} {z : V} {dz : PyData} {D : Ends} (v0 : σ[0]? = some (some (.ref b))) (v7 : σ[7]? = some (some (.int (k : Int)))) (v10 : σ[10]? = some (some (.ref r))) (vz : σ[j]? = some (some z)) (hB : BoxAt G b (n + 1)) (hr : G r = some (.lst (ns.map V.int))) (rb : r ≠ b) (g : GoodR ns) (hk : k ≤ 24)
    (hz : Ro K C (fun a => a ≠ b) G l z dz) (q : ∀ G', But b G G' → BoxAt G' b n → D.nx σ G') :
    tIfS (tNot (tB (tCall (spSame K 8) [] E0 (tCons (tCall (spAskedL K C) [] E0 (tCons (tVar 10) (tCons (tVar 7) (tCons (tVar j) (tCons (tCall spTake [] E0 (tCons (tVar 0) (tCons (tC (V.int 3)) tNil))) tNil))))) (tCons (tCall (spFitsL K C) [] E0 (tCons (tVar 10) (tCons (tVar 7) (tCons (tVar j) tNil)))) tNil))))) (tRet (tC (V.bl false))) tNext D σ G := by
  obtain ⟨zb, hzb⟩ := box_lst hB
  refine ⟨_, v10, _, v7, _, vz, _, v0, b, 3, n, rfl, by decide, by decide, hB, fun named G1 _ _ B1 k1 => ?_⟩
  have hr1 := k1 _ _ rb hr
  have hz1 := hz.but hzb k1 fun a h => h
  refine ⟨r, ns, k, z, dz, named, l, _, rfl, hr1, g, hk, hz1, fun G2 e2 => ?_⟩
  refine ⟨_, v10, _, v7, _, vz, r, ns, (k : Int), z, dz, l, _, rfl, SqL.of (e2 _ _ hr1), by have := g.1; omega, by omega, hz1.ex e2, fun G3 e3 => ?_⟩
  exact ⟨_, _, rfl, .bl _, fun G4 e4 => ⟨_, rfl, iteF (q G4 (k1.trans (But.of ((e2.trans e3).trans e4))) (B1.ex ((e2.trans e3).trans e4)))⟩⟩
end
end L2.U


set_option Elab.async false
set_option linter.all false
set_option maxRecDepth 100000
set_option maxHeartbeats 4000000
namespace L2.U
open PySem PySem.Spec PyProof.Rows Evl
section
variable {P : Program} {w : World} {K : PySem.W.Frag} {mg : Str → Option Value} {base : Heap}
theorem em_rowcutV {σ : L2.St} {H : Hp} {S : Addr → Prop} {te : TE} {tl th : TO} {l u : Option Int} {xs : List Int} {p : Addr} (hS : Ct S H) (h : Ev te σ H (.ref p)) (hp : H p = some (.lst (xs.map V.int))) (h1 : EvO tl σ H l) (h2 : EvO th σ H u) (g : ∀ ys : List Int, cutV (xs.map V.int) l u = ys.map V.int → GoodR ys) : EvM (tSl (rSlL K) te tl th) σ H (RowV S) := fun H1 e1 Q q =>
  h H1 e1 _ fun H2 e2 => h1 H2 (e1.trans e2) _ fun H3 e3 => h2 H3 (e1.trans (e2.trans e3)) _ fun H4 e4 => ⟨p, _, rfl, SqL.of ((e1.trans (e2.trans (e3.trans e4))) _ _ hp), fun z hz => by
    obtain ⟨ys, hy⟩ : ∃ ys : List Int, cutV (xs.map V.int) l u = ys.map V.int := by
      unfold cutV
      rw [← List.map_drop, ← List.map_take]
      exact ⟨_, rfl⟩
    exact q _ _ (e2.trans (e3.trans (e4.trans (Ex.new hz)))) ⟨z, ys, rfl, by rw [upd_same, hy], hS.fresh (e1.trans (e2.trans (e3.trans e4))) hz, g ys hy⟩⟩
theorem good_reach {k : Int} {m : Nat} {L : List (List Int)} (g : GoodP k m L) (hk : k ≤ 24) (hm : m ≤ 16) : GoodR (reachL k L) := ⟨by rw [reachL_len]; have := g.many; omega, fun z hz => by have := reach_in g hk z hz; omega⟩
def spJudged (K : PySem.W.Frag) : Sp := fun vs H Q _ => ∃ (b : Addr) (x : V) (L : List (List Int)) (n k m w : Nat) (ok : Addr → Prop), vs = [.ref b, x, .int (w : Int)] ∧ BoxAt H b (k + 3000) ∧ Rd K ok H n x (planP L) ∧ (∀ a, ok a → a ≠ b) ∧ GoodP (w : Int) m L ∧ w ≤ 24 ∧ m ≤ 16 ∧
  ∀ H', But b H H' → BoxAt H' b k → Q (.bl true) H'
theorem ok_law_judged_right (T : TK K mg) : FnOk P w K mg base CX0 11 T.law_judged_right.a T.law_judged_right.fd ["box", "value", "wires"] (spJudged K) := by
  refine T.law_judged_right.F.ok sc_law_judged_right (fun vs H Q E h => ?_) (fun cdv A outer s H vs Q E hr h => ?_)
  · obtain ⟨b, x, L, n, k, m, w, ok, rfl, _⟩ := h; rfl
  obtain ⟨b, x, L, n, k, m, w, ok, rfl, hB, hx, okb, gp, hw, hm, q⟩ := h
  refine ⟨_, (pss_cons (ps_asg (pe_tup (pa_cons (pe_call (ok_law_use T) (hr.mono (by decide)) rfl T.law_use.m T.law_use.F.kp T.law_use.b .nil pass0 (pa_cons (pv 1) pa_nil)) (pa_cons (pe_callB (klen K) (by rfl) T.z_len (by decide +kernel) (pa_cons (pv 1) pa_nil)) (pa_cons (pe_call (ok_law_take T.toTA1) (hr.mono (by decide)) rfl T.law_take.m T.law_take.F.kp T.law_take.b .nil pass0 (pa_cons (pv 0) (pa_cons (pe_op op_add (pe_callB (klen K) (by rfl) T.z_len (by decide +kernel) (pa_cons (pv 1) pa_nil)) pe_int) pa_nil))) pa_nil)))) (pg_tup (by rfl) (pgs_cons (pg_name (i := 3) sc_law_judged_right.nd rfl (Or.inl rfl)) (pgs_cons (pg_name (i := 4) sc_law_judged_right.nd rfl (Or.inl rfl)) (pgs_cons (pg_name (i := 5) sc_law_judged_right.nd rfl (Or.inr rfl)) pgs_nil)))))
    (pss_cons (ps_set (i := 6) sc_law_judged_right.nd rfl (Or.inr rfl) (pe_call (ok_law_reached T) (hr.mono (by decide)) rfl T.law_reached.m T.law_reached.F.kp T.law_reached.b .nil pass0 (pa_cons (pv 1) (pa_cons (pv 3) pa_nil))))
    (pss_cons (ps_setLc (i := 8) (own := [("k", 7)]) (g := gName 7) (by rfl) sc_law_judged_right.nd rfl rfl (sw_true rfl rfl rfl (by decide +kernel)) (pi_range1 rfl T.z_range (pa_cons (pv 4) pa_nil)) (blkOk_by (own := [("k", 7)]) (N := ["box", "value", "wires", "used", "m", "at", "least", "k", "more", "asked", "row", "one"]) (sc := defScope s_law_judged_right) (by decide +kernel)) (fun _ _ _ _ _ => (pg_name (i := 7) sc_law_judged_right.nd rfl (Or.inl rfl))) (fun _ _ _ _ _ => pts_nil) (fun _ _ _ _ _ => (pe_op op_add (pe_ix (kixl K) (pv 6) (pv 7) (fun _ _ => rfl)) (pe_callTy call_int1 (by rfl) T.z_int (by decide +kernel) (pa_cons (pe_cmpR op_eq (pv 7) (pv 5) (nomark _)) pa_nil)))))
    (pss_cons (ps_set (i := 9) sc_law_judged_right.nd rfl (Or.inl rfl) (pe_lst (pa_cons (pe_tup (pa_cons (pv 6) (pa_cons (pv 3) pa_nil))) (pa_cons (pe_tup (pa_cons (pv 8) (pa_cons (pv 3) pa_nil))) (pa_cons (pe_tup (pa_cons (pe_op op_rep (pe_lst (pa_cons pe_int pa_nil)) (pv 4)) (pa_cons (pv 3) pa_nil))) (pa_cons (pe_tup (pa_cons (pe_op op_rep (pe_lst (pa_cons pe_int pa_nil)) (pv 4)) (pa_cons (pe_callB (call_max2 rfl) (by rfl) T.z_max (by decide +kernel) (pa_cons pe_int (pa_cons (pe_op op_sub (pv 3) pe_int) pa_nil))) pa_nil))) (pa_cons (pe_tup (pa_cons (pv 6) (pa_cons (pv 2) pa_nil))) (pa_cons (pe_tup (pa_cons (pe_slice (kslL K) (pv 6) (po_some pe_int) po_none) (pa_cons (pv 2) pa_nil))) pa_nil))))))))
    (pss_cons (ps_for PassesOwn.never rfl (kpil K (pe_op op_cat (pv 9) (pe_lst (pa_cons (pe_tup (pa_cons (pe_slice (kslL K) (pe_op op_cat (pv 6) (pe_lst (pa_cons pe_int pa_nil))) po_none (po_some pe_int)) (pa_cons (pv 2) pa_nil))) (pa_cons (pe_tup (pa_cons (pe_call (ok_law_reached T) (hr.mono (by decide)) rfl T.law_reached.m T.law_reached.F.kp T.law_reached.b .nil pass0 (pa_cons (pv 1) (pa_cons (pv 2) pa_nil))) (pa_cons (pv 2) pa_nil))) pa_nil))))) (pg_tup (by rfl) (pgs_cons (pg_name (i := 10) sc_law_judged_right.nd rfl (Or.inl rfl)) (pgs_cons (pg_name (i := 7) sc_law_judged_right.nd rfl (Or.inl rfl)) pgs_nil))) (pss_one (ps_if (pt_not (pt_val (pe_call (ok_law_same T.toTA1) (hr.mono (by decide)) rfl T.law_same.m T.law_same.F.kp T.law_same.b .nil pass0 (pa_cons (pe_call (ok_law_asked T) (hr.mono (by decide)) rfl T.law_asked.m T.law_asked.F.kp T.law_asked.b .nil pass0 (pa_cons (pv 10) (pa_cons (pv 7) (pa_cons (pv 1) (pa_cons (pe_call (ok_law_take T.toTA1) (hr.mono (by decide)) rfl T.law_take.m T.law_take.F.kp T.law_take.b .nil pass0 (pa_cons (pv 0) (pa_cons pe_int pa_nil))) pa_nil))))) (pa_cons (pe_call (ok_law_fits T) (hr.mono (by decide)) rfl T.law_fits.m T.law_fits.F.kp T.law_fits.b .nil pass0 (pa_cons (pv 10) (pa_cons (pv 7) (pa_cons (pv 1) pa_nil)))) pa_nil))))) (pss_one (ps_ret pe_bl)) pss_nil)))
    (pss_cons (ps_for PassesOwn.never rfl (kpil K (pe_call (ok_law_near T) (hr.mono (by decide)) rfl T.law_near.m T.law_near.F.kp T.law_near.b .nil pass0 (pa_cons (pv 0) (pa_cons (pv 1) pa_nil)))) (pg_name (i := 11) sc_law_judged_right.nd rfl (Or.inl rfl)) (pss_one (ps_for PassesOwn.never rfl (kpil K (pe_lst (pa_cons (pe_tup (pa_cons (pv 6) (pa_cons (pv 2) pa_nil))) (pa_cons (pe_tup (pa_cons (pe_op op_rep (pe_lst (pa_cons pe_int pa_nil)) (pv 4)) (pa_cons pe_int pa_nil))) pa_nil)))) (pg_tup (by rfl) (pgs_cons (pg_name (i := 10) sc_law_judged_right.nd rfl (Or.inl rfl)) (pgs_cons (pg_name (i := 7) sc_law_judged_right.nd rfl (Or.inl rfl)) pgs_nil))) (pss_one (ps_if (pt_not (pt_val (pe_call (ok_law_same T.toTA1) (hr.mono (by decide)) rfl T.law_same.m T.law_same.F.kp T.law_same.b .nil pass0 (pa_cons (pe_call (ok_law_asked T) (hr.mono (by decide)) rfl T.law_asked.m T.law_asked.F.kp T.law_asked.b .nil pass0 (pa_cons (pv 10) (pa_cons (pv 7) (pa_cons (pv 11) (pa_cons (pe_call (ok_law_take T.toTA1) (hr.mono (by decide)) rfl T.law_take.m T.law_take.F.kp T.law_take.b .nil pass0 (pa_cons (pv 0) (pa_cons pe_int pa_nil))) pa_nil))))) (pa_cons (pe_call (ok_law_fits T) (hr.mono (by decide)) rfl T.law_fits.m T.law_fits.F.kp T.law_fits.b .nil pass0 (pa_cons (pv 10) (pa_cons (pv 7) (pa_cons (pv 11) pa_nil)))) pa_nil))))) (pss_one (ps_ret pe_bl)) pss_nil)))))
    (pss_one (ps_ret pe_bl)))))))), ?_⟩
  obtain ⟨a, xs, rfl, oa, hs, hl, _, _⟩ := planR hx
  have lm := gp.many
  obtain ⟨u, hu⟩ : ∃ u : Nat, useP L = (u : Int) := ⟨(useP L).toNat, by have := use_nonneg gp.ne gp.pos; omega⟩
  have uw : u ≤ w := by have := gp.use; omega
  have gu : GoodP (u : Int) m L := ⟨gp.ne, gp.pos, gp.len, by omega, gp.many⟩
  refine ⟨_, rfl, .ref a, L, n, ok, rfl, hx, fun H1 e1 => ?_⟩
  rw [hu]
  refine ⟨_, rfl, _, _, rfl, .inr ⟨_, ex_t e1 hs, rfl⟩, _, rfl, _, rfl, _, _, rfl, .inr ⟨_, ex_t e1 hs, rfl⟩, _, _, rfl, rfl, b, (xs.length : Int) + 1, k + 2900, rfl, by omega, by omega, (hB.ex e1).le (by omega), fun at0 H2 a0 a1 B2 k2 => ⟨three_le, fun t ht => ⟨t, _, rfl, SqT.of upd_same, rfl, _, _, rfl, _, _, rfl, _, _, rfl, rfl, ?_⟩⟩⟩
  have et := Ex.new (o := .tup [.int (u : Int), .int (xs.length : Int), .int at0]) ht
  have hx2 := ((hx.ex e1).but k2 okb).ex et
  have B3 := B2.ex et
  have kb3 := ((But.of (b := b) e1).trans k2).trans (But.of et)
  generalize upd H2 t (.tup [.int (u : Int), .int (xs.length : Int), .int at0]) = G3 at hx2 B3 kb3 ⊢
  refine ⟨_, rfl, _, rfl, .ref a, L, n, ok, (u : Int), m, rfl, hx2, gu, by omega, fun p6 G4 hp6 e4 h6 => ?_⟩
  have hx4 := hx2.ex e4
  have B4 := B3.ex e4
  have kb4 := kb3.trans (But.of e4)
  have n6 : p6 ≠ b := B3.ne hp6
  have rl : (reachL (u : Int) L).length = xs.length := by rw [reachL_len, hl]
  have gr := good_reach gu (by omega) hm
  have ri := reach_in gu (by omega)
  clear hx2 B3 kb3 k2 B2 e1 et hp6 ht
  have EL : EvL (tLc (iRng1 (tCons (tVar 4) tNil)) (gName 7) tYes (tOp (rI0 fun i j => V.int (i + j)) (tOp (rIxL K) (tVar 6) (tVar 7)) (tCB (fun xs H Q => (∃ i, xs = [V.int i] ∧ Q (V.int i) H) ∨ ∃ k, xs = [V.bl k] ∧ Q (V.int (if k = true then 1 else 0)) H) (tCons (tOp rEq (tVar 7) (tVar 5)) tNil))) [7])
      [some (.ref b), some (.ref a), some (.int (w : Int)), some (.int (u : Int)), some (.int (xs.length : Int)), some (.int at0), some (.ref p6), none, none, none, none, none] G4 (((List.range xs.length).map fun j : Nat => (reachL (u : Int) L).getD j 0 + (if decide (V.int (j : Int) = V.int at0) = true then 1 else 0)).map V.int) := by
    have := el_lcR1 (σ := [some (.ref b), some (.ref a), some (.int (w : Int)), some (.int (u : Int)), some (.int (xs.length : Int)), some (.int at0), some (.ref p6), none, none, none, none, none]) (H := G4) (ta := tCons (tVar 4) tNil) (j := 7) (vs := [7]) (t := tYes) (te := tOp (rI0 fun i j => V.int (i + j)) (tOp (rIxL K) (tVar 6) (tVar 7)) (tCB (fun xs H Q => (∃ i, xs = [V.int i] ∧ Q (V.int i) H) ∨ ∃ k, xs = [V.bl k] ∧ Q (V.int (if k = true then 1 else 0)) H) (tCons (tOp rEq (tVar 7) (tVar 5)) tNil))) (n := (xs.length : Int)) (fun _ => true) (fun j => V.int ((reachL (u : Int) L).getD j 0 + (if decide (V.int (j : Int) = V.int at0) = true then 1 else 0))) (ea_cons (ev_var rfl) ea_nil) ⟨by omega, by omega⟩ (fun x => rfl) (fun i H1 e1 _ H2 e2 Q q => q H2 (Ex.refl _)) (fun i H1 e1 hi _ H2 e2 Q q => ⟨_, rfl, _, rfl, p6, _, _, _, rfl, rfl, SqL.of ((e1.trans e2) _ _ h6), atI_nat (ints_getD (by omega)), _, rfl, _, rfl, rfl, .inr ⟨_, rfl, _, _, rfl, rfl, q H2 (Ex.refl _)⟩⟩)
    rw [given_all, Int.toNat_natCast] at this
    rw [List.map_map]
    exact this
  dsimp only [gName]
  refine seq_asg (EL G4 (Ex.refl _) _ fun p8 G5 hp8 e5 h8 => ?_)
  clear EL
  have gm : GoodR ((List.range xs.length).map fun j : Nat => (reachL (u : Int) L).getD j 0 + (if decide (V.int (j : Int) = V.int at0) = true then 1 else 0)) := ⟨by rw [List.length_map, List.length_range]; omega, fun y hy => by
    obtain ⟨j, hj, rfl⟩ := List.mem_map.mp hy
    have hj := List.mem_range.mp hj
    have hg : (reachL (u : Int) L)[j]? = some ((reachL (u : Int) L)[j]'(by omega)) := List.getElem?_eq_getElem _
    have := ri _ (List.mem_of_getElem? hg)
    rw [List.getD_eq_getElem?_getD, hg]
    show 1 ≤ (reachL (u : Int) L)[j]'(by omega) + _ ∧ (reachL (u : Int) L)[j]'(by omega) + _ ≤ _
    split <;> omega⟩
  generalize ((List.range xs.length).map fun j : Nat => (reachL (u : Int) L).getD j 0 + (if decide (V.int (j : Int) = V.int at0) = true then 1 else 0)) = mo at h8 gm
  have n8 : p8 ≠ b := B4.ne hp8
  have hx5 := hx4.ex e5
  have B5 := B4.ex e5
  have kb5 := kb4.trans (But.of e5)
  have h65 := e5 _ _ h6
  clear hx4 B4 kb4 h6 hp8
  have ct : ∀ {G : Hp} {k : Nat}, BoxAt G b k → Ct (isB b) G := fun h y hy => by
    obtain ⟨zs, hz⟩ := box_lst h
    exact ⟨_, by rw [show y = b from hy]; exact hz⟩
  have r6 : ∀ {G : Hp} {σ : L2.St}, σ[6]? = some (some (.ref p6)) → G p6 = some (.lst ((reachL (u : Int) L).map V.int)) → EvM (tVar 6) σ G (RowV (isB b)) := fun hσ h => em_of cl_row (ev_var hσ) ⟨p6, _, rfl, h, n6, gr⟩
  dsimp only [gName]
  refine seq_asg (em_list (cl_pair (K := K)) (ct B5) (en_cons cl_pair (em_pair (r6 rfl h65) (ev_var (v := .int (u : Int)) rfl) (by omega)) (en_cons cl_pair (em_pair (em_of cl_row (ev_var rfl) ⟨p8, _, rfl, h8, n8, gm⟩) (ev_var (v := .int (u : Int)) rfl) (by omega)) (en_cons cl_pair (em_pair (em_ones (ct B5) (ev_var rfl) (by omega)) (ev_var (v := .int (u : Int)) rfl) (by omega)) (en_cons cl_pair (em_pair (k := u - 1) (em_ones (ct B5) (ev_var rfl) (by omega)) (fun H1 e1 Q q => ⟨_, rfl, _, _, rfl, rfl, _, _, rfl, by
    rw [show (if (u : Int) - 1 > 0 then (u : Int) - 1 else 0) = ((u - 1 : Nat) : Int) by split <;> omega]
    exact q H1 (Ex.refl _)⟩) (by omega)) (en_cons cl_pair (em_pair (r6 rfl h65) (ev_var (v := .int (w : Int)) rfl) (by omega)) (en_cons cl_pair (em_pair (em_rowcutV (ct B5) (ev_var rfl) h65 (eo_some (ev_c (v := .int 1))) eo_none (fun ys hy => ⟨by
      have := congrArg List.length hy
      rw [List.length_map] at this
      have h2 := cutV_len (xs := (reachL (u : Int) L).map V.int) (lo := some 1) (hi := none)
      rw [List.length_map] at h2
      omega, fun y h => gr.2 y (cut_ints hy y h)⟩)) (ev_var (v := .int (w : Int)) rfl) (by omega)) en_nil)))))) (by omega) G5 (Ex.refl _) _ fun v G6 e6 r9 => ?_)
  have lp9 := r9
  obtain ⟨p9, zs9, rfl, _, n9, _, _, _⟩ := r9
  have hx6 := hx5.ex e6
  have B6 := B5.ex e6
  have kb6 := kb5.trans (But.of e6)
  have h66 := e6 _ _ h65
  clear hx5 B5 kb5 h65 h8
  dsimp only [gName]
  refine seq_for (for_listM (em_cat (cl_pair (K := K)) (ct B6) (em_of (cl_lp cl_pair) (ev_var rfl) lp9) (em_list (cl_pair (K := K)) (ct B6) (en_cons cl_pair (em_pair (em_rowcut (xs := reachL (u : Int) L ++ [1]) (ct B6) (fun H1 e1 Q q => ⟨_, rfl, one_le, fun z hz => ⟨p6, z, _, [.int 1], rfl, rfl, (e1.trans (Ex.new hz)) _ _ h66, upd_same, Nat.le_of_lt (small1000 (by rw [List.length_map]; show _ + 1 ≤ 1000; omega)), fun y hy => q y _ (fresh_back (Ex.new hz) hy) ((Ex.new hz).trans (Ex.new hy)) (by rw [upd_same, List.map_append]; rfl)⟩⟩) eo_none (eo_some (ev_c (v := .int 16))) (fun ys hy => ⟨by
      have := congrArg List.length hy
      rw [show (16 : Int) = ((16 : Nat) : Int) from rfl, cutV_take, List.length_take, List.length_map, List.length_map] at this
      omega, fun y h => by
      rcases List.mem_append.mp (cut_ints hy y h) with h | h
      · exact gr.2 y h
      · rw [List.mem_singleton] at h; rw [h]; decide⟩)) (ev_var (v := .int (w : Int)) rfl) (by omega)) (en_cons cl_pair (em_pair (fun H1 e1 Q q => ⟨_, rfl, _, rfl, .ref a, L, n, ok, (w : Int), m, rfl, hx6.ex e1, gp, by omega, fun p H' hp e' h' => q _ _ e' ⟨p, _, rfl, h', (ct B6).fresh e1 hp, good_reach gp (by omega) hm⟩⟩) (ev_var (v := .int (w : Int)) rfl) (by omega)) en_nil)) (by omega)) (by omega) G6 (Ex.refl _) _ fun v G7 e7 r7 => ?_))
  obtain ⟨z, zs, rfl, hz, nz, _, lz, az⟩ := r7
  refine ⟨z, rfl, ⟨_, SqL.of hz⟩, for_list (xs := zs) (fun i σ G => But b H G ∧ BoxAt G b (k + 2900 - i) ∧ Rd K ok G n (.ref a) (planP L) ∧ G p6 = some (.lst ((reachL (u : Int) L).map V.int)) ∧ G z = some (.lst zs) ∧ (∀ y ∈ zs, PairV K (isB b) y G) ∧ ∃ v7 v10, σ = [some (.ref b), some (.ref a), some (.int (w : Int)), some (.int (u : Int)), some (.int (xs.length : Int)), some (.int at0), some (.ref p6), v7, some (.ref p8), some (.ref p9), v10, none])
    ⟨kb6.trans (But.of e7), (B6.ex e7).le (by omega), hx6.ex e7, e7 _ _ h66, hz, fun y hy => cl_pair.less (fun a h => .inl h) (az y hy), _, _, rfl⟩ (fun i σ G _ p => SqL.of p.2.2.2.2.1) ?_ ?_⟩
  · rintro i y σ G hy ⟨kG, BG, hxG, h6G, hzG, azG, v7, v10, rfl⟩
    have hi := (List.getElem?_eq_some_iff.mp hy).1
    obtain ⟨t, r, ns, k', rfl, hT, hr, nr, g, hk'⟩ := azG y (List.mem_of_getElem? hy)
    obtain ⟨zb, hzb⟩ := box_lst BG
    refine ⟨t, _, rfl, hT, rfl, _, _, rfl, _, _, rfl, rfl, ?_⟩
    refine judge_step (j := 1) (l := n) (n := k + 2900 - (i + 1)) rfl rfl rfl rfl (BG.le (by omega)) hr nr g hk' ((Ro.rd hxG).of okb) fun G' k' B' => ?_
    exact ⟨kG.trans k', B', hxG.but k' okb, k' _ _ n6 h6G, k' _ _ nz hzG, fun y hy => cl_pair.mt (show isB b b from rfl) hzb k' (azG y hy), _, _, rfl⟩
  rintro σ G ⟨kG, BG, hxG, h6G, _, _, v7, v10, rfl⟩
  dsimp only
  refine seq_for (for_listM ⟨_, rfl, _, rfl, b, .ref a, L, n, k + 2700, m, (w : Int), ok, rfl, BG.le (by omega), hxG, gp, by omega, hm, fun v G8 k8 B8 r8 => ?_⟩)
  obtain ⟨nq, ys, rfl, hq, nqb, _, lq, aq⟩ := r8
  refine ⟨nq, rfl, ⟨_, SqL.of hq⟩, for_list (xs := ys) (fun i σ G => But b H G ∧ BoxAt G b (k + 2700 - 2 * i) ∧ G p6 = some (.lst ((reachL (u : Int) L).map V.int)) ∧ G nq = some (.lst ys) ∧ (∀ y ∈ ys, Av K T.C 3 (isB b) y G) ∧ ∃ v7 v10 v11, σ = [some (.ref b), some (.ref a), some (.int (w : Int)), some (.int (u : Int)), some (.int (xs.length : Int)), some (.int at0), some (.ref p6), v7, some (.ref p8), some (.ref p9), v10, v11])
    ⟨kG.trans k8, B8.le (by omega), k8 _ _ n6 h6G, hq, fun y hy => cl_av.less (fun a h => .inl h) (aq y hy), _, _, _, rfl⟩ (fun i σ G _ p => SqL.of p.2.2.2.1) ?_ ?_⟩
  · rintro i y σ G hy ⟨kG, BG, h6G, hqG, aqG, v7, v10, v11, rfl⟩
    have hi := (List.getElem?_eq_some_iff.mp hy).1
    dsimp only [gName]
    refine for_listM (em_list (cl_pair (K := K)) (ct BG) (en_cons cl_pair (em_pair (r6 rfl h6G) (ev_var (v := .int (w : Int)) rfl) (by omega)) (en_cons cl_pair (em_pair (k := 24) (em_ones (ct BG) (ev_var rfl) (by omega)) (ev_c (v := .int 24)) (by omega)) en_nil)) (by omega) G (Ex.refl _) _ fun v G9 e9 r9 => ?_)
    obtain ⟨z, zs, rfl, hz, nz, _, lz, az⟩ := r9
    refine ⟨z, rfl, ⟨_, SqL.of hz⟩, for_list (xs := zs) (fun j σ G => But b H G ∧ BoxAt G b (k + 2700 - 2 * i - j) ∧ G p6 = some (.lst ((reachL (u : Int) L).map V.int)) ∧ G nq = some (.lst ys) ∧ (∀ y ∈ ys, Av K T.C 3 (isB b) y G) ∧ G z = some (.lst zs) ∧ (∀ y ∈ zs, PairV K (isB b) y G) ∧ ∃ v7 v10, σ = [some (.ref b), some (.ref a), some (.int (w : Int)), some (.int (u : Int)), some (.int (xs.length : Int)), some (.int at0), some (.ref p6), v7, some (.ref p8), some (.ref p9), v10, some y])
      ⟨kG.trans (But.of e9), (BG.ex e9).le (by omega), e9 _ _ h6G, e9 _ _ hqG, fun y hy => cl_av.ex e9 (aqG y hy), hz, fun y hy => cl_pair.less (fun a h => .inl h) (az y hy), _, _, rfl⟩ (fun i σ G _ p => SqL.of p.2.2.2.2.2.1) ?_ ?_⟩
    · rintro j y2 σ G hy2 ⟨kG, BG, h6G, hqG, aqG, hzG, azG, v7, v10, rfl⟩
      have hj := (List.getElem?_eq_some_iff.mp hy2).1
      obtain ⟨t, r, ns, k', rfl, hT, hr, nr, g, hk'⟩ := azG y2 (List.mem_of_getElem? hy2)
      obtain ⟨d, hd⟩ := aqG y (List.mem_of_getElem? hy)
      obtain ⟨zb, hzb⟩ := box_lst BG
      refine ⟨t, _, rfl, hT, rfl, _, _, rfl, _, _, rfl, rfl, ?_⟩
      refine judge_step (j := 11) (l := 3) (n := k + 2700 - 2 * i - (j + 1)) rfl rfl rfl rfl (BG.le (by omega)) hr nr g hk' hd fun G' k' B' => ?_
      exact ⟨kG.trans k', B', k' _ _ n6 h6G, k' _ _ nqb hqG, fun y hy => cl_av.mt (show isB b b from rfl) hzb k' (aqG y hy), k' _ _ nz hzG, fun y hy => cl_pair.mt (show isB b b from rfl) hzb k' (azG y hy), _, _, rfl⟩
    · rintro σ G ⟨kG, BG, h6G, hqG, aqG, _, _, v7, v10, rfl⟩
      exact ⟨kG, BG.le (by omega), h6G, hqG, aqG, _, _, _, rfl⟩
  · rintro σ G ⟨kG, BG, _, _, _, v7, v10, v11, rfl⟩
    exact q G kG (BG.le (by omega))
end
end L2.U


set_option Elab.async false
set_option linter.all false
set_option maxRecDepth 100000
set_option maxHeartbeats 4000000
namespace L2.U
open PySem PySem.Spec PyProof.Rows Evl
section
variable {P : Program} {w : World} {K : PySem.W.Frag} {mg : Str → Option Value} {base : Heap}
theorem best_plan : ∀ k : Fin 25, ∀ r : Fin 25, r.val < k.val → (bestP (toldP k.val) k.val r.val).2 ≠ [] ∧ (∀ z ∈ (bestP (toldP k.val) k.val r.val).2, 1 ≤ z) ∧ useL (bestP (toldP k.val) k.val r.val).2 = (k.val : Int) - (r.val : Int) ∧ prodL (k.val : Int) (bestP (toldP k.val) k.val r.val).2 = (bestP (toldP k.val) k.val r.val).1 ∧ (bestP (toldP k.val) k.val r.val).2.length ≤ 24 := by decide +kernel
theorem nums_tupI (s : List Int) : numsD (tupI s) = s := nums_map
theorem sizes_tupI {s : List Int} (ne : s ≠ []) (pos : ∀ z ∈ s, 1 ≤ z) : sizesD (tupI s) = true := by
  unfold sizesD tupI
  have h1 : (s.map PyData.int).all (fromD 1) = true := List.all_eq_true.mpr fun e he => by
    obtain ⟨z, hz, rfl⟩ := List.mem_map.mp he
    exact decide_eq_true (pos z hz)
  show (true && (!(s.map PyData.int).isEmpty && (s.map PyData.int).all (fromD 1))) = true
  rw [h1]
  cases s with
  | nil => exact absurd rfl ne
  | cons _ _ => rfl
theorem fits_plG : ∀ (ns : List Int) (k : Nat), k ≤ 24 → canG ns k = true → fitsL ns (k : Int) ((plG ns k).map tupI) = true
  | [], _, _, _ => rfl
  | x :: ns, k, hk, h => by
    have h2 : (decide (0 ≤ leftTo x (vP k) k) && canG ns (leftTo x (vP k) k).toNat) = true := h
    rw [Bool.and_eq_true] at h2
    have h0 := of_decide_eq_true h2.1
    show fitsL (x :: ns) (k : Int) (tupI (bestP (toldP k) k (leftTo x (vP k) k).toNat).2 :: (plG ns (leftTo x (vP k) k).toNat).map tupI) = true
    rcases leftTo_spec x (vP k) k with ⟨e, _⟩ | ⟨l, hl, e, hx, _⟩
    · rw [e] at h0
      exact absurd h0 (by decide)
    · rw [e, Int.toNat_natCast] at h2 ⊢
      obtain ⟨b1, b2, b3, b4, _⟩ := best_plan ⟨k, by omega⟩ ⟨l, by omega⟩ hl
      simp only at b1 b2 b3 b4
      have hx : x ≤ (bestP (toldP k) k l).1 := hx
      generalize bestP (toldP k) k l = en at b1 b2 b3 b4 hx
      rw [fitsL_cons, nums_tupI, sizes_tupI b1 b2, b3, b4, decide_eq_true (show (k : Int) - (l : Int) ≤ k by omega), decide_eq_true hx, show (k : Int) - ((k : Int) - (l : Int)) = (l : Int) by omega, fits_plG ns l (by omega) h2.2]
      rfl
theorem plG_in : ∀ (ns : List Int) (k : Nat), k ≤ 24 → canG ns k = true → ∀ s ∈ plG ns k, s ≠ [] ∧ s.length ≤ 24
  | [], _, _, _, s, hs => by cases hs
  | x :: ns, k, hk, h, s, hs => by
    have h2 : (decide (0 ≤ leftTo x (vP k) k) && canG ns (leftTo x (vP k) k).toNat) = true := h
    rw [Bool.and_eq_true] at h2
    have h0 := of_decide_eq_true h2.1
    have lt := leftTo_lt x (vP k) k
    have bp := best_plan ⟨k, by omega⟩ ⟨(leftTo x (vP k) k).toNat, by omega⟩ (by show (leftTo x (vP k) k).toNat < k; omega)
    rcases List.mem_cons.mp hs with rfl | hs
    · exact ⟨bp.1, bp.2.2.2.2⟩
    · exact plG_in ns _ (by omega) h2.2 s hs
theorem fitsD_plG {ns : List Int} {k : Nat} (hk : k ≤ 24) (h : canG ns k = true) : fitsD ns (k : Int) (planP (plG ns k)) = true := by
  unfold fitsD planP
  show (true && decide (((plG ns k).map tupI).length = ns.length) && fitsL ns (k : Int) ((plG ns k).map tupI)) = true
  rw [fits_plG ns k hk h, List.length_map, plG_len, decide_eq_true rfl]
  rfl
end
end L2.U


set_option Elab.async false
set_option linter.all false
set_option maxRecDepth 100000
set_option maxHeartbeats 4000000
namespace L2.U
open PySem PySem.Spec PyProof.Rows Evl
section
variable {P : Program} {w : World} {K : PySem.W.Frag} {mg : Str → Option Value} {base : Heap}
def spToldR (K : PySem.W.Frag) : Sp := fun vs H Q _ => ∃ (b r p : Addr) (ns : List Int) (k w j : Nat) (ok : Addr → Prop), vs = [.ref b, .ref r, .int (w : Int), .ref p] ∧ BoxAt H b (k + 3) ∧ H r = some (.lst (ns.map V.int)) ∧ r ≠ b ∧ GoodR ns ∧ w ≤ 24 ∧ Rd K ok H j (.ref p) (list2 (rT 25)) ∧
  ∀ H', But b H H' → BoxAt H' b k → Q (.bl true) H'
theorem ok_law_told_right (T : TK K mg) : FnOk P w K mg base CX0 11 T.law_told_right.a T.law_told_right.fd ["box", "row", "wires", "raised"] (spToldR K) := by
  refine T.law_told_right.F.ok sc_law_told_right (fun vs H Q E h => ?_) (fun cdv A outer s H vs Q E hr h => ?_)
  · obtain ⟨b, r, p, ns, k, w, j, ok, rfl, _⟩ := h; rfl
  obtain ⟨b, r, p, ns, k, w, j, ok, rfl, hB, hrow, rb, g, hw, hp, q⟩ := h
  refine ⟨_, (pss_cons (ps_par (i := 4) (j := 5) (by rfl) sc_law_told_right.nd rfl rfl (by decide) rfl rfl (pa_cons (pe_ix (kixl K) (pe_ix (kixl K) (pe_call (ok_law_wire_tables T) (hr.mono (by decide)) rfl T.law_wire_tables.m T.law_wire_tables.F.kp T.law_wire_tables.b .nil pass0 (pa_cons (pv 1) (pa_cons (pv 3) pa_nil))) pe_int (fun _ _ => rfl)) (pv 2) (fun _ _ => rfl)) (pa_cons (pe_callTy (klist K) (by rfl) T.z_list (by decide +kernel) (pa_cons (pv 1) pa_nil)) pa_nil)) (by rfl))
    (pss_cons (ps_par (i := 6) (j := 7) (by rfl) sc_law_told_right.nd rfl rfl (by decide) rfl rfl (pa_cons (pe_call (okc_raise_plan T) (hr.mono (by decide)) rfl T.raise_plan.m T.raise_plan.F.kp T.raise_plan.b .nil pass0 (pa_cons (pv 5) (pa_cons (pv 2) pa_nil))) (pa_cons (by exact (pe_callKw (okc_raise_plan T) (hr.mono (by decide)) rfl T.raise_plan.m T.raise_plan.F.kp T.kb_raise_plan_wires_row (fun σ => pass0At) (pk_cons (pv 2) (pk_cons (pe_callTy (ktuple K) (by rfl) T.z_tuple (by decide +kernel) (pa_cons (pv 1) pa_nil)) pk_nil)))) pa_nil)) (by rfl))
    (pss_cons (ps_if (pt_not (pt_val (pe_call (ok_law_same T.toTA1) (hr.mono (by decide)) rfl T.law_same.m T.law_same.F.kp T.law_same.b .nil pass0 (pa_cons (pv 5) (pa_cons (pv 1) pa_nil))))) (pss_one (ps_ret pe_bl)) pss_nil)
    (pss_cons (ps_if (pt_not (pt_val (pv 4))) (pss_one (ps_ret (pe_and (pe_cmpR op_isN (pv 6) pe_non (nomark _)) (pe_one (pe_cmpR op_isN (pv 7) pe_non (nomark _)))))) pss_nil)
    (pss_cons (ps_if (PW.pt (pw_or (pt_not (pt_val (pe_call (ok_law_fits T) (hr.mono (by decide)) rfl T.law_fits.m T.law_fits.F.kp T.law_fits.b .nil pass0 (pa_cons (pv 1) (pa_cons (pv 2) (pa_cons (pv 6) pa_nil)))))) (pw_or1 (pt_not (pt_val (pe_call (ok_law_same T.toTA1) (hr.mono (by decide)) rfl T.law_same.m T.law_same.F.kp T.law_same.b .nil pass0 (pa_cons (pv 7) (pa_cons (pv 6) pa_nil)))))))) (pss_one (ps_ret pe_bl)) pss_nil)
    (pss_cons (ps_if (pt_cmpR (keqD K hr.units) (pv 6) (pe_tup pa_nil) (nomark _)) (pss_one (ps_ret pe_bl)) pss_nil)
    (pss_cons (ps_par (i := 8) (j := 9) (by rfl) sc_law_told_right.nd rfl rfl (by decide) rfl rfl (pa_cons (pe_call (ok_law_take T.toTA1) (hr.mono (by decide)) rfl T.law_take.m T.law_take.F.kp T.law_take.b .nil pass0 (pa_cons (pv 0) (pa_cons (pe_callB (klen K) (by rfl) T.z_len (by decide +kernel) (pa_cons (pv 6) pa_nil)) pa_nil))) (pa_cons (pe_op op_sub (pe_op op_mul pe_int (pe_call (ok_law_take T.toTA1) (hr.mono (by decide)) rfl T.law_take.m T.law_take.F.kp T.law_take.b .nil pass0 (pa_cons (pv 0) (pa_cons pe_int pa_nil)))) pe_int) pa_nil)) (by rfl))
    (pss_cons (ps_set (i := 10) sc_law_told_right.nd rfl (Or.inl rfl) (pe_call (ok_law_take T.toTA1) (hr.mono (by decide)) rfl T.law_take.m T.law_take.F.kp T.law_take.b .nil pass0 (pa_cons (pv 0) (pa_cons (pe_callB (klen K) (by rfl) T.z_len (by decide +kernel) (pa_cons (pe_ix (kixt K) (pv 6) (pv 8) (fun _ _ => rfl)) pa_nil)) pa_nil))))
    (pss_cons (ps_set (i := 11) sc_law_told_right.nd rfl (Or.inl rfl) (pe_op (kcatA K) (pe_op (kcatA K) (pe_slice (kslT K) (pv 6) po_none (po_some (pv 8))) (pe_tup (pa_cons (pe_op (kcatA K) (pe_op (kcatA K) (pe_slice (kslT K) (pe_ix (kixt K) (pv 6) (pv 8) (fun _ _ => rfl)) po_none (po_some (pv 10))) (pe_tup (pa_cons (pe_op op_add (pe_ix (kixt K) (pe_ix (kixt K) (pv 6) (pv 8) (fun _ _ => rfl)) (pv 10) (fun _ _ => rfl)) (pv 9)) pa_nil))) (pe_slice (kslT K) (pe_ix (kixt K) (pv 6) (pv 8) (fun _ _ => rfl)) (po_some (pe_op op_add (pv 10) pe_int)) po_none)) pa_nil))) (pe_slice (kslT K) (pv 6) (po_some (pe_op op_add (pv 8) pe_int)) po_none)))
    (pss_one (ps_ret (pe_call (ok_law_same T.toTA1) (hr.mono (by decide)) rfl T.law_same.m T.law_same.F.kp T.law_same.b .nil pass0 (pa_cons (pe_call (okc_raise_fits T) (hr.mono (by decide)) rfl T.raise_fits.m T.raise_fits.F.kp T.raise_fits.b .nil pass0 (pa_cons (pv 1) (pa_cons (pv 2) (pa_cons (pv 11) pa_nil)))) (pa_cons (pe_call (ok_law_fits T) (hr.mono (by decide)) rfl T.law_fits.m T.law_fits.F.kp T.law_fits.b .nil pass0 (pa_cons (pv 1) (pa_cons (pv 2) (pa_cons (pv 11) pa_nil)))) pa_nil)))))))))))))), ?_⟩
  have l9 : ns.length ≤ 900 := by have := g.1; omega
  have nl : numsD (.list (ns.map PyData.int)) = ns := nums_map
  have nt : numsD (.tuple (ns.map PyData.int)) = ns := nums_map
  refine ⟨_, rfl, _, rfl, r, p, ns, j, ok, rfl, SqL.of hrow, by have := g.1; omega, hp, fun tq H1 e1 rq => ?_⟩
  obtain ⟨tx, htq, _, tl, _, tall⟩ := rd_lst_at rq
  rw [List.length_map, sufs_len] at tl
  have hx0 := List.getElem?_eq_getElem (show 0 < tx.length by omega)
  have hd0 : ((sufs ns).map fun ms => rowB 24 (canT ms))[0]? = some (rowB 24 (canT ns)) := by
    rw [List.getElem?_map, sufs_at ns 0 (Nat.zero_le _)]
    rfl
  obtain ⟨rbx, rxs, ex0, hrb, rall⟩ := rd_rowB (tall 0 _ _ hx0 hd0)
  rw [ex0] at hx0
  have hr1 := e1 _ _ hrow
  refine ⟨tq, tx, 0, .ref rbx, rfl, rfl, SqL.of htq, at_of (show (0 : Int) = ((0 : Nat) : Int) from rfl) hx0, _, rfl, rbx, rxs, _, .bl (canT ns w), rfl, rfl, SqL.of hrb, atI_nat (rall w hw), _, rfl, r, _, rfl, .inl (SqL.of hr1), fun c hc => ⟨_, _, rfl, ?_⟩⟩
  have ec := Ex.new (o := .lst (ns.map V.int)) hc
  have hc1 := upd_same (H := H1) (a := c) (o := .lst (ns.map V.int))
  have hr2 := ec _ _ hr1
  have e2 := e1.trans ec
  generalize upd H1 c (.lst (ns.map V.int)) = H2 at hc1 hr2 e2 ⊢
  clear htq hrb hr1 rq tall ec hc
  have sm : ∀ G, Ex H2 G → Sm K G 8 (.ref c) (.ref r) := fun G e => ((rd_ilist (ok := fun _ => True) (e _ _ hc1) trivial l9).le (by omega)).sm ((rd_ilist (ok := fun _ => True) (e _ _ hr2) trivial l9).le (by omega))
  have rc : Ro K T.C (fun _ => True) H2 1 (.ref c) (.list (ns.map PyData.int)) := .rd (rd_ilist hc1 trivial l9)
  rw [← canG_canT ns w hw]
  cases hc0 : canG ns w with
  | false =>
    refine ⟨_, rfl, _, rfl, .ref c, _, 1, _, w, rfl, rc, row_list g, hw, (fun z => by rw [nl, hc0] at z; cases z), fun _ H3 e3 => ?_⟩
    refine ⟨_, rfl, _, rfl, r, _, rfl, .inl ⟨SqL.of (e3 _ _ hr2), fun t ht => ?_⟩⟩
    refine ⟨.ref t, _, 1, _, w, rfl, .rd (rd_ituple (ok := fun _ => True) (SqT.of upd_same) trivial l9), row_tup g, hw, (fun z => by rw [nt, hc0] at z; cases z), fun _ H4 e4 => ⟨_, _, rfl, ?_⟩⟩
    have e5 := (e3.trans (Ex.new ht)).trans e4
    refine ⟨_, rfl, _, rfl, .ref c, .ref r, rfl, sm H4 e5, fun H5 e6 => ⟨true, rfl, iteF ?_⟩⟩
    refine ⟨_, rfl, false, rfl, iteT ?_⟩
    refine ⟨_, rfl, rfl, true, rfl, ?_⟩
    exact iteT ⟨_, rfl, rfl, q H5 (But.of ((e2.trans e5).trans e6)) ((hB.ex ((e2.trans e5).trans e6)).le (by omega))⟩
  | true =>
    refine ⟨_, rfl, _, rfl, .ref c, _, 1, _, w, rfl, rc, row_list g, hw, fun _ t1 H3 e3 rt1 => ?_, fun z => by rw [nl, hc0] at z; cases z⟩
    rw [nl] at rt1
    refine ⟨_, rfl, _, rfl, r, _, rfl, .inl ⟨SqL.of (e3 _ _ hr2), fun t ht => ?_⟩⟩
    refine ⟨.ref t, _, 1, _, w, rfl, .rd (rd_ituple (ok := fun _ => True) (SqT.of upd_same) trivial l9), row_tup g, hw, fun _ t2 H4 e4 rt2 => ⟨_, _, rfl, ?_⟩, fun z => by rw [nt, hc0] at z; cases z⟩
    rw [nt] at rt2
    have e34 := (Ex.new (o := .tup (ns.map V.int)) ht).trans e4
    have e5 := e3.trans e34
    have rt1' := rt1.ex e34
    have fd := fitsD_plG hw hc0
    have pin := plG_in ns w hw hc0
    have pl := plG_len ns w
    have hr4 := e5 _ _ hr2
    refine ⟨_, rfl, _, rfl, .ref c, .ref r, rfl, sm H4 e5, fun H5 e6 => ⟨true, rfl, iteF ?_⟩⟩
    refine ⟨_, rfl, true, rfl, iteF ?_⟩
    refine ⟨_, rfl, _, rfl, _, rfl, r, ns, (w : Int), .ref t1, _, 2, Fr H2, rfl, SqL.of (e6 _ _ hr4), by have := g.1; omega, by omega, .rd (rt1'.ex e6), fun H6 e7 => ?_⟩
    rw [fd]
    refine ⟨true, rfl, iteF ?_⟩
    have e67 := e6.trans e7
    have r1 := rt1'.ex e67
    have r2 := rt2.ex e67
    refine ⟨_, rfl, _, rfl, .ref t2, .ref t1, rfl, (r2.le (by omega)).sm (r1.le (by omega)), fun H7 e8 => ⟨true, rfl, iteF ?_⟩⟩
    have e78 := e67.trans e8
    have r17 := r1.ex e8
    have hr7 := e78 _ _ hr4
    have B7 := hB.ex ((e2.trans e5).trans e78)
    have k7 : But b H H7 := But.of ((e2.trans e5).trans e78)
    clear r1 r2 rt1 rt1' rt2 e67 e34 hr4 hr2 hc1 sm rc
    refine ⟨_, rfl, Nat.zero_le _, fun z hz => ?_⟩
    have ez := Ex.new (o := .tup []) hz
    have rz : Rd K (fun _ => True) (upd H7 z (.tup [])) 1 (.ref z) (.tuple []) := .tup (SqT.of upd_same) trivial rfl (Nat.zero_le _) (fun i x d hx _ => by cases hx)
    refine ⟨_, _, (r17.ex ez).dp, rz.dp, r17.shaped (by omega), rz.shaped (by omega), _, rfl, ite2 (fun _ => q _ (k7.trans (But.of ez)) ((B7.ex ez).le (by omega))) (fun cn => ?_)⟩
    have pne : plG ns w ≠ [] := fun z => by
      apply cn
      rw [z]
      rfl
    have r8 := r17.ex ez
    have B8 := B7.ex ez
    have k8 := k7.trans (But.of ez)
    have hr8 := ez _ _ hr7
    generalize upd H7 z (.tup []) = G at r8 B8 k8 hr8 ⊢
    clear r17 B7 k7 hr7 rz ez hz
    obtain ⟨a, xs, ea, _, hs, hl, _, all⟩ := planR r8
    cases ea
    have P0 : PlAt K G t1 xs (plG ns w) := ⟨hs, hl, fun i s hi => (all i s hi).elim fun c hc => ⟨c, hc.1, hc.2.1⟩⟩
    have xl : 0 < xs.length := by
      cases hq : plG ns w with
      | nil => exact absurd hq pne
      | cons _ _ => rw [hq] at hl; rw [hl]; exact Nat.succ_pos _
    have g16 := g.1
    refine ⟨_, rfl, _, rfl, _, _, rfl, .inr ⟨_, hs, rfl⟩, b, (xs.length : Int), k + 2, rfl, by omega, by omega, B8, fun i0 G1 ia ib B9 k9 => ?_⟩
    obtain ⟨zb, hzb⟩ := box_lst B8
    have P1 := P0.but hzb k9
    refine ⟨_, rfl, b, 2, k + 1, rfl, by decide, by decide, B9, fun s0 G2 sa sb B10 k10 => ⟨_, _, rfl, rfl, .inr ⟨by omega, by omega⟩, _, _, rfl, rfl, _, _, rfl, ?_⟩⟩
    obtain ⟨zb2, hzb2⟩ := box_lst B9
    have P2 := P1.but hzb2 k10
    obtain ⟨i, rfl, hi⟩ : ∃ i : Nat, i0 = (i : Int) ∧ i < xs.length := ⟨i0.toNat, by omega, by omega⟩
    have hLi : (plG ns w)[i]? = some ((plG ns w)[i]'(by omega)) := List.getElem?_eq_getElem _
    have sne := pin _ (List.mem_of_getElem? hLi)
    generalize (plG ns w)[i]'(by omega) = s at hLi sne
    have sl1 : 1 ≤ s.length := by
      cases s with
      | nil => exact absurd rfl sne.1
      | cons _ _ => exact Nat.le_add_left _ _
    obtain ⟨c, hxc, hc⟩ := P2.all i s hLi
    refine ⟨_, rfl, _, rfl, _, rfl, t1, xs, _, .ref c, rfl, rfl, P2.hs, atI_nat hxc, _, _, rfl, .inr ⟨_, hc, rfl⟩, b, ((s.map V.int).length : Int), k, rfl, by rw [List.length_map]; omega, by rw [List.length_map]; omega, B10, fun j0 G3 ja jb B11 k11 => ?_⟩
    obtain ⟨zb3, hzb3⟩ := box_lst B10
    have P3 := P2.but hzb3 k11
    have hc3 := sqt_but hzb3 k11 hc
    rw [List.length_map] at jb
    obtain ⟨jj, rfl, hj⟩ : ∃ jj : Nat, j0 = (jj : Int) ∧ jj < s.length := ⟨j0.toNat, by omega, by omega⟩
    have hr11 := k11 _ _ rb (k10 _ _ rb (k9 _ _ rb hr8))
    have kk : But b H G3 := k8.trans (k9.trans (k10.trans k11))
    clear P0 P1 P2 hs all r8 B8 B9 B10 hzb hzb2 hzb3 k8 k9 k10 k11 hc hr8
    dsimp only [gName]
    refine seq_asg (em_upd (C := T.C) (n := 1) (S := fun _ => False) (em_of (cl_tp cl_av) (ev_var rfl) (P3.tp (C := T.C) fun s hs => by have := (pin s hs).2; omega)) (em_upT (em_upd (n := 0) (em_of (cl_tp cl_av) (ev_ixT (ev_var rfl) (ev_var rfl) P3.hs hxc) (tp_sizes hc3)) (em_evi (ev_op (ev_ixT (ev_ixT (ev_var rfl) (ev_var rfl) P3.hs hxc) (ev_var rfl) hc3 (ints_getD hj)) (ev_var rfl) rv_I0)) (ev_var rfl) (ev_op (ev_var rfl) ev_c rv_I0) (by omega)) (by omega) (by omega)) (ev_var rfl) (ev_op (ev_var rfl) ev_c rv_I0) (by omega) G3 (Ex.refl _) _ fun v G4 e4' rv => ?_)
    obtain ⟨d, hd⟩ := Av.upT rv (by omega)
    have hr12 := e4' _ _ hr11
    have rcl : Ro K T.C (fun _ => True) G4 1 (.ref r) (.list (ns.map PyData.int)) := .rd (rd_ilist hr12 trivial l9)
    refine ⟨_, rfl, _, rfl, _, rfl, .ref r, v, _, d, 1, _, _, _, w, rfl, rcl, hd, row_list g, hw, fun G5 e5' => ?_⟩
    rw [nl]
    refine ⟨_, rfl, _, rfl, _, rfl, r, ns, (w : Int), v, d, _, _, rfl, SqL.of (e5' _ _ hr12), by omega, by omega, hd.ex e5', fun G6 e6' => ?_⟩
    have ef := (e4'.trans e5').trans e6'
    exact ⟨_, _, rfl, .bl _, fun G7 e7' => q G7 (kk.trans (But.of (ef.trans e7'))) (B11.ex (ef.trans e7'))⟩
end
end L2.U


set_option Elab.async false
set_option linter.all false
set_option maxRecDepth 100000
set_option maxHeartbeats 4000000
namespace L2.U
open PySem PySem.Spec PyProof.Rows Evl
section
variable {P : Program} {w : World} {K : PySem.W.Frag} {mg : Str → Option Value} {base : Heap}
def downL (d : Nat) : List Int := (List.range d).map fun m : Nat => (d : Int) - (m : Int)
theorem down_in : ∀ d : Fin 17, 1 ≤ d.val → canG (downL d.val) d.val = true ∧ plG (downL d.val) d.val = List.replicate d.val [1] ∧ canG (downL d.val) (d.val - 1) = false ∧ leastL (downL d.val) = ((List.range (d.val + 1)).map fun m : Nat => some ((d.val : Int) - (m : Int))) := by decide +kernel
theorem good_down {d : Nat} (h : d ≤ 16) : GoodR (downL d) := ⟨by unfold downL; rw [List.length_map, List.length_range]; exact h, fun z hz => by
  obtain ⟨m, hm, rfl⟩ := List.mem_map.mp hz
  have := List.mem_range.mp hm
  omega⟩
theorem rg_down {d : Nat} (h : d ≤ 16) : RgC (d : Int) 0 (-1) d := by
  have := RgC.neg (i := (d : Int)) (j := 0) (by omega) (by omega) (by omega) (by omega)
  rw [show ((d : Int) - 0).toNat = d by omega] at this
  exact this
theorem rg_downs {d : Nat} (h : d ≤ 16) : RgC (d : Int) (-1) (-1) (d + 1) := by
  have := RgC.neg (i := (d : Int)) (j := -1) (by omega) (by omega) (by omega) (by omega)
  rw [show ((d : Int) - -1).toNat = d + 1 by omega] at this
  exact this
theorem down_map (d n : Nat) : ((List.range n).map fun m : Nat => V.int ((d : Int) + (m : Int) * -1)) = ((List.range n).map fun m : Nat => (d : Int) - (m : Int)).map V.int := by
  rw [List.map_map]
  refine List.map_congr_left fun m _ => ?_
  show V.int ((d : Int) + (m : Int) * -1) = V.int ((d : Int) - (m : Int))
  congr 1
  omega
def spNumbers (K : PySem.W.Frag) : Sp := fun vs H Q _ => ∃ (b p : Addr) (named : Int) (k j : Nat) (ok : Addr → Prop), vs = [.ref b, .ref p, .int named] ∧ BoxAt H b (k + 5) ∧ Rd K ok H j (.ref p) (list2 (rT 25)) ∧ (∀ a, ok a → a ≠ b) ∧ ∀ H', But b H H' → BoxAt H' b k → Q (.bl true) H'
theorem ok_law_numbers_right (T : TK K mg) : FnOk P w K mg base CX0 11 T.law_numbers_right.a T.law_numbers_right.fd ["box", "raised", "named"] (spNumbers K) := by
  refine T.law_numbers_right.F.ok sc_law_numbers_right (fun vs H Q E h => ?_) (fun cdv A outer s H vs Q E hr h => ?_)
  · obtain ⟨b, p, named, k, j, ok, rfl, _⟩ := h; rfl
  obtain ⟨b, p, named, k, j, ok, rfl, hB, hp, okb, q⟩ := h
  refine ⟨_, (pss_cons (ps_for PassesOwn.never rfl (pi_range1 rfl T.z_range (pa_cons pe_int pa_nil)) (pg_name (i := 3) sc_law_numbers_right.nd rfl (Or.inl rfl)) (pss_cons (ps_set (i := 4) sc_law_numbers_right.nd rfl (Or.inl rfl) (pe_call (ok_law_take T.toTA1) (hr.mono (by decide)) rfl T.law_take.m T.law_take.F.kp T.law_take.b .nil pass0 (pa_cons (pv 0) (pa_cons pe_int pa_nil))))
    (pss_one (ps_if (pt_not (pt_val (pe_call (ok_law_same T.toTA1) (hr.mono (by decide)) rfl T.law_same.m T.law_same.F.kp T.law_same.b .nil pass0 (pa_cons (pe_ifExp (pt_cmpR op_eq (pv 2) pe_int (nomark _)) (pe_call (okc_most_raised T) (hr.mono (by decide)) rfl T.most_raised.m T.most_raised.F.kp T.most_raised.b .nil pass0 (pa_cons (pv 4) pa_nil)) (by exact (pe_callKw (okc_most_raised T) (hr.mono (by decide)) rfl T.most_raised.m T.most_raised.F.kp T.kb_most_raised_wires (fun σ => pass0At) (pk_cons (pv 4) pk_nil)))) (pa_cons (pe_callB (kmax K rfl) (by rfl) T.z_max (by decide +kernel) (pa_cons (pe_ix (kixl K) (pv 1) (pv 4) (fun _ _ => rfl)) pa_nil)) pa_nil))))) (pss_one (ps_ret pe_bl)) pss_nil))))
    (pss_cons (ps_set (i := 5) sc_law_numbers_right.nd rfl (Or.inl rfl) (pe_op op_add pe_int (pe_call (ok_law_take T.toTA1) (hr.mono (by decide)) rfl T.law_take.m T.law_take.F.kp T.law_take.b .nil pass0 (pa_cons (pv 0) (pa_cons pe_int pa_nil)))))
    (pss_cons (ps_set (i := 6) sc_law_numbers_right.nd rfl (Or.inl rfl) (by exact (pe_listRg3 (by rfl) (by rfl) T.z_list (by rfl) T.z_range (pa_cons (pv 5) (pa_cons pe_int (pa_cons (pe_un un_neg pe_int) pa_nil))))))
    (pss_cons (ps_if (PW.pt (pw_or (pt_not (pt_val (pe_call (ok_law_same T.toTA1) (hr.mono (by decide)) rfl T.law_same.m T.law_same.F.kp T.law_same.b .nil pass0 (pa_cons (pe_call (okc_raise_plan T) (hr.mono (by decide)) rfl T.raise_plan.m T.raise_plan.F.kp T.raise_plan.b .nil pass0 (pa_cons (pe_callTy (klist K) (by rfl) T.z_list (by decide +kernel) (pa_cons (pv 6) pa_nil)) (pa_cons (pv 5) pa_nil))) (pa_cons (pe_op (krepA K) (pe_tup (pa_cons (pe_tup (pa_cons pe_int pa_nil)) pa_nil)) (pv 5)) pa_nil))))) (pw_or1 (pt_cmpR op_notN (pe_call (okc_raise_plan T) (hr.mono (by decide)) rfl T.raise_plan.m T.raise_plan.F.kp T.raise_plan.b .nil pass0 (pa_cons (pe_callTy (klist K) (by rfl) T.z_list (by decide +kernel) (pa_cons (pv 6) pa_nil)) (pa_cons (pe_op op_sub (pv 5) pe_int) pa_nil))) pe_non (nomark _))))) (pss_one (ps_ret pe_bl)) pss_nil)
    (pss_one (ps_ret (pe_call (ok_law_same T.toTA1) (hr.mono (by decide)) rfl T.law_same.m T.law_same.F.kp T.law_same.b .nil pass0 (pa_cons (pe_call (okc_leasts T) (hr.mono (by decide)) rfl T.leasts.m T.leasts.F.kp T.leasts.b .nil pass0 (pa_cons (pe_callTy (klist K) (by rfl) T.z_list (by decide +kernel) (pa_cons (pv 6) pa_nil)) pa_nil)) (pa_cons (by exact (pe_listRg3 (by rfl) (by rfl) T.z_list (by rfl) T.z_range (pa_cons (pv 5) (pa_cons (pe_un un_neg pe_int) (pa_cons (pe_un un_neg pe_int) pa_nil))))) pa_nil))))))))), ?_⟩
  refine ⟨4, rfl, by decide, by decide, for_range (lo := 0) (n := 4) (fun i σ G => But b H G ∧ BoxAt G b (k + 1 + (4 - i)) ∧ ∃ v3 v4 v5 v6, σ = [some (.ref b), some (.ref p), some (.int named), v3, v4, v5, v6]) ⟨But.of (Ex.refl _), hB.le (by omega), _, _, _, _, rfl⟩ ?_ ?_⟩
  · rintro i σ G hi ⟨kG, BG, v3, v4, v5, v6, rfl⟩
    have hi4 : i < 4 := hi
    refine ⟨_, rfl, b, 25, k + 1 + (4 - (i + 1)), rfl, by decide, by decide, BG.le (by omega), fun kk G2 k0 k1 B2 k2 => ?_⟩
    obtain ⟨kn, rfl⟩ : ∃ kn : Nat, kk = (kn : Int) := ⟨kk.toNat, by omega⟩
    obtain ⟨p', vs, hpe, hvs, _, vall⟩ := rd_raised ((hp.but kG okb).but k2 okb)
    cases hpe
    obtain ⟨bk, hbk, hbs⟩ := vall kn (by omega)
    have fin : ∀ mx G3, Ex G2 G3 → IsMx kn mx → (tCB (rMax K) (tCons (tOp (rIxL K) (tVar 1) (tVar 4)) tNil)) [some (.ref b), some (.ref p), some (.int named), some (.int (0 + (i : Int))), some (.int (kn : Int)), v5, v6] G3 (fun y G4 => ∃ m, y = .int m ∧ m = mx ∧ G4 = G3) := fun mx G3 e3 hm => by
      refine ⟨_, rfl, _, rfl, p, vs, _, .ref bk, rfl, rfl, SqL.of (e3 _ _ hvs), atI_nat hbk, bk, rowR kn, rfl, SqL.of (e3 _ _ hbs), by unfold rowR; rw [List.length_map, List.length_range]; omega, fun m h1 h2 => ⟨m, rfl, mx_unique ⟨h1, h2⟩ hm, rfl⟩⟩
    refine ⟨_, rfl, rfl, _, rfl, ite2 (fun _ => ?_) (fun _ => ?_)⟩
    · refine ⟨_, rfl, kn, rfl, by omega, fun mx G3 e3 hm => ?_⟩
      refine ⟨_, rfl, _, rfl, p, vs, _, .ref bk, rfl, rfl, SqL.of (e3 _ _ hvs), atI_nat hbk, bk, rowR kn, rfl, SqL.of (e3 _ _ hbs), by unfold rowR; rw [List.length_map, List.length_range]; omega, fun m h1 h2 => ?_⟩
      rw [mx_unique ⟨h1, h2⟩ hm]
      exact ⟨_, _, rfl, .int _, fun G4 e4 => ⟨true, rfl, iteF ⟨kG.trans (k2.trans (But.of (e3.trans e4))), (B2.ex (e3.trans e4)).le (by omega), _, _, _, _, rfl⟩⟩⟩
    · refine ⟨_, rfl, kn, rfl, by omega, fun mx G3 e3 hm => ?_⟩
      refine ⟨_, rfl, _, rfl, p, vs, _, .ref bk, rfl, rfl, SqL.of (e3 _ _ hvs), atI_nat hbk, bk, rowR kn, rfl, SqL.of (e3 _ _ hbs), by unfold rowR; rw [List.length_map, List.length_range]; omega, fun m h1 h2 => ?_⟩
      rw [mx_unique ⟨h1, h2⟩ hm]
      exact ⟨_, _, rfl, .int _, fun G4 e4 => ⟨true, rfl, iteF ⟨kG.trans (k2.trans (But.of (e3.trans e4))), (B2.ex (e3.trans e4)).le (by omega), _, _, _, _, rfl⟩⟩⟩
  rintro σ G ⟨kG, BG, v3, v4, v5, v6, rfl⟩
  refine ⟨_, rfl, b, 16, k, rfl, by decide, by decide, BG.le (by omega), fun dd G2 d0 d1 B2 k2 => ⟨_, _, rfl, rfl, ?_⟩⟩
  obtain ⟨d, hd⟩ : ∃ d : Nat, 1 + dd = (d : Int) := ⟨(1 + dd).toNat, by omega⟩
  refine gnv (v' := .int (d : Int)) (congrArg V.int hd) ?_
  obtain ⟨f1, f2, f3, f4⟩ := down_in ⟨d, by omega⟩ (by show 1 ≤ d; omega)
  simp only at f1 f2 f3 f4
  have gd := good_down (show d ≤ 16 by omega)
  have d16 : d ≤ 16 := by omega
  have d1' : 1 ≤ d := by omega
  have kG2 := kG.trans k2
  have nl : numsD (.list ((downL d).map PyData.int)) = downL d := nums_map
  have l9 : (downL d).length ≤ 900 := by have := gd.1; omega
  refine ⟨_, rfl, 1, rfl, (d : Int), 0, -1, d, rfl, rg_down d16, by omega, fun r hr => ?_⟩
  rw [down_map, show ((List.range d).map fun m : Nat => (d : Int) - (m : Int)) = downL d from rfl]
  have er := Ex.new (o := .lst ((downL d).map V.int)) hr
  have h0 : upd G2 r (.lst ((downL d).map V.int)) r = some (.lst ((downL d).map V.int)) := upd_same
  generalize upd G2 r (.lst ((downL d).map V.int)) = G3 at er h0 ⊢
  refine ⟨_, rfl, r, _, rfl, .inl (SqL.of h0), fun c hc => ?_⟩
  have ec := Ex.new (o := .lst ((downL d).map V.int)) hc
  refine ⟨_, rfl, .ref c, _, 1, _, d, rfl, .rd (rd_ilist (ok := fun _ => True) upd_same trivial l9), row_list gd, by omega, fun _ t1 G4 e4 rt1 => ?_, fun z => by rw [nl, f1] at z; cases z⟩
  rw [nl, f2] at rt1
  have e34 := ec.trans e4
  refine ⟨one_le, fun u1 hu1 => ⟨one_le, fun u2 hu2 => ?_⟩⟩
  have eu1 := Ex.new (o := .tup [.int 1]) hu1
  have eu2 := Ex.new (o := .tup [.ref u1]) hu2
  have hu1' := eu2 _ _ (upd_same (H := G4) (a := u1) (o := .tup [.int 1]))
  refine ⟨_, rfl, u2, (d : Int), _, rfl, rfl, SqT.of upd_same, (fun z => by cases z), by omega, by omega, (by show 1 ≤ 1000; decide), fun pr G5 e5 hpr => ?_⟩
  have e45 := (eu1.trans eu2).trans e5
  have sm1 : Sm K G5 8 (.ref t1) (.ref pr) := by
    have r1 := rt1.ex e45
    have r2 : Rd K (fun _ => True) G5 2 (.ref pr) (planP (List.replicate d [1])) := by
      rw [rep_one, Int.toNat_natCast] at hpr
      refine .tup hpr trivial (by rw [List.length_replicate, List.length_map, List.length_replicate]) (by rw [List.length_replicate]; omega) fun i x dt hx hdt => ?_
      rw [List.getElem?_map] at hdt
      obtain ⟨y, hy, rfl⟩ := Option.map_eq_some_iff.mp hdt
      rw [(List.mem_replicate.mp (List.mem_of_getElem? hx)).2, (List.mem_replicate.mp (List.mem_of_getElem? hy)).2]
      exact rd_tupI (SqT.of (e5 _ _ hu1')) trivial (by decide)
    exact (r1.le (by omega)).sm (r2.le (by omega))
  refine ⟨_, _, rfl, sm1, fun G6 e6 => ⟨true, rfl, iteF ?_⟩⟩
  have e36 := (e34.trans e45).trans e6
  have h6 := e36 _ _ h0
  clear sm1 hpr hu1' rt1
  refine ⟨_, rfl, r, _, rfl, .inl (SqL.of h6), fun c2 hc2 => ⟨_, rfl, _, _, rfl, rfl, .ref c2, _, 1, _, d - 1, (by rw [show ((d - 1 : Nat) : Int) = (d : Int) - 1 by omega]; rfl), .rd (rd_ilist (ok := fun _ => True) upd_same trivial l9), row_list gd, by omega, (fun z => by rw [nl, f3] at z; cases z), fun _ G7 e7 => ⟨rfl, _, rfl, iteF ?_⟩⟩⟩
  have e37 := e36.trans ((Ex.new (o := .lst ((downL d).map V.int)) hc2).trans e7)
  have h7 := e37 _ _ h0
  refine ⟨_, rfl, r, _, rfl, .inl (SqL.of h7), fun c3 hc3 => ⟨.ref c3, _, 1, _, rfl, .rd (rd_ilist (ok := fun _ => True) upd_same trivial l9), row_list gd, fun lp G8 _ e8 hlp => ?_⟩⟩
  rw [nl, f4] at hlp
  have e38 := e37.trans ((Ex.new (o := .lst ((downL d).map V.int)) hc3).trans e8)
  refine ⟨_, rfl, 1, rfl, 1, rfl, (d : Int), -1, -1, d + 1, rfl, rg_downs d16, by omega, fun lq hlq => ?_⟩
  rw [down_map]
  have elq := Ex.new (o := .lst (((List.range (d + 1)).map fun m : Nat => (d : Int) - (m : Int)).map V.int)) hlq
  have hl1 : upd G8 lq (.lst (((List.range (d + 1)).map fun m : Nat => (d : Int) - (m : Int)).map V.int)) lp = some (.lst (((List.range (d + 1)).map fun m : Nat => (d : Int) - (m : Int)).map V.int)) := by
    rw [elq _ _ hlp, List.map_map, List.map_map]
    rfl
  have ll : ((List.range (d + 1)).map fun m : Nat => (d : Int) - (m : Int)).length ≤ 900 := by rw [List.length_map, List.length_range]; omega
  have sm2 : Sm K (upd G8 lq (.lst (((List.range (d + 1)).map fun m : Nat => (d : Int) - (m : Int)).map V.int))) 8 (.ref lp) (.ref lq) := ((rd_ilist (ok := fun _ => True) hl1 trivial ll).le (by omega)).sm ((rd_ilist (ok := fun _ => True) upd_same trivial ll).le (by omega))
  exact ⟨_, _, rfl, sm2, fun G9 e9 => q G9 (kG2.trans (But.of ((er.trans e38).trans (elq.trans e9)))) (B2.ex ((er.trans e38).trans (elq.trans e9)))⟩
end
end L2.U


set_option Elab.async false
set_option linter.all false
set_option maxRecDepth 100000
set_option maxHeartbeats 4000000
namespace L2.U
open PySem PySem.Spec PyProof.Rows Evl
section
variable {P : Program} {w : World} {K : PySem.W.Frag} {mg : Str → Option Value} {base : Heap}
/-! ### the error that is due -/
def refD (door : Int) (dx dy : PyData) : Nat := if door < 4 ∧ rowD dx = false then 1 else if door = 3 ∨ betwD 0 24 dy = true then 0 else 2
theorem ev_bad2 {C : Addr} {ok : Addr → Prop} {σ : L2.St} {H : Hp} {n k : Nat} {x : V} {d : PyData} (c : ClsAt K C) (h : Ro K C ok H n x d) (hk : σ[k]? = some (some x)) :
    EvT (tOr (tNot (tB (tCB (rIsi K) (tCons (tVar k) (tCons (tC (V.ty "int")) tNil))))) (tOr (tB (tCB (rIsi K) (tCons (tVar k) (tCons (tC (V.ty "bool")) tNil)))) (tOr (tTest (tOp (rI0 fun i j => V.bl (decide (i < j))) (tVar k) (tC (V.int 1)))) (tTest (tOp (rI0 fun i j => V.bl (decide (j < i))) (tVar k) (tOp (rI CPow fun i j => V.int (i ^ j.toNat)) (tC (V.int 10)) (tC (V.int 50)))))))) σ H (!betwD 1 100000000000000000000000000000000000000000000000000 d) := by
  obtain ⟨a, b, _⟩ := ev_isD c h hk
  have e : (!betwD 1 100000000000000000000000000000000000000000000000000 d) = (!isD "int" d || (isD "bool" d || (decide (intD d < 1) || decide (100000000000000000000000000000000000000000000000000 < intD d)))) := by
    cases d with
    | int i =>
      show (!decide (1 ≤ i ∧ i ≤ 100000000000000000000000000000000000000000000000000)) = (decide (i < 1) || decide (100000000000000000000000000000000000000000000000000 < i))
      by_cases z : 1 ≤ i
      · by_cases z2 : i ≤ 100000000000000000000000000000000000000000000000000
        · rw [decide_eq_true ⟨z, z2⟩, decide_eq_false (by omega), decide_eq_false (by omega)]; rfl
        · rw [decide_eq_false (fun h => z2 h.2), decide_eq_false (by omega), decide_eq_true (by omega)]; rfl
      · rw [decide_eq_false (fun h => z h.1), decide_eq_true (by omega)]; rfl
    | _ => rfl
  rw [e]
  refine et_or (et_not a) fun ha => et_or b fun hb => ?_
  have ib : intB d = true := by
    rw [← isD_intB, hb]
    cases hq : isD "int" d with
    | true => rfl
    | false => rw [hq] at ha; cases ha
  obtain ⟨i, rfl, rfl⟩ := intB_int h ib
  exact et_or (et_test (ev_op (ev_var hk) ev_c (rv_I0 (g := fun (i j : Int) => V.bl (decide (i < j)))))) fun _ => et_test (ev_op (ev_var hk) (ev_op ev_c ev_c (rv_I (C := CPow) (g := fun (i j : Int) => V.int (i ^ j.toNat)) (i := 10) (j := 50) (by show (0 : Int) ≤ 50 ∧ (50 : Int) ≤ 1000000 ∧ (10 : Int).natAbs < 2 ^ 64; decide))) (rv_I0 (g := fun (i j : Int) => V.bl (decide (j < i)))))
theorem okr_isT {C : Addr} {ok : Addr → Prop} {σ : L2.St} {H : Hp} {n k : Nat} {x : V} {d : PyData} (c : ClsAt K C) (h : Ro K C ok H n x d) (hk : σ[k]? = some (some x)) : EvT (tB (tCB (rIsiT K) (tCons (tVar k) (tCons (tTup (tCons (tC (V.ty "list")) (tCons (tC (V.ty "tuple")) tNil))) tNil)))) σ H (isSeq d) := fun H1 e1 Q q => by
  refine ⟨_, hk, two_le, fun p hp => ?_⟩
  have e2 := Ex.new (o := .tup [.ty "list", .ty "tuple"]) hp
  obtain ⟨t, ty, kl, kt, _, _⟩ := (h.ex (e1.trans e2)).isi c
  refine ⟨_, p, [.ty "list", .ty "tuple"], t, [.type "list", .type "tuple"], isSeq d, rfl, upd_same, .cons (.ty _) (.cons (.ty _) .nil), ty, ?_, _, rfl, q _ e2⟩
  unfold PySem.W.kitAny PySem.W.kitAny PySem.W.kitAny
  rw [kl, kt, isSeq_is]
  cases isD "list" d <;> cases isD "tuple" d <;> rfl
def spRefused (K : PySem.W.Frag) (C : Addr) : Sp := fun vs H Q _ => ∃ (l : Addr) (door : Int) (x y : V) (dx dy : PyData) (n m : Nat) (ok ok' : Addr → Prop), vs = [.int door, .ref l] ∧ SqL K H l [x, y] ∧ Ro K C ok H n x dx ∧ Ro K C ok' H m y dy ∧
  (refD door dx dy = 0 → ∀ H', Ex H H' → Q .non H') ∧ (refD door dx dy = 1 → ∀ t H', Ex H H' → H' t = some (.tup [.str "row", .int 0]) → Q (.ref t) H') ∧ (refD door dx dy = 2 → ∀ t H', Ex H H' → H' t = some (.tup [.str "wires", .int 1]) → Q (.ref t) H')
theorem ok_law_refused (T : TK K mg) : FnOk P w K mg base CX0 2 T.law_refused.a T.law_refused.fd ["door", "values"] (spRefused K T.C) := by
  refine T.law_refused.F.ok sc_law_refused (fun vs H Q E h => ?_) (fun cdv A outer s H vs Q E hr h => ?_)
  · obtain ⟨l, door, x, y, dx, dy, n, m, ok, ok', rfl, _⟩ := h; rfl
  obtain ⟨l, door, x, y, dx, dy, n, m, ok, ok', rfl, hl, hx, hy, q0, q1, q2⟩ := h
  refine ⟨_, (pss_cons (ps_asg (pv 1) (pg_lst (by rfl) (pgs_cons (pg_name (i := 2) sc_law_refused.nd rfl (Or.inl rfl)) (pgs_cons (pg_name (i := 3) sc_law_refused.nd rfl (Or.inl rfl)) pgs_nil))))
    (pss_cons (ps_if (pt_cmpR op_lt (pv 0) pe_int (nomark _)) (pss_cons (ps_if (PW.pt (pw_or (pt_not (pt_val (pe_callB (kisiT K) (by rfl) T.z_isinstance (by decide +kernel) (pa_cons (pv 2) (pa_cons (pe_tup (pa_cons (pe_bltn (v := .ty "list") rfl T.z_list (by decide +kernel) rfl) (pa_cons (pe_bltn (v := .ty "tuple") rfl T.z_tuple (by decide +kernel) rfl) pa_nil))) pa_nil))))) (pw_or1 (pt_cmpR op_gt (pe_callB (klen K) (by rfl) T.z_len (by decide +kernel) (pa_cons (pv 2) pa_nil)) pe_int (nomark _))))) (pss_one (ps_ret (pe_tup (pa_cons pe_str (pa_cons pe_int pa_nil))))) pss_nil)
    (pss_cons (ps_setLc (i := 4) (own := [("one", 5)]) (g := gName 5) (by rfl) sc_law_refused.nd rfl rfl (sw_true rfl rfl rfl (by decide +kernel)) (kpis K (pv 2)) (blkOk_by (own := [("one", 5)]) (N := ["door", "values", "row", "wires", "wrong", "one"]) (sc := defScope s_law_refused) (by decide +kernel)) (fun _ _ _ _ _ => (pg_name (i := 5) sc_law_refused.nd rfl (Or.inl rfl))) (fun _ _ _ _ _ => (pts_one (PW.pt (pw_or (pt_not (pt_val (pe_callB (kisi K) (by rfl) T.z_isinstance (by decide +kernel) (pa_cons (pv 5) (pa_cons (pe_bltn (v := .ty "int") rfl T.z_int (by decide +kernel) rfl) pa_nil))))) (pw_or (pt_val (pe_callB (kisi K) (by rfl) T.z_isinstance (by decide +kernel) (pa_cons (pv 5) (pa_cons (pe_bltn (v := .ty "bool") rfl T.z_bool (by decide +kernel) rfl) pa_nil)))) (pw_or (pt_cmpR op_lt (pv 5) pe_int (nomark _)) (pw_or1 (pt_cmpR op_gt (pv 5) (pe_op op_pow pe_int pe_int) (nomark _))))))))) (fun _ _ _ _ _ => (pv 5)))
    (pss_one (ps_if (pt_cmpR (knel0 K hr.units) (pv 4) (pe_lst pa_nil) (nomark _)) (pss_one (ps_ret (pe_tup (pa_cons pe_str (pa_cons pe_int pa_nil))))) pss_nil)))) pss_nil)
    (pss_cons (ps_if (PW.pt (pw_or (pt_cmpR op_eq (pv 0) pe_int (nomark _)) (pw_or1 (PW.pt (pw_and (pt_val (pe_callB (kisi K) (by rfl) T.z_isinstance (by decide +kernel) (pa_cons (pv 3) (pa_cons (pe_bltn (v := .ty "int") rfl T.z_int (by decide +kernel) rfl) pa_nil)))) (pw_and (pt_not (pt_val (pe_callB (kisi K) (by rfl) T.z_isinstance (by decide +kernel) (pa_cons (pv 3) (pa_cons (pe_bltn (v := .ty "bool") rfl T.z_bool (by decide +kernel) rfl) pa_nil))))) (pw_and1 (pt_chain op_le op_le pe_int (pv 3) pe_int)))))))) (pss_one (ps_ret pe_non)) pss_nil)
    (pss_one (ps_ret (pe_tup (pa_cons pe_str (pa_cons pe_int pa_nil)))))))), ?_⟩
  refine ⟨_, rfl, l, _, rfl, hl, rfl, _, _, rfl, _, _, rfl, rfl, ?_⟩
  -- what stands behind the row
  have back : ∀ (G : Hp) (v4 v5 : Option V), Ex H G → ¬ (door < 4 ∧ rowD dx = false) → tSeq (tIfS (tOr (tTest (tOp rEq (tVar 0) (tC (V.int 3)))) (tAnd (tB (tCB (rIsi K) (tCons (tVar 3) (tCons (tC (V.ty "int")) tNil)))) (tAnd (tNot (tB (tCB (rIsi K) (tCons (tVar 3) (tCons (tC (V.ty "bool")) tNil))))) (tTest (tChain (rI0 fun i j => V.bl (decide (i ≤ j))) (rI0 fun i j => V.bl (decide (i ≤ j))) (tC (V.int 0)) (tVar 3) (tC (V.int 24))))))) (tRet (tC V.non)) tNext) (tRet (tTup (tCons (tC (V.str ("wires"))) (tCons (tC (V.int 1)) tNil)))) { nx := fun x H' => Q V.non H', rt := Q } [some (.int door), some (.ref l), some x, some y, v4, v5] G := fun G v4 v5 e nr => by
    obtain ⟨a, b, _⟩ := ev_isD (σ := [some (.int door), some (.ref l), some x, some y, v4, v5]) (k := 3) T.ca (hy.ex e) rfl
    have eb : betwD 0 24 dy = (isD "int" dy && (!isD "bool" dy && decide (0 ≤ intD dy ∧ intD dy ≤ 24))) := by cases dy <;> rfl
    have ts : EvT (tOr (tTest (tOp rEq (tVar 0) (tC (V.int 3)))) (tAnd (tB (tCB (rIsi K) (tCons (tVar 3) (tCons (tC (V.ty "int")) tNil)))) (tAnd (tNot (tB (tCB (rIsi K) (tCons (tVar 3) (tCons (tC (V.ty "bool")) tNil))))) (tTest (tChain (rI0 fun i j => V.bl (decide (i ≤ j))) (rI0 fun i j => V.bl (decide (i ≤ j))) (tC (V.int 0)) (tVar 3) (tC (V.int 24))))))) [some (.int door), some (.ref l), some x, some y, v4, v5] G (decide (V.int door = V.int 3) || betwD 0 24 dy) := by
      rw [eb]
      refine et_or (et_test (ev_op (ev_var rfl) ev_c (rv_eq rfl))) fun _ => et_and a fun ha => et_and (et_not b) fun hb => ?_
      have ib : intB dy = true := by rw [← isD_intB, ha, hb]; rfl
      obtain ⟨i, rfl, rfl⟩ := intB_int hy ib
      refine fun H1 e1 Q2 q3 => ⟨_, rfl, _, _, rfl, rfl, _, rfl, ite2 (fun c => ?_) (fun c => ?_)⟩
      · have c := of_decide_eq_true c
        refine ⟨_, _, rfl, rfl, _, rfl, ?_⟩
        have := q3 H1 (Ex.refl _)
        rw [show decide (0 ≤ intD (.int i) ∧ intD (.int i) ≤ 24) = decide (i ≤ 24) from decide_eq_decide.mpr ⟨fun h => h.2, fun h => ⟨c, h⟩⟩] at this
        exact this
      · have c := of_decide_eq_false (Bool.eq_false_iff.mpr c)
        have := q3 H1 (Ex.refl _)
        rw [show decide (0 ≤ intD (.int i) ∧ intD (.int i) ≤ 24) = false from decide_eq_false fun h => c h.1] at this
        exact ⟨_, rfl, this⟩
    refine q_when ts (fun hb H1 e1 => ?_) (fun hb H1 e1 => ?_)
    · refine q0 ?_ H1 (e.trans e1)
      unfold refD
      rw [if_neg nr, if_pos]
      rcases (Bool.or_eq_true _ _).mp hb with h | h
      · exact .inl (V.int.inj (of_decide_eq_true h))
      · exact .inr h
    · rw [Bool.or_eq_false_iff] at hb
      refine ⟨two_le, fun t ht => q2 ?_ t _ ((e.trans e1).trans (Ex.new ht)) upd_same⟩
      unfold refD
      rw [if_neg nr, if_neg]
      rintro (h | h)
      · exact of_decide_eq_false hb.1 (by rw [h])
      · rw [hb.2] at h; cases h
  refine ⟨_, rfl, _, _, rfl, rfl, _, rfl, ite2 (fun c4 => ?_) (fun c4 => ?_)⟩
  · have c4 := of_decide_eq_true c4
    have bad : ∀ (G : Hp), Ex H G → rowD dx = false → ∀ (t : Addr) (G2 : Hp), Ex G G2 → G2 t = some (.tup [.str "row", .int 0]) → Q (.ref t) G2 := fun G e z t G2 e2 ht => q1 (by unfold refD; rw [if_pos ⟨c4, z⟩]) t G2 (e.trans e2) ht
    have isq := okr_isT (σ := [some (.int door), some (.ref l), some x, some y, none, none]) (k := 2) T.ca hx rfl
    refine q_when (b := !isSeq dx || decide (16 < ((itemsD dx).length : Int))) (et_or (et_not isq) fun hsq => ?_) (fun hb G1 e1 => ?_) (fun hb G1 e1 => ?_)
    · have hsq : isSeq dx = true := by simpa using hsq
      obtain ⟨a, us, rfl, hs, hl, hz, all⟩ := hx.seq hsq
      rw [← hl]
      exact et_test (ev_op (fun H1 e1 Q q => ⟨_, rfl, _, _, rfl, hs.imp (fun z => ⟨_, ex_l e1 z.1, rfl⟩) (fun z => ⟨_, ex_t e1 z.1, rfl⟩), q H1 (Ex.refl _)⟩) ev_c (rv_I0 (g := fun (i j : Int) => V.bl (decide (j < i)))))
    · refine ⟨two_le, fun t ht => bad G1 e1 ?_ t _ (Ex.new ht) upd_same⟩
      unfold rowD
      rcases (Bool.or_eq_true _ _).mp hb with h | h
      · rw [show isSeq dx = false by simpa using h]; rfl
      · have := of_decide_eq_true h
        rw [decide_eq_false (show ¬ (itemsD dx).length ≤ 16 by omega), Bool.and_false, Bool.false_and]
    · rw [Bool.or_eq_false_iff] at hb
      have hsq : isSeq dx = true := by simpa using hb.1
      have h16 : (itemsD dx).length ≤ 16 := by have := of_decide_eq_false hb.2; omega
      obtain ⟨a, us, rfl, hs, hl, hz, all⟩ := (hx.ex e1).seq hsq
      have er : rowD dx = (itemsD dx).all (betwD 1 100000000000000000000000000000000000000000000000000) := by unfold rowD; rw [hsq, decide_eq_true h16]; rfl
      have el := el_lcS (K := K) (σ := [some (.int door), some (.ref l), some (.ref a), some y, none, none]) (H := G1) (tl := tVar 2) (j := 5) (vs := [5]) (t := tOr (tNot (tB (tCB (rIsi K) (tCons (tVar 5) (tCons (tC (V.ty "int")) tNil))))) (tOr (tB (tCB (rIsi K) (tCons (tVar 5) (tCons (tC (V.ty "bool")) tNil)))) (tOr (tTest (tOp (rI0 fun i j => V.bl (decide (i < j))) (tVar 5) (tC (V.int 1)))) (tTest (tOp (rI0 fun i j => V.bl (decide (j < i))) (tVar 5) (tOp (rI CPow fun i j => V.int (i ^ j.toNat)) (tC (V.int 10)) (tC (V.int 50)))))))) (te := tVar 5) (fun i => !betwD 1 100000000000000000000000000000000000000000000000000 ((itemsD dx).getD i .none)) (fun i => us.getD i .non) (ev_var rfl) (hs.imp (fun z => z.1) (fun z => z.1)) (by omega) (fun x => rfl) (fun i u H2 e2 hu => by
        have hi := (List.getElem?_eq_some_iff.mp hu).1
        have hd2 : (itemsD dx)[i]? = some ((itemsD dx)[i]'(by omega)) := List.getElem?_eq_getElem _
        rw [getD_at hd2]
        exact ev_bad2 T.ca ((all i u _ hu hd2).ex e2) rfl) (fun i u H2 e2 hu _ => by
        rw [List.getD_eq_getElem?_getD, hu]
        exact ev_var rfl)
      have ge : (given us.length (fun i => !betwD 1 100000000000000000000000000000000000000000000000000 ((itemsD dx).getD i .none)) (fun i => us.getD i .non)).isEmpty = rowD dx := by
        rw [given_empty, er]
        simp only [Bool.not_not]
        exact all_range hl
      refine q_asgL el fun p G2 hp e2 h2 => ?_
      dsimp only
      refine q_when (b := !rowD dx) ?_ (fun hb2 G3 e3 => ?_) (fun hb2 G3 e3 => ?_)
      · rw [← ge]
        exact et_test (fun H1 e3 Q q => ⟨_, rfl, Nat.zero_le _, fun z hz => ⟨p, z, _, rfl, rfl, SqL.of ((e3.trans (Ex.new hz)) _ _ h2), SqL.of upd_same, q _ (Ex.new hz)⟩⟩)
      · exact ⟨two_le, fun t ht => bad G3 ((e1.trans e2).trans e3) (by simpa using hb2) t _ (Ex.new ht) upd_same⟩
      · exact back G3 _ _ ((e1.trans e2).trans e3) (fun h => by rw [h.2] at hb2; cases hb2)
  · have c4 := of_decide_eq_false (Bool.eq_false_iff.mpr c4)
    exact back H _ _ (Ex.refl _) fun h => c4 h.1
end
end L2.U


set_option Elab.async false
set_option linter.all false
set_option maxRecDepth 100000
set_option maxHeartbeats 4000000
namespace L2.U
open PySem PySem.Spec PyProof.Rows Evl
section
variable {P : Program} {w : World} {K : PySem.W.Frag} {mg : Str → Option Value} {base : Heap}
/-! ### what a door tells -/
def spLTold (K : PySem.W.Frag) (C : Addr) : Sp := fun vs H Q _ => ∃ (door named : Int) (x y : V) (dx dy : PyData) (n m : Nat) (ok ok' : Addr → Prop), vs = [.int door, .int named, x, y] ∧ 0 ≤ door ∧ door ≤ 4 ∧ Ro K C ok H n x dx ∧ Ro K C ok' H m y dy ∧
  (refD door dx dy = 0 → ∀ v t H', Ex H H' → H' t = some (.tup [.str "told", v]) → Q (.ref t) H') ∧ (refD door dx dy = 1 → ∀ t H', Ex H H' → H' t = some (.tup [.str "row", x]) → Q (.ref t) H') ∧ (refD door dx dy = 2 → ∀ t H', Ex H H' → H' t = some (.tup [.str "wires", y]) → Q (.ref t) H')
theorem ok_law_told (T : TK K mg) : FnOk P w K mg base CX0 9 T.law_told.a T.law_told.fd ["door", "named", "row", "wires"] (spLTold K T.C) := by
  refine T.law_told.F.ok sc_law_told (fun vs H Q E h => ?_) (fun cdv A outer s H vs Q E hr h => ?_)
  · obtain ⟨door, named, x, y, dx, dy, n, m, ok, ok', rfl, _⟩ := h; rfl
  obtain ⟨door, named, x, y, dx, dy, n, m, ok, ok', rfl, d0, d1, hx, hy, q0, q1, q2⟩ := h
  refine ⟨_, (pss_one (ps_tryC rfl rfl takes0 (fun W pn xe tk _ => (pss_cons (ps_if (pt_cmpR op_eq (pv 0) pe_int (nomark _)) (pss_one (ps_set (i := 4) sc_law_told.nd rfl (Or.inl rfl) (pe_ifExp (pt_cmpR op_eq (pv 1) pe_int (nomark _)) (by exact (pe_callS (ok_can_raise T) (hr.mono (by decide)) rfl T.can_raise.m T.can_raise.F.kp T.can_raise.b (fun σ => passAt tk σ) (pa_cons (pv 2) (pa_cons (pv 3) pa_nil)))) (by exact (pe_callKw (ok_can_raise T) (hr.mono (by decide)) rfl T.can_raise.m T.can_raise.F.kp T.kb_can_raise_wires_row (fun σ => passAt tk σ) (pk_cons (pv 3) (pk_cons (pv 2) pk_nil))))))) (pss_one (ps_if (pt_cmpR op_eq (pv 0) pe_int (nomark _)) (pss_one (ps_set (i := 4) sc_law_told.nd rfl (Or.inl rfl) (pe_ifExp (pt_cmpR op_eq (pv 1) pe_int (nomark _)) (by exact (pe_callS (ok_raise_fits T) (hr.mono (by decide)) rfl T.raise_fits.m T.raise_fits.F.kp T.raise_fits.b (fun σ => passAt tk σ) (pa_cons (pv 2) (pa_cons (pv 3) (pa_cons (pe_tup pa_nil) pa_nil))))) (by exact (pe_callKw (ok_raise_fits T) (hr.mono (by decide)) rfl T.raise_fits.m T.raise_fits.F.kp T.kb_raise_fits_value_wires_row (fun σ => passAt tk σ) (pk_cons pe_non (pk_cons (pv 3) (pk_cons (pv 2) pk_nil)))))))) (pss_one (ps_if (pt_cmpR op_eq (pv 0) pe_int (nomark _)) (pss_one (ps_set (i := 4) sc_law_told.nd rfl (Or.inl rfl) (pe_ifExp (pt_cmpR op_eq (pv 1) pe_int (nomark _)) (by exact (pe_callS (ok_raise_plan T) (hr.mono (by decide)) rfl T.raise_plan.m T.raise_plan.F.kp T.raise_plan.b (fun σ => passAt tk σ) (pa_cons (pv 2) (pa_cons (pv 3) pa_nil)))) (by exact (pe_callKw (ok_raise_plan T) (hr.mono (by decide)) rfl T.raise_plan.m T.raise_plan.F.kp T.kb_raise_plan_wires_row (fun σ => passAt tk σ) (pk_cons (pv 3) (pk_cons (pv 2) pk_nil))))))) (pss_one (ps_if (pt_cmpR op_eq (pv 0) pe_int (nomark _)) (pss_one (ps_set (i := 4) sc_law_told.nd rfl (Or.inl rfl) (pe_ifExp (pt_cmpR op_eq (pv 1) pe_int (nomark _)) (by exact (pe_callS (ok_leasts T) (hr.mono (by decide)) rfl T.leasts.m T.leasts.F.kp T.leasts.b (fun σ => passAt tk σ) (pa_cons (pv 2) pa_nil))) (by exact (pe_callKw (ok_leasts T) (hr.mono (by decide)) rfl T.leasts.m T.leasts.F.kp T.kb_leasts_row (fun σ => passAt tk σ) (pk_cons (pv 2) pk_nil)))))) (pss_one (ps_set (i := 4) sc_law_told.nd rfl (Or.inl rfl) (pe_ifExp (pt_cmpR op_eq (pv 1) pe_int (nomark _)) (by exact (pe_callS (ok_most_raised T) (hr.mono (by decide)) rfl T.most_raised.m T.most_raised.F.kp T.most_raised.b (fun σ => passAt tk σ) (pa_cons (pv 3) pa_nil))) (by exact (pe_callKw (ok_most_raised T) (hr.mono (by decide)) rfl T.most_raised.m T.most_raised.F.kp T.kb_most_raised_wires (fun σ => passAt tk σ) (pk_cons (pv 3) pk_nil)))))))))))))
    (pss_one (ps_ret (pe_tup (pa_cons pe_str (pa_cons (pv 4) pa_nil))))))) (ClausesOk.cons (ClauseOk.named (i := 5) sc_law_told.nd rfl rfl ⟨rfl, by decide, Or.inl T.InvalidRow.gC⟩ (fun a oe cls d pn hz hf => (pss_one (ps_ret (pe_tup (pa_cons pe_str (pa_cons (pe_xf T.InvalidRow.xf T.InvalidRow.nf hz hf (pv 5)) pa_nil)))))))
     (ClausesOk.cons (ClauseOk.named (i := 5) sc_law_told.nd rfl rfl ⟨rfl, by decide, Or.inl T.InvalidWires.gC⟩ (fun a oe cls d pn hz hf => (pss_one (ps_ret (pe_tup (pa_cons pe_str (pa_cons (pe_xf T.InvalidWires.xf T.InvalidWires.nf hz hf (pv 5)) pa_nil)))))))
     (ClausesOk.cons (ClauseOk.bare ⟨rfl, by decide, Or.inl T.TalkError_gC⟩ (fun a oe cls d pn hz hf => (pss_one (ps_ret (pe_tup (pa_cons pe_str (pa_cons pe_non pa_nil)))))))
     ClausesOk.nil))))), ?_⟩
  have no : PyData → Ro K T.C ok H 0 .non .none := fun _ => .non
  rcases (show door = 0 ∨ door = 1 ∨ door = 2 ∨ door = 3 ∨ door = 4 by omega) with rfl | rfl | rfl | rfl | rfl
  · refine ⟨_, rfl, rfl, _, rfl, iteT ⟨_, rfl, rfl, _, rfl, ite2 (fun _ => ?_) (fun _ => ?_)⟩⟩
    all_goals
      refine ⟨_, rfl, _, rfl, x, y, dx, dy, n, m, ok, ok', rfl, hx, hy, fun c c2 v H1 e1 => ?_, fun c e H1 e1 he => ?_, fun c c2 e H1 e1 he => ?_⟩
      · exact ⟨_, rfl, two_le, fun t ht => q0 (by unfold refD; simp [c, c2]) _ t _ (e1.trans (Ex.new ht)) upd_same⟩
      · exact ⟨true, T.eRR, fun _ u hu => ⟨_, rfl, rfl, rfl, e, _, _, rfl, he, rfl, two_le, fun t ht => q1 (by unfold refD; simp [c]) t _ (e1.trans (Ex.new ht)) upd_same⟩, fun z => nomatch z⟩
      · exact ⟨false, T.eWR, (fun z => nomatch z), fun _ => ⟨true, T.eWW, fun _ u hu => ⟨_, rfl, rfl, rfl, e, _, _, rfl, he, rfl, two_le, fun t ht => q2 (by unfold refD; simp [c, c2]) t _ (e1.trans (Ex.new ht)) upd_same⟩, fun z => nomatch z⟩⟩
  · refine ⟨_, rfl, rfl, _, rfl, iteF ⟨_, rfl, rfl, _, rfl, iteT ⟨_, rfl, rfl, _, rfl, ite2 (fun _ => ?_) (fun _ => ?_)⟩⟩⟩
    · refine ⟨_, rfl, _, rfl, ?_⟩
      refine ⟨Nat.zero_le _, fun z hz => ?_⟩
      have ez := Ex.new (o := .tup []) hz
      refine ⟨x, y, .ref z, dx, dy, .tuple [], n, m, 1, ok, ok', ok, rfl, hx.ex ez, hy.ex ez, .tup (SqT.of upd_same) rfl (Nat.zero_le _) (fun i x d h => by cases h), fun c c2 H1 e1 => ?_, fun c e H1 e1 he => ?_, fun c c2 e H1 e1 he => ?_⟩
      · have e1 := ez.trans e1
        exact ⟨_, rfl, two_le, fun t ht => q0 (by unfold refD; simp [c, c2]) _ t _ (e1.trans (Ex.new ht)) upd_same⟩
      · have e1 := ez.trans e1
        exact ⟨true, T.eRR, fun _ u hu => ⟨_, rfl, rfl, rfl, e, _, _, rfl, he, rfl, two_le, fun t ht => q1 (by unfold refD; simp [c]) t _ (e1.trans (Ex.new ht)) upd_same⟩, fun z => nomatch z⟩
      · have e1 := ez.trans e1
        exact ⟨false, T.eWR, (fun z => nomatch z), fun _ => ⟨true, T.eWW, fun _ u hu => ⟨_, rfl, rfl, rfl, e, _, _, rfl, he, rfl, two_le, fun t ht => q2 (by unfold refD; simp [c, c2]) t _ (e1.trans (Ex.new ht)) upd_same⟩, fun z => nomatch z⟩⟩
    · refine ⟨_, rfl, _, rfl, x, y, .non, dx, dy, .none, n, m, 0, ok, ok', ok, rfl, hx, hy, .non, fun c c2 H1 e1 => ?_, fun c e H1 e1 he => ?_, fun c c2 e H1 e1 he => ?_⟩
      · exact ⟨_, rfl, two_le, fun t ht => q0 (by unfold refD; simp [c, c2]) _ t _ (e1.trans (Ex.new ht)) upd_same⟩
      · exact ⟨true, T.eRR, fun _ u hu => ⟨_, rfl, rfl, rfl, e, _, _, rfl, he, rfl, two_le, fun t ht => q1 (by unfold refD; simp [c]) t _ (e1.trans (Ex.new ht)) upd_same⟩, fun z => nomatch z⟩
      · exact ⟨false, T.eWR, (fun z => nomatch z), fun _ => ⟨true, T.eWW, fun _ u hu => ⟨_, rfl, rfl, rfl, e, _, _, rfl, he, rfl, two_le, fun t ht => q2 (by unfold refD; simp [c, c2]) t _ (e1.trans (Ex.new ht)) upd_same⟩, fun z => nomatch z⟩⟩
  · refine ⟨_, rfl, rfl, _, rfl, iteF ⟨_, rfl, rfl, _, rfl, iteF ⟨_, rfl, rfl, _, rfl, iteT ⟨_, rfl, rfl, _, rfl, ite2 (fun _ => ?_) (fun _ => ?_)⟩⟩⟩⟩
    all_goals
      refine ⟨_, rfl, _, rfl, x, y, dx, dy, n, m, ok, ok', rfl, hx, hy, fun c c2 c3 v H1 e1 hv => ?_, fun c c2 c3 H1 e1 => ?_, fun c e H1 e1 he => ?_, fun c c2 e H1 e1 he => ?_⟩
      · exact ⟨_, rfl, two_le, fun t ht => q0 (by unfold refD; simp [c, c2]) _ t _ (e1.trans (Ex.new ht)) upd_same⟩
      · exact ⟨_, rfl, two_le, fun t ht => q0 (by unfold refD; simp [c, c2]) _ t _ (e1.trans (Ex.new ht)) upd_same⟩
      · exact ⟨true, T.eRR, fun _ u hu => ⟨_, rfl, rfl, rfl, e, _, _, rfl, he, rfl, two_le, fun t ht => q1 (by unfold refD; simp [c]) t _ (e1.trans (Ex.new ht)) upd_same⟩, fun z => nomatch z⟩
      · exact ⟨false, T.eWR, (fun z => nomatch z), fun _ => ⟨true, T.eWW, fun _ u hu => ⟨_, rfl, rfl, rfl, e, _, _, rfl, he, rfl, two_le, fun t ht => q2 (by unfold refD; simp [c, c2]) t _ (e1.trans (Ex.new ht)) upd_same⟩, fun z => nomatch z⟩⟩
  · refine ⟨_, rfl, rfl, _, rfl, iteF ⟨_, rfl, rfl, _, rfl, iteF ⟨_, rfl, rfl, _, rfl, iteF ⟨_, rfl, rfl, _, rfl, iteT ⟨_, rfl, rfl, _, rfl, ite2 (fun _ => ?_) (fun _ => ?_)⟩⟩⟩⟩⟩
    all_goals
      refine ⟨_, rfl, x, dx, n, ok, rfl, hx, fun c v H1 hv e1 hv2 => ?_, fun c e H1 e1 he => ?_⟩
      · exact ⟨_, rfl, two_le, fun t ht => q0 (by unfold refD; simp [c]) _ t _ (e1.trans (Ex.new ht)) upd_same⟩
      · exact ⟨true, T.eRR, fun _ u hu => ⟨_, rfl, rfl, rfl, e, _, _, rfl, he, rfl, two_le, fun t ht => q1 (by unfold refD; simp [c]) t _ (e1.trans (Ex.new ht)) upd_same⟩, fun z => nomatch z⟩
  · refine ⟨_, rfl, rfl, _, rfl, iteF ⟨_, rfl, rfl, _, rfl, iteF ⟨_, rfl, rfl, _, rfl, iteF ⟨_, rfl, rfl, _, rfl, iteF ⟨_, rfl, rfl, _, rfl, ite2 (fun _ => ?_) (fun _ => ?_)⟩⟩⟩⟩⟩
    all_goals
      refine ⟨_, rfl, y, dy, m, ok', rfl, hy, fun c v H1 e1 hv => ?_, fun c e H1 e1 he => ?_⟩
      · exact ⟨_, rfl, two_le, fun t ht => q0 (by unfold refD; simp [c]) _ t _ (e1.trans (Ex.new ht)) upd_same⟩
      · exact ⟨false, T.eWR, (fun z => nomatch z), fun _ => ⟨true, T.eWW, fun _ u hu => ⟨_, rfl, rfl, rfl, e, _, _, rfl, he, rfl, two_le, fun t ht => q2 (by unfold refD; simp [c]) t _ (e1.trans (Ex.new ht)) upd_same⟩, fun z => nomatch z⟩⟩
end
end L2.U


set_option Elab.async false
set_option linter.all false
set_option maxRecDepth 100000
set_option maxHeartbeats 4000000
namespace L2.U
open PySem PySem.Spec PyProof.Rows Evl
section
variable {P : Program} {w : World} {K : PySem.W.Frag} {mg : Str → Option Value} {base : Heap}
/-- a comprehension over a list: what holds of each item that is made -/
theorem lc_gen {σ : L2.St} {H : Hp} {a : Addr} {xs : List V} {te : TE} {j : Nat} {vs : List Nat} {Q : VK} (R : Addr → Nat → V → Hp → Prop) (hx : H a = some (.lst xs)) (hz : xs.length ≤ 900) (hw : ∀ x, wipe ((wipe σ vs).set j (some x)) vs = wipe σ vs)
    (rex : ∀ D i y H1 H2, Ex H1 H2 → R D i y H1 → R D i y H2) (rbut : ∀ D i y H1 zs us, H1 D = some (.lst zs) → R D i y H1 → R D i y (upd H1 D (.lst us)))
    (he : ∀ D i x H1 zs, H D = none → Ex H H1 → H1 D = some (.lst zs) → xs[i]? = some x → ∀ Q : VK, (∀ y H2, Ex H1 H2 → R D i y H2 → Q y H2) → te ((wipe σ vs).set j (some x)) H1 Q)
    (q : ∀ p ys H', Ex H H' → H p = none → H' p = some (.lst ys) → ys.length = xs.length → (∀ i y, ys[i]? = some y → R p i y H') → Q (.ref p) H') :
    ∀ D, H D = none → ∃ W : Nat → Nat → Hp → Prop, (∃ m, W 0 m (upd H D (.lst []))) ∧ ∀ i m H, W i m H →
      ((Itl K a).stop i H ∧ Q (.ref D) H) ∨ ((Itl K a).go i H ∧ ∃ Nx : Hp → Prop, (∀ H', Nx H' → ∃ m', m' < m ∧ W (i + 1) m' H') ∧ ∀ x H', (Itl K a).yld i H x H' → gName j x (wipe σ vs) H' fun σ2 H2 => wipe σ2 vs = wipe σ vs ∧ tYes σ2 H2 fun b H3 =>
        if b = true then te σ2 H3 fun y H4 => ∃ acc, H4 D = some (.lst acc) ∧ acc.length < sizeLine ∧ Nx (upd H4 D (.lst (acc ++ [y]))) else Nx H3) := fun D hD =>
  lc_list (K := K) (a := a) (xs := xs) (Qd := fun H' => Q (.ref D) H') (fun i H' => Ex H H' ∧ ∃ ys, H' D = some (.lst ys) ∧ ys.length = i ∧ ∀ k y, ys[k]? = some y → R D k y H') ⟨Ex.new hD, [], upd_same, rfl, fun k y h => by cases h⟩ (fun i H' _ p => SqL.of (p.1 _ _ hx))
    (fun i x H' hi p => ⟨hw x, tyes (by
      obtain ⟨p1, ys, p2, p3, p4⟩ := p
      have hlt := (List.getElem?_eq_some_iff.mp hi).1
      refine he D i x H' ys hD p1 p2 hi _ fun y H2 e2 r => ⟨ys, e2 _ _ p2, small1000 (by omega), (p1.trans e2).mut hD, ys ++ [y], upd_same, by rw [List.length_append, p3]; rfl, fun k z hk => rbut D k z H2 ys _ (e2 _ _ p2) ?_⟩
      by_cases c : k < ys.length
      · rw [List.getElem?_append_left c] at hk
        exact rex D k z H' H2 e2 (p4 k z hk)
      · rw [List.getElem?_append_right (by omega)] at hk
        have : k - ys.length = 0 := by
          have := (List.getElem?_eq_some_iff.mp hk).1
          rw [List.length_singleton] at this
          omega
        rw [this] at hk
        cases Option.some.inj hk
        rw [show k = i by omega]
        exact r)⟩)
    (fun H' p => q D p.2.choose H' p.1 hD p.2.choose_spec.1 p.2.choose_spec.2.1 p.2.choose_spec.2.2)

/-! ### copies -/
def Cy (K : PySem.W.Frag) (C : Addr) (H : Hp) (x y : V) (d : PyData) (H' : Hp) : Prop :=
  (∃ p xs, y = .ref p ∧ H' p = some (.lst xs) ∧ H p = none ∧ xs.length ≤ 900) ∨ (∃ p, y = .ref p ∧ H' p = some (.dK []) ∧ H p = none) ∨ (y = x ∧ ∃ a dx fs, x = .ref a ∧ H a = some (.ins C dx fs)) ∨ (y = x ∧ d ≠ .dict [] ∧ ∃ t, (∀ H2, Ex H H2 → TyX K H2 x (.type t)) ∧ t ∈ ["NoneType", "bool", "int", "str", "tuple"])
theorem Ro.live {C : Addr} {ok : Addr → Prop} {H : Hp} {n : Nat} {x : V} {d : PyData} (h : Ro K C ok H n x d) : Ro K C (fun a => ok a ∧ ∃ o, H a = some o) H n x d := by
  induction h with
  | non => exact .non
  | bl b => exact .bl b
  | int i => exact .int i
  | str z h h2 => exact .str z h h2
  | lst h ha hl hz _ ih => exact .lst h ⟨ha, _, h⟩ hl hz ih
  | tup h hl hz _ ih => exact .tup h hl hz ih
  | dct h => exact .dct h
  | own h => exact .own h
def spCp (K : PySem.W.Frag) (C : Addr) : Nat → Sp
  | 0 => fun _ _ _ _ => False
  | i + 1 => fun vs H Q _ => ∃ (x : V) (d : PyData) (ok : Addr → Prop), vs = [x] ∧ Ro K C ok H i x d ∧ ∀ y H', Ex H H' → Ro K C (fun a => ok a ∨ H a = none) H' i y d → Cy K C H x y d H' → Q y H'
theorem kB_list {t : String} (h : t ∈ ["NoneType", "bool", "int", "str", "tuple"]) : kitB t "list" = some false := by
  simp only [List.mem_cons, List.mem_nil_iff, or_false] at h
  rcases h with rfl | rfl | rfl | rfl | rfl <;> decide +kernel
theorem kB_dict {t : String} (h : t ∈ ["NoneType", "bool", "int", "str", "tuple"]) : kitB t "dict" = some false := by
  simp only [List.mem_cons, List.mem_nil_iff, or_false] at h
  rcases h with rfl | rfl | rfl | rfl | rfl <;> decide +kernel
theorem copy_step (T : TK K mg) (i : Nat) (ih : FnOk P w K mg base CX0 i T.law_copy.a T.law_copy.fd ["thing"] (spCp K T.C i)) : FnOk P w K mg base CX0 (i + 1) T.law_copy.a T.law_copy.fd ["thing"] (spCp K T.C (i + 1)) := by
  refine T.law_copy.F.ok sc_law_copy (fun vs H Q E h => ?_) (fun cdv A outer s H vs Q E hr h => ?_)
  · obtain ⟨x, d, ok, rfl, _⟩ := h; rfl
  obtain ⟨x, d, ok, rfl, h, q⟩ := h
  refine ⟨_, (pss_cons (ps_if (pt_val (pe_callB (kisi K) (by rfl) T.z_isinstance (by decide +kernel) (pa_cons (pv 0) (pa_cons (pe_bltn (v := .ty "list") rfl T.z_list (by decide +kernel) rfl) pa_nil)))) (pss_one (ps_ret (pe_lc (own := [("one", 1)]) (g := gName 1) (by rfl) sc_law_copy.nd (kpil K (pv 0)) (blkOk_by (own := [("one", 1)]) (N := ["thing", "one"]) (sc := defScope s_law_copy) (by decide +kernel)) (fun _ _ _ _ _ => (pg_name (i := 1) sc_law_copy.nd rfl (Or.inl rfl))) (fun _ _ _ _ _ => pts_nil) (fun _ _ _ _ _ => (pe_call (ih) (hr.mono (by omega)) rfl T.law_copy.m T.law_copy.F.kp T.law_copy.b .nil pass0 (pa_cons (pv 1) pa_nil)))))) pss_nil)
    (pss_one (ps_ret (pe_ifExp (pt_val (pe_callB (kisi K) (by rfl) T.z_isinstance (by decide +kernel) (pa_cons (pv 0) (pa_cons (pe_bltn (v := .ty "dict") rfl T.z_dict (by decide +kernel) rfl) pa_nil)))) (pe_callTy call_dictD (by rfl) T.z_dict (by decide +kernel) (pa_cons (pv 0) pa_nil)) (pv 0))))), ?_⟩
  have flat : ∀ t, (∀ H2, Ex H H2 → TyX K H2 x (.type t)) → t ∈ ["NoneType", "bool", "int", "str", "tuple"] → d ≠ .dict [] → Ro K T.C (fun a => ok a ∨ H a = none) H i x d →
      tSeq (tIfS (tB (tCB (rIsi K) (tCons (tVar 0) (tCons (tC (V.ty "list")) tNil)))) (tRet (tLc (iList K (tVar 0)) (gName 1) tYes (tCall (spCp K T.C i) [] E0 (tCons (tVar 1) tNil)) (List.map (fun x => x.snd) [("one", 1)]))) tNext) (tRet (tIf (tB (tCB (rIsi K) (tCons (tVar 0) (tCons (tC (V.ty "dict")) tNil)))) (tCB (fun xs H Q => ∃ a kvs, xs = [V.ref a] ∧ L2.Rd H a (HO.dK kvs) ∧ ∀ (p : Addr), H p = none → Q (V.ref p) (upd H p (HO.dK kvs))) (tCons (tVar 0) tNil)) (tVar 0))) { nx := fun x H' => Q V.non H', rt := Q } (start ["thing", "one"] [x]) H := fun t ty ht nd r =>
    ⟨_, rfl, _, _, _, _, false, rfl, .ty _, ty H (Ex.refl _), kit_ty (kB_list ht), _, rfl, iteF ⟨_, rfl, _, _, _, _, false, rfl, .ty _, ty H (Ex.refl _), kit_ty (kB_dict ht), _, rfl, iteF ⟨_, rfl, q x H (Ex.refl _) r (.inr (.inr (.inr ⟨rfl, nd, t, ty, ht⟩)))⟩⟩⟩
  have h0 := h
  cases h with
  | non => exact flat _ (fun H2 _ => .base .non) (by decide) (fun h => nomatch h) .non
  | bl b => exact flat _ (fun H2 _ => .base (.bl b)) (by decide) (fun h => nomatch h) (.bl b)
  | int b => exact flat _ (fun H2 _ => .base (.int b)) (by decide) (fun h => nomatch h) (.int b)
  | str b u1 u2 => exact flat _ (fun H2 _ => .base (.str b)) (by decide) (fun h => nomatch h) (.str b u1 u2)
  | @tup n a xs ds hs hl hz all => exact flat _ (fun H2 e => tyT (ex_t e hs)) (by decide) (fun h => nomatch h) (h0.of fun a h => .inl h)
  | @dct n a ha => exact ⟨_, rfl, _, _, _, _, false, rfl, .ty _, .base (.dK ha), kit_ty (by decide +kernel), _, rfl, iteF ⟨_, rfl, _, _, _, _, true, rfl, .ty _, .base (.dK ha), kit_ty (by decide +kernel), _, rfl, iteT ⟨_, rfl, a, [], rfl, .inl ha, fun p hp => q _ _ (Ex.new hp) (.dct upd_same) (.inr (.inl ⟨p, rfl, upd_same, hp⟩))⟩⟩⟩
  | @own n a dx fs ha => 
    have c := T.ca
    have ty : TyX K H (.ref a) (.ref T.C) := .base (.ins ha c.cl c.ha c.hn c.htk c.hm)
    exact ⟨_, rfl, _, _, _, _, false, rfl, .ty _, ty, c.kit (by decide) (by decide +kernel), _, rfl, iteF ⟨_, rfl, _, _, _, _, false, rfl, .ty _, ty, c.kit (by decide) (by decide +kernel), _, rfl, iteF ⟨_, rfl, q _ H (Ex.refl _) (.own ha) (.inr (.inr (.inl ⟨rfl, a, dx, fs, rfl, ha⟩)))⟩⟩⟩
  | @lst n a xs ds ha hok hl hz all =>
  refine ⟨_, rfl, _, _, _, _, true, rfl, .ty _, tyL (SqL.of ha), kit_ty (by decide +kernel), _, rfl, iteT ?_⟩
  refine ⟨_, rfl, a, rfl, ⟨_, SqL.of ha⟩, lc_gen (K := K) (σ := start ["thing", "one"] [.ref a]) (j := 1) (vs := [1]) (Q := Q) (fun D i y H' => ∃ dd, ds[i]? = some dd ∧ Ro K T.C (fun a => (ok a ∨ H a = none) ∧ a ≠ D) H' n y dd) ha hz (fun x => rfl) ?_ ?_ ?_ ?_⟩
  · rintro D i y H1 H2 e ⟨dd, hd, r⟩
    exact ⟨dd, hd, r.ex e⟩
  · rintro D i y H1 zs us hD ⟨dd, hd, r⟩
    exact ⟨dd, hd, r.but hD But.upd (fun a h => h.2)⟩
  · intro D i x H2 zs hD e2 hDz hx Q2 q2
    have hi := (List.getElem?_eq_some_iff.mp hx).1
    have hd : ds[i]? = some (ds[i]'(by omega)) := List.getElem?_eq_getElem _
    have r0 := ((all i x _ hx hd).live).ex e2
    refine ⟨_, rfl, x, _, _, rfl, r0, fun y H3 e3 r3 _ => q2 y H3 e3 ⟨_, hd, r3.of fun b hb => ?_⟩⟩
    rcases hb with ⟨hb, o, ho⟩ | hb
    · exact ⟨.inl hb, fun z => by rw [z, hD] at ho; cases ho⟩
    · exact ⟨.inr (fresh_back e2 hb), fun z => by rw [z, hDz] at hb; cases hb⟩
  · intro p ys H' e2 hp hp2 hyl hys
    refine q _ _ e2 (.lst hp2 (.inr hp) (by omega) (by omega) fun i y d hy hd => ?_) (.inl ⟨p, ys, rfl, hp2, hp, by omega⟩)
    obtain ⟨dd, hd', r⟩ := hys i y hy
    rw [hd] at hd'
    cases Option.some.inj hd'
    exact r.of fun a h => h.1
theorem ok_copy (T : TK K mg) : ∀ i, FnOk P w K mg base CX0 i T.law_copy.a T.law_copy.fd ["thing"] (spCp K T.C i)
  | 0 => none_left fun _ _ _ _ h => h
  | i + 1 => copy_step T i (ok_copy T i)
theorem ok_law_copy (T : TK K mg) : FnOk P w K mg base CX0 4 T.law_copy.a T.law_copy.fd ["thing"] (spCp K T.C 4) := ok_copy T 4
end
end L2.U


set_option Elab.async false
set_option linter.all false
set_option maxRecDepth 100000
set_option maxHeartbeats 4000000
namespace L2.U
open PySem PySem.Spec PyProof.Rows Evl
section
variable {P : Program} {w : World} {K : PySem.W.Frag} {mg : Str → Option Value} {base : Heap}
/-! ### the very value -/
theorem kB_in {t : String} (h : t ∈ ["NoneType", "bool", "int", "str", "tuple"]) : t ∈ ["NoneType", "bool", "int", "str", "list", "tuple", "dict"] := by
  simp only [List.mem_cons, List.mem_nil_iff, or_false] at h ⊢
  rcases h with h | h | h | h | h <;> simp [h]
def Vm (H : Hp) (y : V) : Prop := (∃ p xs, y = .ref p ∧ H p = some (.lst xs) ∧ xs.length ≤ 900) ∨ (∃ p, y = .ref p ∧ H p = some (.dK []))
def Vf (K : PySem.W.Frag) (C : Addr) (H : Hp) (y : V) : Prop := (∃ a dx fs, y = .ref a ∧ H a = some (.ins C dx fs)) ∨ (Sm K H 8 y y ∧ ∃ t, TyX K H y (.type t) ∧ t ∈ ["NoneType", "bool", "int", "str", "tuple"])
def spVery (K : PySem.W.Frag) (C : Addr) : Sp := fun vs H Q _ => ∃ y, vs = [y, y] ∧ ((Vm H y ∧ ∀ H', (∀ c o, y ≠ .ref c → H c = some o → H' c = some o) → Q (.bl true) H') ∨ (Vf K C H y ∧ ∀ H', Ex H H' → Q (.bl true) H'))
theorem ok_law_very (T : TK K mg) : FnOk P w K mg base CX0 10 T.law_very.a T.law_very.fd ["told", "passed"] (spVery K T.C) := by
  refine T.law_very.F.ok sc_law_very (fun vs H Q E h => ?_) (fun cdv A outer s H vs Q E hr h => ?_)
  · obtain ⟨y, rfl, _⟩ := h; rfl
  obtain ⟨y, rfl, h⟩ := h
  refine ⟨_, (pss_cons (ps_if (pt_val (pe_callB (kisi K) (by rfl) T.z_isinstance (by decide +kernel) (pa_cons (pv 1) (pa_cons (pe_bltn (v := .ty "list") rfl T.z_list (by decide +kernel) rfl) pa_nil)))) (pss_cons (ps_expr (pe_bm PySem.F.plainAttrs_list PySem.F.slot_list_append PySem.F.type_list_append mt_append (pv 1) (pa_cons pe_int pa_nil)))
    (pss_one (ps_ret (pe_and (pe_callB (kisi K) (by rfl) T.z_isinstance (by decide +kernel) (pa_cons (pv 0) (pa_cons (pe_bltn (v := .ty "list") rfl T.z_list (by decide +kernel) rfl) pa_nil))) (pe_and (pe_cmpR op_eq (pe_callB (klen K) (by rfl) T.z_len (by decide +kernel) (pa_cons (pv 0) pa_nil)) (pe_callB (klen K) (by rfl) T.z_len (by decide +kernel) (pa_cons (pv 1) pa_nil)) (nomark _)) (pe_one (pe_call (ok_law_same T.toTA1) (hr.mono (by decide)) rfl T.law_same.m T.law_same.F.kp T.law_same.b .nil pass0 (pa_cons (pe_ix (kix K) (pv 0) (pe_un un_neg pe_int) (fun _ _ => rfl)) (pa_cons pe_int pa_nil))))))))) pss_nil)
    (pss_cons (ps_if (pt_val (pe_callB (kisi K) (by rfl) T.z_isinstance (by decide +kernel) (pa_cons (pv 1) (pa_cons (pe_bltn (v := .ty "dict") rfl T.z_dict (by decide +kernel) rfl) pa_nil)))) (pss_cons (ps_dput (hu_of hr) (pv 1) pe_str pe_int rfl)
    (pss_one (ps_ret (pe_and (pe_callB (kisi K) (by rfl) T.z_isinstance (by decide +kernel) (pa_cons (pv 0) (pa_cons (pe_bltn (v := .ty "dict") rfl T.z_dict (by decide +kernel) rfl) pa_nil))) (pe_and (pe_cmpR op_eq (pe_callB (klenA K) (by rfl) T.z_len (by decide +kernel) (pa_cons (pv 0) pa_nil)) (pe_callB (klenA K) (by rfl) T.z_len (by decide +kernel) (pa_cons (pv 1) pa_nil)) (nomark _)) (pe_one (pe_call (ok_law_same T.toTA1) (hr.mono (by decide)) rfl T.law_same.m T.law_same.F.kp T.law_same.b .nil pass0 (pa_cons (pe_dget1 (hu_of hr) (pv 0) pe_str ⟨rfl, rfl, rfl, rfl⟩) (pa_cons pe_int pa_nil))))))))) pss_nil)
    (pss_one (ps_ret (pe_ifExp (pt_val (pe_callB (kisi K) (by rfl) T.z_isinstance (by decide +kernel) (pa_cons (pv 1) (pa_cons (pe_glob (v := .ref T.Line.C) rfl T.Line.gC rfl) pa_nil)))) (pe_callB (kisi K) (by rfl) T.z_isinstance (by decide +kernel) (pa_cons (pv 0) (pa_cons (pe_glob (v := .ref T.Line.C) rfl T.Line.gC rfl) pa_nil))) (pe_call (ok_law_same T.toTA1) (hr.mono (by decide)) rfl T.law_same.m T.law_same.F.kp T.law_same.b .nil pass0 (pa_cons (pv 0) (pa_cons (pv 1) pa_nil)))))))), ?_⟩
  rcases h with ⟨⟨p, xs, rfl, hp, hz⟩ | ⟨p, rfl, hp⟩, q⟩ | ⟨⟨a, dx, fs, rfl, ha⟩ | ⟨sm, t, ty, ht⟩, q⟩
  · refine ⟨_, rfl, _, _, _, _, true, rfl, .ty _, tyL (SqL.of hp), kit_ty (by decide +kernel), _, rfl, iteT ?_⟩
    refine ⟨_, rfl, .inl ⟨rfl, _, SqL.of hp⟩, p, xs, _, rfl, rfl, hp, small1000 (by omega), ?_⟩
    have hp2 : upd H p (.lst (xs ++ [.int 7])) p = some (.lst (xs ++ [.int 7])) := upd_same
    have kp : ∀ b o, V.ref p ≠ .ref b → H b = some o → upd H p (.lst (xs ++ [.int 7])) b = some o := fun b o hb h => by
      rw [upd_ne (fun z => hb (by rw [z]))]
      exact h
    generalize upd H p (.lst (xs ++ [.int 7])) = G at hp2 kp ⊢
    have ll := SqL.of (K := K) hp2
    have hat : atI (xs ++ [V.int 7]) (-1) = some (.int 7) := at_neg1
    refine ⟨_, rfl, _, _, _, _, true, rfl, .ty _, tyL ll, kit_ty (by decide +kernel), true, rfl, iteT ?_⟩
    refine ⟨_, rfl, _, _, rfl, .inl ⟨_, ll, rfl⟩, _, rfl, _, _, rfl, .inl ⟨_, ll, rfl⟩, rfl, ?_⟩
    rw [decide_eq_true rfl]
    refine ⟨true, rfl, iteT ?_⟩
    exact ⟨_, rfl, _, rfl, .inl ⟨p, _, -1, _, rfl, rfl, ll, hat, _, _, rfl, .int 7, fun H' e => q H' fun b o hb h => e _ _ (kp b o hb h)⟩⟩
  · refine ⟨_, rfl, _, _, _, _, false, rfl, .ty _, .base (.dK hp), kit_ty (by decide +kernel), _, rfl, iteF ?_⟩
    refine ⟨_, rfl, _, _, _, _, true, rfl, .ty _, .base (.dK hp), kit_ty (by decide +kernel), _, rfl, iteT ?_⟩
    refine ⟨_, rfl, p, _, rfl, .inl ⟨[], .inr "more", hp, rfl, by decide, rfl⟩, ?_⟩
    have hp2 : upd H p (.dK (putK [] (.inr "more") (.int 7))) p = some (.dK [(.inr "more", .int 7)]) := upd_same
    have kp : ∀ b o, V.ref p ≠ .ref b → H b = some o → upd H p (.dK (putK [] (.inr "more") (.int 7))) b = some o := fun b o hb h => by
      rw [upd_ne (fun z => hb (by rw [z]))]
      exact h
    generalize upd H p (.dK (putK [] (.inr "more") (.int 7))) = G at hp2 kp ⊢
    refine ⟨_, rfl, _, _, _, _, true, rfl, .ty _, .base (.dK hp2), kit_ty (by decide +kernel), true, rfl, iteT ?_⟩
    refine ⟨_, rfl, .inr ⟨p, _, rfl, hp2, _, rfl, .inr ⟨p, _, rfl, hp2, rfl, ?_⟩⟩⟩
    rw [decide_eq_true rfl]
    refine ⟨true, rfl, iteT ?_⟩
    exact ⟨_, rfl, p, rfl, .inl ⟨_, .inl hp2⟩, some (.int 7), .inl ⟨_, .inr "more", .inl hp2, rfl, rfl⟩, _, _, rfl, .int 7, fun H' e => q H' fun b o hb h => e _ _ (kp b o hb h)⟩
  · have c := T.ca
    have ty : TyX K H (.ref a) (.ref T.C) := .base (.ins ha c.cl c.ha c.hn c.htk c.hm)
    refine ⟨_, rfl, _, _, _, _, false, rfl, .ty _, ty, c.kit (by decide) (by decide +kernel), _, rfl, iteF ⟨_, rfl, _, _, _, _, false, rfl, .ty _, ty, c.kit (by decide) (by decide +kernel), _, rfl, iteF ?_⟩⟩
    refine ⟨_, rfl, _, _, _, _, true, rfl, .own _, ty, ClsAt.kitS, _, rfl, iteT ⟨_, rfl, _, _, _, _, true, rfl, .own _, ty, ClsAt.kitS, q H (Ex.refl _)⟩⟩
  · have c := T.ca
    refine ⟨_, rfl, _, _, _, _, false, rfl, .ty _, ty, kit_ty (kB_list ht), _, rfl, iteF ⟨_, rfl, _, _, _, _, false, rfl, .ty _, ty, kit_ty (kB_dict ht), _, rfl, iteF ?_⟩⟩
    refine ⟨_, rfl, _, _, _, _, false, rfl, .own _, ty, c.kitC (kB_in ht), _, rfl, iteF ?_⟩
    exact ⟨_, rfl, _, rfl, _, _, rfl, sm, fun H' e => q H' e⟩
end
end L2.U


set_option Elab.async false
set_option linter.all false
set_option maxRecDepth 100000
set_option maxHeartbeats 4000000
namespace L2.U
open PySem PySem.Spec PyProof.Rows Evl
section
variable {P : Program} {w : World} {K : PySem.W.Frag} {mg : Str → Option Value} {base : Heap}
/-- data in which empty dicts may stand -/
inductive Rn (K : PySem.W.Frag) (ok : Addr → Prop) (H : Hp) : Nat → V → PyData → Prop
  | non {n} : Rn K ok H n .non .none
  | bl {n} (b : Bool) : Rn K ok H n (.bl b) (.bool b)
  | int {n} (i : Int) : Rn K ok H n (.int i) (.int i)
  | str {n} (z : Str) (h : z.length ≤ 1000) (h2 : PyData.strOk z = true) : Rn K ok H n (.str z) (.str z)
  | lst {n} {a : Addr} {xs : List V} {ds : List PyData} (h : H a = some (.lst xs)) (ha : ok a) (hl : xs.length = ds.length) (hz : xs.length ≤ 900)
      (all : ∀ (i : Nat) (x : V) (d : PyData), xs[i]? = some x → ds[i]? = some d → Rn K ok H n x d) : Rn K ok H (n + 1) (.ref a) (.list ds)
  | tup {n} {a : Addr} {xs : List V} {ds : List PyData} (h : SqT K H a xs) (hl : xs.length = ds.length) (hz : xs.length ≤ 900)
      (all : ∀ (i : Nat) (x : V) (d : PyData), xs[i]? = some x → ds[i]? = some d → Rn K ok H n x d) : Rn K ok H (n + 1) (.ref a) (.tuple ds)
  | dct {n} {a : Addr} (h : H a = some (.dK [])) : Rn K ok H n (.ref a) (.dict [])
section
variable {ok ok' : Addr → Prop} {H H' : Hp} {n m : Nat} {x : V} {d : PyData}
theorem Rn.ex (e : Ex H H') (h : Rn K ok H n x d) : Rn K ok H' n x d := by
  induction h with
  | non => exact .non
  | bl b => exact .bl b
  | int i => exact .int i
  | str z h h2 => exact .str z h h2
  | lst h ha hl hz _ ih => exact .lst (e _ _ h) ha hl hz ih
  | tup h hl hz _ ih => exact .tup (ex_t e h) hl hz ih
  | dct h => exact .dct (e _ _ h)
theorem Rn.of (w : ∀ a, ok a → ok' a) (h : Rn K ok H n x d) : Rn K ok' H n x d := by
  induction h with
  | non => exact .non
  | bl b => exact .bl b
  | int i => exact .int i
  | str z h h2 => exact .str z h h2
  | lst h ha hl hz _ ih => exact .lst h (w _ ha) hl hz ih
  | tup h hl hz _ ih => exact .tup h hl hz ih
  | dct h => exact .dct h
theorem Rn.but {b : Addr} {ys : List V} (hb : H b = some (.lst ys)) (k : But b H H') (w : ∀ a, ok a → a ≠ b) (h : Rn K ok H n x d) : Rn K ok H' n x d := by
  induction h with
  | non => exact .non
  | bl b => exact .bl b
  | int i => exact .int i
  | str z h h2 => exact .str z h h2
  | lst h ha hl hz _ ih => exact .lst (k _ _ (w _ ha) h) ha hl hz ih
  | tup h hl hz _ ih => exact .tup (sqt_but hb k h) hl hz ih
  | dct h => exact .dct (k _ _ (ne_of h hb (by intro z; cases z)) h)
theorem Rn.succ (h : Rn K ok H n x d) : Rn K ok H (n + 1) x d := by
  induction h with
  | non => exact .non
  | bl b => exact .bl b
  | int i => exact .int i
  | str z h h2 => exact .str z h h2
  | lst h ha hl hz _ ih => exact .lst h ha hl hz ih
  | tup h hl hz _ ih => exact .tup h hl hz ih
  | dct h => exact .dct h
theorem Rn.le (h : Rn K ok H n x d) (l : n ≤ m) : Rn K ok H m x d := by
  induction l with
  | refl => exact h
  | step _ ih => exact ih.succ
end
theorem Rn.new {S : Addr → Prop} {H : Hp} {n : Nat} {x : V} {d : PyData} {D : Addr} (hD : H D = none) (h : Rn K (fun a => ¬ S a) H n x d) : Rn K (fun a => ¬ addS S D a) H n x d := by
  induction h with
  | non => exact .non
  | bl b => exact .bl b
  | int i => exact .int i
  | str z h h2 => exact .str z h h2
  | lst h ha hl hz _ ih => exact .lst h (fun z => z.elim ha fun e => by rw [e, hD] at h; cases h) hl hz ih
  | tup h hl hz _ ih => exact .tup h hl hz ih
  | dct h => exact .dct h

theorem Rn.ro {C : Addr} {ok : Addr → Prop} {H : Hp} {n : Nat} {x : V} {d : PyData} (h : Rn K ok H n x d) : Ro K C ok H n x d := by
  induction h with
  | non => exact .non
  | bl b => exact .bl b
  | int i => exact .int i
  | str z h h2 => exact .str z h h2
  | lst h ha hl hz _ ih => exact .lst h ha hl hz ih
  | tup h hl hz _ ih => exact .tup h hl hz ih
  | dct h => exact .dct h
theorem Rn.sm {ok : Addr → Prop} {H : Hp} {n : Nat} {x : V} {d : PyData} (h : Rn K ok H n x d) : Sm K H (n + 1) x x := by
  induction h with
  | non => exact .non
  | bl b => exact .bl b
  | int i => exact .int i
  | str z h h2 => exact .str z h
  | lst h ha hl hz _ ih =>
    refine .lst (SqL.of h) (SqL.of h) rfl (by omega) fun i x y hx hy => ?_
    rw [hx] at hy
    cases Option.some.inj hy
    have hi := (List.getElem?_eq_some_iff.mp hx).1
    exact ih i x _ hx (List.getElem?_eq_getElem (by omega))
  | tup h hl hz _ ih =>
    refine .tup h h rfl (by omega) fun i x y hx hy => ?_
    rw [hx] at hy
    cases Option.some.inj hy
    have hi := (List.getElem?_eq_some_iff.mp hx).1
    exact ih i x _ hx (List.getElem?_eq_getElem (by omega))
  | dct h => exact .dct h h
/-- values without own objects -/
def Bv (K : PySem.W.Frag) (n : Nat) : PV := fun S v H => ∃ d, Rn K (fun a => ¬ S a) H n v d
/-- such a value, or an own object -/
def Tv (K : PySem.W.Frag) (C : Addr) (n : Nat) : PV := fun S v H => Bv K n S v H ∨ ∃ a dx fs, v = .ref a ∧ H a = some (.ins C dx fs)
theorem cl_bv {n : Nat} : Cl (Bv K n) where
  ex e h := h.elim fun d r => ⟨d, r.ex e⟩
  new hD h := h.elim fun d r => ⟨d, r.new hD⟩
  mt hD hz k h := h.elim fun d r => ⟨d, r.but hz k fun a ha z => ha (z ▸ hD)⟩
  less w h := h.elim fun d r => ⟨d, r.of fun a ha z => ha (w a z)⟩
theorem cl_tv {C : Addr} {n : Nat} : Cl (Tv K C n) where
  ex e h := h.imp (cl_bv.ex e) fun ⟨a, dx, fs, h1, h2⟩ => ⟨a, dx, fs, h1, e _ _ h2⟩
  new hD h := h.imp (cl_bv.new hD) id
  mt hD hz k h := h.imp (cl_bv.mt hD hz k) fun ⟨a, dx, fs, h1, h2⟩ => ⟨a, dx, fs, h1, k _ _ (ne_of h2 hz (by intro z; cases z)) h2⟩
  less w h := h.imp (cl_bv.less w) id
section
variable {C : Addr} {n m lo hi lo' hi' : Nat} {S : Addr → Prop} {v : V} {H : Hp} {P P' : PV} {σ : L2.St} {te : TE}
theorem Bv.upL (h : LP (Bv K n) lo hi S v H) (l : hi ≤ 900) : Bv K (n + 1) S v H := by
  obtain ⟨p, xs, rfl, hp, sp, l0, l1, al⟩ := h
  obtain ⟨ds, hl, ald⟩ := pick_ds fun x hx => cl_bv.less (fun a h => .inl h) (al x hx)
  exact ⟨_, .lst hp sp hl (by omega) ald⟩
theorem Bv.upT (h : TP K (Bv K n) lo hi S v H) (l : hi ≤ 900) : Bv K (n + 1) S v H := by
  obtain ⟨p, xs, rfl, hp, l0, l1, al⟩ := h
  obtain ⟨ds, hl, ald⟩ := pick_ds al
  exact ⟨_, .tup hp hl (by omega) ald⟩
theorem Bv.le (h : Bv K n S v H) (l : n ≤ m) : Bv K m S v H := h.elim fun d r => ⟨d, r.le l⟩
theorem LP.monoP (w : ∀ S x H, P S x H → P' S x H) (h : LP P lo hi S v H) : LP P' lo hi S v H := by
  obtain ⟨p, xs, rfl, hp, sp, l0, l1, al⟩ := h
  exact ⟨p, xs, rfl, hp, sp, l0, l1, fun x hx => w _ x _ (al x hx)⟩
theorem bm_upL (h : EvM te σ H (LP (Bv K n) lo hi S)) (l : hi ≤ 900) (u : n + 1 ≤ m) : EvM te σ H (Tv K C m S) := em_imp h fun v H' r => .inl ((Bv.upL r l).le u)
theorem bm_upT (h : EvM te σ H (TP K (Bv K n) lo hi S)) (l : hi ≤ 900) (u : n + 1 ≤ m) : EvM te σ H (Tv K C m S) := em_imp h fun v H' r => .inl ((Bv.upT r l).le u)
theorem bm_non : EvM (tC .non) σ H (Bv K n S) := em_of cl_bv ev_c ⟨_, .non⟩
theorem bm_bl (b : Bool) : EvM (tC (.bl b)) σ H (Bv K n S) := em_of cl_bv ev_c ⟨_, .bl b⟩
theorem bm_int (i : Int) : EvM (tC (.int i)) σ H (Bv K n S) := em_of cl_bv ev_c ⟨_, .int i⟩
theorem bm_str (s : Str) (h1 : s.length ≤ 1000) (h2 : PyData.strOk s = true) : EvM (tC (.str s)) σ H (Bv K n S) := em_of cl_bv ev_c ⟨_, .str s h1 h2⟩
theorem bm_evi {i : Int} (h : Ev te σ H (.int i)) : EvM te σ H (Bv K n S) := em_of cl_bv h ⟨_, .int i⟩
theorem bm_dict : EvM tDNewK σ H (Bv K n S) := fun H1 e1 Q q p hp => q _ _ (Ex.new hp) ⟨_, .dct upd_same⟩
theorem bm_lst1 (hS : Ct S H) (h : EvM te σ H (Bv K n S)) : EvM (tLst (tCons te tNil)) σ H (LP (Bv K n) 1 1 S) := em_list cl_bv hS (en_cons cl_bv h en_nil) (by omega)
theorem bm_tup1 (h : EvM te σ H (Bv K n S)) : EvM (tTup (tCons te tNil)) σ H (TP K (Bv K n) 1 1 S) := em_tup cl_bv (en_cons cl_bv h en_nil) (by omega)
theorem bm_lst0 (hS : Ct S H) : EvM (tLst tNil) σ H (Bv K (n + 1) S) := em_imp (em_list (P := Bv K n) cl_bv hS en_nil (by omega)) fun v H' r => (Bv.upL r (by omega))
theorem tm (h : EvM te σ H (Bv K n S)) (u : n ≤ m) : EvM te σ H (Tv K C m S) := em_imp h fun v H' r => .inl (r.le u)
theorem bm_le (h : EvM te σ H (Bv K n S)) (u : n ≤ m) : EvM te σ H (Bv K m S) := em_imp h fun v H' r => r.le u
theorem bm_make {i : Int} (T : TK K mg) (i0 : 0 ≤ i) (i1 : i ≤ 10) : EvM (tMakeX T.C (spLnInit T.C) (fun _ => E0) (tCons (tTup (tCons (tC (.str "wires")) (tCons (tC (.int i)) tNil))) tNil)) σ H (Tv K T.C n S) := fun H1 e1 Q q => by
  refine ⟨two_le, fun a ha => ?_⟩
  show ∀ x dx, upd H1 a (.tup (spcW i)) x = none → upd H1 a (.tup (spcW i)) dx = none → dx ≠ x → spLnInit T.C [.ref x, .ref a] (upd (upd (upd H1 a (.tup (spcW i))) dx (.own x)) x (.ins T.C dx [])) (fun v H2 => v = .non ∧ Q (.ref x) H2) E0
  have e2 := Ex.new (o := .tup (spcW i)) ha
  have h2 : upd H1 a (.tup (spcW i)) a = some (.tup (spcW i)) := upd_same
  generalize upd H1 a (.tup (spcW i)) = G at e2 h2
  intro x dx hx hdx hne
  have ax : a ≠ x := fun z => by rw [z, hx] at h2; cases h2
  have adx : a ≠ dx := fun z => by rw [z, hdx] at h2; cases h2
  refine ⟨x, dx, a, i, rfl, upd_same, by rw [upd_ne ax, upd_ne adx]; exact h2, i0, i1, fun fs H3 k3 hx3 => ⟨rfl, q _ _ ?_ (.inr ⟨_, _, _, rfl, hx3⟩)⟩⟩
  refine e2.trans fun b o hb => k3 b o (fun z => by rw [z, hx] at hb; cases hb) ?_
  rw [upd_ne (fun z => by rw [z, hx] at hb; cases hb), upd_ne (fun z => by rw [z, hdx] at hb; cases hb)]
  exact hb
/-- an item of a list that is made -/
theorem em_at {tl ti : TE} {i : Nat} (c : Cl P) (h : EvM tl σ H (LP P lo hi S)) (hi' : Ev ti σ H (.int (i : Int))) (l : i < lo) : EvM (tOp (rIxL K) tl ti) σ H (P S) := fun H1 e1 Q q =>
  h H1 e1 _ fun v H2 e2 r => hi' H2 (e1.trans e2) _ fun H3 e3 => by
    obtain ⟨p, xs, rfl, hp, sp, l0, l1, al⟩ := r
    have hx : xs[i]? = some (xs[i]'(by omega)) := List.getElem?_eq_getElem _
    exact ⟨p, xs, _, _, rfl, rfl, SqL.of (e3 _ _ hp), atI_nat hx, q _ _ (e2.trans e3) (c.ex e3 (c.less (fun a h => .inl h) (al _ (List.mem_of_getElem? hx))))⟩
/-- what the checks take it for -/
theorem Tv.ro (h : Tv K C n S v H) : ∃ d, Ro K C (fun a => ¬ S a) H n v d ∧ ((Sm K H (n + 1) v v) ∨ d = .dict []) := by
  rcases h with ⟨d, r⟩ | ⟨a, dx, fs, rfl, h⟩
  · exact ⟨d, r.ro, .inl r.sm⟩
  · exact ⟨.dict [], .own h, .inr rfl⟩
end
end
end L2.U


set_option Elab.async false
set_option linter.all false
set_option maxRecDepth 100000
set_option maxHeartbeats 4000000
namespace L2.U
open PySem PySem.Spec PyProof.Rows Evl
section
variable {P : Program} {w : World} {K : PySem.W.Frag} {mg : Str → Option Value} {base : Heap}
theorem ev_pow {σ : L2.St} {G : Hp} (n : Nat) (h : n ≤ 50) : Ev (tOp (rI CPow fun i j => V.int (i ^ j.toNat)) (tC (V.int 10)) (tC (V.int (n : Int)))) σ G (.int (10 ^ n)) := by
  have c : CPow 10 (n : Int) := by
    show (0 : Int) ≤ (n : Int) ∧ (n : Int) ≤ 1000000 ∧ (10 : Int).natAbs < 2 ^ 64
    exact ⟨by omega, by omega, by decide⟩
  exact ev_op ev_c ev_c (rv_I (C := CPow) (g := fun (i j : Int) => V.int (i ^ j.toNat)) (i := 10) (j := (n : Int)) c)
section
variable {σ : L2.St} {G : Hp} {b : Addr} {C : Addr} {S : Addr → Prop}
theorem em_odd {o : Nat} (v8 : σ[8]? = some (some (.int (o : Int)))) (ho : o < 12) (hS : Ct S G) : EvM (tOp (rIxL K) (tLst (tCons (tC (V.int 0)) (tCons (tUn (rU fun i => V.int (-i)) (tC (V.int 1))) (tCons (tC (V.bl true)) (tCons (tC (V.bl false)) (tCons (tC V.non) (tCons (tC (V.str ("1"))) (tCons (tTup (tCons (tC (V.int 1)) tNil)) (tCons (tLst (tCons (tC (V.int 1)) tNil)) (tCons (tOp (rI0 fun i j => V.int (i + j)) (tOp (rI CPow fun i j => V.int (i ^ j.toNat)) (tC (V.int 10)) (tC (V.int 50))) (tC (V.int 1))) (tCons (tUn (rU fun i => V.int (-i)) (tOp (rI CPow fun i j => V.int (i ^ j.toNat)) (tC (V.int 10)) (tC (V.int 50)))) (tCons tDNewK (tCons (tC (V.str (""))) tNil))))))))))))) (tVar 8)) σ G (Bv K 1 S) :=
  em_at (lo := 12) (hi := 12) cl_bv (em_list cl_bv hS (en_cons cl_bv (bm_int _) <| en_cons cl_bv (bm_evi (ev_neg _)) <| en_cons cl_bv (bm_bl _) <| en_cons cl_bv (bm_bl _) <| en_cons cl_bv bm_non <| en_cons cl_bv (bm_str _ (by decide +kernel) (by decide +kernel)) <|
    en_cons cl_bv (em_imp (bm_tup1 (n := 0) (bm_int _)) fun v H' r => Bv.upT r (by omega)) <| en_cons cl_bv (em_imp (bm_lst1 (n := 0) hS (bm_int _)) fun v H' r => Bv.upL r (by omega)) <|
    en_cons cl_bv (bm_evi (i := 10 ^ 50 + 1) (ev_op (ev_pow 50 (by omega)) ev_c (rv_I0 (g := fun (i j : Int) => V.int (i + j))))) <| en_cons cl_bv (bm_evi (i := -(10 ^ 50)) (ev_un (ev_pow 50 (by omega)) fun H1 e Q k => ⟨_, rfl, k H1 (Ex.refl _)⟩)) <|
    en_cons cl_bv bm_dict <| en_cons cl_bv (bm_str _ (by decide +kernel) (by decide +kernel)) en_nil) (by omega)) (ev_var v8) ho
theorem em_listF {P : PV} {ta : TA} {k : Nat} (c : Cl P) (hS : Ct S G) (h : EvN ta σ G (P S) k) (hk : k ≤ 100) : EvM (tLst ta) σ G (fun v H => (∃ p, v = .ref p ∧ G p = none) ∧ LP P k k S v H) := fun H1 e1 Q q =>
  h H1 e1 _ fun vs H2 e2 l al => ⟨Nat.le_of_lt (small1000 (by omega)), fun p hp => q _ _ (e2.trans (Ex.new hp)) ⟨⟨p, rfl, fresh_back (e1.trans e2) hp⟩, p, vs, rfl, upd_same, hS.fresh (e1.trans e2) hp, by omega, by omega, fun x hx => c.ex (Ex.new hp) (c.new hp (al x hx))⟩⟩
theorem em_odds {at_ : Int} (row : EvM (tVar 6) σ G (LP (Bv K 0) 0 3 S)) (v5 : σ[5]? = some (some (.int at_))) (odd : EvM (tVar 8) σ G (Bv K 1 S)) (hS : Ct S G) : EvM (tLst (tCons (tOp rCat (tOp rCat (tSl (rSlL K) (tVar 6) tNoPart (tPart (tVar 5))) (tLst (tCons (tVar 8) tNil))) (tSl (rSlL K) (tVar 6) (tPart (tVar 5)) tNoPart)) (tCons (tLst (tCons (tVar 8) tNil)) (tCons (tCB (rTupOf K) (tCons (tOp rCat (tVar 6) (tLst (tCons (tVar 8) tNil))) tNil)) (tCons (tOp rCat (tOp rCat (tSl (rSlL K) (tVar 6) tNoPart (tPart (tVar 5))) (tLst (tCons (tVar 8) tNil))) (tSl (rSlL K) (tVar 6) (tPart (tOp (rI0 fun i j => V.int (i + j)) (tVar 5) (tC (V.int 1)))) tNoPart)) (tCons (tOp rRep (tLst (tCons (tC (V.int 1)) tNil)) (tC (V.int 17))) (tCons (tOp (rRepA K) (tTup (tCons (tC (V.int 2)) tNil)) (tC (V.int 17))) tNil))))))) σ G (fun v H => (∃ p, v = .ref p ∧ G p = none) ∧ LP (Tv K C 2) 6 6 S v H) := by
  have r1 : EvM (tVar 6) σ G (LP (Bv K 1) 0 3 S) := em_imp row fun v H' r => r.monoP fun S x H h => h.le (by omega)
  have o1 := bm_lst1 hS odd
  refine em_listF cl_tv hS (en_cons cl_tv ?_ <| en_cons cl_tv ?_ <| en_cons cl_tv ?_ <| en_cons cl_tv ?_ <| en_cons cl_tv ?_ <| en_cons cl_tv ?_ en_nil) (by omega)
  · exact bm_upL (em_cat cl_bv hS (em_cat cl_bv hS (em_sl cl_bv hS r1 eo_none (eo_some (ev_var v5))) o1 (by omega)) (em_sl cl_bv hS r1 (eo_some (ev_var v5)) eo_none) (by omega)) (by omega) (by omega)
  · exact bm_upL o1 (by omega) (by omega)
  · exact bm_upT (em_tupOf cl_bv (em_cat cl_bv hS r1 o1 (by omega))) (by omega) (by omega)
  · exact bm_upL (em_cat cl_bv hS (em_cat cl_bv hS (em_sl cl_bv hS r1 eo_none (eo_some (ev_var v5))) o1 (by omega)) (em_sl cl_bv hS r1 (eo_some (ev_op (ev_var v5) ev_c (rv_I0 (g := fun (i j : Int) => V.int (i + j))))) eo_none) (by omega)) (by omega) (by omega)
  · exact bm_upL (em_repL (m := 17) cl_bv hS (bm_lst1 (n := 0) hS (bm_int _)) ev_c (by omega) (by omega) (by omega)) (by omega) (by omega)
  · exact bm_upT (em_repT (m := 17) cl_bv (bm_tup1 (n := 0) (bm_int _)) ev_c (by omega) (by omega) (by omega)) (by omega) (by omega)
theorem em_more (T : TK K mg) (row : EvM (tVar 6) σ G (LP (Bv K 0) 0 3 S)) (hS : Ct S G) : EvM (tLst (tCons (tOp rRep (tLst (tCons (tC (V.int 1)) tNil)) (tC (V.int 16))) (tCons (tLst (tCons (tOp (rI CPow fun i j => V.int (i ^ j.toNat)) (tC (V.int 10)) (tC (V.int 50))) tNil)) (tCons (tOp (rRepA K) (tTup (tCons (tC (V.int 1)) tNil)) (tC (V.int 16))) (tCons (tC V.non) (tCons (tC (V.int 0)) (tCons (tC (V.str ("12"))) (tCons tDNewK (tCons (tC (V.bl true)) (tCons (tLst (tCons (tVar 6) tNil)) (tCons (tMakeX T.C (spLnInit T.C) (fun _ => E0) (tCons (tTup (tCons (tC (V.str ("wires"))) (tCons (tC (V.int 1)) tNil))) tNil)) tNil))))))))))) σ G (LP (Tv K T.C 2) 10 10 S) := by
  refine em_list cl_tv hS (en_cons cl_tv ?_ <| en_cons cl_tv ?_ <| en_cons cl_tv ?_ <| en_cons cl_tv (tm (n := 0) bm_non (by omega)) <| en_cons cl_tv (tm (n := 0) (bm_int _) (by omega)) <| en_cons cl_tv (tm (n := 0) (bm_str _ (by decide +kernel) (by decide +kernel)) (by omega)) <| en_cons cl_tv (tm (n := 0) bm_dict (by omega)) <| en_cons cl_tv (tm (n := 0) (bm_bl _) (by omega)) <| en_cons cl_tv ?_ <| en_cons cl_tv (bm_make T (by decide) (by decide)) en_nil) (by omega)
  · exact bm_upL (em_repL (m := 16) cl_bv hS (bm_lst1 (n := 0) hS (bm_int _)) ev_c (by omega) (by omega) (by omega)) (by omega) (by omega)
  · exact bm_upL (bm_lst1 (n := 0) hS (bm_evi (ev_pow 50 (by omega)))) (by omega) (by omega)
  · exact bm_upT (em_repT (m := 16) cl_bv (bm_tup1 (n := 0) (bm_int _)) ev_c (by omega) (by omega) (by omega)) (by omega) (by omega)
  · exact bm_upL (bm_lst1 (n := 1) hS (em_imp row fun v H' r => Bv.upL r (by omega))) (by omega) (by omega)
theorem em_owires (T : TK K mg) (hS : Ct S G) : EvM (tLst (tCons (tUn (rU fun i => V.int (-i)) (tC (V.int 1))) (tCons (tC (V.int 25)) (tCons (tC (V.int 26)) (tCons (tC (V.bl true)) (tCons (tC (V.bl false)) (tCons (tC V.non) (tCons (tC (V.str ("3"))) (tCons (tLst (tCons (tC (V.int 3)) tNil)) (tCons (tTup (tCons (tC (V.int 3)) tNil)) (tCons tDNewK (tCons (tOp (rI CPow fun i j => V.int (i ^ j.toNat)) (tC (V.int 10)) (tC (V.int 40))) (tCons (tLst tNil) (tCons (tMakeX T.C (spLnInit T.C) (fun _ => E0) (tCons (tTup (tCons (tC (V.str ("wires"))) (tCons (tC (V.int 3)) tNil))) tNil)) tNil)))))))))))))) σ G (LP (Tv K T.C 2) 13 13 S) :=
  em_list cl_tv hS (en_cons cl_tv (tm (n := 0) (bm_evi (ev_neg _)) (by omega)) <| en_cons cl_tv (tm (n := 0) (bm_int _) (by omega)) <| en_cons cl_tv (tm (n := 0) (bm_int _) (by omega)) <| en_cons cl_tv (tm (n := 0) (bm_bl _) (by omega)) <| en_cons cl_tv (tm (n := 0) (bm_bl _) (by omega)) <| en_cons cl_tv (tm (n := 0) bm_non (by omega)) <| en_cons cl_tv (tm (n := 0) (bm_str _ (by decide +kernel) (by decide +kernel)) (by omega)) <|
    en_cons cl_tv (bm_upL (bm_lst1 (n := 0) hS (bm_int _)) (by omega) (by omega)) <| en_cons cl_tv (bm_upT (bm_tup1 (n := 0) (bm_int _)) (by omega) (by omega)) <| en_cons cl_tv (tm (n := 0) bm_dict (by omega)) <| en_cons cl_tv (tm (n := 0) (bm_evi (ev_pow 40 (by omega))) (by omega)) <| en_cons cl_tv (tm (n := 1) (bm_lst0 hS) (by omega)) <| en_cons cl_tv (bm_make T (by decide) (by decide)) en_nil) (by omega)
/-- a list of drawn numbers -/
theorem lc_draw {j N : Nat} {vs : List Nat} {many few : Int} {Q : VK} (v0 : σ[0]? = some (some (.ref b))) (B : BoxAt G b (N + few.toNat + 1)) (hw : ∀ x, wipe ((wipe σ vs).set j (some x)) vs = wipe σ vs) (w0 : ∀ x, ((wipe σ vs).set j (some x))[0]? = some (some (.ref b)))
    (m0 : 0 < many) (m1 : many < 1000) (f0 : 0 < few) (f1 : few < 100)
    (q : ∀ (p : Addr) (ns : List Int) G', G p = none → But b G G' → BoxAt G' b N → G' p = some (.lst (ns.map V.int)) → (ns.length : Int) < few → Q (.ref p) G') :
    tLc (iRng1 (tCons (tCall spTake [] E0 (tCons (tVar 0) (tCons (tC (V.int few)) tNil))) tNil)) (gName j) tYes (tOp (rI0 fun i j => V.int (i + j)) (tC (V.int 1)) (tCall spTake [] E0 (tCons (tVar 0) (tCons (tC (V.int many)) tNil)))) vs σ G Q := by
  refine ⟨_, v0, b, few, N + few.toNat, rfl, f0, by omega, B, fun m G2 a0 a1 B2 k2 => ⟨m, rfl, by omega, by omega, fun D hD => ?_⟩⟩
  have Db : D ≠ b := B2.ne hD
  have hD0 : G D = none := by
    apply Classical.byContradiction
    intro no
    obtain ⟨o, ho⟩ := Option.ne_none_iff_exists'.mp no
    have := k2 _ _ Db ho
    rw [hD] at this
    cases this
  refine lc_range (lo := 0) (n := m.toNat) (fun i H' => But b G H' ∧ BoxAt H' b (N + few.toNat - i) ∧ ∃ ns : List Int, H' D = some (.lst (ns.map V.int)) ∧ ns.length = i) ?_ (fun i H' hi p => ⟨hw _, ?_⟩) (fun H' p => ?_)
  · exact ⟨butMut k2 hD0, (box_mut B2 Db).le (by omega), [], upd_same, rfl⟩
  · obtain ⟨kb, B3, ns, hn, hl⟩ := p
    refine tyes ?_
    refine ⟨_, w0 _, b, many, N + few.toNat - (i + 1), rfl, m0, by omega, B3.le (by omega), fun r H4 r0 r1 B4 k4 => ⟨_, _, rfl, rfl, ns.map V.int, k4 _ _ Db hn, small1000 (by rw [List.length_map]; omega), ?_⟩⟩
    refine ⟨butMut (kb.trans k4) hD0, box_mut B4 Db, ns ++ [1 + r], ?_, by rw [List.length_append, hl]; rfl⟩
    rw [upd_same, List.map_append]
    rfl
  · obtain ⟨kb, B3, ns, hn, hl⟩ := p
    exact q D ns H' hD0 kb (B3.le (by omega)) hn (by omega)
end
end
end L2.U


set_option Elab.async false
set_option linter.all false
set_option maxRecDepth 100000
set_option maxHeartbeats 4000000
namespace L2.U
open PySem PySem.Spec PyProof.Rows Evl
section
variable {P : Program} {w : World} {K : PySem.W.Frag} {mg : Str → Option Value} {base : Heap}
theorem seq_par {i j : Nat} {ta : TA} {rest : TS} {D : Ends} {σ : L2.St} {H : Hp} (h : ta σ H fun vs H1 => ∃ v w, vs = [v, w] ∧ rest D ((σ.set i (some v)).set j (some w)) H1) : tSeq (tPar i j ta) rest D σ H := h
theorem cons_ {te : TE} {ta : TA} {σ : L2.St} {H : Hp} {Q : List V → Hp → Prop} (h : te σ H fun v H1 => ta σ H1 fun vs H2 => Q (v :: vs) H2) : tCons te ta σ H Q := h
theorem seq_drop {te : TE} {rest : TS} {D : Ends} {σ : L2.St} {H : Hp} (h : te σ H fun v H1 => rest D σ H1) : tSeq (tDrop te) rest D σ H := h
theorem seq_if {t : TT} {a rest : TS} {b : TS} {D : Ends} {σ : L2.St} {H : Hp} (h : tIfS t a b { D with nx := rest D } σ H) : tSeq (tIfS t a b) rest D σ H := h
theorem em_if {t : TT} {a b : TE} {σ : L2.St} {H : Hp} {R : V → Hp → Prop} {x : Bool} (ht : EvT t σ H x) (ha : EvM a σ H R) (hb : EvM b σ H R) : EvM (tIf t a b) σ H R := fun H1 e1 Q q => ht H1 e1 _ fun H2 e2 => by
  cases x with
  | true => exact iteT (ha H2 (e1.trans e2) Q fun v H3 e3 r => q v H3 (e2.trans e3) r)
  | false => exact iteF (hb H2 (e1.trans e2) Q fun v H3 e3 r => q v H3 (e2.trans e3) r)
theorem lp_row {G : Hp} {S : Addr → Prop} {p : Addr} {ns : List Int} (h : G p = some (.lst (ns.map V.int))) (np : ¬ S p) (l : ns.length ≤ 3) : LP (Bv K 0) 0 3 S (.ref p) G :=
  ⟨p, ns.map V.int, rfl, h, np, Nat.zero_le _, by rw [List.length_map]; exact l, fun x hx => by
    obtain ⟨z, _, rfl⟩ := List.mem_map.mp hx
    exact ⟨_, .int z⟩⟩
theorem ct_b {G : Hp} {b : Addr} {n : Nat} (B : BoxAt G b n) : Ct (isB b) G := fun x hx => by
  obtain ⟨zs, hz⟩ := box_lst B
  exact ⟨_, by rw [show x = b from hx]; exact hz⟩
theorem lp_mt {P : PV} {lo hi : Nat} {S : Addr → Prop} {v : V} {G G' : Hp} {b : Addr} {n : Nat} (c : Cl P) (hS : S b) (B : BoxAt G b n) (k : But b G G') (h : LP P lo hi S v G) : LP P lo hi S v G' := by
  obtain ⟨zs, hz⟩ := box_lst B
  exact (cl_lp c).mt hS hz k h
theorem but_none {b p : Addr} {G G' : Hp} (k : But b G G') (pb : p ≠ b) (h : G' p = none) : G p = none := by
  apply Classical.byContradiction
  intro no
  obtain ⟨o, ho⟩ := Option.ne_none_iff_exists'.mp no
  have := k _ _ pb ho
  rw [h] at this
  cases this
theorem very_of {C : Addr} {H H' H2 : Hp} {x y : V} {d : PyData} (c : Cy K C H x y d H') (s : Sm K H 3 x x ∨ d = .dict []) (e : Ex H H') (e2 : Ex H' H2) : (Vm H2 y ∧ ∃ p, y = .ref p ∧ H p = none) ∨ Vf K C H2 y := by
  rcases c with ⟨p, xs, rfl, hp, hn, hz⟩ | ⟨p, rfl, hp, hn⟩ | ⟨rfl, a, dx, fs, rfl, ha⟩ | ⟨rfl, nd, t, ty, ht⟩
  · exact .inl ⟨.inl ⟨p, xs, rfl, e2 _ _ hp, hz⟩, p, rfl, hn⟩
  · exact .inl ⟨.inr ⟨p, rfl, e2 _ _ hp⟩, p, rfl, hn⟩
  · exact .inr (.inl ⟨a, dx, fs, rfl, e2 _ _ (e _ _ ha)⟩)
  · rcases s with s | s
    · exact .inr (.inr ⟨(s.ex (e.trans e2)).le (by omega), t, ty _ (e.trans e2), ht⟩)
    · exact absurd s nd
theorem fin_mt {b p : Addr} {G G14 G20 G21 : Hp} {n : Nat} (k : But b G G14) (e : Ex G14 G20) (hp : G14 p = none) (B : BoxAt G14 b n) (w : ∀ c o, V.ref p ≠ .ref c → G20 c = some o → G21 c = some o) : But b G G21 ∧ BoxAt G21 b n := by
  refine ⟨fun c o cb h => ?_, ?_⟩
  · have := k _ _ cb h
    exact w c o (fun z => by cases z; rw [hp] at this; cases this) (e _ _ this)
  · obtain ⟨d, m, c, f, h, r⟩ := B
    exact ⟨d, m, c, f, w b _ (fun z => by cases z; rw [hp] at h; cases h) (e _ _ h), r⟩
def spDoors : Sp := fun vs H Q _ => ∃ (b : Addr) (named : Int) (k : Nat), vs = [.ref b, .int named] ∧ BoxAt H b (k + 200) ∧ ∀ H', But b H H' → BoxAt H' b k → Q (.bl true) H'
theorem ok_law_doors_right (T : TK K mg) : FnOk P w K mg base CX0 11 T.law_doors_right.a T.law_doors_right.fd ["box", "named"] spDoors := by
  refine T.law_doors_right.F.ok sc_law_doors_right (fun vs H Q E h => ?_) (fun cdv A outer s H vs Q E hr h => ?_)
  · obtain ⟨b, named, k, rfl, _⟩ := h; rfl
  obtain ⟨b, named, k, rfl, hB, q⟩ := h
  refine ⟨_, (pss_cons (ps_for PassesOwn.never rfl (pi_range1 rfl T.z_range (pa_cons pe_int pa_nil)) (pg_name (i := 2) sc_law_doors_right.nd rfl (Or.inl rfl)) (pss_cons (ps_par (i := 3) (j := 4) (by rfl) sc_law_doors_right.nd rfl rfl (by decide) rfl rfl (pa_cons (pe_op op_mod (pe_callTy call_int1 (by rfl) T.z_int (by decide +kernel) (pa_cons (pv 2) pa_nil)) pe_int) (pa_cons (pe_call (ok_law_take T.toTA1) (hr.mono (by decide)) rfl T.law_take.m T.law_take.F.kp T.law_take.b .nil pass0 (pa_cons (pv 0) (pa_cons pe_int pa_nil))) pa_nil)) (by rfl))
    (pss_cons (ps_par (i := 6) (j := 7) (by rfl) sc_law_doors_right.nd rfl rfl (by decide) rfl rfl (pa_cons (pe_lc (own := [("at", 5)]) (g := gName 5) (by rfl) sc_law_doors_right.nd (pi_range1 rfl T.z_range (pa_cons (pe_call (ok_law_take T.toTA1) (hr.mono (by decide)) rfl T.law_take.m T.law_take.F.kp T.law_take.b .nil pass0 (pa_cons (pv 0) (pa_cons pe_int pa_nil))) pa_nil)) (blkOk_by (own := [("at", 5)]) (N := ["box", "named", "turn", "door", "way", "at", "row", "wires", "odd", "odds", "pick", "other", "odd_wires", "passed", "refused", "told"]) (sc := defScope s_law_doors_right) (by decide +kernel)) (fun _ _ _ _ _ => (pg_name (i := 5) sc_law_doors_right.nd rfl (Or.inl rfl))) (fun _ _ _ _ _ => pts_nil) (fun _ _ _ _ _ => (pe_op op_add pe_int (pe_call (ok_law_take T.toTA1) (hr.mono (by decide)) rfl T.law_take.m T.law_take.F.kp T.law_take.b .nil pass0 (pa_cons (pv 0) (pa_cons pe_int pa_nil)))))) (pa_cons (pe_ix (kixl K) (pe_lst (pa_cons pe_int (pa_cons pe_int (pa_cons pe_int pa_nil)))) (pe_call (ok_law_take T.toTA1) (hr.mono (by decide)) rfl T.law_take.m T.law_take.F.kp T.law_take.b .nil pass0 (pa_cons (pv 0) (pa_cons pe_int pa_nil))) (fun _ _ => rfl)) pa_nil)) (by rfl))
    (pss_cons (ps_par (i := 5) (j := 8) (by rfl) sc_law_doors_right.nd rfl rfl (by decide) rfl rfl (pa_cons (pe_call (ok_law_take T.toTA1) (hr.mono (by decide)) rfl T.law_take.m T.law_take.F.kp T.law_take.b .nil pass0 (pa_cons (pv 0) (pa_cons (pe_op op_add (pe_callB (klen K) (by rfl) T.z_len (by decide +kernel) (pa_cons (pv 6) pa_nil)) pe_int) pa_nil))) (pa_cons (pe_call (ok_law_take T.toTA1) (hr.mono (by decide)) rfl T.law_take.m T.law_take.F.kp T.law_take.b .nil pass0 (pa_cons (pv 0) (pa_cons pe_int pa_nil))) pa_nil)) (by rfl))
    (pss_cons (ps_set (i := 8) sc_law_doors_right.nd rfl (Or.inl rfl) (pe_ix (kixl K) (pe_lst (pa_cons pe_int (pa_cons (pe_un un_neg pe_int) (pa_cons pe_bl (pa_cons pe_bl (pa_cons pe_non (pa_cons pe_str (pa_cons (pe_tup (pa_cons pe_int pa_nil)) (pa_cons (pe_lst (pa_cons pe_int pa_nil)) (pa_cons (pe_op op_add (pe_op op_pow pe_int pe_int) pe_int) (pa_cons (pe_un un_neg (pe_op op_pow pe_int pe_int)) (pa_cons pe_dnewK (pa_cons pe_str pa_nil))))))))))))) (pv 8) (fun _ _ => rfl)))
    (pss_cons (ps_set (i := 9) sc_law_doors_right.nd rfl (Or.inl rfl) (pe_lst (pa_cons (pe_op op_cat (pe_op op_cat (pe_slice (kslL K) (pv 6) po_none (po_some (pv 5))) (pe_lst (pa_cons (pv 8) pa_nil))) (pe_slice (kslL K) (pv 6) (po_some (pv 5)) po_none)) (pa_cons (pe_lst (pa_cons (pv 8) pa_nil)) (pa_cons (pe_callTy (ktuple K) (by rfl) T.z_tuple (by decide +kernel) (pa_cons (pe_op op_cat (pv 6) (pe_lst (pa_cons (pv 8) pa_nil))) pa_nil)) (pa_cons (pe_op op_cat (pe_op op_cat (pe_slice (kslL K) (pv 6) po_none (po_some (pv 5))) (pe_lst (pa_cons (pv 8) pa_nil))) (pe_slice (kslL K) (pv 6) (po_some (pe_op op_add (pv 5) pe_int)) po_none)) (pa_cons (pe_op op_rep (pe_lst (pa_cons pe_int pa_nil)) pe_int) (pa_cons (pe_op (krepA K) (pe_tup (pa_cons pe_int pa_nil)) pe_int) pa_nil))))))))
    (pss_cons (ps_expr (pe_bm PySem.F.plainAttrs_list PySem.F.slot_list_extend PySem.F.type_list_extend mt_extend (pv 9) (pa_cons (pe_lst (pa_cons (pe_op op_rep (pe_lst (pa_cons pe_int pa_nil)) pe_int) (pa_cons (pe_lst (pa_cons (pe_op op_pow pe_int pe_int) pa_nil)) (pa_cons (pe_op (krepA K) (pe_tup (pa_cons pe_int pa_nil)) pe_int) (pa_cons pe_non (pa_cons pe_int (pa_cons pe_str (pa_cons pe_dnewK (pa_cons pe_bl (pa_cons (pe_lst (pa_cons (pv 6) pa_nil)) (pa_cons (by exact (pe_makeX T.mkc (ok_Line_init T) (hr.mono (by decide)) rfl T.gL T.m_init.b (fun σ => pass0At) (pa_cons (pe_tup (pa_cons pe_str (pa_cons pe_int pa_nil))) pa_nil))) pa_nil))))))))))) pa_nil)))
    (pss_cons (ps_par (i := 10) (j := 11) (by rfl) sc_law_doors_right.nd rfl rfl (by decide) rfl rfl (pa_cons (pe_call (ok_law_take T.toTA1) (hr.mono (by decide)) rfl T.law_take.m T.law_take.F.kp T.law_take.b .nil pass0 (pa_cons (pv 0) (pa_cons pe_int pa_nil))) (pa_cons (pe_call (ok_law_take T.toTA1) (hr.mono (by decide)) rfl T.law_take.m T.law_take.F.kp T.law_take.b .nil pass0 (pa_cons (pv 0) (pa_cons pe_int pa_nil))) pa_nil)) (by rfl))
    (pss_cons (ps_set (i := 6) sc_law_doors_right.nd rfl (Or.inl rfl) (pe_ifExp (PW.pt (pw_or (pt_cmpR op_eq (pe_op op_mod (pe_callTy call_int1 (by rfl) T.z_int (by decide +kernel) (pa_cons (pv 4) pa_nil)) pe_int) pe_int (nomark _)) (pw_or1 (pt_cmpR op_eq (pv 3) pe_int (nomark _))))) (pe_ix (kixl K) (pv 9) (pv 10) (fun _ _ => rfl)) (pv 6)))
    (pss_cons (ps_set (i := 12) sc_law_doors_right.nd rfl (Or.inl rfl) (pe_lst (pa_cons (pe_un un_neg pe_int) (pa_cons pe_int (pa_cons pe_int (pa_cons pe_bl (pa_cons pe_bl (pa_cons pe_non (pa_cons pe_str (pa_cons (pe_lst (pa_cons pe_int pa_nil)) (pa_cons (pe_tup (pa_cons pe_int pa_nil)) (pa_cons pe_dnewK (pa_cons (pe_op op_pow pe_int pe_int) (pa_cons (pe_lst pa_nil) (pa_cons (by exact (pe_makeX T.mkc (ok_Line_init T) (hr.mono (by decide)) rfl T.gL T.m_init.b (fun σ => pass0At) (pa_cons (pe_tup (pa_cons pe_str (pa_cons pe_int pa_nil))) pa_nil))) pa_nil)))))))))))))))
    (pss_cons (ps_set (i := 7) sc_law_doors_right.nd rfl (Or.inl rfl) (pe_ifExp (PW.pt (pw_or (PW.pt (pw_and (pt_cmpR op_gt (pv 4) pe_int (nomark _)) (pw_and1 (pt_cmpR op_ne (pv 3) pe_int (nomark _))))) (pw_or1 (pt_cmpR op_eq (pv 3) pe_int (nomark _))))) (pe_ix (kixl K) (pv 12) (pv 11) (fun _ _ => rfl)) (pv 7)))
    (pss_cons (ps_par (i := 13) (j := 14) (by rfl) sc_law_doors_right.nd rfl rfl (by decide) rfl rfl (pa_cons (pe_lst (pa_cons (pe_call (ok_law_copy T) (hr.mono (by decide)) rfl T.law_copy.m T.law_copy.F.kp T.law_copy.b .nil pass0 (pa_cons (pv 6) pa_nil)) (pa_cons (pe_call (ok_law_copy T) (hr.mono (by decide)) rfl T.law_copy.m T.law_copy.F.kp T.law_copy.b .nil pass0 (pa_cons (pv 7) pa_nil)) pa_nil))) (pa_cons (pe_call (ok_law_refused T) (hr.mono (by decide)) rfl T.law_refused.m T.law_refused.F.kp T.law_refused.b .nil pass0 (pa_cons (pv 3) (pa_cons (pe_lst (pa_cons (pv 6) (pa_cons (pv 7) pa_nil))) pa_nil))) pa_nil)) (by rfl))
    (pss_cons (ps_set (i := 15) sc_law_doors_right.nd rfl (Or.inl rfl) (pe_call (ok_law_told T) (hr.mono (by decide)) rfl T.law_told.m T.law_told.F.kp T.law_told.b .nil pass0 (pa_cons (pv 3) (pa_cons (pe_op op_mod (pe_callTy call_int1 (by rfl) T.z_int (by decide +kernel) (pa_cons (pe_op op_add (pv 1) (pe_op op_fdiv (pv 2) pe_int)) pa_nil)) pe_int) (pa_cons (pe_ix (kixl K) (pv 13) pe_int (fun _ _ => rfl)) (pa_cons (pe_ix (kixl K) (pv 13) pe_int (fun _ _ => rfl)) pa_nil))))))
    (pss_cons (ps_if (PW.pt (pw_and (pt_cmpR op_isN (pv 14) pe_non (nomark _)) (pw_and1 (pt_cmpR op_ne (pe_ix (kixt K) (pv 15) pe_int (fun _ _ => rfl)) pe_str (nomark _))))) (pss_one (ps_ret pe_bl)) pss_nil)
    (pss_one (ps_if (PW.pt (pw_and (pt_cmpR op_notN (pv 14) pe_non (nomark _)) (pw_and1 (PW.pt (pw_or (pt_cmpR op_ne (pe_ix (kixt K) (pv 15) pe_int (fun _ _ => rfl)) (pe_ix (kixt K) (pv 14) pe_int (fun _ _ => rfl)) (nomark _)) (pw_or1 (pt_not (pt_val (pe_call (ok_law_very T) (hr.mono (by decide)) rfl T.law_very.m T.law_very.F.kp T.law_very.b .nil pass0 (pa_cons (pe_ix (kixt K) (pv 15) pe_int (fun _ _ => rfl)) (pa_cons (pe_ix (kixl K) (pv 13) (pe_ix (kixt K) (pv 14) pe_int (fun _ _ => rfl)) (fun _ _ => rfl)) pa_nil))))))))))) (pss_one (ps_ret pe_bl)) pss_nil))))))))))))))))
    (pss_one (ps_ret pe_bl))), ?_⟩
  refine ⟨15, rfl, by decide, by decide, for_range (lo := 0) (n := 15) (fun i σ G => But b H G ∧ BoxAt G b (k + 12 * (15 - i)) ∧ ∃ v2 v3 v4 v5 v6 v7 v8 v9 v10 v11 v12 v13 v14 v15, σ = [some (.ref b), some (.int named), v2, v3, v4, v5, v6, v7, v8, v9, v10, v11, v12, v13, v14, v15]) ⟨But.of (Ex.refl _), hB.le (by omega), _, _, _, _, _, _, _, _, _, _, _, _, _, _, rfl⟩ ?_ ?_⟩
  · rintro i σ G hi ⟨kG, BG, v2, v3, v4, v5, v6, v7, v8, v9, v10, v11, v12, v13, v14, v15, rfl⟩
    have hi15 : i < 15 := hi
    obtain ⟨N, hN⟩ : ∃ N, k + 12 * (15 - i) = N + 12 ∧ N = k + 12 * (15 - (i + 1)) := ⟨_, by omega, rfl⟩
    rw [hN.1] at BG
    obtain ⟨door, hdoor⟩ : ∃ d : Int, ((0 : Int) + (i : Int)) % 5 = d := ⟨_, rfl⟩
    have dr := @fmod_in ((0 : Int) + (i : Int)) 5 (by decide)
    rw [hdoor] at dr
    refine ⟨_, rfl, .inl ⟨_, rfl, _, _, rfl, rfl, (by show (0 : Int) < 5; decide), ?_⟩⟩
    refine ⟨_, rfl, b, 4, N + 11, rfl, by decide, by decide, BG, fun way G1 w0 w1 B1 k1 => ⟨.int door, _, by rw [← hdoor], ?_⟩⟩
    dsimp only
    refine seq_par (cons_ (lc_draw (N := N + 6) rfl (show BoxAt G1 b (N + 6 + (4 : Int).toNat + 1) from B1) (fun x => rfl) (fun x => rfl) (by decide) (by decide) (by decide) (by decide) fun p6 ns G2 hp6 k2 B2 h6 l6 => ?_))
    have p6b : p6 ≠ b := B1.ne hp6
    refine ⟨three_le, fun l1 hl1 => ⟨_, rfl, b, 3, N + 5, rfl, by decide, by decide, B2.ex (Ex.new hl1), fun t3 G3 t30 t31 B3 k3 => ?_⟩⟩
    obtain ⟨tn, rfl, htn⟩ : ∃ t : Nat, t3 = (t : Int) ∧ t < 3 := ⟨t3.toNat, by omega, by omega⟩
    obtain ⟨W, hW⟩ : ∃ W : Int, [V.int 0, .int 24, .int 3][tn]? = some (.int W) := by
      rcases (by omega : tn = 0 ∨ tn = 1 ∨ tn = 2) with rfl | rfl | rfl
      · exact ⟨_, rfl⟩
      · exact ⟨_, rfl⟩
      · exact ⟨_, rfl⟩
    have k13 : But b G2 G3 := (But.of (Ex.new hl1)).trans k3
    have h63 := k13 _ _ p6b h6
    refine ⟨l1, _, _, .int W, rfl, rfl, SqL.of (k3 _ _ (B2.ne hl1) upd_same), atI_nat hW, ⟨_, _, rfl, ?_⟩⟩
    clear k3
    refine seq_par (cons_ ?_)
    refine ⟨_, rfl, _, rfl, _, ns.length, rfl, .inl ⟨_, SqL.of h63, (List.length_map ..).symm⟩, _, _, rfl, rfl, b, (ns.length : Int) + 1, N + 4, rfl, by omega, by omega, B3, fun at_ G4 a0 a1 B4 k4 => ?_⟩
    refine ⟨_, rfl, b, 12, N + 3, rfl, by decide, by decide, B4, fun o G5 o0 o1 B5 k5 => ?_⟩
    obtain ⟨on, rfl, hon⟩ : ∃ t : Nat, o = (t : Int) ∧ t < 12 := ⟨o.toNat, by omega, by omega⟩
    refine ⟨_, _, rfl, ?_⟩
    have k15 : But b G G5 := ((k1.trans k2).trans k13).trans (k4.trans k5)
    have h65 := k5 _ _ p6b (k4 _ _ p6b h63)
    clear k4 h63
    refine seq_asg (em_odd (S := isB b) (o := on) rfl hon (ct_b B5) G5 (Ex.refl _) _ fun x8 G6 e6 r8 => gn_ ?_)
    have h66 := e6 _ _ h65
    have B6 := B5.ex e6
    have l3 : ns.length ≤ 3 := by omega
    refine seq_asg (em_odds (C := T.C) (S := isB b) (em_of (cl_lp cl_bv) (ev_var rfl) (lp_row h66 p6b l3)) rfl (em_of cl_bv (ev_var rfl) r8) (ct_b B6) G6 (Ex.refl _) _ fun x9 G7 e7 r9 => gn_ ?_)
    obtain ⟨⟨p9, rfl, f9⟩, p9', xs9, z9, h9, n9, l90, l91, al9⟩ := r9
    cases z9
    have p96 : p6 ≠ p9 := fun z => by rw [z, f9] at h66; cases h66
    have p9b : p9 ≠ b := n9
    have B7 := B6.ex e7
    have ct7 : Ct (addS (isB b) p9) G7 := (ct_b B7).add h9
    refine seq_drop ⟨_, rfl, .inl ⟨rfl, _, SqL.of h9⟩, em_more (S := addS (isB b) p9) T (em_of (cl_lp cl_bv) (ev_var rfl) (lp_row (e7 _ _ h66) (fun z => z.elim p6b p96) l3)) ct7 G7 (Ex.refl _) _ fun xm G8 e8 rm => ?_⟩
    obtain ⟨pm, xsm, rfl, hm, nm, m0, m1, alm⟩ := rm
    refine ⟨p9, pm, xs9, xsm, rfl, rfl, e8 _ _ h9, hm, Nat.le_of_lt (small1000 (by omega)), ?_⟩
    have lp9 : LP (Tv K T.C 2) 16 16 (isB b) (.ref p9) (upd G8 p9 (.lst (xs9 ++ xsm))) := ⟨p9, _, rfl, upd_same, n9, by rw [List.length_append]; omega, by rw [List.length_append]; omega, fun x hx => by
      rcases List.mem_append.mp hx with hx | hx
      · exact cl_tv.mt (.inr rfl) (e8 _ _ h9) But.upd (cl_tv.ex e8 (al9 x hx))
      · exact cl_tv.mt (.inr rfl) (e8 _ _ h9) But.upd (cl_tv.less (fun a h => .inl h) (alm x hx))⟩
    have B9 : BoxAt (upd G8 p9 (.lst (xs9 ++ xsm))) b (N + 3) := box_mut (B7.ex e8) p9b
    have h69 : upd G8 p9 (.lst (xs9 ++ xsm)) p6 = some (.lst (ns.map V.int)) := by rw [upd_ne p96]; exact e8 _ _ (e7 _ _ h66)
    have k9 : But b G (upd G8 p9 (.lst (xs9 ++ xsm))) := by
      exact butMut ((k15.trans (But.of e6)).trans (But.of (e7.trans e8))) (but_none (k15.trans (But.of e6)) p9b f9)
    generalize upd G8 p9 (.lst (xs9 ++ xsm)) = G9 at lp9 B9 h69 k9 ⊢
    clear al9 alm hm h9 f9 r8 ct7 h66 h65
    refine seq_par ⟨_, rfl, b, 16, N + 2, rfl, by decide, by decide, B9, fun pk G10 pk0 pk1 B10 k10 => ⟨_, rfl, b, 13, N + 1, rfl, by decide, by decide, B10, fun ot G11 ot0 ot1 B11 k11 => ?_⟩⟩
    obtain ⟨pn, rfl, hpn⟩ : ∃ t : Nat, pk = (t : Int) ∧ t < 16 := ⟨pk.toNat, by omega, by omega⟩
    obtain ⟨wn, rfl, hwn⟩ : ∃ t : Nat, ot = (t : Int) ∧ t < 13 := ⟨ot.toNat, by omega, by omega⟩
    refine ⟨_, _, rfl, ?_⟩
    have k11' := k10.trans k11
    have lp11 := lp_mt (S := isB b) cl_tv rfl B9 k11' lp9
    have h611 := k11' _ _ p6b h69
    have r6 : Tv K T.C 2 (isB b) (.ref p6) G11 := .inl ((Bv.upL (lp_row h611 p6b l3) (by omega)).le (by omega))
    refine seq_asg (em_if (et_or (et_test (ev_op (x := .int (way % 2)) (y := .int 0) (fun H1 e1 Q q => ⟨_, rfl, .inl ⟨_, rfl, _, _, rfl, rfl, (by show (0 : Int) < 2; decide), q H1 (Ex.refl _)⟩⟩) ev_c (rv_eq (x := .int (way % 2)) (y := .int 0) rfl))) fun _ => et_test (ev_op (x := .int door) (y := .int 3) (ev_var rfl) ev_c (rv_eq (x := .int door) (y := .int 3) rfl))) (em_at cl_tv (em_of (cl_lp cl_tv) (ev_var rfl) lp11) (ev_var rfl) hpn) (em_of cl_tv (ev_var rfl) r6) G11 (Ex.refl _) _ fun x G12 e12 rx => gn_ ?_)
    clear r6 lp11 lp9 h611 h69 m0 m1 nm l90 l91 B7 B6 B5 B4 B3 B2 B1 BG k10 k11 k5 k13 k1 k2 n9 p96 h6 hp6 hl1
    generalize (0 : Int) + (i : Int) = turn
    show tSeq _ _ _ [some (.ref b), some (.int named), some (.int turn), some (.int door), some (.int way), some (.int at_), some x, some (.int W), some x8, some (.ref p9), some (.int (pn : Int)), some (.int (wn : Int)), v12, v13, v14, v15] G12
    have B12 := B11.ex e12
    refine seq_asg (em_owires (S := isB b) T (ct_b B12) G12 (Ex.refl _) _ fun x12 G13 e13 r12 => gn_ ?_)
    refine seq_asg (em_if (et_or (et_and (et_test (ev_op (x := .int way) (y := .int 1) (ev_var rfl) ev_c (rv_I0 (g := fun (i j : Int) => V.bl (decide (j < i)))))) fun _ => et_test (ev_op (x := .int door) (y := .int 3) (ev_var rfl) ev_c (rv_ne (x := .int door) (y := .int 3) rfl))) fun _ => et_test (ev_op (x := .int door) (y := .int 4) (ev_var rfl) ev_c (rv_eq (x := .int door) (y := .int 4) rfl)))
      (em_at cl_tv (em_of (cl_lp cl_tv) (ev_var rfl) r12) (ev_var rfl) hwn) (em_of cl_tv (ev_var rfl) (.inl ⟨_, .int W⟩)) G13 (Ex.refl _) _ fun y G14 e14 ry => gn_ ?_)
    show tSeq _ _ _ [some (.ref b), some (.int named), some (.int turn), some (.int door), some (.int way), some (.int at_), some x, some y, some x8, some (.ref p9), some (.int (pn : Int)), some (.int (wn : Int)), some x12, v13, v14, v15] G14
    have B14 := (B12.ex e13).ex e14
    have k14 : But b G G14 := (k9.trans k11').trans (But.of (e12.trans (e13.trans e14)))
    obtain ⟨dx, ox, sx⟩ := (cl_tv.ex (e13.trans e14) rx).ro
    obtain ⟨dy, oy, sy⟩ := ry.ro
    refine seq_par ⟨_, rfl, x, dx, _, rfl, ox.le (by decide), fun y1 G15 e15 o1 c1 => ⟨_, rfl, y, dy, _, rfl, (oy.ex e15).le (by decide), fun y2 G16 e16 o2 c2 => ⟨two_le, fun pq hpq => ?_⟩⟩⟩
    have e17 := Ex.new (o := .lst [y1, y2]) hpq
    have hq : upd G16 pq (.lst [y1, y2]) pq = some (.lst [y1, y2]) := upd_same
    generalize upd G16 pq (.lst [y1, y2]) = G17 at e17 hq ⊢
    refine ⟨_, rfl, _, rfl, _, rfl, two_le, fun pl hpl => ?_⟩
    have e18 := Ex.new (o := .lst [x, y]) hpl
    have hl8 : upd G17 pl (.lst [x, y]) pl = some (.lst [x, y]) := upd_same
    generalize upd G17 pl (.lst [x, y]) = G18 at e18 hl8 ⊢
    have e1418 := ((e15.trans e16).trans (e17.trans e18))
    have hN2 := hN.2
    refine ⟨pl, door, x, y, dx, dy, _, _, _, _, rfl, SqL.of hl8, ox.ex e1418, oy.ex e1418, fun c G19 e19 => ⟨_, _, rfl, ?_⟩, fun c u G19 e19 hu => ⟨_, _, rfl, ?_⟩, fun c u G19 e19 hu => ⟨_, _, rfl, ?_⟩⟩
    all_goals
      have hq19 := e19 _ _ (e18 _ _ hq)
      have e1419 := e1418.trans e19
      have e1519 : Ex G15 G19 := e16.trans (e17.trans (e18.trans e19))
      have e1619 : Ex G16 G19 := e17.trans (e18.trans e19)
    · refine seq_asg ⟨_, rfl, _, rfl, _, rfl, _, _, rfl, rfl, ⟨by decide, by decide⟩, _, _, rfl, rfl, .inl ⟨_, rfl, _, _, rfl, rfl, (by show (0 : Int) < 2; decide), _, rfl, pq, _, 0, y1, rfl, rfl, SqL.of hq19, rfl, _, rfl, pq, _, 1, y2, rfl, rfl, SqL.of hq19, rfl, ?_⟩⟩
      refine ⟨door, _, y1, y2, dx, dy, _, _, _, _, rfl, dr.1, by omega, o1.ex (e1519), o2.ex (e1619), fun _ v t G20 e20 ht => gn_ ?_, fun z => (by rw [c] at z; cases z), fun z => (by rw [c] at z; cases z)⟩
      refine seq_if ⟨_, rfl, rfl, _, rfl, iteT ⟨_, rfl, t, _, 0, _, rfl, rfl, SqT.of ht, rfl, rfl, _, rfl, iteF ?_⟩⟩
      exact ⟨_, rfl, rfl, _, rfl, iteF (iteF ⟨kG.trans (k14.trans (But.of (e1419.trans e20))), (B14.ex (e1419.trans e20)).le (by omega), _, _, _, _, _, _, _, _, _, _, _, _, _, _, rfl⟩)⟩
    · refine seq_asg ⟨_, rfl, _, rfl, _, rfl, _, _, rfl, rfl, ⟨by decide, by decide⟩, _, _, rfl, rfl, .inl ⟨_, rfl, _, _, rfl, rfl, (by show (0 : Int) < 2; decide), _, rfl, pq, _, 0, y1, rfl, rfl, SqL.of hq19, rfl, _, rfl, pq, _, 1, y2, rfl, rfl, SqL.of hq19, rfl, ?_⟩⟩
      refine ⟨door, _, y1, y2, dx, dy, _, _, _, _, rfl, dr.1, by omega, o1.ex (e1519), o2.ex (e1619), fun z => (by rw [c] at z; cases z), fun _ t G20 e20 ht => gn_ ?_, fun z => (by rw [c] at z; cases z)⟩
      have hq20 := e20 _ _ hq19
      have hu20 := e20 _ _ hu
      refine seq_if ⟨_, rfl, rfl, _, rfl, iteF (iteF ?_)⟩
      refine ⟨_, rfl, rfl, _, rfl, iteT ⟨_, rfl, t, _, 0, _, rfl, rfl, SqT.of ht, rfl, _, rfl, u, _, 0, _, rfl, rfl, SqT.of hu20, rfl, rfl, _, rfl, iteF ?_⟩⟩
      refine ⟨_, rfl, t, _, 1, y1, rfl, rfl, SqT.of ht, rfl, _, rfl, _, rfl, u, _, 1, .int 0, rfl, rfl, SqT.of hu20, rfl, pq, _, 0, y1, rfl, rfl, SqL.of hq20, rfl, y1, rfl, ?_⟩
      rcases very_of c1 sx e15 ((e1519).trans e20) with ⟨vm, p, rfl, hp⟩ | vf
      · refine .inl ⟨vm, fun G21 w21 => ⟨true, rfl, iteF ?_⟩⟩
        obtain ⟨kb, B21⟩ := fin_mt k14 ((e15).trans ((e1519).trans e20)) hp B14 w21
        exact ⟨kG.trans kb, B21.le (by omega), _, _, _, _, _, _, _, _, _, _, _, _, _, _, rfl⟩
      · exact .inr ⟨vf, fun G21 e21 => ⟨true, rfl, iteF ⟨kG.trans (k14.trans (But.of (e1419.trans (e20.trans e21)))), (B14.ex (e1419.trans (e20.trans e21))).le (by omega), _, _, _, _, _, _, _, _, _, _, _, _, _, _, rfl⟩⟩⟩
    · refine seq_asg ⟨_, rfl, _, rfl, _, rfl, _, _, rfl, rfl, ⟨by decide, by decide⟩, _, _, rfl, rfl, .inl ⟨_, rfl, _, _, rfl, rfl, (by show (0 : Int) < 2; decide), _, rfl, pq, _, 0, y1, rfl, rfl, SqL.of hq19, rfl, _, rfl, pq, _, 1, y2, rfl, rfl, SqL.of hq19, rfl, ?_⟩⟩
      refine ⟨door, _, y1, y2, dx, dy, _, _, _, _, rfl, dr.1, by omega, o1.ex (e1519), o2.ex (e1619), fun z => (by rw [c] at z; cases z), fun z => (by rw [c] at z; cases z), fun _ t G20 e20 ht => gn_ ?_⟩
      have hq20 := e20 _ _ hq19
      have hu20 := e20 _ _ hu
      refine seq_if ⟨_, rfl, rfl, _, rfl, iteF (iteF ?_)⟩
      refine ⟨_, rfl, rfl, _, rfl, iteT ⟨_, rfl, t, _, 0, _, rfl, rfl, SqT.of ht, rfl, _, rfl, u, _, 0, _, rfl, rfl, SqT.of hu20, rfl, rfl, _, rfl, iteF ?_⟩⟩
      refine ⟨_, rfl, t, _, 1, y2, rfl, rfl, SqT.of ht, rfl, _, rfl, _, rfl, u, _, 1, .int 1, rfl, rfl, SqT.of hu20, rfl, pq, _, 1, y2, rfl, rfl, SqL.of hq20, rfl, y2, rfl, ?_⟩
      rcases very_of c2 (sy.imp (fun h => h.ex e15) id) e16 ((e1619).trans e20) with ⟨vm, p, rfl, hp⟩ | vf
      · refine .inl ⟨vm, fun G21 w21 => ⟨true, rfl, iteF ?_⟩⟩
        obtain ⟨kb, B21⟩ := fin_mt (k14.trans (But.of e15)) ((e16).trans ((e1619).trans e20)) hp (B14.ex e15) w21
        exact ⟨kG.trans kb, B21.le (by omega), _, _, _, _, _, _, _, _, _, _, _, _, _, _, rfl⟩
      · exact .inr ⟨vf, fun G21 e21 => ⟨true, rfl, iteF ⟨kG.trans (k14.trans (But.of (e1419.trans (e20.trans e21)))), (B14.ex (e1419.trans (e20.trans e21))).le (by omega), _, _, _, _, _, _, _, _, _, _, _, _, _, _, rfl⟩⟩⟩
  · rintro σ G ⟨kG, BG, v2, v3, v4, v5, v6, v7, v8, v9, v10, v11, v12, v13, v14, v15, rfl⟩
    exact q G kG (BG.le (by omega))
end
end L2.U


set_option Elab.async false
set_option linter.all false
set_option maxRecDepth 100000
set_option maxHeartbeats 4000000
namespace L2.U
open PySem PySem.Spec PyProof.Rows Evl
section
variable {P : Program} {w : World} {K : PySem.W.Frag} {mg : Str → Option Value} {base : Heap}
theorem raised_live {ok : Addr → Prop} {H : Hp} {m : Nat} {x : V} (h : Rd K ok H m x (list2 (rT 25))) : Rd K (fun a => ∃ o, H a = some o) H 2 x (list2 (rT 25)) := by
  obtain ⟨a, vs, rfl, ha, hl, hz, all⟩ := rd_list2 h
  have h25 := rT_len 25
  unfold list2
  refine .lst ha ⟨_, ha⟩ (by rw [List.length_map, hl]) hz fun i v d hv hd => ?_
  have hi := (List.getElem?_eq_some_iff.mp hv).1
  obtain ⟨b, t, rfl, ht, hb⟩ := all i v hv
  rw [List.getElem?_map, ht] at hd
  cases Option.some.inj hd
  rw [rT_at 25 i (by omega)] at ht
  cases ht
  exact rd_ilist hb ⟨_, hb⟩ (by unfold rowR; rw [List.length_map, List.length_range]; omega)
theorem uses_pos : ∀ {L : List (List Int)}, (∀ s ∈ L, s ≠ []) → (∀ s ∈ L, ∀ z ∈ s, 1 ≤ z) → 0 ≤ useP L
  | [], _, _ => Int.le_refl _
  | s :: L, h1, h2 => by
    have a := use_pos (h2 s List.mem_cons_self) (h1 s List.mem_cons_self)
    have b := uses_pos (fun s h => h1 s (List.mem_cons_of_mem _ h)) (fun s h => h2 s (List.mem_cons_of_mem _ h))
    show 0 ≤ (useL s :: L.map useL).sum
    rw [List.sum_cons]
    unfold useP at b
    omega
theorem good_more {ns : List Int} {j : Nat} {z : Int} (g : ∀ y ∈ ns, 1 ≤ y ∧ y ≤ 1000000000000000000000000) (l : ns.length ≤ 16) (hz : ns[j]? = some z) : GoodR (ns.set j (z + 1)) := by
  refine ⟨by rw [List.length_set]; exact l, fun y hy => ?_⟩
  rcases List.mem_or_eq_of_mem_set hy with h | rfl
  · have := g y h
    omega
  · have := g z (List.mem_of_getElem? hz)
    omega
theorem next_ {D : Ends} {σ : L2.St} {H : Hp} (h : D.nx σ H) : tNext D σ H := h
def spLaw (K : PySem.W.Frag) : Sp := fun vs H Q _ => ∃ (a : Addr) (ns : List Int), vs = [.ref a] ∧ SqL K H a (ns.map V.int) ∧ ns.length ≤ 63 ∧ ∀ H', Q (.bl true) H'
theorem ok_law (T : TK K mg) : FnOk P w K mg base CX0 13 T.law.a T.law.fd ["script"] (spLaw K) := by
  refine T.law.F.ok sc_law (fun vs H Q E h => ?_) (fun cdv A outer s H vs Q E hr h => ?_)
  · obtain ⟨a, ns, rfl, _⟩ := h; rfl
  obtain ⟨a, ns, rfl, ha, hl, q⟩ := h
  refine ⟨_, (pss_cons (ps_for PassesOwn.never rfl (pi_range1 rfl T.z_range (pa_cons (pe_callB (call_max2 rfl) (by rfl) T.z_max (by decide +kernel) (pa_cons pe_int (pa_cons (pe_callB (call_min2 rfl) (by rfl) T.z_min (by decide +kernel) (pa_cons pe_int (pa_cons (pe_callB (klen K) (by rfl) T.z_len (by decide +kernel) (pa_cons (pv 0) pa_nil)) pa_nil))) pa_nil))) pa_nil)) (pg_name (i := 1) sc_law.nd rfl (Or.inl rfl)) (pss_cons (ps_set (i := 2) sc_law.nd rfl (Or.inl rfl) (pe_call (ok_law_box T.toTA1) (hr.mono (by decide)) rfl T.law_box.m T.law_box.F.kp T.law_box.b .nil pass0 (pa_cons (pe_call (ok_law_cell T.toTA1) (hr.mono (by decide)) rfl T.law_cell.m T.law_cell.F.kp T.law_cell.b .nil pass0 (pa_cons (pv 0) (pa_cons (pv 1) pa_nil))) pa_nil)))
    (pss_cons (ps_asg (pe_tup (pa_cons (pe_call (ok_law_take T.toTA1) (hr.mono (by decide)) rfl T.law_take.m T.law_take.F.kp T.law_take.b .nil pass0 (pa_cons (pv 2) (pa_cons pe_int pa_nil))) (pa_cons (pe_call (ok_law_take T.toTA1) (hr.mono (by decide)) rfl T.law_take.m T.law_take.F.kp T.law_take.b .nil pass0 (pa_cons (pv 2) (pa_cons pe_int pa_nil))) (pa_cons (pe_call (ok_law_take T.toTA1) (hr.mono (by decide)) rfl T.law_take.m T.law_take.F.kp T.law_take.b .nil pass0 (pa_cons (pv 2) (pa_cons pe_int pa_nil))) (pa_cons (pe_call (ok_law_take T.toTA1) (hr.mono (by decide)) rfl T.law_take.m T.law_take.F.kp T.law_take.b .nil pass0 (pa_cons (pv 2) (pa_cons pe_int pa_nil))) pa_nil))))) (pg_tup (by rfl) (pgs_cons (pg_name (i := 3) sc_law.nd rfl (Or.inl rfl)) (pgs_cons (pg_name (i := 4) sc_law.nd rfl (Or.inl rfl)) (pgs_cons (pg_name (i := 5) sc_law.nd rfl (Or.inl rfl)) (pgs_cons (pg_name (i := 6) sc_law.nd rfl (Or.inl rfl)) pgs_nil))))))
    (pss_cons (ps_set (i := 7) sc_law.nd rfl (Or.inl rfl) (pe_ifExp (PW.pt (pw_and (pt_cmpR op_eq (pv 3) pe_int (nomark _)) (pw_and1 (pt_cmpR op_eq (pv 1) pe_int (nomark _))))) pe_int (pe_callTy call_int1 (by rfl) T.z_int (by decide +kernel) (pa_cons (pe_cmpR op_lt (pv 3) pe_int (nomark _)) pa_nil))))
    (pss_cons (ps_par (i := 8) (j := 9) (by rfl) sc_law.nd rfl rfl (by decide) rfl rfl (pa_cons (pe_ix (kixl K) (pe_lst (pa_cons pe_int (pa_cons pe_int (pa_cons pe_int pa_nil)))) (pv 7) (fun _ _ => rfl)) (pa_cons (pe_ix (kixl K) (pe_lst (pa_cons (pe_call (ok_law_take T.toTA1) (hr.mono (by decide)) rfl T.law_take.m T.law_take.F.kp T.law_take.b .nil pass0 (pa_cons (pv 2) (pa_cons pe_int pa_nil))) (pa_cons (pe_call (ok_law_take T.toTA1) (hr.mono (by decide)) rfl T.law_take.m T.law_take.F.kp T.law_take.b .nil pass0 (pa_cons (pv 2) (pa_cons pe_int pa_nil))) (pa_cons (pe_op op_sub pe_int (pe_call (ok_law_take T.toTA1) (hr.mono (by decide)) rfl T.law_take.m T.law_take.F.kp T.law_take.b .nil pass0 (pa_cons (pv 2) (pa_cons pe_int pa_nil)))) pa_nil)))) (pv 7) (fun _ _ => rfl)) pa_nil)) (by rfl))
    (pss_cons (ps_par (i := 10) (j := 11) (by rfl) sc_law.nd rfl rfl (by decide) rfl rfl (pa_cons (pe_call (ok_law_raised T) (hr.mono (by decide)) rfl T.law_raised.m T.law_raised.F.kp T.law_raised.b .nil pass0 (pa_cons pe_int pa_nil)) (pa_cons (pe_op op_sub (pv 8) (pe_call (ok_law_take T.toTA1) (hr.mono (by decide)) rfl T.law_take.m T.law_take.F.kp T.law_take.b .nil pass0 (pa_cons (pv 2) (pa_cons pe_int pa_nil)))) pa_nil)) (by rfl))
    (pss_cons (ps_set (i := 12) sc_law.nd rfl (Or.inl rfl) (pe_call (ok_law_plan T) (hr.mono (by decide)) rfl T.law_plan.m T.law_plan.F.kp T.law_plan.b .nil pass0 (pa_cons (pv 2) (pa_cons (pv 11) (pa_cons (pv 9) pa_nil)))))
    (pss_cons (ps_if (PW.pt (pw_or (pt_not (pt_val (pe_call (ok_law_doors_right T) (hr.mono (by decide)) rfl T.law_doors_right.m T.law_doors_right.F.kp T.law_doors_right.b .nil pass0 (pa_cons (pv 2) (pa_cons (pv 6) pa_nil))))) (pw_or1 (pt_not (pt_val (pe_call (ok_law_numbers_right T) (hr.mono (by decide)) rfl T.law_numbers_right.m T.law_numbers_right.F.kp T.law_numbers_right.b .nil pass0 (pa_cons (pv 2) (pa_cons (pv 10) (pa_cons (pv 6) pa_nil))))))))) (pss_one (ps_ret pe_bl)) pss_nil)
    (pss_cons (ps_if (pt_not (pt_val (pe_call (ok_law_judged_right T) (hr.mono (by decide)) rfl T.law_judged_right.m T.law_judged_right.F.kp T.law_judged_right.b .nil pass0 (pa_cons (pv 2) (pa_cons (pv 12) (pa_cons (pv 11) pa_nil)))))) (pss_one (ps_ret pe_bl)) pss_nil)
    (pss_cons (ps_if (pt_not (pt_val (pe_call (ok_law_told_right T) (hr.mono (by decide)) rfl T.law_told_right.m T.law_told_right.F.kp T.law_told_right.b .nil pass0 (pa_cons (pv 2) (pa_cons (pe_call (ok_law_reached T) (hr.mono (by decide)) rfl T.law_reached.m T.law_reached.F.kp T.law_reached.b .nil pass0 (pa_cons (pv 12) (pa_cons (pv 11) pa_nil))) (pa_cons (pv 11) (pa_cons (pv 10) pa_nil))))))) (pss_one (ps_ret pe_bl)) pss_nil)
    (pss_cons (ps_set (i := 11) sc_law.nd rfl (Or.inl rfl) (pe_ifExp (pt_cmpR op_gt (pv 4) pe_int (nomark _)) (pe_call (ok_law_use T) (hr.mono (by decide)) rfl T.law_use.m T.law_use.F.kp T.law_use.b .nil pass0 (pa_cons (pv 12) pa_nil)) (pv 11)))
    (pss_cons (ps_set (i := 13) sc_law.nd rfl (Or.inl rfl) (pe_call (ok_law_reached T) (hr.mono (by decide)) rfl T.law_reached.m T.law_reached.F.kp T.law_reached.b .nil pass0 (pa_cons (pv 12) (pa_cons (pv 11) pa_nil))))
    (pss_cons (ps_if (PW.pt (pw_and (pt_cmpR op_lt (pv 4) pe_int (nomark _)) (pw_and1 (pt_cmpR (knel0 K hr.units) (pv 13) (pe_lst pa_nil) (nomark _))))) (pss_one (ps_asg (pe_op op_add (pe_ix (kixl K) (pv 13) (pe_op op_mod (pe_callTy call_int1 (by rfl) T.z_int (by decide +kernel) (pa_cons (pv 5) pa_nil)) (pe_callB (klen K) (by rfl) T.z_len (by decide +kernel) (pa_cons (pv 13) pa_nil))) (fun _ _ => rfl)) pe_int) (pg_sub (pv 13) (pe_op op_mod (pe_callTy call_int1 (by rfl) T.z_int (by decide +kernel) (pa_cons (pv 5) pa_nil)) (pe_callB (klen K) (by rfl) T.z_len (by decide +kernel) (pa_cons (pv 13) pa_nil))) set_list))) pss_nil)
    (pss_one (ps_if (pt_not (pt_val (pe_call (ok_law_told_right T) (hr.mono (by decide)) rfl T.law_told_right.m T.law_told_right.F.kp T.law_told_right.b .nil pass0 (pa_cons (pv 2) (pa_cons (pv 13) (pa_cons (pv 11) (pa_cons (pv 10) pa_nil))))))) (pss_one (ps_ret pe_bl)) pss_nil)))))))))))))))
    (pss_one (ps_ret pe_bl))), ?_⟩
  obtain ⟨n, hn, hn0, hn2⟩ : ∃ n : Int, (if (if (ns.length : Int) < 2 then (ns.length : Int) else 2) > 1 then (if (ns.length : Int) < 2 then (ns.length : Int) else 2) else 1) = n ∧ 0 ≤ n ∧ n ≤ 2 := ⟨_, rfl, by split <;> split <;> omega, by split <;> split <;> omega⟩
  refine ⟨_, rfl, _, ns.length, rfl, .inl ⟨_, ha, (List.length_map ..).symm⟩, _, _, rfl, _, _, rfl, n, by rw [← hn], by omega, by omega, for_range (lo := 0) (n := n.toNat) (fun i σ H' => Ex H H' ∧ ∃ v1 v2 v3 v4 v5 v6 v7 v8 v9 v10 v11 v12 v13 : Option V, σ = [some (.ref a), v1, v2, v3, v4, v5, v6, v7, v8, v9, v10, v11, v12, v13]) ⟨Ex.refl _, _, _, _, _, _, _, _, _, _, _, _, _, _, rfl⟩ ?_ ?_⟩
  · rintro i σ G hi ⟨eg, v1, v2, v3, v4, v5, v6, v7, v8, v9, v10, v11, v12, v13, rfl⟩
    rw [Int.zero_add]
    refine ⟨_, rfl, _, rfl, a, ns, (i : Int), rfl, ex_l eg ha, by omega, by omega, fun v H1 e1 => ⟨v, rfl, fun b H2 hb e2 B2 => ?_⟩⟩
    refine ⟨_, rfl, b, 8, 5000, rfl, by decide, by decide, B2.le (by omega), fun great H3 g0 g1 B3 k3 => ?_⟩
    refine ⟨_, rfl, b, 4, 4999, rfl, by decide, by decide, B3, fun spoil H4 s0 s1 B4 k4 => ?_⟩
    refine ⟨_, rfl, b, 16, 4998, rfl, by decide, by decide, B4, fun place H5 p0 p1 B5 k5 => ?_⟩
    refine ⟨_, rfl, b, 2, 4997, rfl, by decide, by decide, B5, fun named H6 m0 m1 B6 k6 => ⟨four_le, fun t ht => ?_⟩⟩
    refine ⟨t, _, rfl, SqT.of upd_same, rfl, _, _, rfl, _, _, rfl, _, _, rfl, _, _, rfl, rfl, ?_⟩
    have et := Ex.new (o := .tup [.int great, .int spoil, .int place, .int named]) ht
    have B7 := B6.ex et
    have k27 : But b H2 (upd H6 t (.tup [.int great, .int spoil, .int place, .int named])) := (((k3.trans k4).trans (k5.trans k6)).trans (But.of et))
    generalize upd H6 t (.tup [.int great, .int spoil, .int place, .int named]) = H7 at et B7 k27 ⊢
    show tSeq _ _ _ [some (.ref a), some (.int (i : Int)), some (.ref b), some (.int great), some (.int spoil), some (.int place), some (.int named), v7, v8, v9, v10, v11, v12, v13] H7
    obtain ⟨sz, hsz, evsz⟩ : ∃ sz : Nat, sz ≤ 2 ∧ Ev (tIf (tAnd (tTest (tOp rEq (tVar 3) (tC (V.int 0)))) (tTest (tOp rEq (tVar 1) (tC (V.int 0))))) (tC (V.int 2)) (tCB (fun xs H Q => (∃ i, xs = [V.int i] ∧ Q (V.int i) H) ∨ ∃ k, xs = [V.bl k] ∧ Q (V.int (if k = true then 1 else 0)) H) (tCons (tOp (rI0 fun i j => V.bl (decide (i < j))) (tVar 3) (tC (V.int 3))) tNil)))
        [some (.ref a), some (.int (i : Int)), some (.ref b), some (.int great), some (.int spoil), some (.int place), some (.int named), v7, v8, v9, v10, v11, v12, v13] H7 (.int (sz : Int)) := by
      have ts := et_and (σ := [some (.ref a), some (.int (i : Int)), some (.ref b), some (.int great), some (.int spoil), some (.int place), some (.int named), v7, v8, v9, v10, v11, v12, v13]) (H := H7) (t := tTest (tOp rEq (tVar 3) (tC (V.int 0)))) (u := tTest (tOp rEq (tVar 1) (tC (V.int 0)))) (et_test (ev_op (ev_var rfl) (ev_c (v := .int 0)) (rv_eq (x := .int great) (y := .int 0) rfl))) (fun _ => et_test (ev_op (ev_var rfl) (ev_c (v := .int 0)) (rv_eq (x := .int (i : Int)) (y := .int 0) rfl)))
      cases c : (decide (V.int great = V.int 0) && decide (V.int (i : Int) = V.int 0)) with
      | true =>
        rw [c] at ts
        exact ⟨2, by omega, ev_if ts (fun _ => ev_c) (fun z => by cases z)⟩
      | false =>
        rw [c] at ts
        have : ∃ sz : Nat, sz ≤ 2 ∧ (if decide (great < 3) = true then (1 : Int) else 0) = (sz : Int) := by
          cases decide (great < 3)
          · exact ⟨0, by omega, rfl⟩
          · exact ⟨1, by omega, rfl⟩
        obtain ⟨sz, h1, h2⟩ := this
        refine ⟨sz, h1, ev_if ts (fun z => by cases z) fun _ => ?_⟩
        rw [← h2]
        exact fun H5 e5 Q q => ⟨_, rfl, _, _, rfl, rfl, .inr ⟨_, rfl, q _ (Ex.refl _)⟩⟩
    refine seq_asg (evsz H7 (Ex.refl _) _ fun H8 e8 => gn_ ?_)
    obtain ⟨MO, hMO, hMO7, hMO24⟩ : ∃ M : Nat, [V.int 7, .int 12, .int 24][sz]? = some (.int (M : Int)) ∧ 7 ≤ M ∧ M ≤ 24 := by
      rcases (by omega : sz = 0 ∨ sz = 1 ∨ sz = 2) with rfl | rfl | rfl
      · exact ⟨7, rfl, by omega, by omega⟩
      · exact ⟨12, rfl, by omega, by omega⟩
      · exact ⟨24, rfl, by omega, by omega⟩
    refine seq_par ⟨three_le, fun l1 hl1 => ⟨_, rfl, l1, _, _, .int (MO : Int), rfl, rfl, SqL.of upd_same, atI_nat hMO, ?_⟩⟩
    have el1 := Ex.new (o := .lst [V.int 7, .int 12, .int 24]) hl1
    have B9 := (B7.ex e8).ex el1
    have k29 := k27.trans (But.of (e8.trans el1))
    generalize upd H8 l1 (.lst [V.int 7, .int 12, .int 24]) = H9 at el1 B9 k29 ⊢
    refine ⟨_, rfl, b, 5, 4996, rfl, by decide, by decide, B9, fun u5 H10 u50 u51 B10 k10 => ?_⟩
    refine ⟨_, rfl, b, 9, 4995, rfl, by decide, by decide, B10, fun u9 H11 u90 u91 B11 k11 => ?_⟩
    refine ⟨_, rfl, b, 3, 4994, rfl, by decide, by decide, B11, fun u3 H12 u30 u31 B12 k12 => ⟨_, _, rfl, rfl, three_le, fun l2 hl2 => ?_⟩⟩
    obtain ⟨MA, hMA, hMA16⟩ : ∃ M : Nat, [V.int u5, .int u9, .int (16 - u3)][sz]? = some (.int (M : Int)) ∧ M ≤ 16 := by
      rcases (by omega : sz = 0 ∨ sz = 1 ∨ sz = 2) with rfl | rfl | rfl
      · exact ⟨u5.toNat, by rw [Int.toNat_of_nonneg u50]; rfl, by omega⟩
      · exact ⟨u9.toNat, by rw [Int.toNat_of_nonneg u90]; rfl, by omega⟩
      · exact ⟨(16 - u3).toNat, by rw [Int.toNat_of_nonneg (by omega)]; rfl, by omega⟩
    refine ⟨_, rfl, l2, _, _, .int (MA : Int), rfl, rfl, SqL.of upd_same, atI_nat hMA, _, _, rfl, ?_⟩
    have el2 := Ex.new (o := .lst [V.int u5, .int u9, .int (16 - u3)]) hl2
    have B13 := B12.ex el2
    have k213 := (k29.trans ((k10.trans k11).trans k12)).trans (But.of el2)
    generalize upd H12 l2 (.lst [V.int u5, .int u9, .int (16 - u3)]) = H13 at el2 B13 k213 ⊢
    clear B12 B11 B10 B9 B7 B6 B5 B4 B3 k12 k11 k10 k29 k27 k3 k4 k5 k6 evsz
    refine seq_par ⟨24, rfl, by decide, fun rp H14 e14 rr => ⟨_, rfl, _, rfl, b, 4, 4993, rfl, by decide, by decide, B13.ex e14, fun w4 H15 w40 w41 B15 k15 => ⟨_, _, rfl, rfl, ?_⟩⟩⟩
    obtain ⟨Wn, hWn, hW24⟩ : ∃ M : Nat, (MO : Int) - w4 = (M : Int) ∧ M ≤ 24 := ⟨((MO : Int) - w4).toNat, by rw [Int.toNat_of_nonneg (by omega)], by omega⟩
    refine ⟨_, .int (Wn : Int), by rw [← hWn], ?_⟩
    have okb : ∀ a, H13 a = none → a ≠ b := fun a h => B13.ne h
    have rr15 : Rd K (fun a => H13 a = none) H15 2 (.ref rp) (list2 (rT 25)) := rr.but k15 okb
    show tSeq _ _ _ [some (.ref a), some (.int (i : Int)), some (.ref b), some (.int great), some (.int spoil), some (.int place), some (.int named), some (.int (sz : Int)), some (.int (MO : Int)), some (.int (MA : Int)), some (.ref rp), some (.int (Wn : Int)), v12, v13] H15
    refine seq_asg ⟨_, rfl, _, rfl, _, rfl, b, 4500, Wn, MA, rfl, B15.le (by omega), hW24, hMA16, fun p L H16 g rd B16 k16 => gn_ ?_⟩
    refine seq_if ⟨_, rfl, _, rfl, b, named, 4200, rfl, B16.le (by omega), fun H17 k17 B17 => ⟨true, rfl, iteF ?_⟩⟩
    have rr17 := rr15.but (k16.trans k17) okb
    refine ⟨_, rfl, _, rfl, _, rfl, b, rp, named, 4190, 2, _, rfl, B17.le (by omega), rr17, okb, fun H18 k18 B18 => ⟨true, rfl, iteF ?_⟩⟩
    have rd18 := rd.but (k17.trans k18) (fun a h => h)
    refine next_ ?_
    dsimp only
    refine seq_if ⟨_, rfl, _, rfl, _, rfl, b, .ref p, L, 2, 1100, MA, Wn, _, rfl, B18.le (by omega), rd18, (fun a h => h), g, hW24, hMA16, fun H19 k19 B19 => ⟨true, rfl, iteF ?_⟩⟩
    have rr19 := rr17.but (k18.trans k19) okb
    have rd19 := rd18.but k19 (fun a h => h)
    have gW : (Wn : Int) ≤ 24 := by omega
    refine next_ ?_
    dsimp only
    refine seq_if ⟨_, rfl, _, rfl, _, rfl, .ref p, L, 2, _, (Wn : Int), MA, rfl, rd19, g, gW, fun r1 H20 hr1 e20 h20 => ⟨_, rfl, _, rfl, b, r1, rp, _, 1000, Wn, 2, _, rfl, (B19.ex e20).le (by omega), h20, B19.ne hr1, good_reach g gW hMA16, hW24, rr19.ex e20, fun H21 k21 B21 => ⟨true, rfl, iteF ?_⟩⟩⟩
    have k1921 := (But.of e20).trans k21
    have rr21 := rr19.but k1921 okb
    have rd21 := rd19.but k1921 (fun a h => h)
    have k1619 : But b H15 H19 := k16.trans ((k17.trans k18).trans k19)
    have k223a : But b H2 H21 := ((k213.trans (But.of e14)).trans k15).trans (k1619.trans k1921)
    clear rr19 rr17 rr15 rd19 rd18 B19 B18 B17 B16 k17 k18 k19 h20
    refine next_ ?_
    dsimp only
    obtain ⟨U, hU, hU24, gU⟩ : ∃ U : Nat, useP L = (U : Int) ∧ U ≤ 24 ∧ GoodP (U : Int) MA L := by
      have u0 := uses_pos g.ne g.pos
      have u1 := g.use
      refine ⟨(useP L).toNat, by rw [Int.toNat_of_nonneg u0], by omega, g.ne, g.pos, g.len, by rw [Int.toNat_of_nonneg u0]; exact Int.le_refl _, g.many⟩
    refine seq_asg (em_if (R := fun v _ => ∃ W2 : Nat, v = .int (W2 : Int) ∧ W2 ≤ 24 ∧ GoodP (W2 : Int) MA L) (et_test (ev_op (x := .int spoil) (y := .int 0) (ev_var rfl) ev_c (rv_I0 (g := fun (i j : Int) => V.bl (decide (j < i))))))
      (fun G1 e1 Q1 q1 => ⟨_, rfl, .ref p, L, 2, _, rfl, rd21.ex e1, fun G2 e2 => (by rw [hU]; exact q1 _ _ e2 ⟨U, rfl, hU24, gU⟩)⟩) (fun G1 e1 Q1 q1 => ⟨_, rfl, q1 _ _ (Ex.refl _) ⟨Wn, rfl, hW24, g⟩⟩) H21 (Ex.refl _) _ fun xw H22 e22 rw2 => gn_ ?_)
    obtain ⟨W2, rfl, hW2, g2⟩ := rw2
    have gW2 : (W2 : Int) ≤ 24 := by omega
    refine seq_asg ⟨_, rfl, _, rfl, .ref p, L, 2, _, (W2 : Int), MA, rfl, rd21.ex e22, g2, gW2, fun r H23 hr e23 h23 => gn_ ?_⟩
    have B23 := (B21.ex e22).ex e23
    have rb : r ≠ b := (B21.ex e22).ne hr
    have rrL := (raised_live ((rr21.ex e22))).but (But.of e23 : But r H22 H23) (fun a ⟨o, ho⟩ z => by rw [z, hr] at ho; cases ho)
    have k223 : But b H2 H23 := k223a.trans (But.of (e22.trans e23))
    have ts : EvT (tAnd (tTest (tOp (rI0 fun i j => V.bl (decide (i < j))) (tVar 4) (tC (V.int 3)))) (tTest (tOp (rNeL0 K) (tVar 13) (tLst tNil)))) [some (.ref a), some (.int (i : Int)), some (.ref b), some (.int great), some (.int spoil), some (.int place), some (.int named), some (.int (sz : Int)), some (.int (MO : Int)), some (.int (MA : Int)), some (.ref rp), some (.int (W2 : Int)), some (.ref p), some (.ref r)] H23 (decide (spoil < 3) && !((reachL (W2 : Int) L).map V.int).isEmpty) :=
      et_and (et_test (ev_op (x := .int spoil) (y := .int 3) (ev_var rfl) ev_c (rv_I0 (g := fun (i j : Int) => V.bl (decide (i < j)))))) fun _ => et_test (fun H1 e3 Q q => ⟨_, rfl, Nat.zero_le _, fun z hz => ⟨r, z, _, rfl, rfl, SqL.of ((e3.trans (Ex.new hz)) _ _ h23), SqL.of upd_same, q _ (Ex.new hz)⟩⟩)
    have fin : ∀ H', But b H2 H' → Ex H H' := fun H' kb c o h => by
      have h1 := e1 _ _ (eg _ _ h)
      exact kb c o (fun z => by rw [z, hb] at h1; cases h1) (e2 _ _ h1)
    have gr := good_reach g2 gW2 hMA16
    refine q_when ts (fun hc H24 e24 => ?_) (fun hc H24 e24 => ?_)
    · obtain ⟨hc1, hc2⟩ := (Bool.and_eq_true _ _).mp hc
      have h24 := e24 _ _ h23
      have hlen : ((reachL (W2 : Int) L).map V.int).length = (reachL (W2 : Int) L).length := List.length_map ..
      have pos : 0 < (reachL (W2 : Int) L).length := by
        cases hx : reachL (W2 : Int) L with
        | nil => rw [hx] at hc2; cases hc2
        | cons _ _ => exact Nat.succ_pos _
      have pos2 : (0 : Int) < (((reachL (W2 : Int) L).map V.int).length : Int) := by rw [hlen]; omega
      obtain ⟨jn, hj, hjl⟩ : ∃ j : Nat, place % (((reachL (W2 : Int) L).map V.int).length : Int) = (j : Int) ∧ j < (reachL (W2 : Int) L).length := by
        have := @fmod_in place (((reachL (W2 : Int) L).map V.int).length : Int) pos2
        exact ⟨(place % (((reachL (W2 : Int) L).map V.int).length : Int)).toNat, by rw [Int.toNat_of_nonneg this.1], by omega⟩
      have hz : (reachL (W2 : Int) L)[jn]? = some ((reachL (W2 : Int) L)[jn]) := List.getElem?_eq_getElem _
      have hzv : ((reachL (W2 : Int) L).map V.int)[jn]? = some (.int ((reachL (W2 : Int) L)[jn])) := by rw [List.getElem?_map, hz]; rfl
      refine ⟨_, rfl, _, rfl, .inl ⟨_, rfl, _, rfl, _, _, rfl, .inl ⟨_, SqL.of h24, rfl⟩, _, _, rfl, rfl, pos2, r, _, _, _, rfl, rfl, SqL.of h24, (by rw [hj]; exact atI_nat hzv), _, _, rfl, rfl, _, rfl, _, rfl, .inl ⟨_, rfl, _, rfl, _, _, rfl, .inl ⟨_, SqL.of h24, rfl⟩, _, _, rfl, rfl, pos2, r, _, _, jn, rfl, rfl, h24, (by rw [hj]; exact ixN_nat (by rw [hlen]; exact hjl)), ?_⟩⟩⟩
      have h25 : upd H24 r (.lst (((reachL (W2 : Int) L).map V.int).set jn (.int ((reachL (W2 : Int) L)[jn] + 1)))) r = some (.lst (((reachL (W2 : Int) L).set jn ((reachL (W2 : Int) L)[jn] + 1)).map V.int)) := by rw [upd_same, List.map_set]
      have B25 : BoxAt (upd H24 r (.lst (((reachL (W2 : Int) L).map V.int).set jn (.int ((reachL (W2 : Int) L)[jn] + 1))))) b 1000 := box_mut (B23.ex e24) rb
      have rr25 := (rrL.ex e24).but (H' := upd H24 r (.lst (((reachL (W2 : Int) L).map V.int).set jn (.int ((reachL (W2 : Int) L)[jn] + 1))))) But.upd (fun a ⟨o, ho⟩ z => by rw [z, hr] at ho; cases ho)
      have k25 : But b H2 (upd H24 r (.lst (((reachL (W2 : Int) L).map V.int).set jn (.int ((reachL (W2 : Int) L)[jn] + 1))))) := butMut (k223.trans (But.of e24)) (but_none (k223a.trans (But.of e22)) rb hr)
      generalize upd H24 r (.lst (((reachL (W2 : Int) L).map V.int).set jn (.int ((reachL (W2 : Int) L)[jn] + 1)))) = H25 at h25 B25 rr25 k25 ⊢
      exact ⟨_, rfl, _, rfl, _, rfl, _, rfl, b, r, rp, _, 997, W2, 2, _, rfl, B25.le (by omega), h25, rb, good_more (reach_in g2 gW2) gr.1 hz, hW2, rr25, fun H26 k26 B26 => ⟨true, rfl, iteF ⟨fin _ (k25.trans k26), _, _, _, _, _, _, _, _, _, _, _, _, _, rfl⟩⟩⟩
    · exact ⟨_, rfl, _, rfl, _, rfl, _, rfl, b, r, rp, _, 997, W2, 2, _, rfl, (B23.ex e24).le (by omega), e24 _ _ h23, rb, gr, hW2, rrL.ex e24, fun H26 k26 B26 => ⟨true, rfl, iteF ⟨fin _ ((k223.trans (But.of e24)).trans k26), _, _, _, _, _, _, _, _, _, _, _, _, _, rfl⟩⟩⟩
  · rintro σ G ⟨eg, v1, v2, v3, v4, v5, v6, v7, v8, v9, v10, v11, v12, v13, rfl⟩
    exact q G
end
end L2.U


set_option Elab.async false
set_option linter.all false
set_option maxRecDepth 100000
set_option maxHeartbeats 4000000
namespace L2.U
open PySem PySem.Spec PyProof.Rows Evl
theorem exm_of {K : PySem.W.Frag} {C D : Addr} {b : Bool} (h1 : PySem.W.subIn K (.ref D) (.type "BaseException") = some true) (h2 : PySem.W.isClsIn K D = true) (h3 : PySem.W.typeIn K (.ref D) = some (.type "type"))
    (h4 : PySem.W.subIn K (.ref C) (.ref D) = some b) : PySem.W.exmOne K (.ref C) (.ref D) = some b := by
  have h2' : (PySem.W.clsIn K D).isSome = true := h2
  unfold PySem.W.exmOne
  rw [h1, if_pos (by rfl)]
  unfold PySem.W.kitCls
  simp only [h2', h3, h4, beq_self_eq_true, Bool.and_self, if_true]
theorem clsAt_mk {K : PySem.W.Frag} {C : Addr} (cl : Cls K C) (ha : PySem.W.findIn K (.ref C) "__class__" = some (some (.builtin "object.__class__"))) (hn : PySem.W.specialIn K (.builtin "object.__class__") "__get__" = some (some (.builtin "getset_descriptor.__get__"))) (htk : PySem.W.takesIn K (.builtin "object.__class__") = some true) (hm : PySem.W.mroIn K C (.type "object") = some true) (ic : PySem.W.isClsIn K C = true) (ty : PySem.W.typeIn K (.ref C) = some (.type "type"))
    (no : ∀ t ∈ ["list", "tuple", "int", "bool", "str", "dict"], PySem.W.subIn K (.ref C) (.type t) = some false) (su : ∀ t ∈ ["NoneType", "bool", "int", "str", "list", "tuple", "dict"], PySem.W.subIn K (.type t) (.ref C) = some false) : ClsAt K C := ⟨cl, ha, hn, htk, hm, no, ic, ty, su⟩
def mkDef {K : PySem.W.Frag} {h : Heap} {mg : Str → Option Value} (X : K.In h) (G : h.Ns mainGlobals mg) {x : Str} {st : Stmt} {ps : List Str} {f : Addr} {od an : Option Addr} {sl : Array (Option Value)} {oc kV dc pm cd ct : Value}
    (a : PySem.W.nsIn K mainGlobals x = some (some (.ref f))) (l : K.lookup f = some ⟨oc, od, .func (PySem.W.fnOf x x (defArgs st) (defBody st) (defScope st) .none kV dc pm an cd ct), sl⟩) (c : PySem.W.codeIn K cd x = true) (k : PySem.W.keepIn K (.ref f) = true)
    (h2 : ∀ (kV doc pm : Value) (an : Option Addr) (cdv ct : Value) (us : List Value), us.length = ps.length → bindArgs (PySem.W.fnOf x x (defArgs st) (defBody st) (defScope st) .none kV doc pm an cdv ct) ⟨us, []⟩ = pure (ps.zip us)) : DefAt K mg x st ps :=
  ⟨f, _, fun_mk (st := st) l c k, PySem.W.mg_of X G a, (fun_mk (st := st) l c k).binds h2⟩

theorem all_mk {l : PySem.W.OpenLaw} {w : World} {K : PySem.W.Frag} {h : Heap} {mg : Str → Option Value} {fa : Addr} (X : K.In h) (G : h.Ns mainGlobals mg) (hfa : mg "law" = some (.ref fa))
    {f1 : Addr} {od1 an1 : Option Addr} {sl1 : Array (Option Value)} {oc1 kV1 dc1 pm1 cd1 ct1 : Value}
    {f2 : Addr} {od2 an2 : Option Addr} {sl2 : Array (Option Value)} {oc2 kV2 dc2 pm2 cd2 ct2 : Value}
    {f3 : Addr} {od3 an3 : Option Addr} {sl3 : Array (Option Value)} {oc3 kV3 dc3 pm3 cd3 ct3 : Value}
    {f4 : Addr} {od4 an4 : Option Addr} {sl4 : Array (Option Value)} {oc4 kV4 dc4 pm4 cd4 ct4 : Value}
    {f5 : Addr} {od5 an5 : Option Addr} {sl5 : Array (Option Value)} {oc5 kV5 dc5 pm5 cd5 ct5 : Value}
    {f6 : Addr} {od6 an6 : Option Addr} {sl6 : Array (Option Value)} {oc6 kV6 dc6 pm6 cd6 ct6 : Value}
    {f7 : Addr} {od7 an7 : Option Addr} {sl7 : Array (Option Value)} {oc7 kV7 dc7 pm7 cd7 ct7 : Value}
    {f8 : Addr} {od8 an8 : Option Addr} {sl8 : Array (Option Value)} {oc8 kV8 dc8 pm8 cd8 ct8 : Value}
    {f9 : Addr} {od9 an9 : Option Addr} {sl9 : Array (Option Value)} {oc9 kV9 dc9 pm9 cd9 ct9 : Value}
    {f10 : Addr} {od10 an10 : Option Addr} {sl10 : Array (Option Value)} {oc10 kV10 dc10 pm10 cd10 ct10 : Value}
    {f11 : Addr} {od11 an11 : Option Addr} {sl11 : Array (Option Value)} {oc11 kV11 dc11 pm11 cd11 ct11 : Value}
    {f12 : Addr} {od12 an12 : Option Addr} {sl12 : Array (Option Value)} {oc12 kV12 dc12 pm12 cd12 ct12 : Value}
    {f13 : Addr} {od13 an13 : Option Addr} {sl13 : Array (Option Value)} {oc13 kV13 dc13 pm13 cd13 ct13 : Value}
    {f14 : Addr} {od14 an14 : Option Addr} {sl14 : Array (Option Value)} {oc14 kV14 dc14 pm14 cd14 ct14 : Value}
    {f15 : Addr} {od15 an15 : Option Addr} {sl15 : Array (Option Value)} {oc15 kV15 dc15 pm15 cd15 ct15 : Value}
    {f16 : Addr} {od16 an16 : Option Addr} {sl16 : Array (Option Value)} {oc16 kV16 dc16 pm16 cd16 ct16 : Value}
    {f17 : Addr} {od17 an17 : Option Addr} {sl17 : Array (Option Value)} {oc17 kV17 dc17 pm17 cd17 ct17 : Value}
    {f18 : Addr} {od18 an18 : Option Addr} {sl18 : Array (Option Value)} {oc18 kV18 dc18 pm18 cd18 ct18 : Value}
    {f19 : Addr} {od19 an19 : Option Addr} {sl19 : Array (Option Value)} {oc19 kV19 dc19 pm19 cd19 ct19 : Value}
    {f20 : Addr} {od20 an20 : Option Addr} {sl20 : Array (Option Value)} {oc20 kV20 dc20 pm20 cd20 ct20 : Value}
    {f21 : Addr} {od21 an21 : Option Addr} {sl21 : Array (Option Value)} {oc21 kV21 dc21 pm21 cd21 ct21 : Value}
    {f22 : Addr} {od22 an22 : Option Addr} {sl22 : Array (Option Value)} {oc22 kV22 dc22 pm22 cd22 ct22 : Value}
    {f23 : Addr} {od23 an23 : Option Addr} {sl23 : Array (Option Value)} {oc23 kV23 dc23 pm23 cd23 ct23 : Value}
    {f24 : Addr} {od24 an24 : Option Addr} {sl24 : Array (Option Value)} {oc24 kV24 dc24 pm24 cd24 ct24 : Value}
    {f25 : Addr} {od25 an25 : Option Addr} {sl25 : Array (Option Value)} {oc25 kV25 dc25 pm25 cd25 ct25 : Value}
    {f26 : Addr} {od26 an26 : Option Addr} {sl26 : Array (Option Value)} {oc26 kV26 dc26 pm26 cd26 ct26 : Value}
    {f27 : Addr} {od27 an27 : Option Addr} {sl27 : Array (Option Value)} {oc27 kV27 dc27 pm27 cd27 ct27 : Value}
    {f28 : Addr} {od28 an28 : Option Addr} {sl28 : Array (Option Value)} {oc28 kV28 dc28 pm28 cd28 ct28 : Value}
    {f29 : Addr} {od29 an29 : Option Addr} {sl29 : Array (Option Value)} {oc29 kV29 dc29 pm29 cd29 ct29 : Value}
    {f30 : Addr} {od30 an30 : Option Addr} {sl30 : Array (Option Value)} {oc30 kV30 dc30 pm30 cd30 ct30 : Value}
    {f31 : Addr} {od31 an31 : Option Addr} {sl31 : Array (Option Value)} {oc31 kV31 dc31 pm31 cd31 ct31 : Value}
    {f32 : Addr} {od32 an32 : Option Addr} {sl32 : Array (Option Value)} {oc32 kV32 dc32 pm32 cd32 ct32 : Value}
    {f33 : Addr} {od33 an33 : Option Addr} {sl33 : Array (Option Value)} {oc33 kV33 dc33 pm33 cd33 ct33 : Value}
    {f34 : Addr} {od34 an34 : Option Addr} {sl34 : Array (Option Value)} {oc34 kV34 dc34 pm34 cd34 ct34 : Value}
    {f35 : Addr} {od35 an35 : Option Addr} {sl35 : Array (Option Value)} {oc35 kV35 dc35 pm35 cd35 ct35 : Value}
    {f36 : Addr} {od36 an36 : Option Addr} {sl36 : Array (Option Value)} {oc36 kV36 dc36 pm36 cd36 ct36 : Value}
    {f37 : Addr} {od37 an37 : Option Addr} {sl37 : Array (Option Value)} {oc37 kV37 dc37 pm37 cd37 ct37 : Value}
    {f38 : Addr} {od38 an38 : Option Addr} {sl38 : Array (Option Value)} {oc38 kV38 dc38 pm38 cd38 ct38 : Value}
    {f39 : Addr} {od39 an39 : Option Addr} {sl39 : Array (Option Value)} {oc39 kV39 dc39 pm39 cd39 ct39 : Value}
    {f40 : Addr} {od40 an40 : Option Addr} {sl40 : Array (Option Value)} {oc40 kV40 dc40 pm40 cd40 ct40 : Value}
    {f41 : Addr} {od41 an41 : Option Addr} {sl41 : Array (Option Value)} {oc41 kV41 dc41 pm41 cd41 ct41 : Value}
    {f42 : Addr} {od42 an42 : Option Addr} {sl42 : Array (Option Value)} {oc42 kV42 dc42 pm42 cd42 ct42 : Value}
    {f43 : Addr} {od43 an43 : Option Addr} {sl43 : Array (Option Value)} {oc43 kV43 dc43 pm43 cd43 ct43 : Value}
    {f44 : Addr} {od44 an44 : Option Addr} {sl44 : Array (Option Value)} {oc44 kV44 dc44 pm44 cd44 ct44 : Value}
    {f45 : Addr} {od45 an45 : Option Addr} {sl45 : Array (Option Value)} {oc45 kV45 dc45 pm45 cd45 ct45 : Value}
    {f46 : Addr} {od46 an46 : Option Addr} {sl46 : Array (Option Value)} {oc46 kV46 dc46 pm46 cd46 ct46 : Value}
    {f47 : Addr} {od47 an47 : Option Addr} {sl47 : Array (Option Value)} {oc47 kV47 dc47 pm47 cd47 ct47 : Value}
    {t_MOST_NUMBERS : Tok}
    {t_GREATEST : Tok}
    {t_MOST_WIRES_wires : Tok}
    {t_MOST_LETTERS : Tok}
    {t_MOST_WIRES_lines : Tok}
    {CT : Addr}
    {CInvalidRow NInvalidRow fIInvalidRow : Addr} {nmInvalidRow qInvalidRow : Str} {bsInvalidRow : List Value} {snInvalidRow : List Str} {subInvalidRow : List Value} {abInvalidRow : Bool} {colInvalidRow : Option Bool} {ddInvalidRow : Option Addr} {m0InvalidRow m1InvalidRow m2InvalidRow m3InvalidRow m5InvalidRow : Option Value}
    {odInvalidRow anInvalidRow : Option Addr} {slInvalidRow : Array (Option Value)} {ocInvalidRow kVInvalidRow dcInvalidRow pmInvalidRow cdInvalidRow ctInvalidRow : Value}
    {CInvalidWires NInvalidWires fIInvalidWires : Addr} {nmInvalidWires qInvalidWires : Str} {bsInvalidWires : List Value} {snInvalidWires : List Str} {subInvalidWires : List Value} {abInvalidWires : Bool} {colInvalidWires : Option Bool} {ddInvalidWires : Option Addr} {m0InvalidWires m1InvalidWires m2InvalidWires m3InvalidWires m5InvalidWires : Option Value}
    {odInvalidWires anInvalidWires : Option Addr} {slInvalidWires : Array (Option Value)} {ocInvalidWires kVInvalidWires dcInvalidWires pmInvalidWires cdInvalidWires ctInvalidWires : Value}
    {CL : Addr}
    {fM0 : Addr} {odM0 anM0 : Option Addr} {slM0 : Array (Option Value)} {ocM0 kVM0 dcM0 pmM0 cdM0 ctM0 : Value}
    (a1 : PySem.W.nsIn K mainGlobals "is_integer" = some (some (.ref f1)))
    (l1 : K.lookup f1 = some ⟨oc1, od1, .func (PySem.W.fnOf "is_integer" "is_integer" (defArgs s_is_integer) (defBody s_is_integer) (defScope s_is_integer) .none kV1 dc1 pm1 an1 cd1 ct1), sl1⟩)
    (c1 : PySem.W.codeIn K cd1 "is_integer" = true)
    (k1 : PySem.W.keepIn K (.ref f1) = true)
    (a2 : PySem.W.nsIn K mainGlobals "is_between" = some (some (.ref f2)))
    (l2 : K.lookup f2 = some ⟨oc2, od2, .func (PySem.W.fnOf "is_between" "is_between" (defArgs s_is_between) (defBody s_is_between) (defScope s_is_between) .none kV2 dc2 pm2 an2 cd2 ct2), sl2⟩)
    (c2 : PySem.W.codeIn K cd2 "is_between" = true)
    (k2 : PySem.W.keepIn K (.ref f2) = true)
    (a3 : PySem.W.nsIn K mainGlobals "is_from" = some (some (.ref f3)))
    (l3 : K.lookup f3 = some ⟨oc3, od3, .func (PySem.W.fnOf "is_from" "is_from" (defArgs s_is_from) (defBody s_is_from) (defScope s_is_from) .none kV3 dc3 pm3 an3 cd3 ct3), sl3⟩)
    (c3 : PySem.W.codeIn K cd3 "is_from" = true)
    (k3 : PySem.W.keepIn K (.ref f3) = true)
    (a4 : PySem.W.nsIn K mainGlobals "is_list" = some (some (.ref f4)))
    (l4 : K.lookup f4 = some ⟨oc4, od4, .func (PySem.W.fnOf "is_list" "is_list" (defArgs s_is_list) (defBody s_is_list) (defScope s_is_list) .none kV4 dc4 pm4 an4 cd4 ct4), sl4⟩)
    (c4 : PySem.W.codeIn K cd4 "is_list" = true)
    (k4 : PySem.W.keepIn K (.ref f4) = true)
    (a5 : PySem.W.nsIn K mainGlobals "are_from" = some (some (.ref f5)))
    (l5 : K.lookup f5 = some ⟨oc5, od5, .func (PySem.W.fnOf "are_from" "are_from" (defArgs s_are_from) (defBody s_are_from) (defScope s_are_from) .none kV5 dc5 pm5 an5 cd5 ct5), sl5⟩)
    (c5 : PySem.W.codeIn K cd5 "are_from" = true)
    (k5 : PySem.W.keepIn K (.ref f5) = true)
    (a6 : PySem.W.nsIn K mainGlobals "are_between" = some (some (.ref f6)))
    (l6 : K.lookup f6 = some ⟨oc6, od6, .func (PySem.W.fnOf "are_between" "are_between" (defArgs s_are_between) (defBody s_are_between) (defScope s_are_between) .none kV6 dc6 pm6 an6 cd6 ct6), sl6⟩)
    (c6 : PySem.W.codeIn K cd6 "are_between" = true)
    (k6 : PySem.W.keepIn K (.ref f6) = true)
    (a7 : PySem.W.nsIn K mainGlobals "is_row" = some (some (.ref f7)))
    (l7 : K.lookup f7 = some ⟨oc7, od7, .func (PySem.W.fnOf "is_row" "is_row" (defArgs s_is_row) (defBody s_is_row) (defScope s_is_row) .none kV7 dc7 pm7 an7 cd7 ct7), sl7⟩)
    (c7 : PySem.W.codeIn K cd7 "is_row" = true)
    (k7 : PySem.W.keepIn K (.ref f7) = true)
    (a8 : PySem.W.nsIn K mainGlobals "is_plan" = some (some (.ref f8)))
    (l8 : K.lookup f8 = some ⟨oc8, od8, .func (PySem.W.fnOf "is_plan" "is_plan" (defArgs s_is_plan) (defBody s_is_plan) (defScope s_is_plan) .none kV8 dc8 pm8 an8 cd8 ct8), sl8⟩)
    (c8 : PySem.W.codeIn K cd8 "is_plan" = true)
    (k8 : PySem.W.keepIn K (.ref f8) = true)
    (a9 : PySem.W.nsIn K mainGlobals "_are_sizes" = some (some (.ref f9)))
    (l9 : K.lookup f9 = some ⟨oc9, od9, .func (PySem.W.fnOf "_are_sizes" "_are_sizes" (defArgs s_are_sizes) (defBody s_are_sizes) (defScope s_are_sizes) .none kV9 dc9 pm9 an9 cd9 ct9), sl9⟩)
    (c9 : PySem.W.codeIn K cd9 "_are_sizes" = true)
    (k9 : PySem.W.keepIn K (.ref f9) = true)
    (a10 : PySem.W.nsIn K mainGlobals "can_raise" = some (some (.ref f10)))
    (l10 : K.lookup f10 = some ⟨oc10, od10, .func (PySem.W.fnOf "can_raise" "can_raise" (defArgs s_can_raise) (defBody s_can_raise) (defScope s_can_raise) .none kV10 dc10 pm10 an10 cd10 ct10), sl10⟩)
    (c10 : PySem.W.codeIn K cd10 "can_raise" = true)
    (k10 : PySem.W.keepIn K (.ref f10) = true)
    (a11 : PySem.W.nsIn K mainGlobals "raise_fits" = some (some (.ref f11)))
    (l11 : K.lookup f11 = some ⟨oc11, od11, .func (PySem.W.fnOf "raise_fits" "raise_fits" (defArgs s_raise_fits) (defBody s_raise_fits) (defScope s_raise_fits) .none kV11 dc11 pm11 an11 cd11 ct11), sl11⟩)
    (c11 : PySem.W.codeIn K cd11 "raise_fits" = true)
    (k11 : PySem.W.keepIn K (.ref f11) = true)
    (a12 : PySem.W.nsIn K mainGlobals "raise_plan" = some (some (.ref f12)))
    (l12 : K.lookup f12 = some ⟨oc12, od12, .func (PySem.W.fnOf "raise_plan" "raise_plan" (defArgs s_raise_plan) (defBody s_raise_plan) (defScope s_raise_plan) .none kV12 dc12 pm12 an12 cd12 ct12), sl12⟩)
    (c12 : PySem.W.codeIn K cd12 "raise_plan" = true)
    (k12 : PySem.W.keepIn K (.ref f12) = true)
    (a13 : PySem.W.nsIn K mainGlobals "leasts" = some (some (.ref f13)))
    (l13 : K.lookup f13 = some ⟨oc13, od13, .func (PySem.W.fnOf "leasts" "leasts" (defArgs s_leasts) (defBody s_leasts) (defScope s_leasts) .none kV13 dc13 pm13 an13 cd13 ct13), sl13⟩)
    (c13 : PySem.W.codeIn K cd13 "leasts" = true)
    (k13 : PySem.W.keepIn K (.ref f13) = true)
    (a14 : PySem.W.nsIn K mainGlobals "most_raised" = some (some (.ref f14)))
    (l14 : K.lookup f14 = some ⟨oc14, od14, .func (PySem.W.fnOf "most_raised" "most_raised" (defArgs s_most_raised) (defBody s_most_raised) (defScope s_most_raised) .none kV14 dc14 pm14 an14 cd14 ct14), sl14⟩)
    (c14 : PySem.W.codeIn K cd14 "most_raised" = true)
    (k14 : PySem.W.keepIn K (.ref f14) = true)
    (a15 : PySem.W.nsIn K mainGlobals "_least" = some (some (.ref f15)))
    (l15 : K.lookup f15 = some ⟨oc15, od15, .func (PySem.W.fnOf "_least" "_least" (defArgs s_least) (defBody s_least) (defScope s_least) .none kV15 dc15 pm15 an15 cd15 ct15), sl15⟩)
    (c15 : PySem.W.codeIn K cd15 "_least" = true)
    (k15 : PySem.W.keepIn K (.ref f15) = true)
    (a16 : PySem.W.nsIn K mainGlobals "most_rest" = some (some (.ref f16)))
    (l16 : K.lookup f16 = some ⟨oc16, od16, .func (PySem.W.fnOf "most_rest" "most_rest" (defArgs s_most_rest) (defBody s_most_rest) (defScope s_most_rest) .none kV16 dc16 pm16 an16 cd16 ct16), sl16⟩)
    (c16 : PySem.W.codeIn K cd16 "most_rest" = true)
    (k16 : PySem.W.keepIn K (.ref f16) = true)
    (a17 : PySem.W.nsIn K mainGlobals "most_told" = some (some (.ref f17)))
    (l17 : K.lookup f17 = some ⟨oc17, od17, .func (PySem.W.fnOf "most_told" "most_told" (defArgs s_most_told) (defBody s_most_told) (defScope s_most_told) .none kV17 dc17 pm17 an17 cd17 ct17), sl17⟩)
    (c17 : PySem.W.codeIn K cd17 "most_told" = true)
    (k17 : PySem.W.keepIn K (.ref f17) = true)
    (a18 : PySem.W.nsIn K mainGlobals "_best" = some (some (.ref f18)))
    (l18 : K.lookup f18 = some ⟨oc18, od18, .func (PySem.W.fnOf "_best" "_best" (defArgs s_best) (defBody s_best) (defScope s_best) .none kV18 dc18 pm18 an18 cd18 ct18), sl18⟩)
    (c18 : PySem.W.codeIn K cd18 "_best" = true)
    (k18 : PySem.W.keepIn K (.ref f18) = true)
    (a19 : PySem.W.nsIn K mainGlobals "_raised_by" = some (some (.ref f19)))
    (l19 : K.lookup f19 = some ⟨oc19, od19, .func (PySem.W.fnOf "_raised_by" "_raised_by" (defArgs s_raised_by) (defBody s_raised_by) (defScope s_raised_by) .none kV19 dc19 pm19 an19 cd19 ct19), sl19⟩)
    (c19 : PySem.W.codeIn K cd19 "_raised_by" = true)
    (k19 : PySem.W.keepIn K (.ref f19) = true)
    (a20 : PySem.W.nsIn K mainGlobals "check_row_and_wires" = some (some (.ref f20)))
    (l20 : K.lookup f20 = some ⟨oc20, od20, .func (PySem.W.fnOf "check_row_and_wires" "check_row_and_wires" (defArgs s_check_row_and_wires) (defBody s_check_row_and_wires) (defScope s_check_row_and_wires) .none kV20 dc20 pm20 an20 cd20 ct20), sl20⟩)
    (c20 : PySem.W.codeIn K cd20 "check_row_and_wires" = true)
    (k20 : PySem.W.keepIn K (.ref f20) = true)
    (a21 : PySem.W.nsIn K mainGlobals "_check_row" = some (some (.ref f21)))
    (l21 : K.lookup f21 = some ⟨oc21, od21, .func (PySem.W.fnOf "_check_row" "_check_row" (defArgs s_check_row) (defBody s_check_row) (defScope s_check_row) .none kV21 dc21 pm21 an21 cd21 ct21), sl21⟩)
    (c21 : PySem.W.codeIn K cd21 "_check_row" = true)
    (k21 : PySem.W.keepIn K (.ref f21) = true)
    (a22 : PySem.W.nsIn K mainGlobals "_check_wires" = some (some (.ref f22)))
    (l22 : K.lookup f22 = some ⟨oc22, od22, .func (PySem.W.fnOf "_check_wires" "_check_wires" (defArgs s_check_wires) (defBody s_check_wires) (defScope s_check_wires) .none kV22 dc22 pm22 an22 cd22 ct22), sl22⟩)
    (c22 : PySem.W.codeIn K cd22 "_check_wires" = true)
    (k22 : PySem.W.keepIn K (.ref f22) = true)
    (a23 : PySem.W.nsIn K mainGlobals "is_spec" = some (some (.ref f23)))
    (l23 : K.lookup f23 = some ⟨oc23, od23, .func (PySem.W.fnOf "is_spec" "is_spec" (defArgs s_is_spec) (defBody s_is_spec) (defScope s_is_spec) .none kV23 dc23 pm23 an23 cd23 ct23), sl23⟩)
    (c23 : PySem.W.codeIn K cd23 "is_spec" = true)
    (k23 : PySem.W.keepIn K (.ref f23) = true)
    (a24 : PySem.W.nsIn K mainGlobals "_law_choose" = some (some (.ref f24)))
    (l24 : K.lookup f24 = some ⟨oc24, od24, .func (PySem.W.fnOf "_law_choose" "_law_choose" (defArgs s_law_choose) (defBody s_law_choose) (defScope s_law_choose) .none kV24 dc24 pm24 an24 cd24 ct24), sl24⟩)
    (c24 : PySem.W.codeIn K cd24 "_law_choose" = true)
    (k24 : PySem.W.keepIn K (.ref f24) = true)
    (a25 : PySem.W.nsIn K mainGlobals "_law_raised" = some (some (.ref f25)))
    (l25 : K.lookup f25 = some ⟨oc25, od25, .func (PySem.W.fnOf "_law_raised" "_law_raised" (defArgs s_law_raised) (defBody s_law_raised) (defScope s_law_raised) .none kV25 dc25 pm25 an25 cd25 ct25), sl25⟩)
    (c25 : PySem.W.codeIn K cd25 "_law_raised" = true)
    (k25 : PySem.W.keepIn K (.ref f25) = true)
    (a26 : PySem.W.nsIn K mainGlobals "_law_wire_tables" = some (some (.ref f26)))
    (l26 : K.lookup f26 = some ⟨oc26, od26, .func (PySem.W.fnOf "_law_wire_tables" "_law_wire_tables" (defArgs s_law_wire_tables) (defBody s_law_wire_tables) (defScope s_law_wire_tables) .none kV26 dc26 pm26 an26 cd26 ct26), sl26⟩)
    (c26 : PySem.W.codeIn K cd26 "_law_wire_tables" = true)
    (k26 : PySem.W.keepIn K (.ref f26) = true)
    (a27 : PySem.W.nsIn K mainGlobals "_law_plan" = some (some (.ref f27)))
    (l27 : K.lookup f27 = some ⟨oc27, od27, .func (PySem.W.fnOf "_law_plan" "_law_plan" (defArgs s_law_plan) (defBody s_law_plan) (defScope s_law_plan) .none kV27 dc27 pm27 an27 cd27 ct27), sl27⟩)
    (c27 : PySem.W.codeIn K cd27 "_law_plan" = true)
    (k27 : PySem.W.keepIn K (.ref f27) = true)
    (a28 : PySem.W.nsIn K mainGlobals "_law_use" = some (some (.ref f28)))
    (l28 : K.lookup f28 = some ⟨oc28, od28, .func (PySem.W.fnOf "_law_use" "_law_use" (defArgs s_law_use) (defBody s_law_use) (defScope s_law_use) .none kV28 dc28 pm28 an28 cd28 ct28), sl28⟩)
    (c28 : PySem.W.codeIn K cd28 "_law_use" = true)
    (k28 : PySem.W.keepIn K (.ref f28) = true)
    (a29 : PySem.W.nsIn K mainGlobals "_law_product" = some (some (.ref f29)))
    (l29 : K.lookup f29 = some ⟨oc29, od29, .func (PySem.W.fnOf "_law_product" "_law_product" (defArgs s_law_product) (defBody s_law_product) (defScope s_law_product) .none kV29 dc29 pm29 an29 cd29 ct29), sl29⟩)
    (c29 : PySem.W.codeIn K cd29 "_law_product" = true)
    (k29 : PySem.W.keepIn K (.ref f29) = true)
    (a30 : PySem.W.nsIn K mainGlobals "_law_reached" = some (some (.ref f30)))
    (l30 : K.lookup f30 = some ⟨oc30, od30, .func (PySem.W.fnOf "_law_reached" "_law_reached" (defArgs s_law_reached) (defBody s_law_reached) (defScope s_law_reached) .none kV30 dc30 pm30 an30 cd30 ct30), sl30⟩)
    (c30 : PySem.W.codeIn K cd30 "_law_reached" = true)
    (k30 : PySem.W.keepIn K (.ref f30) = true)
    (a31 : PySem.W.nsIn K mainGlobals "_law_is_sizes" = some (some (.ref f31)))
    (l31 : K.lookup f31 = some ⟨oc31, od31, .func (PySem.W.fnOf "_law_is_sizes" "_law_is_sizes" (defArgs s_law_is_sizes) (defBody s_law_is_sizes) (defScope s_law_is_sizes) .none kV31 dc31 pm31 an31 cd31 ct31), sl31⟩)
    (c31 : PySem.W.codeIn K cd31 "_law_is_sizes" = true)
    (k31 : PySem.W.keepIn K (.ref f31) = true)
    (a32 : PySem.W.nsIn K mainGlobals "_law_fits" = some (some (.ref f32)))
    (l32 : K.lookup f32 = some ⟨oc32, od32, .func (PySem.W.fnOf "_law_fits" "_law_fits" (defArgs s_law_fits) (defBody s_law_fits) (defScope s_law_fits) .none kV32 dc32 pm32 an32 cd32 ct32), sl32⟩)
    (c32 : PySem.W.codeIn K cd32 "_law_fits" = true)
    (k32 : PySem.W.keepIn K (.ref f32) = true)
    (a33 : PySem.W.nsIn K mainGlobals "_law_near" = some (some (.ref f33)))
    (l33 : K.lookup f33 = some ⟨oc33, od33, .func (PySem.W.fnOf "_law_near" "_law_near" (defArgs s_law_near) (defBody s_law_near) (defScope s_law_near) .none kV33 dc33 pm33 an33 cd33 ct33), sl33⟩)
    (c33 : PySem.W.codeIn K cd33 "_law_near" = true)
    (k33 : PySem.W.keepIn K (.ref f33) = true)
    (a34 : PySem.W.nsIn K mainGlobals "_law_asked" = some (some (.ref f34)))
    (l34 : K.lookup f34 = some ⟨oc34, od34, .func (PySem.W.fnOf "_law_asked" "_law_asked" (defArgs s_law_asked) (defBody s_law_asked) (defScope s_law_asked) .none kV34 dc34 pm34 an34 cd34 ct34), sl34⟩)
    (c34 : PySem.W.codeIn K cd34 "_law_asked" = true)
    (k34 : PySem.W.keepIn K (.ref f34) = true)
    (a35 : PySem.W.nsIn K mainGlobals "_law_judged_right" = some (some (.ref f35)))
    (l35 : K.lookup f35 = some ⟨oc35, od35, .func (PySem.W.fnOf "_law_judged_right" "_law_judged_right" (defArgs s_law_judged_right) (defBody s_law_judged_right) (defScope s_law_judged_right) .none kV35 dc35 pm35 an35 cd35 ct35), sl35⟩)
    (c35 : PySem.W.codeIn K cd35 "_law_judged_right" = true)
    (k35 : PySem.W.keepIn K (.ref f35) = true)
    (a36 : PySem.W.nsIn K mainGlobals "_law_told_right" = some (some (.ref f36)))
    (l36 : K.lookup f36 = some ⟨oc36, od36, .func (PySem.W.fnOf "_law_told_right" "_law_told_right" (defArgs s_law_told_right) (defBody s_law_told_right) (defScope s_law_told_right) .none kV36 dc36 pm36 an36 cd36 ct36), sl36⟩)
    (c36 : PySem.W.codeIn K cd36 "_law_told_right" = true)
    (k36 : PySem.W.keepIn K (.ref f36) = true)
    (a37 : PySem.W.nsIn K mainGlobals "_law_numbers_right" = some (some (.ref f37)))
    (l37 : K.lookup f37 = some ⟨oc37, od37, .func (PySem.W.fnOf "_law_numbers_right" "_law_numbers_right" (defArgs s_law_numbers_right) (defBody s_law_numbers_right) (defScope s_law_numbers_right) .none kV37 dc37 pm37 an37 cd37 ct37), sl37⟩)
    (c37 : PySem.W.codeIn K cd37 "_law_numbers_right" = true)
    (k37 : PySem.W.keepIn K (.ref f37) = true)
    (a38 : PySem.W.nsIn K mainGlobals "_law_refused" = some (some (.ref f38)))
    (l38 : K.lookup f38 = some ⟨oc38, od38, .func (PySem.W.fnOf "_law_refused" "_law_refused" (defArgs s_law_refused) (defBody s_law_refused) (defScope s_law_refused) .none kV38 dc38 pm38 an38 cd38 ct38), sl38⟩)
    (c38 : PySem.W.codeIn K cd38 "_law_refused" = true)
    (k38 : PySem.W.keepIn K (.ref f38) = true)
    (a39 : PySem.W.nsIn K mainGlobals "_law_told" = some (some (.ref f39)))
    (l39 : K.lookup f39 = some ⟨oc39, od39, .func (PySem.W.fnOf "_law_told" "_law_told" (defArgs s_law_told) (defBody s_law_told) (defScope s_law_told) .none kV39 dc39 pm39 an39 cd39 ct39), sl39⟩)
    (c39 : PySem.W.codeIn K cd39 "_law_told" = true)
    (k39 : PySem.W.keepIn K (.ref f39) = true)
    (a40 : PySem.W.nsIn K mainGlobals "_law_very" = some (some (.ref f40)))
    (l40 : K.lookup f40 = some ⟨oc40, od40, .func (PySem.W.fnOf "_law_very" "_law_very" (defArgs s_law_very) (defBody s_law_very) (defScope s_law_very) .none kV40 dc40 pm40 an40 cd40 ct40), sl40⟩)
    (c40 : PySem.W.codeIn K cd40 "_law_very" = true)
    (k40 : PySem.W.keepIn K (.ref f40) = true)
    (a41 : PySem.W.nsIn K mainGlobals "_law_copy" = some (some (.ref f41)))
    (l41 : K.lookup f41 = some ⟨oc41, od41, .func (PySem.W.fnOf "_law_copy" "_law_copy" (defArgs s_law_copy) (defBody s_law_copy) (defScope s_law_copy) .none kV41 dc41 pm41 an41 cd41 ct41), sl41⟩)
    (c41 : PySem.W.codeIn K cd41 "_law_copy" = true)
    (k41 : PySem.W.keepIn K (.ref f41) = true)
    (a42 : PySem.W.nsIn K mainGlobals "_law_doors_right" = some (some (.ref f42)))
    (l42 : K.lookup f42 = some ⟨oc42, od42, .func (PySem.W.fnOf "_law_doors_right" "_law_doors_right" (defArgs s_law_doors_right) (defBody s_law_doors_right) (defScope s_law_doors_right) .none kV42 dc42 pm42 an42 cd42 ct42), sl42⟩)
    (c42 : PySem.W.codeIn K cd42 "_law_doors_right" = true)
    (k42 : PySem.W.keepIn K (.ref f42) = true)
    (a43 : PySem.W.nsIn K mainGlobals "_law_cell" = some (some (.ref f43)))
    (l43 : K.lookup f43 = some ⟨oc43, od43, .func (PySem.W.fnOf "_law_cell" "_law_cell" (defArgs s_law_cell) (defBody s_law_cell) (defScope s_law_cell) .none kV43 dc43 pm43 an43 cd43 ct43), sl43⟩)
    (c43 : PySem.W.codeIn K cd43 "_law_cell" = true)
    (k43 : PySem.W.keepIn K (.ref f43) = true)
    (a44 : PySem.W.nsIn K mainGlobals "_law_box" = some (some (.ref f44)))
    (l44 : K.lookup f44 = some ⟨oc44, od44, .func (PySem.W.fnOf "_law_box" "_law_box" (defArgs s_law_box) (defBody s_law_box) (defScope s_law_box) .none kV44 dc44 pm44 an44 cd44 ct44), sl44⟩)
    (c44 : PySem.W.codeIn K cd44 "_law_box" = true)
    (k44 : PySem.W.keepIn K (.ref f44) = true)
    (a45 : PySem.W.nsIn K mainGlobals "_law_take" = some (some (.ref f45)))
    (l45 : K.lookup f45 = some ⟨oc45, od45, .func (PySem.W.fnOf "_law_take" "_law_take" (defArgs s_law_take) (defBody s_law_take) (defScope s_law_take) .none kV45 dc45 pm45 an45 cd45 ct45), sl45⟩)
    (c45 : PySem.W.codeIn K cd45 "_law_take" = true)
    (k45 : PySem.W.keepIn K (.ref f45) = true)
    (a46 : PySem.W.nsIn K mainGlobals "_law_same" = some (some (.ref f46)))
    (l46 : K.lookup f46 = some ⟨oc46, od46, .func (PySem.W.fnOf "_law_same" "_law_same" (defArgs s_law_same) (defBody s_law_same) (defScope s_law_same) .none kV46 dc46 pm46 an46 cd46 ct46), sl46⟩)
    (c46 : PySem.W.codeIn K cd46 "_law_same" = true)
    (k46 : PySem.W.keepIn K (.ref f46) = true)
    (a47 : PySem.W.nsIn K mainGlobals "law" = some (some (.ref f47)))
    (l47 : K.lookup f47 = some ⟨oc47, od47, .func (PySem.W.fnOf "law" "law" (defArgs s_law) (defBody s_law) (defScope s_law) .none kV47 dc47 pm47 an47 cd47 ct47), sl47⟩)
    (c47 : PySem.W.codeIn K cd47 "law" = true)
    (k47 : PySem.W.keepIn K (.ref f47) = true)
    (z_int : PySem.W.nsIn K mainGlobals "int" = some none)
    (z_bool : PySem.W.nsIn K mainGlobals "bool" = some none)
    (z_str : PySem.W.nsIn K mainGlobals "str" = some none)
    (z_list : PySem.W.nsIn K mainGlobals "list" = some none)
    (z_tuple : PySem.W.nsIn K mainGlobals "tuple" = some none)
    (z_len : PySem.W.nsIn K mainGlobals "len" = some none)
    (z_sum : PySem.W.nsIn K mainGlobals "sum" = some none)
    (z_abs : PySem.W.nsIn K mainGlobals "abs" = some none)
    (z_all : PySem.W.nsIn K mainGlobals "all" = some none)
    (z_range : PySem.W.nsIn K mainGlobals "range" = some none)
    (z_isinstance : PySem.W.nsIn K mainGlobals "isinstance" = some none)
    (z_max : PySem.W.nsIn K mainGlobals "max" = some none)
    (z_min : PySem.W.nsIn K mainGlobals "min" = some none)
    (z_enumerate : PySem.W.nsIn K mainGlobals "enumerate" = some none)
    (z_zip : PySem.W.nsIn K mainGlobals "zip" = some none)
    (z_dict : PySem.W.nsIn K mainGlobals "dict" = some none)
    (c_MOST_NUMBERS : PySem.W.nsIn K mainGlobals "MOST_NUMBERS" = some (some (.int 16 t_MOST_NUMBERS)))
    (c_GREATEST : PySem.W.nsIn K mainGlobals "GREATEST" = some (some (.int 100000000000000000000000000000000000000000000000000 t_GREATEST)))
    (c_MOST_WIRES_wires : PySem.W.nsIn K mainGlobals "MOST_WIRES_wires" = some (some (.int 24 t_MOST_WIRES_wires)))
    (c_MOST_LETTERS : PySem.W.nsIn K mainGlobals "MOST_LETTERS" = some (some (.int 8 t_MOST_LETTERS)))
    (c_MOST_WIRES_lines : PySem.W.nsIn K mainGlobals "MOST_WIRES_lines" = some (some (.int 10 t_MOST_WIRES_lines)))
    (c_comb : PySem.W.nsIn K mainGlobals "comb" = some (some (.builtin "math.comb")))
    (aCT : PySem.W.nsIn K mainGlobals "TalkError" = some (some (.ref CT)))
    (aCInvalidRow : PySem.W.nsIn K mainGlobals "InvalidRow" = some (some (.ref CInvalidRow)))
    (xLInvalidRow : K.lookup CInvalidRow = some (excClassObj nmInvalidRow qInvalidRow CInvalidRow NInvalidRow bsInvalidRow [.ref CT, .type "ValueError", .type "Exception", .type "BaseException", .type "object"] true snInvalidRow subInvalidRow abInvalidRow colInvalidRow ddInvalidRow m0InvalidRow m1InvalidRow m2InvalidRow m3InvalidRow m5InvalidRow "ValueError.__new__"))
    (saInvalidRow : PySem.W.findIn K (.ref CInvalidRow) "__setattr__" = some (some (.builtin "object.__setattr__")))
    (gaInvalidRow : PySem.W.findIn K (.ref CInvalidRow) "__getattribute__" = some (some (.builtin "BaseException.__getattribute__")))
    (ggInvalidRow : PySem.W.findIn K (.ref CInvalidRow) "__getattr__" = some none)
    (nbInvalidRow : PySem.W.findIn K (.ref CInvalidRow) "given" = some none)
    (iCInvalidRow : PySem.W.findIn K (.ref CInvalidRow) "__init__" = some (some (.ref fIInvalidRow)))
    (tIInvalidRow : PySem.W.typeIn K (.ref fIInvalidRow) = some (.type "function"))
    (lIInvalidRow : K.lookup fIInvalidRow = some ⟨ocInvalidRow, odInvalidRow, .func (PySem.W.fnOf "__init__" "InvalidRow.__init__" (defArgs s_init_InvalidRow) (defBody s_init_InvalidRow) (defScope s_init_InvalidRow) .none kVInvalidRow dcInvalidRow pmInvalidRow anInvalidRow cdInvalidRow ctInvalidRow), slInvalidRow⟩)
    (cIInvalidRow : PySem.W.codeIn K cdInvalidRow "InvalidRow.__init__" = true)
    (kIInvalidRow : PySem.W.keepIn K (.ref fIInvalidRow) = true)
    (kCInvalidRow : PySem.W.keepIn K (.ref CInvalidRow) = true)
    (eCInvalidRow : PySem.W.subIn K (.ref CInvalidRow) (.type "BaseException") = some true)
    (tCInvalidRow : PySem.W.typeIn K (.ref CInvalidRow) = some (.type "type"))
    (hCInvalidRow : PySem.W.hasDictIn K CInvalidRow = true)
    (iSInvalidRow : PySem.W.isClsIn K CInvalidRow = true)
    (aCInvalidWires : PySem.W.nsIn K mainGlobals "InvalidWires" = some (some (.ref CInvalidWires)))
    (xLInvalidWires : K.lookup CInvalidWires = some (excClassObj nmInvalidWires qInvalidWires CInvalidWires NInvalidWires bsInvalidWires [.ref CT, .type "ValueError", .type "Exception", .type "BaseException", .type "object"] true snInvalidWires subInvalidWires abInvalidWires colInvalidWires ddInvalidWires m0InvalidWires m1InvalidWires m2InvalidWires m3InvalidWires m5InvalidWires "ValueError.__new__"))
    (saInvalidWires : PySem.W.findIn K (.ref CInvalidWires) "__setattr__" = some (some (.builtin "object.__setattr__")))
    (gaInvalidWires : PySem.W.findIn K (.ref CInvalidWires) "__getattribute__" = some (some (.builtin "BaseException.__getattribute__")))
    (ggInvalidWires : PySem.W.findIn K (.ref CInvalidWires) "__getattr__" = some none)
    (nbInvalidWires : PySem.W.findIn K (.ref CInvalidWires) "given" = some none)
    (iCInvalidWires : PySem.W.findIn K (.ref CInvalidWires) "__init__" = some (some (.ref fIInvalidWires)))
    (tIInvalidWires : PySem.W.typeIn K (.ref fIInvalidWires) = some (.type "function"))
    (lIInvalidWires : K.lookup fIInvalidWires = some ⟨ocInvalidWires, odInvalidWires, .func (PySem.W.fnOf "__init__" "InvalidWires.__init__" (defArgs s_init_InvalidWires) (defBody s_init_InvalidWires) (defScope s_init_InvalidWires) .none kVInvalidWires dcInvalidWires pmInvalidWires anInvalidWires cdInvalidWires ctInvalidWires), slInvalidWires⟩)
    (cIInvalidWires : PySem.W.codeIn K cdInvalidWires "InvalidWires.__init__" = true)
    (kIInvalidWires : PySem.W.keepIn K (.ref fIInvalidWires) = true)
    (kCInvalidWires : PySem.W.keepIn K (.ref CInvalidWires) = true)
    (eCInvalidWires : PySem.W.subIn K (.ref CInvalidWires) (.type "BaseException") = some true)
    (tCInvalidWires : PySem.W.typeIn K (.ref CInvalidWires) = some (.type "type"))
    (hCInvalidWires : PySem.W.hasDictIn K CInvalidWires = true)
    (iSInvalidWires : PySem.W.isClsIn K CInvalidWires = true)
    (eRR : PySem.W.subIn K (.ref CInvalidRow) (.ref CInvalidRow) = some true)
    (eWR : PySem.W.subIn K (.ref CInvalidWires) (.ref CInvalidRow) = some false)
    (eWW : PySem.W.subIn K (.ref CInvalidWires) (.ref CInvalidWires) = some true)
    (aCL : PySem.W.nsIn K mainGlobals "Line" = some (some (.ref CL)))
    (pgL : PySem.W.plainGet K CL Str.empty = true)
    (hdL : PySem.W.hasDictIn K CL = true)
    (poL : PySem.W.plainOver K CL = true)
    (saL : PySem.W.findIn K (.ref CL) "__setattr__" = some (some (.builtin "object.__setattr__")))
    (mkL : PySem.W.makesIn K CL = true)
    (kcL : PySem.W.keepIn K (.ref CL) = true)
    (haL : PySem.W.findIn K (.ref CL) "__class__" = some (some (.builtin "object.__class__")))
    (hnL : PySem.W.specialIn K (.builtin "object.__class__") "__get__" = some (some (.builtin "getset_descriptor.__get__")))
    (htL : PySem.W.takesIn K (.builtin "object.__class__") = some true)
    (hmL : PySem.W.mroIn K CL (.type "object") = some true)
    (isL : PySem.W.isClsIn K CL = true)
    (tyL : PySem.W.typeIn K (.ref CL) = some (.type "type"))
    (no_list : PySem.W.subIn K (.ref CL) (.type "list") = some false)
    (no_tuple : PySem.W.subIn K (.ref CL) (.type "tuple") = some false)
    (no_int : PySem.W.subIn K (.ref CL) (.type "int") = some false)
    (no_bool : PySem.W.subIn K (.ref CL) (.type "bool") = some false)
    (no_str : PySem.W.subIn K (.ref CL) (.type "str") = some false)
    (no_dict : PySem.W.subIn K (.ref CL) (.type "dict") = some false)
    (su_NoneType : PySem.W.subIn K (.type "NoneType") (.ref CL) = some false)
    (su_bool : PySem.W.subIn K (.type "bool") (.ref CL) = some false)
    (su_int : PySem.W.subIn K (.type "int") (.ref CL) = some false)
    (su_str : PySem.W.subIn K (.type "str") (.ref CL) = some false)
    (su_list : PySem.W.subIn K (.type "list") (.ref CL) = some false)
    (su_tuple : PySem.W.subIn K (.type "tuple") (.ref CL) = some false)
    (su_dict : PySem.W.subIn K (.type "dict") (.ref CL) = some false)
    (aM0 : PySem.W.findIn K (.ref CL) "__init__" = some (some (.ref fM0)))
    (iM0 : PySem.W.isFn K (.ref fM0) = true)
    (lM0 : K.lookup fM0 = some ⟨ocM0, odM0, .func (PySem.W.fnOf "__init__" "Line.__init__" (defArgs s_Line_init) (defBody s_Line_init) (defScope s_Line_init) .none kVM0 dcM0 pmM0 anM0 cdM0 ctM0), slM0⟩)
    (cM0 : PySem.W.codeIn K cdM0 "Line.__init__" = true)
    (kM0 : PySem.W.keepIn K (.ref fM0) = true)
    (n_spec : PySem.W.findIn K (.ref CL) "spec" = some none)
    (n_sent : PySem.W.findIn K (.ref CL) "_sent_by" = some none)
    (n_came : PySem.W.findIn K (.ref CL) "_came_to" = some none) :
    ∃ fd : FuncData, (∀ (s : Shared) (v : Value), BindsTo s fd ⟨[v], []⟩ [("script", v)]) ∧ ∀ base : Heap, K.In base → base.Ns mainGlobals mg → FnOk l.prog w K mg base CX0 13 fa fd ["script"] (spLaw K) := by
  have e := hfa.symm.trans (PySem.W.mg_of X G a47)
  cases e
  let T : TK K mg := {
    is_integer := mkDef X G a1 l1 c1 k1 (fun _ _ _ _ _ _ us hl => match us, hl with | [_], _ => rfl)
    is_between := mkDef X G a2 l2 c2 k2 (fun _ _ _ _ _ _ us hl => match us, hl with | [_, _, _], _ => rfl)
    is_from := mkDef X G a3 l3 c3 k3 (fun _ _ _ _ _ _ us hl => match us, hl with | [_, _], _ => rfl)
    is_list := mkDef X G a4 l4 c4 k4 (fun _ _ _ _ _ _ us hl => match us, hl with | [_], _ => rfl)
    are_from := mkDef X G a5 l5 c5 k5 (fun _ _ _ _ _ _ us hl => match us, hl with | [_, _], _ => rfl)
    are_between := mkDef X G a6 l6 c6 k6 (fun _ _ _ _ _ _ us hl => match us, hl with | [_, _, _], _ => rfl)
    is_row := mkDef X G a7 l7 c7 k7 (fun _ _ _ _ _ _ us hl => match us, hl with | [_], _ => rfl)
    is_plan := mkDef X G a8 l8 c8 k8 (fun _ _ _ _ _ _ us hl => match us, hl with | [_], _ => rfl)
    are_sizes := mkDef X G a9 l9 c9 k9 (fun _ _ _ _ _ _ us hl => match us, hl with | [_], _ => rfl)
    can_raise := mkDef X G a10 l10 c10 k10 (fun _ _ _ _ _ _ us hl => match us, hl with | [_, _], _ => rfl)
    raise_fits := mkDef X G a11 l11 c11 k11 (fun _ _ _ _ _ _ us hl => match us, hl with | [_, _, _], _ => rfl)
    raise_plan := mkDef X G a12 l12 c12 k12 (fun _ _ _ _ _ _ us hl => match us, hl with | [_, _], _ => rfl)
    leasts := mkDef X G a13 l13 c13 k13 (fun _ _ _ _ _ _ us hl => match us, hl with | [_], _ => rfl)
    most_raised := mkDef X G a14 l14 c14 k14 (fun _ _ _ _ _ _ us hl => match us, hl with | [_], _ => rfl)
    least := mkDef X G a15 l15 c15 k15 (fun _ _ _ _ _ _ us hl => match us, hl with | [_, _, _], _ => rfl)
    most_rest := mkDef X G a16 l16 c16 k16 (fun _ _ _ _ _ _ us hl => match us, hl with | [_, _], _ => rfl)
    most_told := mkDef X G a17 l17 c17 k17 (fun _ _ _ _ _ _ us hl => match us, hl with | [_], _ => rfl)
    best := mkDef X G a18 l18 c18 k18 (fun _ _ _ _ _ _ us hl => match us, hl with | [_, _, _], _ => rfl)
    raised_by := mkDef X G a19 l19 c19 k19 (fun _ _ _ _ _ _ us hl => match us, hl with | [_, _], _ => rfl)
    check_row_and_wires := mkDef X G a20 l20 c20 k20 (fun _ _ _ _ _ _ us hl => match us, hl with | [_, _], _ => rfl)
    check_row := mkDef X G a21 l21 c21 k21 (fun _ _ _ _ _ _ us hl => match us, hl with | [_], _ => rfl)
    check_wires := mkDef X G a22 l22 c22 k22 (fun _ _ _ _ _ _ us hl => match us, hl with | [_], _ => rfl)
    is_spec := mkDef X G a23 l23 c23 k23 (fun _ _ _ _ _ _ us hl => match us, hl with | [_], _ => rfl)
    law_choose := mkDef X G a24 l24 c24 k24 (fun _ _ _ _ _ _ us hl => match us, hl with | [_, _], _ => rfl)
    law_raised := mkDef X G a25 l25 c25 k25 (fun _ _ _ _ _ _ us hl => match us, hl with | [_], _ => rfl)
    law_wire_tables := mkDef X G a26 l26 c26 k26 (fun _ _ _ _ _ _ us hl => match us, hl with | [_, _], _ => rfl)
    law_plan := mkDef X G a27 l27 c27 k27 (fun _ _ _ _ _ _ us hl => match us, hl with | [_, _, _], _ => rfl)
    law_use := mkDef X G a28 l28 c28 k28 (fun _ _ _ _ _ _ us hl => match us, hl with | [_], _ => rfl)
    law_product := mkDef X G a29 l29 c29 k29 (fun _ _ _ _ _ _ us hl => match us, hl with | [_, _], _ => rfl)
    law_reached := mkDef X G a30 l30 c30 k30 (fun _ _ _ _ _ _ us hl => match us, hl with | [_, _], _ => rfl)
    law_is_sizes := mkDef X G a31 l31 c31 k31 (fun _ _ _ _ _ _ us hl => match us, hl with | [_], _ => rfl)
    law_fits := mkDef X G a32 l32 c32 k32 (fun _ _ _ _ _ _ us hl => match us, hl with | [_, _, _], _ => rfl)
    law_near := mkDef X G a33 l33 c33 k33 (fun _ _ _ _ _ _ us hl => match us, hl with | [_, _], _ => rfl)
    law_asked := mkDef X G a34 l34 c34 k34 (fun _ _ _ _ _ _ us hl => match us, hl with | [_, _, _, _], _ => rfl)
    law_judged_right := mkDef X G a35 l35 c35 k35 (fun _ _ _ _ _ _ us hl => match us, hl with | [_, _, _], _ => rfl)
    law_told_right := mkDef X G a36 l36 c36 k36 (fun _ _ _ _ _ _ us hl => match us, hl with | [_, _, _, _], _ => rfl)
    law_numbers_right := mkDef X G a37 l37 c37 k37 (fun _ _ _ _ _ _ us hl => match us, hl with | [_, _, _], _ => rfl)
    law_refused := mkDef X G a38 l38 c38 k38 (fun _ _ _ _ _ _ us hl => match us, hl with | [_, _], _ => rfl)
    law_told := mkDef X G a39 l39 c39 k39 (fun _ _ _ _ _ _ us hl => match us, hl with | [_, _, _, _], _ => rfl)
    law_very := mkDef X G a40 l40 c40 k40 (fun _ _ _ _ _ _ us hl => match us, hl with | [_, _], _ => rfl)
    law_copy := mkDef X G a41 l41 c41 k41 (fun _ _ _ _ _ _ us hl => match us, hl with | [_], _ => rfl)
    law_doors_right := mkDef X G a42 l42 c42 k42 (fun _ _ _ _ _ _ us hl => match us, hl with | [_, _], _ => rfl)
    law_cell := mkDef X G a43 l43 c43 k43 (fun _ _ _ _ _ _ us hl => match us, hl with | [_, _], _ => rfl)
    law_box := mkDef X G a44 l44 c44 k44 (fun _ _ _ _ _ _ us hl => match us, hl with | [_], _ => rfl)
    law_take := mkDef X G a45 l45 c45 k45 (fun _ _ _ _ _ _ us hl => match us, hl with | [_, _], _ => rfl)
    law_same := mkDef X G a46 l46 c46 k46 (fun _ _ _ _ _ _ us hl => match us, hl with | [_, _], _ => rfl)
    law := mkDef X G a47 l47 c47 k47 (fun _ _ _ _ _ _ us hl => match us, hl with | [_], _ => rfl)
    z_int := PySem.W.mg_none_of X G z_int
    z_bool := PySem.W.mg_none_of X G z_bool
    z_str := PySem.W.mg_none_of X G z_str
    z_list := PySem.W.mg_none_of X G z_list
    z_tuple := PySem.W.mg_none_of X G z_tuple
    z_len := PySem.W.mg_none_of X G z_len
    z_sum := PySem.W.mg_none_of X G z_sum
    z_abs := PySem.W.mg_none_of X G z_abs
    z_all := PySem.W.mg_none_of X G z_all
    z_range := PySem.W.mg_none_of X G z_range
    z_isinstance := PySem.W.mg_none_of X G z_isinstance
    z_max := PySem.W.mg_none_of X G z_max
    z_min := PySem.W.mg_none_of X G z_min
    z_enumerate := PySem.W.mg_none_of X G z_enumerate
    z_zip := PySem.W.mg_none_of X G z_zip
    z_dict := PySem.W.mg_none_of X G z_dict
    t_MOST_NUMBERS := t_MOST_NUMBERS
    c_MOST_NUMBERS := PySem.W.mg_of X G c_MOST_NUMBERS
    t_GREATEST := t_GREATEST
    c_GREATEST := PySem.W.mg_of X G c_GREATEST
    t_MOST_WIRES_wires := t_MOST_WIRES_wires
    c_MOST_WIRES_wires := PySem.W.mg_of X G c_MOST_WIRES_wires
    t_MOST_LETTERS := t_MOST_LETTERS
    c_MOST_LETTERS := PySem.W.mg_of X G c_MOST_LETTERS
    t_MOST_WIRES_lines := t_MOST_WIRES_lines
    c_MOST_WIRES_lines := PySem.W.mg_of X G c_MOST_WIRES_lines
    c_comb := PySem.W.mg_of X G c_comb
    TalkError_C := CT
    TalkError_gC := PySem.W.mg_of X G aCT
    InvalidRow := ⟨CInvalidRow, fIInvalidRow, _, fun_mk (st := s_init_InvalidRow) lIInvalidRow cIInvalidRow kIInvalidRow, (fun_mk (st := s_init_InvalidRow) lIInvalidRow cIInvalidRow kIInvalidRow).binds (ps := ["self", "given"]) fun _ _ _ _ _ _ us hl => match us, hl with | [_, _], _ => rfl, ⟨⟨_, _, _, _, _, _, _, _, _, _, _, _, _, _, _, xLInvalidRow, rfl⟩, saInvalidRow, eCInvalidRow, tCInvalidRow, kCInvalidRow⟩, iCInvalidRow, tIInvalidRow, PySem.W.mg_of X G aCInvalidRow, nbInvalidRow, ⟨gaInvalidRow, ggInvalidRow, eCInvalidRow, hCInvalidRow⟩⟩
    InvalidWires := ⟨CInvalidWires, fIInvalidWires, _, fun_mk (st := s_init_InvalidWires) lIInvalidWires cIInvalidWires kIInvalidWires, (fun_mk (st := s_init_InvalidWires) lIInvalidWires cIInvalidWires kIInvalidWires).binds (ps := ["self", "given"]) fun _ _ _ _ _ _ us hl => match us, hl with | [_, _], _ => rfl, ⟨⟨_, _, _, _, _, _, _, _, _, _, _, _, _, _, _, xLInvalidWires, rfl⟩, saInvalidWires, eCInvalidWires, tCInvalidWires, kCInvalidWires⟩, iCInvalidWires, tIInvalidWires, PySem.W.mg_of X G aCInvalidWires, nbInvalidWires, ⟨gaInvalidWires, ggInvalidWires, eCInvalidWires, hCInvalidWires⟩⟩
    eRR := exm_of eCInvalidRow iSInvalidRow tCInvalidRow eRR
    eWR := exm_of eCInvalidRow iSInvalidRow tCInvalidRow eWR
    eWW := exm_of eCInvalidWires iSInvalidWires tCInvalidWires eWW
    kb_raise_fits_value_row_wires := kb231 (fun_mk (st := s_raise_fits) l11 c11 k11) fun _ _ _ _ _ _ _ _ _ => rfl
    kb_raise_fits_value_wires_row := kb321 (fun_mk (st := s_raise_fits) l11 c11 k11) fun _ _ _ _ _ _ _ _ _ => rfl
    kb_raise_plan_wires_row := kb21 (fun_mk (st := s_raise_plan) l12 c12 k12) fun _ _ _ _ _ _ _ _ => rfl
    kb_can_raise_wires_row := kb21 (fun_mk (st := s_can_raise) l10 c10 k10) fun _ _ _ _ _ _ _ _ => rfl
    kb_leasts_row := kb1 (fun_mk (st := s_leasts) l13 c13 k13) fun _ _ _ _ _ _ _ => rfl
    kb_most_raised_wires := kb1 (fun_mk (st := s_most_raised) l14 c14 k14) fun _ _ _ _ _ _ _ => rfl
    C := CL
    gL := PySem.W.mg_of X G aCL
    cl := ⟨pgL, hdL, poL, saL⟩
    ca := clsAt_mk ⟨pgL, hdL, poL, saL⟩ haL hnL htL hmL isL tyL (fun t ht => by
      simp only [List.mem_cons, List.not_mem_nil, or_false] at ht
      rcases ht with rfl | rfl | rfl | rfl | rfl | rfl
      · exact no_list
      · exact no_tuple
      · exact no_int
      · exact no_bool
      · exact no_str
      · exact no_dict) (fun t ht => by
      simp only [List.mem_cons, List.not_mem_nil, or_false] at ht
      rcases ht with rfl | rfl | rfl | rfl | rfl | rfl | rfl
      · exact su_NoneType
      · exact su_bool
      · exact su_int
      · exact su_str
      · exact su_list
      · exact su_tuple
      · exact su_dict)
    m_init := ⟨fM0, _, fun_mk (st := s_Line_init) lM0 cM0 kM0, (fun_mk (st := s_Line_init) lM0 cM0 kM0).binds (ps := ["self", "spec"]) fun _ _ _ _ _ _ us hl => match us, hl with | [_, _], _ => rfl, ⟨aM0, iM0, kM0⟩⟩
    mkc := ⟨mkL, aM0, iM0, kcL⟩
    n_spec := n_spec
    n_sent := n_sent
    n_came := n_came }
  exact ⟨PySem.W.fnOf "law" "law" (defArgs s_law) (defBody s_law) (defScope s_law) .none kV47 dc47 pm47 an47 cd47 ct47, fun s v => .of_eq rfl, fun base _ _ => ok_law T⟩
theorem walk {l : PySem.W.OpenLaw} {q : Program} {loose : List Str} {XP : (Str → Option Value) → Heap → Prop} {YP : World → Heap → Prop} {d : DefRec} {K : Params → PySem.W.Frag} (hn : l.most = some 63) (hdf : d.params.defaults = [])
    (hY : ∀ (w : World) (h : Heap), YP w h → (K w.params).In h)
    (F : ∀ (w : World) (mg : Str → Option Value) (fa : Addr) (h : Heap), (K w.params).In h → h.Ns mainGlobals mg → mg d.name = some (.ref fa) →
      ∃ fd : FuncData, (∀ (s : Shared) (u : Value), BindsTo s fd ⟨[u], []⟩ [("script", u)]) ∧ ∀ base : Heap, (K w.params).In base → base.Ns mainGlobals mg → FnOk l.prog w (K w.params) mg base CX0 13 fa fd ["script"] (spLaw (K w.params))) :
    PySem.W.WalkO q loose XP YP l.row.toRowW d [] (fun f vs => PySem.call f vs) :=
  L2.walk_of (n := 63) (k := 13) (x := "script") (CX := fun _ => CX0) (sp := fun w => spLaw (K w.params)) hn (by decide) hdf ⟨rfl, by decide, by decide⟩ hY F
    (fun _ _ a ns hl _ hS => ⟨a, ns, rfl, hS, hl, fun _ => rfl⟩) fun _ _ _ _ _ z => z
end L2.U
open PySem PySem.W PyProof.Rows
set_option maxRecDepth 100000 in
set_option maxHeartbeats 0 in
theorem PySem.Challenge.cw_upforgood_k19_plans_on_wires_holds : PySem.Challenge.rw_upforgood_k19_plans_on_wires.Holds := by
  w_on; o_law; k_head; (case hw => w_witness2)
  k_fill
  refine L2.U.walk (l := PySem.Challenge.rw_upforgood_k19_plans_on_wires) rfl rfl (fun w h Y => PySem.W.kIn_of Y) ?F
  case F =>
    intro w mg fa h KX G hmg
    refine' L2.U.all_mk KX G hmg ?a1 ?l1 ?c1 ?k1 ?a2 ?l2 ?c2 ?k2 ?a3 ?l3 ?c3 ?k3 ?a4 ?l4 ?c4 ?k4 ?a5 ?l5 ?c5 ?k5 ?a6 ?l6 ?c6 ?k6 ?a7 ?l7 ?c7 ?k7 ?a8 ?l8 ?c8 ?k8 ?a9 ?l9 ?c9 ?k9 ?a10 ?l10 ?c10 ?k10 ?a11 ?l11 ?c11 ?k11 ?a12 ?l12 ?c12 ?k12 ?a13 ?l13 ?c13 ?k13 ?a14 ?l14 ?c14 ?k14 ?a15 ?l15 ?c15 ?k15 ?a16 ?l16 ?c16 ?k16 ?a17 ?l17 ?c17 ?k17 ?a18 ?l18 ?c18 ?k18 ?a19 ?l19 ?c19 ?k19 ?a20 ?l20 ?c20 ?k20 ?a21 ?l21 ?c21 ?k21 ?a22 ?l22 ?c22 ?k22 ?a23 ?l23 ?c23 ?k23 ?a24 ?l24 ?c24 ?k24 ?a25 ?l25 ?c25 ?k25 ?a26 ?l26 ?c26 ?k26 ?a27 ?l27 ?c27 ?k27 ?a28 ?l28 ?c28 ?k28 ?a29 ?l29 ?c29 ?k29 ?a30 ?l30 ?c30 ?k30 ?a31 ?l31 ?c31 ?k31 ?a32 ?l32 ?c32 ?k32 ?a33 ?l33 ?c33 ?k33 ?a34 ?l34 ?c34 ?k34 ?a35 ?l35 ?c35 ?k35 ?a36 ?l36 ?c36 ?k36 ?a37 ?l37 ?c37 ?k37 ?a38 ?l38 ?c38 ?k38 ?a39 ?l39 ?c39 ?k39 ?a40 ?l40 ?c40 ?k40 ?a41 ?l41 ?c41 ?k41 ?a42 ?l42 ?c42 ?k42 ?a43 ?l43 ?c43 ?k43 ?a44 ?l44 ?c44 ?k44 ?a45 ?l45 ?c45 ?k45 ?a46 ?l46 ?c46 ?k46 ?a47 ?l47 ?c47 ?k47 ?z_int ?z_bool ?z_str ?z_list ?z_tuple ?z_len ?z_sum ?z_abs ?z_all ?z_range ?z_isinstance ?z_max ?z_min ?z_enumerate ?z_zip ?z_dict ?c_MOST_NUMBERS ?c_GREATEST ?c_MOST_WIRES_wires ?c_MOST_LETTERS ?c_MOST_WIRES_lines ?c_comb ?aCT ?aCInvalidRow ?xLInvalidRow ?saInvalidRow ?gaInvalidRow ?ggInvalidRow ?nbInvalidRow ?iCInvalidRow ?tIInvalidRow ?lIInvalidRow ?cIInvalidRow ?kIInvalidRow ?kCInvalidRow ?eCInvalidRow ?tCInvalidRow ?hCInvalidRow ?iSInvalidRow ?aCInvalidWires ?xLInvalidWires ?saInvalidWires ?gaInvalidWires ?ggInvalidWires ?nbInvalidWires ?iCInvalidWires ?tIInvalidWires ?lIInvalidWires ?cIInvalidWires ?kIInvalidWires ?kCInvalidWires ?eCInvalidWires ?tCInvalidWires ?hCInvalidWires ?iSInvalidWires ?eRR ?eWR ?eWW ?aCL ?pgL ?hdL ?poL ?saL ?mkL ?kcL ?haL ?hnL ?htL ?hmL ?isL ?tyL ?no_list ?no_tuple ?no_int ?no_bool ?no_str ?no_dict ?su_NoneType ?su_bool ?su_int ?su_str ?su_list ?su_tuple ?su_dict ?aM0 ?iM0 ?lM0 ?cM0 ?kM0 ?n_spec ?n_sent ?n_came
    (case a1 => k_is)
    (case l1 => k_is)
    (case c1 => k_is)
    (case k1 => k_is)
    (case a2 => k_is)
    (case l2 => k_is)
    (case c2 => k_is)
    (case k2 => k_is)
    (case a3 => k_is)
    (case l3 => k_is)
    (case c3 => k_is)
    (case k3 => k_is)
    (case a4 => k_is)
    (case l4 => k_is)
    (case c4 => k_is)
    (case k4 => k_is)
    (case a5 => k_is)
    (case l5 => k_is)
    (case c5 => k_is)
    (case k5 => k_is)
    (case a6 => k_is)
    (case l6 => k_is)
    (case c6 => k_is)
    (case k6 => k_is)
    (case a7 => k_is)
    (case l7 => k_is)
    (case c7 => k_is)
    (case k7 => k_is)
    (case a8 => k_is)
    (case l8 => k_is)
    (case c8 => k_is)
    (case k8 => k_is)
    (case a9 => k_is)
    (case l9 => k_is)
    (case c9 => k_is)
    (case k9 => k_is)
    (case a10 => k_is)
    (case l10 => k_is)
    (case c10 => k_is)
    (case k10 => k_is)
    (case a11 => k_is)
    (case l11 => k_is)
    (case c11 => k_is)
    (case k11 => k_is)
    (case a12 => k_is)
    (case l12 => k_is)
    (case c12 => k_is)
    (case k12 => k_is)
    (case a13 => k_is)
    (case l13 => k_is)
    (case c13 => k_is)
    (case k13 => k_is)
    (case a14 => k_is)
    (case l14 => k_is)
    (case c14 => k_is)
    (case k14 => k_is)
    (case a15 => k_is)
    (case l15 => k_is)
    (case c15 => k_is)
    (case k15 => k_is)
    (case a16 => k_is)
    (case l16 => k_is)
    (case c16 => k_is)
    (case k16 => k_is)
    (case a17 => k_is)
    (case l17 => k_is)
    (case c17 => k_is)
    (case k17 => k_is)
    (case a18 => k_is)
    (case l18 => k_is)
    (case c18 => k_is)
    (case k18 => k_is)
    (case a19 => k_is)
    (case l19 => k_is)
    (case c19 => k_is)
    (case k19 => k_is)
    (case a20 => k_is)
    (case l20 => k_is)
    (case c20 => k_is)
    (case k20 => k_is)
    (case a21 => k_is)
    (case l21 => k_is)
    (case c21 => k_is)
    (case k21 => k_is)
    (case a22 => k_is)
    (case l22 => k_is)
    (case c22 => k_is)
    (case k22 => k_is)
    (case a23 => k_is)
    (case l23 => k_is)
    (case c23 => k_is)
    (case k23 => k_is)
    (case a24 => k_is)
    (case l24 => k_is)
    (case c24 => k_is)
    (case k24 => k_is)
    (case a25 => k_is)
    (case l25 => k_is)
    (case c25 => k_is)
    (case k25 => k_is)
    (case a26 => k_is)
    (case l26 => k_is)
    (case c26 => k_is)
    (case k26 => k_is)
    (case a27 => k_is)
    (case l27 => k_is)
    (case c27 => k_is)
    (case k27 => k_is)
    (case a28 => k_is)
    (case l28 => k_is)
    (case c28 => k_is)
    (case k28 => k_is)
    (case a29 => k_is)
    (case l29 => k_is)
    (case c29 => k_is)
    (case k29 => k_is)
    (case a30 => k_is)
    (case l30 => k_is)
    (case c30 => k_is)
    (case k30 => k_is)
    (case a31 => k_is)
    (case l31 => k_is)
    (case c31 => k_is)
    (case k31 => k_is)
    (case a32 => k_is)
    (case l32 => k_is)
    (case c32 => k_is)
    (case k32 => k_is)
    (case a33 => k_is)
    (case l33 => k_is)
    (case c33 => k_is)
    (case k33 => k_is)
    (case a34 => k_is)
    (case l34 => k_is)
    (case c34 => k_is)
    (case k34 => k_is)
    (case a35 => k_is)
    (case l35 => k_is)
    (case c35 => k_is)
    (case k35 => k_is)
    (case a36 => k_is)
    (case l36 => k_is)
    (case c36 => k_is)
    (case k36 => k_is)
    (case a37 => k_is)
    (case l37 => k_is)
    (case c37 => k_is)
    (case k37 => k_is)
    (case a38 => k_is)
    (case l38 => k_is)
    (case c38 => k_is)
    (case k38 => k_is)
    (case a39 => k_is)
    (case l39 => k_is)
    (case c39 => k_is)
    (case k39 => k_is)
    (case a40 => k_is)
    (case l40 => k_is)
    (case c40 => k_is)
    (case k40 => k_is)
    (case a41 => k_is)
    (case l41 => k_is)
    (case c41 => k_is)
    (case k41 => k_is)
    (case a42 => k_is)
    (case l42 => k_is)
    (case c42 => k_is)
    (case k42 => k_is)
    (case a43 => k_is)
    (case l43 => k_is)
    (case c43 => k_is)
    (case k43 => k_is)
    (case a44 => k_is)
    (case l44 => k_is)
    (case c44 => k_is)
    (case k44 => k_is)
    (case a45 => k_is)
    (case l45 => k_is)
    (case c45 => k_is)
    (case k45 => k_is)
    (case a46 => k_is)
    (case l46 => k_is)
    (case c46 => k_is)
    (case k46 => k_is)
    (case a47 => k_is)
    (case l47 => k_is)
    (case c47 => k_is)
    (case k47 => k_is)
    (case z_int => k_is)
    (case z_bool => k_is)
    (case z_str => k_is)
    (case z_list => k_is)
    (case z_tuple => k_is)
    (case z_len => k_is)
    (case z_sum => k_is)
    (case z_abs => k_is)
    (case z_all => k_is)
    (case z_range => k_is)
    (case z_isinstance => k_is)
    (case z_max => k_is)
    (case z_min => k_is)
    (case z_enumerate => k_is)
    (case z_zip => k_is)
    (case z_dict => k_is)
    (case c_MOST_NUMBERS => k_is)
    (case c_GREATEST => k_is)
    (case c_MOST_WIRES_wires => k_is)
    (case c_MOST_LETTERS => k_is)
    (case c_MOST_WIRES_lines => k_is)
    (case c_comb => k_is)
    (case aCT => k_is)
    (case aCInvalidRow => k_is)
    (case xLInvalidRow => k_is)
    (case saInvalidRow => k_is)
    (case gaInvalidRow => k_is)
    (case ggInvalidRow => k_is)
    (case nbInvalidRow => k_is)
    (case iCInvalidRow => k_is)
    (case tIInvalidRow => k_is)
    (case lIInvalidRow => k_is)
    (case cIInvalidRow => k_is)
    (case kIInvalidRow => k_is)
    (case kCInvalidRow => k_is)
    (case eCInvalidRow => k_is)
    (case tCInvalidRow => k_is)
    (case hCInvalidRow => k_is)
    (case iSInvalidRow => k_is)
    (case aCInvalidWires => k_is)
    (case xLInvalidWires => k_is)
    (case saInvalidWires => k_is)
    (case gaInvalidWires => k_is)
    (case ggInvalidWires => k_is)
    (case nbInvalidWires => k_is)
    (case iCInvalidWires => k_is)
    (case tIInvalidWires => k_is)
    (case lIInvalidWires => k_is)
    (case cIInvalidWires => k_is)
    (case kIInvalidWires => k_is)
    (case kCInvalidWires => k_is)
    (case eCInvalidWires => k_is)
    (case tCInvalidWires => k_is)
    (case hCInvalidWires => k_is)
    (case iSInvalidWires => k_is)
    (case eRR => first | rfl | k_is)
    (case eWR => first | rfl | k_is)
    (case eWW => first | rfl | k_is)
    (case aCL => k_is)
    (case pgL => k_is)
    (case hdL => k_is)
    (case poL => k_is)
    (case saL => k_is)
    (case mkL => k_is)
    (case kcL => k_is)
    (case haL => k_is)
    (case hnL => k_is)
    (case htL => k_is)
    (case hmL => k_is)
    (case isL => k_is)
    (case tyL => k_is)
    (case no_list => first | rfl | k_is)
    (case no_tuple => first | rfl | k_is)
    (case no_int => first | rfl | k_is)
    (case no_bool => first | rfl | k_is)
    (case no_str => first | rfl | k_is)
    (case no_dict => first | rfl | k_is)
    (case su_NoneType => first | rfl | k_is)
    (case su_bool => first | rfl | k_is)
    (case su_int => first | rfl | k_is)
    (case su_str => first | rfl | k_is)
    (case su_list => first | rfl | k_is)
    (case su_tuple => first | rfl | k_is)
    (case su_dict => first | rfl | k_is)
    (case aM0 => k_is)
    (case iM0 => k_is)
    (case lM0 => k_is)
    (case cM0 => k_is)
    (case kM0 => k_is)
    (case n_spec => k_is)
    (case n_sent => k_is)
    (case n_came => k_is)

