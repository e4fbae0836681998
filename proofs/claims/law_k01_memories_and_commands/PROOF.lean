import PyProof.Rows.All
import Wide.All
import OpenK.AllK
import Wide.FinOn
import HandS.ForMost
import HandS.ForExc
import HandS.TryMany
import HandS.ExcInit
import HandS.ExcField
import HandS.Lambda
import HandS.EndTab
import HandS.EndOwn
import HandS.Conv
import HandS.Steps
import HandS.Evl
import HandS.IsInst
import HandS.New0
import HandS.OwnEq
import HandS.TupAny
import HandS.Small
import HandS.More
import HandS.HotCalls
import PyProof.Rows.TupMore
import HandS.Zip
import HandS.Iter
import HandS.Walk
import PyProof.Draws
import PyProof.EnumMake
import HandS.TupMul
import HandS.Style
import KE.SortData
import KE.DataMinMax
import KE.DataEq
import HandS.Strs
import HandS.SetFor
import PyProof.FactsAll.NoneType_1
import HandS.MakeKwOnly
import HandS.TryOnly
import PySem.Challenge.RW_lateststore_k01_memories_and_commands
set_option Elab.async false
set_option linter.all false
set_option maxRecDepth 100000
set_option maxHeartbeats 4000000
namespace Q
open PySem PySem.Spec PyProof.Rows L2
section
variable {X : Cx}
/-- script + [0]: two lists that are read, whatever their slots -/
def rCatR (K : PySem.W.Frag) : R2 := fun x y H Q => ∃ l b xs zs, x = .ref l ∧ y = .ref b ∧ SqL K H l xs ∧ SqL K H b zs ∧ xs.length + zs.length ≤ sizeLine ∧ ∀ p, H p = none → Q (.ref p) (upd H p (.lst (xs ++ zs)))
theorem op_catR : OpR X (binaryOp .Add) (rCatR X.K) := by
  intro pz s σ H x y v u Q I rx ry h
  obtain ⟨l, b, xs, zs, rfl, rfl, h1, h2, hz, q⟩ := h
  cases rx
  cases ry
  obtain ⟨i1, r1, p1, z1⟩ := I.list h1
  obtain ⟨i2, r2, p2, z2⟩ := I.list h2
  have l1 := r1.length
  have l2 := r2.length
  obtain ⟨⟨c1, d1, da1, s1⟩, g1, e1, n1, f1⟩ := p1.isList
  obtain ⟨⟨c2, d2, da2, s2⟩, g2, e2, n2, f2⟩ := p2.isList
  simp only at e1 f1 e2 f2
  subst e1 f1 e2 f2
  refine concat_meets ⟨_, g1, rfl⟩ ⟨_, g2, rfl⟩ PySem.noFill_list_add PySem.seq_list_add PySem.F.slot_list_add PySem.F.entry_list_add (PySem.F.args_list_add_2 _ _)
    (list_addW l b i1.toArray i2.toArray n1 n2 d1 d2 s1 s2 (by simp only [List.size_toArray]; omega)) ⟨g1, g2, ?_⟩
  have ea : i1.toArray ++ i2.toArray = (i1 ++ i2).toArray := by simp
  rw [ea]
  exact ⟨.ref _, _, I.lnew (t' := s.toks) (r1.append r2) (by rw [List.length_append]; omega), rfl, q _ I.fresh⟩
end
end Q

namespace Q
open PySem PySem.Spec PyProof.Rows L2
/-- an except clause: the class, the slot of its name where it has one, its suite -/
structure Cl where
  c : Value
  i : Option Nat
  ts : Addr → Value → Option Addr → TS
/-- behind a named suite the name is gone -/
def unset (D : Ends) (i : Nat) : Ends := { nx := fun τ G => D.nx (τ.set i none) G, rt := D.rt, bk := fun τ G => D.bk (τ.set i none) G, ct := fun τ G => D.ct (τ.set i none) G }
def tSuite (p : Cl) (D : Ends) (a : Addr) (cls : Value) (d : Option Addr) (σ : L2.St) (H : Hp) : Prop :=
  match p.i with
  | none => p.ts a cls d D σ H
  | some i => p.ts a cls d (unset D i) (σ.set i (some (.ref a))) H
def wCl (K : PySem.W.Frag) (Wout : WX) (D : Ends) : List Cl → WX
  | [] => Wout
  | p :: r => fun cls d σ H => ∃ b, PySem.W.exmOne K cls p.c = some b ∧ (b = true → ∀ a, H a = none → tSuite p D a cls d σ H) ∧ (b = false → wCl K Wout D r cls d σ H)
inductive ClOk (X : Cx) : List ExceptHandler → List Cl → Prop
  | nil : ClOk X [] []
  | bare {x : Str} {c : Value} {ts : Addr → Value → Option Addr → TS} {b₀ : Stmt} {ss : List Stmt} {np p2 : Pos} {hs : List ExceptHandler} {l : List Cl} (hc : Names X x c)
      (hsu : ∀ (a : Addr) (oe : Obj) (cls : Value) (d : Option Addr) (pn : List (Addr × Obj)), Zc cls d oe → (∃ vs, oe.data = .fields vs) → PSs (X.suite a ((a, oe) :: pn)) (b₀ :: ss) (ts a cls d)) (r : ClOk X hs l) :
      ClOk X (.ExceptHandler (some (.Name x np)) none (b₀ :: ss) p2 :: hs) (⟨c, none, ts⟩ :: l)
  | named {x n : Str} {i : Nat} {c : Value} {ts : Addr → Value → Option Addr → TS} {b₀ : Stmt} {ss : List Stmt} {np p2 : Pos} {hs : List ExceptHandler} {l : List Cl} (hi : X.N[i]? = some n) (hln : X.env.kindOf n = some .local) (hc : Names X x c)
      (hsu : ∀ (a : Addr) (oe : Obj) (cls : Value) (d : Option Addr) (pn : List (Addr × Obj)), Zc cls d oe → (∃ vs, oe.data = .fields vs) → PSs (X.suite a ((a, oe) :: pn)) (b₀ :: ss) (ts a cls d)) (r : ClOk X hs l) :
      ClOk X (.ExceptHandler (some (.Name x np)) (some n) (b₀ :: ss) p2 :: hs) (⟨c, some i, ts⟩ :: l)
section
variable {X : Cx} {body : List Stmt} {c₀ : ExceptHandler} {cs : List ExceptHandler} {l : List Cl} {pos : Pos} {tb : WX → TS} {Wout : WX}
theorem ps_try_cl (hst : X.stack = X.env :: X.outer) (hfm : X.env.frame = some X.env.locals) (hN : X.N.Nodup) (tk : Takes X Wout)
    (hb : ∀ (W : WX) (pn : List (Addr × Obj)) (xe : Value → Shared → Prop), Takes (X.tr pn xe) W → PassesOwn (model X.prog X.w) X.A X.env xe → PSs (X.tr pn xe) body (tb W))
    (hh : ClOk X (c₀ :: cs) l) : PS X (.Try body (c₀ :: cs) [] [] pos) (fun D σ H => tb (wCl X.K Wout D l) D σ H) := by
  refine ⟨fun pz s σ H D I h => ?_⟩
  have okX := I.ok
  have hfrm : X.A.frames = some (X.env :: X.outer) := by rw [okX.frames, hst]
  refine wpAny_Try_except ?_
  have run := (hb (wCl X.K Wout D l) (X.pn ++ pz)
    (fun e t1 => wpAny (model X.prog X.w) X.A (noteFrame e X.env) (fun _ t2 => wpAny (model X.prog X.w) X.A (setFlight e none)
      (fun _ t3 => wpAny (model X.prog X.w) X.A (handleBy e X.env (c₀ :: cs)) (SP X pz D) X.xe t3) X.xe t2) X.xe t1)
    (fun u sx xx => ?_) PassesOwn.looking).run [] s σ H D (I.toTry _) h
  · refine wpAny_mono run (fun f s1 hq => ?_) (fun e s1 he => he)
    cases f with
    | next =>
      obtain ⟨τ, G, J, q⟩ := hq
      exact wpAny_execs_nil ⟨τ, G, J.ofTry okX, q⟩
    | brk =>
      obtain ⟨τ, G, J, q⟩ := hq
      exact ⟨τ, G, J.ofTry okX, q⟩
    | cont =>
      obtain ⟨τ, G, J, q⟩ := hq
      exact ⟨τ, G, J.ofTry okX, q⟩
    | ret u =>
      obtain ⟨v, τ, G, J, r, q⟩ := hq
      exact ⟨v, τ, G, J.ofTry okX, r, q⟩
  · obtain ⟨a, B, sI, pq, τ, G, cls, d, rfl, Jt, nb, up, sky, na, os, ag, wish⟩ := xx
    have J : Inv X pz τ G sI := Jt.ofTry okX
    have sky1 : Sky B (X.env :: X.outer) a (Zc cls d) X.env.locals sx.heap := by rw [← hst]; exact sky
    show wpAny (model X.prog X.w) X.A (noteFrame (.ref a) X.env) _ _ _
    refine Sky.land Zc.steady hfrm hfm sky1 fun hA flA upA => ?_
    have JA : Inv X pz τ G { sx with heap := hA } := J.landed nb flA.1 (up.trans upA) os ag
    obtain ⟨oA, vA, heA, hzA, hdA⟩ := flA.there
    have apart : ∀ {hp : Heap} {o : Obj} {vs : Array Value}, hp.FunFrames B (X.env :: X.outer) → hp.get? a = some o → o.data = .fields vs → a ∉ frs (X.env :: X.outer) := fun {hp o vs} ff e dd hm => by
      obtain ⟨_, ob, eb, hnf⟩ := ff.mem hm
      rw [e] at eb
      cases eb
      exact hnf _ dd
    have nfr := apart flA.2.2.1 heA hdA
    have nL : a ≠ X.env.locals := fun z => nfr (List.mem_filterMap.mpr ⟨X.env, List.mem_cons_self, by rw [hfm, z]⟩)
    have nF : a ∉ X.fs := fun hm => by
      obtain ⟨e, he, q⟩ := List.mem_filterMap.mp hm
      exact nfr (List.mem_filterMap.mpr ⟨e, List.mem_cons_of_mem _ he, q⟩)
    have SA := JA.suite heA hdA na nL nF
    have LT : PySem.W.Looks (model X.prog X.w) hA (typeOf (.ref a)) cls := fun A Q E st k q => wpAny_typeOf_ref (k _ _ heA) (by rw [hzA.1]; exact q)
    have test : ∀ {x : Str} {c : Value} {np : Pos} {Q : Value → Shared → Prop} {E : Value → Shared → Prop}, Names X x c → Q c { sx with heap := hA } →
        wpAny (model X.prog X.w) (X.A.mark (some (.ref a))) (eval (.Name x np) X.env) Q E { sx with heap := hA } := fun {x c np Q E} hc q => by
      obtain ⟨hg, hdbg, hm | ⟨hm, hv, hnn⟩⟩ := hc
      · exact ld_glob (X := X.suite a ((a, oA) :: (X.pn ++ pz))) SA hg hm q hdbg
      · exact ld_blt (X := X.suite a ((a, oA) :: (X.pn ++ pz))) SA hg hm hv q hnn hdbg
    have go : ∀ {hs2 : List ExceptHandler} {l2 : List Cl}, ClOk X hs2 l2 → wCl X.K Wout D l2 cls d τ G → wpAny (model X.prog X.w) X.A (handleBy (.ref a) X.env hs2) (SP X pz D) X.xe { sx with heap := hA } := by
      intro hs2 l2 hk
      induction hk with
      | nil =>
        intro wish2
        refine wpAny_handleBy_nil ?_
        obtain ⟨k1, k2, k3, oe, vs, T, oT, ts2, he, hz, hd, h1, hr⟩ := id flA
        unfold PySem.passOn
        refine wpAny_bind (wpAny_field he hd h1 ?_)
        rw [if_neg (show ¬ ((Value.ref T == Value.none) = true) from by simp)]
        have fin : wpAny (model X.prog X.w) X.A (setFlight (.ref a) X.env.frame) (fun _ s4 => wpAny (model X.prog X.w) X.A (throw (.ref a) : Sem Flow) (SP X pz D) X.xe s4) X.xe { sx with heap := hA } := by
          rw [hfm]
          refine HandSPX.setFlight_upZ flA fun hB hhB upB => wpAny_throw (tk _ _ ?_)
          exact ⟨a, B, sI, pz, τ, G, cls, d, rfl, J, nb, (up.trans upA).trans upB, .inr (.inr (by rw [hst]; exact hhB)), na, os, ag, wish2⟩
        first
          | exact wpAny_bind (wpAny_pure (wpAny_bind fin))
          | exact wpAny_bind fin
      | @bare x c ts b₀ ss np p2 hs3 l3 hc hsu r ih =>
        intro wish2
        obtain ⟨b, hb1, hyes, hno⟩ := wish2
        refine wpAny_handleBy_cons (codeAny_handlers_test ?_) (by intro q; cases q)
        have LM := PySem.W.exm_one (M := model X.prog X.w) (JA.kIn) LT hb1
        refine test hc (LM.here ?_)
        cases b with
        | true =>
          refine codeAny_handlers_suite ?_
          refine HandSPX.lands_againZ flA fun hB flB upB => ?_
          have JB : Inv X pz τ G { sx with heap := hB } := J.landed nb flB.1 ((up.trans upA).trans upB) os ag
          obtain ⟨oB, vB, heB, hzB, hdB⟩ := flB.there
          have SB := JB.suite heB hdB na nL nF
          refine wpAny_mono ((hsu a oB cls d (X.pn ++ pz) hzB ⟨_, hdB⟩).run [] _ _ G _ SB (hyes rfl a na)) (fun f s6 hq => ?_) (fun _ _ z => False.elim z)
          cases f with
          | next =>
            obtain ⟨τ6, G6, S6, q6⟩ := hq
            exact ⟨_, _, S6.unsuite okX, q6⟩
          | brk =>
            obtain ⟨τ6, G6, S6, q6⟩ := hq
            exact ⟨_, _, S6.unsuite okX, q6⟩
          | cont =>
            obtain ⟨τ6, G6, S6, q6⟩ := hq
            exact ⟨_, _, S6.unsuite okX, q6⟩
          | ret u =>
            obtain ⟨v6, τ6, G6, S6, r6, q6⟩ := hq
            exact ⟨_, _, _, S6.unsuite okX, r6, q6⟩
        | false =>
          show wpAny _ X.A (handleBy (.ref a) X.env hs3) _ _ _
          exact ih (hno rfl)
      | @named x n i c ts b₀ ss np p2 hs3 l3 hi hln hc hsu r ih =>
        intro wish2
        obtain ⟨b, hb1, hyes, hno⟩ := wish2
        have hloc : Loc X.env.scope n := .inl hln
        refine wpAny_handleBy_cons (codeAny_handlers_test ?_) (by intro q; cases q)
        have LM := PySem.W.exm_one (M := model X.prog X.w) (JA.kIn) LT hb1
        refine test hc (LM.here ?_)
        cases b with
        | true =>
          refine codeAny_handlers_suite_as ?_
          refine HandSPX.lands_againZ flA fun hB flB upB => ?_
          have JB : Inv X pz τ G { sx with heap := hB } := J.landed nb flB.1 ((up.trans upA).trans upB) os ag
          obtain ⟨oB, vB, heB, hzB, hdB⟩ := flB.there
          have SB := JB.suite heB hdB na nL nF
          refine store_ok (X := X.suite a ((a, oB) :: (X.pn ++ pz))) (v := .ref a) SB hN hi hloc rfl (fun s5 S5 => ?_) (.inr hln)
          refine wpAny_mono ((hsu a oB cls d (X.pn ++ pz) hzB ⟨_, hdB⟩).run [] s5 _ G _ S5 (hyes rfl a na)) (fun f s6 hq => ?_) (fun _ _ z => False.elim z)
          have gone : ∀ {τ6 : L2.St} {G6 : Hp} {R : Shared → Prop}, Inv (X.suite a ((a, oB) :: (X.pn ++ pz))) [] τ6 G6 s6 → (∀ s7, Inv X pz (τ6.set i none) G6 s7 → R s7) →
              wpAny (model X.prog X.w) X.A (do bindName X.env n .none; unbindBehindTheSuite X.env n p2) (fun _ s7 => R s7) X.xe s6 := fun {τ6 G6 R} S6 hR => gone_ok (S6.unsuite okX) hN hi hln hR
          cases f with
          | next =>
            obtain ⟨τ6, G6, S6, q6⟩ := hq
            exact gone S6 fun s7 J7 => ⟨_, _, J7, q6⟩
          | brk =>
            obtain ⟨τ6, G6, S6, q6⟩ := hq
            exact gone S6 fun s7 J7 => ⟨_, _, J7, q6⟩
          | cont =>
            obtain ⟨τ6, G6, S6, q6⟩ := hq
            exact gone S6 fun s7 J7 => ⟨_, _, J7, q6⟩
          | ret u =>
            obtain ⟨v6, τ6, G6, S6, r6, q6⟩ := hq
            exact gone S6 fun s7 J7 => ⟨_, _, _, J7, r6, q6⟩
        | false =>
          show wpAny _ X.A (handleBy (.ref a) X.env hs3) _ _ _
          exact ih (hno rfl)
    exact go hh wish
end
end Q

namespace Q
open PySem PySem.Spec PyProof.Rows L2
/-- a def of the module, as its callers need it -/
structure Cal (P : Program) (w : World) (K : PySem.W.Frag) (mg : Str → Option Value) (base : Heap) (CX : CXT) (x : Str) (k : Nat) (ps : List Str) (sp : Sp) : Prop where
  ex : ∃ (f : Addr) (fd : FuncData), FnOk P w K mg base CX k f fd ps sp ∧ mg x = some (.ref f) ∧ PySem.W.keepIn K (.ref f) = true ∧ Binds K fd ps []
/-- a class of the module with its __init__ -/
structure Mak (P : Program) (w : World) (K : PySem.W.Frag) (mg : Str → Option Value) (base : Heap) (CX : CXT) (x : Str) (C : Addr) (k : Nat) (ps : List Str) (sp : Sp) : Prop where
  ex : ∃ (f : Addr) (fd : FuncData), Mk K C f ∧ FnOk P w K mg base CX k f fd ps sp ∧ mg x = some (.ref C) ∧ Binds K fd ps []
/-- an error class of the module with its __init__ -/
structure Err (P : Program) (w : World) (K : PySem.W.Frag) (mg : Str → Option Value) (base : Heap) (x : Str) (C : Addr) (k : Nat) (ps : List Str) (sp : Sp) : Prop where
  cl : OexC K C
  ex : ∃ (f : Addr) (fd : FuncData), PySem.W.findIn K (.ref C) "__init__" = some (some (.ref f)) ∧ PySem.W.typeIn K (.ref f) = some (.type "function") ∧ FnOk P w K mg base CX0 k f fd ps sp ∧ mg x = some (.ref C) ∧ Binds K fd ps []
section
variable {X : Cx} {CX : CXT} {k : Nat} {C : Addr} {ps : List Str} {sp : Sp} {E : XK} {x : Str} {p pos : Pos} {e : Expr} {es : List Expr} {t : TA}
theorem pe_cal (F : Cal X.prog X.w X.K X.mg X.base CX x k ps sp) (hr : Room k X.A) (hg : Gl X x) (hx : Passes CX X E) (ha : PA X (e :: es) t) (hdb : (x == ("__debug__" : Str)) = false := by decide)
    (he : starEach (e :: es) X.env = (false, eval e X.env) :: starEach es X.env := by rfl) (hpl : (backTo pos (starEach es X.env)).any (·.1) = false := by rfl) : PE X (.Call (.Name x p) (e :: es) [] pos) (tCall sp [] E t) := by
  obtain ⟨f, fd, G, hm, hk, hb⟩ := F.ex
  exact pe_call G hr hg hm hk hb .nil hx ha hdb he hpl
theorem pe_cal0 (F : Cal X.prog X.w X.K X.mg X.base CX x k ps sp) (hr : Room k X.A) (hg : Gl X x) (hx : Passes CX X E) (hdb : (x == ("__debug__" : Str)) = false := by decide) : PE X (.Call (.Name x p) [] [] pos) (tCall sp [] E tNil) := by
  obtain ⟨f, fd, G, hm, hk, hb⟩ := F.ex
  exact pe_call0 G hr hg hm hk hb .nil hx hdb
theorem pe_mak (F : Mak X.prog X.w X.K X.mg X.base CX x C k ps sp) (hr : Room (k + 1) X.A) (hg : Gl X x) (hx : Passes CX X E) (ha : PA X (e :: es) t) (hdb : (x == ("__debug__" : Str)) = false := by decide)
    (he : starEach (e :: es) X.env = (false, eval e X.env) :: starEach es X.env := by rfl) (hpl : (backTo pos (starEach es X.env)).any (·.1) = false := by rfl) : PE X (.Call (.Name x p) (e :: es) [] pos) (tMake C sp [] E t) := by
  obtain ⟨f, fd, M, G, hm, hb⟩ := F.ex
  exact pe_make M G hr hg hm hb .nil hx ha hdb he hpl
theorem pmk_err (F : Err X.prog X.w X.K X.mg X.base x C k ps sp) (hr : Room (k + 1) X.A) (hg : Gl X x) (ha : PA X (e :: es) t) (hdb : (x == ("__debug__" : Str)) = false := by decide)
    (he : starEach (e :: es) X.env = (false, eval e X.env) :: starEach es X.env := by rfl) (hpl : (backTo pos (starEach es X.env)).any (·.1) = false := by rfl) : PMk X (.Call (.Name x p) (e :: es) [] pos) (tMkO C sp [] t) := by
  obtain ⟨f, fd, iC, tI, G, hm, hb⟩ := F.ex
  exact pmk_oex F.cl iC tI G hr hb .nil pass0 hg hm ha hdb he hpl
end
theorem at0 {x : V} {xs : List V} : atI (x :: xs) 0 = some x := atI_nat (xs := x :: xs) (j := 0) rfl
theorem at1 {x y : V} {xs : List V} : atI (x :: y :: xs) 1 = some y := atI_nat (xs := x :: y :: xs) (j := 1) rfl
theorem at2 {x y z : V} {xs : List V} : atI (x :: y :: z :: xs) 2 = some z := atI_nat (xs := x :: y :: z :: xs) (j := 2) rfl
/-- the three numbers of a source -/
def src (a b c : Int) : HO := .lst [.int a, .int b, .int c]
def spSource : Sp := fun vs H Q _ => ∃ n : Int, vs = [.int n] ∧ ∀ (p : Addr) (a b c : Int), H p = none → Q (.ref p) (upd H p (src a b c))
/-- all but what stands at S is as it was -/
def Ks (S : Addr) (H H' : Hp) : Prop := ∀ b o, H b = some o → b ≠ S → H' b = some o
def HasSrc (S : Addr) (H : Hp) : Prop := ∃ a b c : Int, H S = some (src a b c)
theorem Ks.refl (S : Addr) (H : Hp) : Ks S H H := fun _ _ h _ => h
theorem Ks.trans {S : Addr} {H H1 H2 : Hp} (a : Ks S H H1) (b : Ks S H1 H2) : Ks S H H2 := fun c o h n => b c o (a c o h n) n
theorem Ks.of {S : Addr} {H H' : Hp} (e : Same H H') : Ks S H H' := fun b o h _ => e b o h
theorem Ks.upd {S : Addr} {H : Hp} {o : HO} : Ks S H (L2.upd H S o) := fun b u h n => by
  rw [upd_ne n]
  exact h
/-- a thing that H does not know may change -/
theorem Ks.mut {S p : Addr} {H H' : Hp} {o : HO} (e : Ks S H H') (h : H p = none) : Ks S H (L2.upd H' p o) := fun b u hb n => by
  rw [upd_ne (ne_of_none hb h)]
  exact e b u hb n
theorem Same.new {H : Hp} {p : Addr} {o : HO} (h : H p = none) : Same H (L2.upd H p o) := fun b u hb => by
  rw [upd_ne (ne_of_none hb h)]
  exact hb
theorem Same.mut {H H' : Hp} {p : Addr} {o : HO} (e : Same H H') (h : H p = none) : Same H (L2.upd H' p o) := fun b u hb => by
  rw [upd_ne (ne_of_none hb h)]
  exact e b u hb
theorem Ks.free {S p : Addr} {H H' : Hp} (e : Ks S H H') (hs : HasSrc S H') (h : H' p = none) : H p = none := by
  obtain ⟨a, b, c, hS⟩ := hs
  cases q : H p with
  | none => rfl
  | some o =>
    by_cases z : p = S
    · rw [z, hS] at h
      cases h
    · rw [e p o q z] at h
      cases h
def spDraw : Sp := fun vs H Q _ => ∃ (S : Addr) (m : Int), vs = [.ref S, .int m] ∧ HasSrc S H ∧ 0 < m ∧ m < 1073741824 ∧
  ∀ (r : Int) (H' : Hp), 0 ≤ r → r < m → HasSrc S H' → Ks S H H' → Q (.int r) H'
def spPick (K : PySem.W.Frag) : Sp := fun vs H Q _ => ∃ (S p : Addr) (xs : List V), vs = [.ref S, .ref p] ∧ HasSrc S H ∧ H p = some (.lst xs) ∧ p ≠ S ∧ 0 < xs.length ∧ xs.length < 1000000 ∧
  ∀ (x : V) (H' : Hp), x ∈ xs → HasSrc S H' → Ks S H H' → Q x H'
end Q

namespace Q
open PySem PySem.Spec PyProof.Rows L2
/-- a list (true) or a tuple (false) that is read -/
def Sq (b : Bool) (K : PySem.W.Frag) (H : Hp) (a : Addr) (xs : List V) : Prop := match b with
  | true => SqL K H a xs
  | false => SqT K H a xs
theorem Sq.l {K : PySem.W.Frag} {H : Hp} {a : Addr} {xs : List V} (h : H a = some (.lst xs)) : Sq true K H a xs := SqL.of h
theorem Sq.t {K : PySem.W.Frag} {H : Hp} {a : Addr} {xs : List V} (h : H a = some (.tup xs)) : Sq false K H a xs := SqT.of h
theorem Sq.same {b : Bool} {K : PySem.W.Frag} {H H' : Hp} {a : Addr} {xs : List V} (e : Same H H') (h : Sq b K H a xs) : Sq b K H' a xs := by
  cases b with
  | true => exact e.seq h
  | false =>
    rcases h with (h | ⟨o, h⟩) | h
    · exact .inl (.inl (e _ _ h))
    · exact .inl (.inr ⟨o, e _ _ h⟩)
    · exact .inr h
theorem Sq.or {b : Bool} {K : PySem.W.Frag} {H : Hp} {a : Addr} {xs : List V} (h : Sq b K H a xs) : SqL K H a xs ∨ SqT K H a xs := by
  cases b with
  | true => exact .inl h
  | false => exact .inr h
def iSq (b : Bool) (K : PySem.W.Frag) (tl : TE) : TI := match b with
  | true => iList K tl
  | false => iTup K tl
def Itq (b : Bool) (K : PySem.W.Frag) (a : Addr) : It := match b with
  | true => Itl K a
  | false => Itt K a
theorem pi_sq (b : Bool) {X : Cx} {tg e : Expr} {tl : TE} (hl : PE X e tl) : PI X tg e (iSq b X.K tl) := by
  cases b with
  | true => exact pi_list hl
  | false => exact pi_tup hl
/-- the reading of a for over a list or a tuple -/
theorem sq_for {b : Bool} {K : PySem.W.Frag} {a : Addr} {xs : List V} {tl : TE} {g : TG} {tb : TS} {D : Ends} {σ : L2.St} {H : Hp} (Pv : Nat → L2.St → Hp → Prop) (ht : ∀ R : V → Hp → Prop, R (.ref a) H → tl σ H R) (hx : Sq b K H a xs) (h0 : Pv 0 σ H) (hl : ∀ i σ H, i ≤ xs.length → Pv i σ H → Sq b K H a xs)
    (hs : ∀ i x σ H, xs[i]? = some x → Pv i σ H → g x σ H fun σ2 H2 => tb { D with nx := Pv (i + 1), ct := Pv (i + 1), bk := D.nx } σ2 H2) (hd : ∀ σ H, Pv xs.length σ H → D.nx σ H) : tFor (iSq b K tl) g tb D σ H := by
  cases b with
  | true =>
    refine ht _ ?_
    exact ⟨a, rfl, ⟨xs, hx⟩, for_list (K := K) (a := a) (xs := xs) Pv h0 hl hs hd⟩
  | false =>
    refine ht _ ?_
    exact ⟨a, rfl, ⟨xs, hx⟩, for_tup (K := K) (a := a) (xs := xs) Pv h0 hl hs hd⟩
/-! ### error classes with one field, with two -/
def spInit1 (C : Addr) (f1 : Str) : Sp := fun vs H Q _ => ∃ (a : Addr) (v1 : V), vs = [.ref a, v1] ∧ H a = some (exo a C none) ∧ ∀ d, H d = none → d ≠ a → Q .non (upd (upd H d (exd d [(f1, v1)])) a (exo a C (some d)))
def spInit2 (C : Addr) (f1 f2 : Str) : Sp := fun vs H Q _ => ∃ (a : Addr) (v1 v2 : V), vs = [.ref a, v1, v2] ∧ H a = some (exo a C none) ∧
  ∀ d, H d = none → d ≠ a → Q .non (upd (upd (upd H d (exd d [(f1, v1)])) a (exo a C (some d))) d (exd d [(f2, v2), (f1, v1)]))
theorem let_go {H : Hp} {a d : Addr} {o1 o2 o3 : HO} (ha : H a = none) (hd : H d = none) (ne : d ≠ a) : upd (del (upd (upd H d o1) a o2) a) d o3 = upd H d o3 := by
  funext b
  by_cases h1 : b = d
  · rw [h1, upd_same, upd_same]
  · rw [upd_ne h1, upd_ne h1]
    by_cases h2 : b = a
    · rw [h2, del_same, ha]
    · rw [del_ne h2, upd_ne h2, upd_ne h1]
theorem upd_twice {H : Hp} {a d : Addr} {o1 o2 o3 : HO} (ne : d ≠ a) : upd (upd (upd H d o1) a o2) d o3 = upd (upd H d o3) a o2 := by
  funext b
  by_cases h1 : b = d
  · rw [h1, upd_same, upd_ne ne, upd_same]
  · rw [upd_ne h1]
    by_cases h2 : b = a
    · rw [h2, upd_same, upd_same]
    · rw [upd_ne h2, upd_ne h2, upd_ne h1, upd_ne h1]
theorem upd_out {H : Hp} {a : Addr} {o1 o2 : HO} {d : Addr} (ne : d ≠ a) : upd (upd H a o1) d o2 = upd (upd H d o2) a o1 := by
  funext b
  by_cases h1 : b = d
  · rw [h1, upd_same, upd_ne ne, upd_same]
  · rw [upd_ne h1]
    by_cases h2 : b = a
    · rw [h2, upd_same, upd_same]
    · rw [upd_ne h2, upd_ne h2, upd_ne h1]
/-- what raising an error of one field asks -/
theorem mk1 {C : Addr} {f1 : Str} {v1 : V} {H : Hp} {R : XK} (h : ∀ d, H d = none → R (.ref C) (some d) (upd H d (.xd [(f1, v1)]))) :
    ∀ a, H a = none → spInit1 C f1 (.ref a :: ([v1] ++ [])) (upd H a (exo a C none))
      (fun v H2 => v = .non ∧ ∃ (d : Addr) (fs : List (Str × V)), H2 a = some (exo a C (some d)) ∧ H2 d = some (exd d fs) ∧ H d = none ∧ R (.ref C) (some d) (upd (del H2 a) d (.xd fs))) (fun _ _ _ => False) := by
  intro a ha
  refine ⟨a, v1, rfl, upd_same, fun d hd ne => ⟨rfl, d, [(f1, v1)], upd_same, ?_, ?_, ?_⟩⟩
  · rw [upd_ne ne, upd_same]
  · rw [upd_ne ne] at hd
    exact hd
  · rw [upd_ne ne] at hd
    have e : upd (upd (upd H a (exo a C none)) d (exd d [(f1, v1)])) a (exo a C (some d)) = upd (upd H d (exd d [(f1, v1)])) a (exo a C (some d)) := by
      rw [upd_out ne, upd_upd]
    rw [e, let_go ha hd ne]
    exact h d hd
theorem mk2 {C : Addr} {f1 f2 : Str} {v1 v2 : V} {H : Hp} {R : XK} (h : ∀ d, H d = none → R (.ref C) (some d) (upd H d (.xd [(f2, v2), (f1, v1)]))) :
    ∀ a, H a = none → spInit2 C f1 f2 (.ref a :: ([v1, v2] ++ [])) (upd H a (exo a C none))
      (fun v H2 => v = .non ∧ ∃ (d : Addr) (fs : List (Str × V)), H2 a = some (exo a C (some d)) ∧ H2 d = some (exd d fs) ∧ H d = none ∧ R (.ref C) (some d) (upd (del H2 a) d (.xd fs))) (fun _ _ _ => False) := by
  intro a ha
  refine ⟨a, v1, v2, rfl, upd_same, fun d hd ne => ⟨rfl, d, [(f2, v2), (f1, v1)], ?_, upd_same, ?_, ?_⟩⟩
  · rw [upd_ne (Ne.symm ne), upd_same]
  · rw [upd_ne ne] at hd
    exact hd
  · rw [upd_ne ne] at hd
    have e : upd (upd (upd (upd H a (exo a C none)) d (exd d [(f1, v1)])) a (exo a C (some d))) d (exd d [(f2, v2), (f1, v1)]) = upd (upd H d (exd d [(f2, v2), (f1, v1)])) a (exo a C (some d)) := by
      rw [upd_twice ne, upd_out ne, upd_upd]
    rw [e, let_go ha hd ne]
    exact h d hd
/-! ### memories -/
/-- the first thing that is wrong with sizes: what and how many -/
def badSizes (ns : List Int) : Option (Str × Int) :=
  if 1 ≤ (ns.length : Int) ∧ (ns.length : Int) ≤ 6 then (ns.find? fun n => !decide (1 ≤ n ∧ n ≤ 4)).map fun n => (("words" : Str), n) else some ("lines", (ns.length : Int))
def spChkSizes (K : PySem.W.Frag) (CB : Addr) : Sp := fun vs H Q E => ∃ (b : Bool) (a : Addr) (ns : List Int), vs = [.ref a] ∧ Sq b K H a (ns.map V.int) ∧
  (∀ w n, badSizes ns = some (w, n) → ∀ d, H d = none → E (.ref CB) (some d) (upd H d (.xd [("count", .int n), ("what", .str w)]))) ∧ (badSizes ns = none → Q .non H)
/-- a memory at m (of the class at C): its sizes -/
def IsMem (C : Addr) (H : Hp) (m : Addr) (ns : List Int) : Prop := ∃ dx t, H m = some (.ins C dx [("sizes", .ref t)]) ∧ H t = some (.tup (ns.map V.int))
/-- Memory.__init__: the instance at m is new; a tuple of the sizes, new or the very one that is passed -/
def spMemInit (K : PySem.W.Frag) (CB CM : Addr) : Sp := fun vs H Q E => ∃ (b : Bool) (m dx a : Addr) (ns : List Int), vs = [.ref m, .ref a] ∧ H m = some (.ins CM dx []) ∧ Sq b K H a (ns.map V.int) ∧ a ≠ m ∧
  (∀ w n, badSizes ns = some (w, n) → ∀ d, H d = none → E (.ref CB) (some d) (upd H d (.xd [("count", .int n), ("what", .str w)]))) ∧
  (badSizes ns = none → (b = true → ∀ t, H t = none → Q .non (upd (upd H t (.tup (ns.map V.int))) m (.ins CM dx [("sizes", .ref t)]))) ∧ (b = false → Q .non (upd H m (.ins CM dx [("sizes", .ref a)]))))
end Q

namespace Q
open PySem PySem.Spec PyProof.Rows L2
abbrev rLe : R2 := rI0 fun i j => .bl (decide (i ≤ j))
abbrev rLt : R2 := rI0 fun i j => .bl (decide (i < j))
/-- lo <= n <= hi as a test -/
theorem a_lele {lo n hi : Int} {ta tb tc : TE} {σ : L2.St} {H : Hp} (ha : Val ta σ H (.int lo)) (hb : Val tb σ H (.int n)) (hc : Val tc σ H (.int hi)) : Ans (tTest (tChain rLe rLe ta tb tc)) σ H (decide (lo ≤ n ∧ n ≤ hi)) := by
  intro Q q
  refine ha _ ?_
  refine hb _ ?_
  refine ⟨_, _, rfl, rfl, _, rfl, ?_⟩
  by_cases h1 : lo ≤ n
  · rw [decide_eq_true h1]
    refine iteT ?_
    refine hc _ ?_
    refine ⟨_, _, rfl, rfl, _, rfl, ?_⟩
    have e : decide (lo ≤ n ∧ n ≤ hi) = decide (n ≤ hi) := by
      by_cases h2 : n ≤ hi
      · rw [decide_eq_true h2, decide_eq_true ⟨h1, h2⟩]
      · rw [decide_eq_false h2, decide_eq_false (fun z => h2 z.2)]
    rw [← e]
    exact q
  · rw [decide_eq_false h1]
    refine iteF ⟨_, rfl, ?_⟩
    have e : decide (lo ≤ n ∧ n ≤ hi) = false := decide_eq_false (fun z => h1 z.1)
    rw [← e]
    exact q
theorem a_lelt {lo n hi : Int} {ta tb tc : TE} {σ : L2.St} {H : Hp} (ha : Val ta σ H (.int lo)) (hb : Val tb σ H (.int n)) (hc : Val tc σ H (.int hi)) : Ans (tTest (tChain rLe rLt ta tb tc)) σ H (decide (lo ≤ n ∧ n < hi)) := by
  intro Q q
  refine ha _ ?_
  refine hb _ ?_
  refine ⟨_, _, rfl, rfl, _, rfl, ?_⟩
  by_cases h1 : lo ≤ n
  · rw [decide_eq_true h1]
    refine iteT ?_
    refine hc _ ?_
    refine ⟨_, _, rfl, rfl, _, rfl, ?_⟩
    have e : decide (lo ≤ n ∧ n < hi) = decide (n < hi) := by
      by_cases h2 : n < hi
      · rw [decide_eq_true h2, decide_eq_true ⟨h1, h2⟩]
      · rw [decide_eq_false h2, decide_eq_false (fun z => h2 z.2)]
    rw [← e]
    exact q
  · rw [decide_eq_false h1]
    refine iteF ⟨_, rfl, ?_⟩
    have e : decide (lo ≤ n ∧ n < hi) = false := decide_eq_false (fun z => h1 z.1)
    rw [← e]
    exact q
/-- len of a list or a tuple -/
theorem v_len {b : Bool} {K : PySem.W.Frag} {te : TE} {σ : L2.St} {H : Hp} {p : Addr} {xs : List V} (ht : Val te σ H (.ref p)) (h : Sq b K H p xs) :
    Val (tCB (fun xs H Q => ∃ p ys, xs = [.ref p] ∧ (SqL K H p ys ∨ SqT K H p ys) ∧ Q (.int ys.length) H) (tCons te tNil)) σ H (.int xs.length) := by
  intro Q q
  refine ht _ ?_
  exact ⟨p, xs, rfl, h.or, q⟩
/-- an if whose test is known by now -/
theorem s_if {c : TT} {t u : TS} {D : Ends} {σ : L2.St} {H : Hp} {b : Bool} (h : Ans c σ H b) (h1 : b = true → t D σ H) (h2 : b = false → u D σ H) : tIfS c t u D σ H := by
  cases b with
  | true => exact st_yes h (h1 rfl)
  | false => exact st_no h (h2 rfl)
theorem find_none_take {ns : List Int} {p : Int → Bool} (h : ∀ n ∈ ns, p n = false) : ns.find? p = none := List.find?_eq_none.mpr fun n hn => by rw [h n hn]; decide
theorem find_at {ns : List Int} {p : Int → Bool} {i : Nat} {n : Int} (hi : ns[i]? = some n) (hp : p n = true) (hb : ∀ j m, j < i → ns[j]? = some m → p m = false) : ns.find? p = some n := by
  induction ns generalizing i with
  | nil => simp at hi
  | cons a r ih =>
    cases i with
    | zero =>
      simp at hi
      subst hi
      simp [List.find?, hp]
    | succ i =>
      have ha : p a = false := hb 0 a (Nat.succ_pos i) rfl
      have hi' : r[i]? = some n := by simpa using hi
      rw [List.find?_cons, ha]
      exact ih hi' fun j m hj hm => hb (j + 1) m (Nat.succ_lt_succ hj) (by simpa using hm)
theorem map_at {ns : List Int} {i : Nat} {x : V} (h : (ns.map V.int)[i]? = some x) : ∃ n, ns[i]? = some n ∧ x = V.int n := by
  rw [List.getElem?_map] at h
  cases e : ns[i]? with
  | none =>
    rw [e] at h
    cases h
  | some n =>
    rw [e] at h
    exact ⟨n, rfl, (Option.some.inj h).symm⟩
theorem g_name {i : Nat} {v : V} {σ : L2.St} {H : Hp} {R : L2.St → Hp → Prop} (q : R (σ.set i (some v)) H) : gName i v σ H R := q
theorem nd_t {p : Prop} [Decidable p] (h : (!decide p) = true) : ¬ p := by
  intro z
  rw [decide_eq_true z] at h
  cases h
theorem nd_f {p : Prop} [Decidable p] (h : (!decide p) = false) : p := by
  by_cases z : p
  · exact z
  · rw [decide_eq_false z] at h
    cases h
end Q

namespace Q
open PySem PySem.Spec PyProof.Rows L2 LamX
section
variable {X : Cx} {pz : List (Addr × Obj)} {σ : L2.St} {H HZ : Hp} {s s1 : Shared}
/-- x() in the def that was handed the lambda; what leaves it is wished for at the slots as they stand at the call -/
theorem pe_actS {CXg : CXT} {Eg : XK} {Ng : List Str} {qg : Str} {sg : Scope} {g f c' : Addr} {cdg pm ctv : Value} {params : Arguments} {body : Expr} {scope : Scope} {k i : Nat} {a : Str} {pn : List (Addr × Obj)}
    {xe : Value → Shared → Prop} {W : WX} {tb : XK → TE} {p1 p2 : Pos}
    (I : Inv X pz σ H s) (L : LamS X.env.scope scope)
    (hf : s.heap.get? f = some (PySem.W.kla_obj "<lambda>" (X.env.qual ++ "<lambda>") params body scope (cloFrom X.env.cells scope.names []) pm c' ctv)) (hfn : H f = none) (hfr : f ∉ frs X.stack)
    (hbi : bindArgs (PySem.W.kla_fn "<lambda>" (X.env.qual ++ "<lambda>") params body scope (cloFrom X.env.cells scope.names []) pm (.ref c') ctv) ⟨[], []⟩ = pure [])
    (tk : Takes ((cxOf CXg X.prog X.w X.K X.mg X.base Ng qg sg g cdg X.A X.stack s H Eg).tr pn xe) W) (hr : Room (k + 1) (X.A.deeper (envOfC qg sg s.heap.objs.size g cdg)))
    (hbo : ∀ (E : XK) (A : Around) (outer : List Env) (s : Shared) (H : Hp), Room k (A.deeper (lamEnv X scope s.heap.objs.size f c')) → PE (lamCx X A outer s H E scope f c') body (tb E))
    (hN : Ng[i]? = some a) (hv : Vis sg a) (hd : (a == ("__debug__" : Str)) = false := by decide) (hcd : (a == ("__classdict__" : Str)) = false := by decide) :
    PE ((cxOf CXg X.prog X.w X.K X.mg X.base Ng qg sg g cdg X.A X.stack s H Eg).tr pn xe) (.Call (.Name a p1) [] [] p2)
      (fun τ G R => τ[i]? = some (some (.ref f)) ∧ G c' = some (CodeO c' (X.env.qual ++ "<lambda>")) ∧ tb (WE W τ) σ G R) := by
  refine ⟨fun pq sZ τ G R IZ h => ?_⟩
  obtain ⟨e1, e2, e3⟩ := h
  have callee := (pe_var (X := (cxOf CXg X.prog X.w X.K X.mg X.base Ng qg sg g cdg X.A X.stack s H Eg).tr pn xe) (pos := p1) (i := i) hN hv hd hcd).run pq sZ τ G (fun v H1 => v = .ref f ∧ H1 = G) IZ ⟨.ref f, e1, rfl, rfl⟩
  refine wpAny_Call_Name_kw (thn callee fun u s1 hh => ?_)
  obtain ⟨v, H1, I1, r1, ev, eH⟩ := hh
  subst ev
  rw [eH] at I1
  obtain rfl : u = Value.ref f := r1
  have here : s1.heap.get? f = some (PySem.W.kla_obj "<lambda>" (X.env.qual ++ "<lambda>") params body scope (cloFrom X.env.cells scope.names []) pm c' ctv) :=
    I1.base.keep f _ hf hfn hfr (fun z => nomatch (show f ∈ ([] : List Addr) from z))
  refine PySem.W.callWith_F0 ⟨_, _, _, _, here⟩ ?_
  have un1 : Un (frs X.stack) [] H G s.heap s1.heap := I1.base
  obtain ⟨⟨oc, vs, t, hoc, hdc, hvc⟩, _, _⟩ := I1.hok c' _ e2
  have rc : codeAny (model X.prog X.w) (X.A.deeper (envOfC qg sg s.heap.objs.size g cdg)) (.call (.ref f) ⟨[], []⟩) (CR (L2.CX X.prog X.w) (envOfC qg sg s.heap.objs.size g cdg :: X.stack) X.prog X.w G s1 R (WE W τ)) s1 := by
    refine PySem.W.kla_callFunE hr.depth here rfl L.co L.gen rfl ⟨c', oc, vs, t, rfl, hoc, hdc, hvc⟩ ?_
    rw [hbi]
    refine wpAny_pure (wpAny_newFunctionEnv (fun y hy => (L.own y hy).2) (fun y hy => absurd hy (by simp)) (fun hN1 hns hsb => ⟨I1.nolimit.fresh _ hsb, ?_⟩) L.kind)
    show codeAny _ _ (.expr body (lamEnv X scope s1.heap.objs.size f c')) _ _
    have kp : ∀ b o, s1.heap.get? b = some o → hN1.get? b = some o := fun b o e => hsb.extBut b o (Nat.ne_of_lt (Heap.lt_size e)) (Heap.get?_push_of_some _ e)
    have J : Inv (lamCx X (X.A.deeper (envOfC qg sg s.heap.objs.size g cdg)) (envOfC qg sg s.heap.objs.size g cdg :: X.stack) s1 G (WE W τ) scope f c') [] σ G
        { s1 with heap := hN1, toks := s1.toks + ([] : List (Str × Value)).length } := lam_start2 I L I1.env0 hr.hd un1 hns kp
    refine PySem.W.kla_codeExpr (wpAny_mono ((hbo (WE W τ) _ _ s1 G (hr.deeper _)).run [] _ _ G R J e3) (fun v sE hq => ?_) fun e sE hq => hq)
    obtain ⟨w1, H2, J2, rv, q⟩ := hq
    exact ⟨w1, H2, J2.os, J2.bare, J2.base, J2.hok, rv, q⟩
  refine wpAny_call (codeAny_mono rc fun r sE hq => ?_)
  cases r with
  | error e => exact passAt tk τ pq G s1 e sE I1 hq
  | ok fl =>
    cases fl with
    | ret u => exact I1.after hq
    | next => exact False.elim hq
    | brk => exact False.elim hq
    | cont => exact False.elim hq
end
/-- the def that calls what it got, once, by its only parameter; TT: what it makes of the lambda's reading -/
def Gives (X : Cx) (Ng : List Str) (x : Str) (sg : Scope) (g : Addr) (cdg : Value) (bg : List Stmt) (a : Str) (q : Str) (TT : (XK → Hp → VK → Prop) → Hp → VK → Prop) : Prop :=
  ∀ (f c' : Addr) (s : Shared) (H : Hp) (R : VK) (tl : XK → Hp → VK → Prop),
    (∀ (W : WX) (pn : List (Addr × Obj)) (xe : Value → Shared → Prop) (p1 p2 : Pos), Takes ((cxOf C8.CX0 X.prog X.w X.K X.mg X.base Ng x sg g cdg X.A X.stack s H C8.E0).tr pn xe) W →
      PE ((cxOf C8.CX0 X.prog X.w X.K X.mg X.base Ng x sg g cdg X.A X.stack s H C8.E0).tr pn xe) (.Call (.Name a p1) [] [] p2) (fun τ G R => τ[0]? = some (some (.ref f)) ∧ G c' = some (CodeO c' q) ∧ tl (WE W τ) G R)) →
    H c' = some (CodeO c' q) → TT tl H R →
    ∃ t, PSs (cxOf C8.CX0 X.prog X.w X.K X.mg X.base Ng x sg g cdg X.A X.stack s H C8.E0).nox bg t ∧ t { nx := fun _ H' => R .non H', rt := R } (L2.start Ng [.ref f]) H
section
variable {X : Cx}
theorem pe_lamS {T : List (Addr × Str)} {TT : (XK → Hp → VK → Prop) → Hp → VK → Prop} {x a : Str} {g c P : Addr} {k : Nat} {pg : Arguments} {bg : List Stmt} {sg : Scope} {dV kV doc pm cdv ct oc : Value} {an od : Option Addr} {osl : Array (Option Value)} {Ng : List Str}
    {params : Arguments} {body : Expr} {scope : Scope} {t : XK → TE} {p lpos pos : Pos} (hg : Gl X x) (hm : X.mg x = some (.ref g)) (hk : PySem.W.keepIn X.K (.ref g) = true)
    (lk : X.K.lookup g = some ⟨oc, od, .func (PySem.W.fnOf x x pg bg sg dV kV doc pm an cdv ct), osl⟩) (hcg : PySem.W.codeIn X.K cdv x = true)
    (hb : L2.Binds X.K (PySem.W.fnOf x x pg bg sg dV kV doc pm an cdv ct) [a] []) (Sg : FnScope Ng [a] sg) (hNg : Ng[0]? = some a) (hva : Vis sg a)
    (hG : Gives X Ng x sg g cdv bg a (X.env.qual ++ "<lambda>") TT)
    (TB : TabB X.base X.mg c P) (hcode : X.env.code = .ref c) (hmT : (P, X.env.qual ++ "<lambda>") ∈ T) (hu : ∀ p ∈ T, p.1 = P → p.2 = X.env.qual ++ "<lambda>") (hr : Room (k + 2) X.A) (L : LamS X.env.scope scope)
    (hdef : defaultsOf params X.env = ([], []))
    (hbi : ∀ (q : Str) (cl : List (Str × Addr)) (pm cv ctv : Value), bindArgs (PySem.W.kla_fn "<lambda>" q params body scope cl pm cv ctv) ⟨[], []⟩ = pure [])
    (hbo : ∀ (E : XK) (A : Around) (outer : List Env) (s : Shared) (H : Hp) (f c' : Addr), Room k (A.deeper (lamEnv X scope s.heap.objs.size f c')) → PE (lamCx X A outer s H E scope f c') body (t E))
    (hdb : (x == ("__debug__" : Str)) = false := by decide) (hd : (a == ("__debug__" : Str)) = false := by decide) (hcd : (a == ("__classdict__" : Str)) = false := by decide) :
    PE X (.Call (.Name x p) [.Lambda params body scope lpos] [] pos) (tLam T TT t) := by
  refine ⟨fun pz s σ H R I h => ?_⟩
  obtain ⟨hT, h2⟩ := h
  refine wpAny_Call_Name_kw (ld_glob I hg hm ?_ hdb)
  refine PySem.W.callWith_K (h₀ := X.base) I.ok.mod.kin hk ?_ (by rfl) (by rfl)
  show wpAny _ _ (spliced ((false, eval (.Lambda params body scope lpos) X.env) :: backTo pos (starEach [] X.env))) _ _ s
  refine Calls.spliced_cons (lam_make2 I TB hcode hmT hu hT hdef (L.has I.ok) fun f c' pm1 ctv H1 s1 I1 eN T1 hf hfn hfr hco => ?_)
  refine Calls.spliced_nil ⟨I1.kIn, ?_⟩
  have rc : codeAny (model X.prog X.w) X.A (.call (.ref g) ⟨[.ref f], []⟩) (CR C8.CX0 X.stack X.prog X.w H1 s1 R C8.E0) s1 := by
    refine run_ofS (N := Ng) (ps := [a]) (us := [.ref f]) (vs := [.ref f]) lk hcg Sg hr I1.env0 (hb s1 [.ref f] I1.kIn rfl) (.cons rfl .nil) rfl fun hr1 => ?_
    obtain ⟨t1, ht1, hq1⟩ := hG f c' s1 H1 R (fun E G Q' => t E σ G Q')
      (fun W pn xe p1 p2 tk => pe_actS (i := 0) I1 L hf hfn hfr (hbi _ _ _ _ _) tk hr1 (fun E A outer s H hr2 => hbo E A outer s H f c' hr2) hNg hva hd hcd) hco (h2 H1 eN T1)
    exact ⟨t1, ht1.nox, hq1⟩
  refine wpAny_call (codeAny_mono rc fun r s2 hq => ?_)
  cases r with
  | error e => exact (show False from hq).elim
  | ok fl =>
    cases fl with
    | ret u => exact I1.after hq
    | next => exact False.elim hq
    | brk => exact False.elim hq
    | cont => exact False.elim hq
end
end Q

namespace Q
open PySem PySem.Spec PyProof.Rows L2 LamX
/-- told of a call that ends well or in an error of the class at CB with two fields: ('ok', value), or ('count', what, count) -/
def TOut (CB : Addr) : (XK → Hp → VK → Prop) → Hp → VK → Prop := fun tl H R => ∀ (E' : XK) (R' : VK),
  (∀ (d : Addr) (w n : V) (H' : Hp), H' d = some (.xd [("count", n), ("what", w)]) → (∀ p, H' p = none → R (.ref p) (upd H' p (.tup [.str "count", w, n]))) → E' (.ref CB) (some d) H') →
  (∀ (v : V) (H1 : Hp), (∀ p, H1 p = none → R (.ref p) (upd H1 p (.tup [.str "ok", v]))) → R' v H1) → tl E' H R'
end Q

namespace Q
open PySem PySem.Spec PyProof.Rows L2 LamX
theorem Tabs.ks {T : List (Addr × Str)} {S : Addr} {H H' : Hp} (t : Tabs T H) (hS : HasSrc S H) (e : Ks S H H') : Tabs T H' := fun p hp => by
  obtain ⟨a, b, c, hS⟩ := hS
  obtain ⟨ps, h1, h2, h3⟩ := t p hp
  refine ⟨ps, e _ _ h1 (fun z => ?_), h2, fun pos cv hc => ?_⟩
  · rw [z, hS] at h1
    cases h1
  · obtain ⟨c1, e1, e2⟩ := h3 pos cv hc
    refine ⟨c1, e1, e _ _ e2 (fun z => ?_)⟩
    rw [z, hS] at e2
    unfold CodeO at e2
    cases e2
/-- all but S and the tables is as it was -/
def Kp (S : Addr) (H H' : Hp) : Prop := ∀ b o, H b = some o → b ≠ S → (∀ ps, o ≠ .tbl ps) → H' b = some o
theorem Kp.refl (S : Addr) (H : Hp) : Kp S H H := fun _ _ h _ _ => h
theorem Kp.trans {S : Addr} {H H1 H2 : Hp} (a : Kp S H H1) (b : Kp S H1 H2) : Kp S H H2 := fun c o h n t => b c o (a c o h n t) n t
theorem Kp.ks {S : Addr} {H H' : Hp} (e : Ks S H H') : Kp S H H' := fun b o h n _ => e b o h n
theorem Kp.ext {S : Addr} {H H' : Hp} (e : ExtN H H') : Kp S H H' := fun b o h _ t => e b o h t
theorem Kp.mut {S p : Addr} {H H' : Hp} {o : HO} (e : Kp S H H') (h : H p = none) : Kp S H (L2.upd H' p o) := fun b u hb n t => by
  rw [upd_ne (ne_of_none hb h)]
  exact e b u hb n t
theorem ExtN.src {S : Addr} {H H' : Hp} (e : ExtN H H') (h : HasSrc S H) : HasSrc S H' := by
  obtain ⟨a, b, c, hS⟩ := h
  exact ⟨a, b, c, e _ _ hS (fun ps z => by cases z)⟩
theorem Same.src {S : Addr} {H H' : Hp} (e : Same H H') (h : HasSrc S H) : HasSrc S H' := by
  obtain ⟨a, b, c, hS⟩ := h
  exact ⟨a, b, c, e _ _ hS⟩
theorem src_ne {S p : Addr} {H : Hp} {o : HO} (h : HasSrc S H) (hp : H p = none) : p ≠ S := fun z => by
  obtain ⟨a, b, c, hS⟩ := h
  rw [z, hS] at hp
  cases hp
theorem ne_src {S p : Addr} {H : Hp} (h : HasSrc S H) (hp : H p = none) : S ≠ p := fun z => by
  obtain ⟨a, b, c, hS⟩ := h
  rw [z] at hS
  rw [hS] at hp
  cases hp
theorem src_new {S p : Addr} {H : Hp} {o : HO} (h : HasSrc S H) (hp : H p = none) : HasSrc S (L2.upd H p o) := Same.src (Same.new hp) h
theorem src_mut {S p : Addr} {H : Hp} {o : HO} (h : HasSrc S H) (hp : S ≠ p) : HasSrc S (L2.upd H p o) := by
  obtain ⟨a, b, c, hS⟩ := h
  exact ⟨a, b, c, by rw [upd_ne hp]; exact hS⟩
mutual
theorem dp_mono {K : PySem.W.Frag} {H H' : Hp} (e : ∀ a o, H a = some o → (∀ ps, o ≠ .tbl ps) → H' a = some o) : ∀ (d : PyData) (v : V), Dp K H v d → Dp K H' v d
  | .none, _, .non => .non
  | .bool _, _, .bl b => .bl b
  | .int _, _, .int i => .int i
  | .str _, _, .str x => .str x
  | .list ds, _, .lst hs ha => .lst (by
      rcases hs with (h | ⟨o, h⟩) | h
      · exact .inl (.inl (e _ _ h (fun ps z => by cases z)))
      · exact .inl (.inr ⟨o, e _ _ h (fun ps z => by cases z)⟩)
      · exact .inr h) (dpAll_mono e ds _ ha)
  | .tuple ds, _, .tup hs ha => .tup (by
      rcases hs with (h | ⟨o, h⟩) | h
      · exact .inl (.inl (e _ _ h (fun ps z => by cases z)))
      · exact .inl (.inr ⟨o, e _ _ h (fun ps z => by cases z)⟩)
      · exact .inr h) (dpAll_mono e ds _ ha)
theorem dpAll_mono {K : PySem.W.Frag} {H H' : Hp} (e : ∀ a o, H a = some o → (∀ ps, o ≠ .tbl ps) → H' a = some o) : ∀ (ds : List PyData) (vs : List V), DpAll K H vs ds → DpAll K H' vs ds
  | [], _, .nil => .nil
  | d :: ds, _, .cons h1 h2 => .cons (dp_mono e d _ h1) (dpAll_mono e ds _ h2)
end
theorem dp_ext {K : PySem.W.Frag} {H H' : Hp} {v : V} {d : PyData} (e : ExtN H H') (h : Dp K H v d) : Dp K H' v d := dp_mono (fun a o z n => e a o z n) d v h
theorem dp_same {K : PySem.W.Frag} {H H' : Hp} {v : V} {d : PyData} (e : Same H H') (h : Dp K H v d) : Dp K H' v d := dp_mono (fun a o z _ => e a o z) d v h
theorem dpAll_ints {K : PySem.W.Frag} {H : Hp} : ∀ ns : List Int, DpAll K H (ns.map V.int) (ns.map PyData.int)
  | [] => .nil
  | n :: r => .cons (.int n) (dpAll_ints r)
theorem lay_ints : ∀ ns : List Int, PyData.canLayAll0 (ns.map PyData.int) = true
  | [] => rfl
  | n :: r => by
    show (true && PyData.canLayAll0 (r.map PyData.int)) = true
    rw [lay_ints r]
    rfl
theorem depth_ints : ∀ ns : List Int, PyData.depthAll (ns.map PyData.int) = 0
  | [] => rfl
  | n :: r => by
    show max 0 (PyData.depthAll (r.map PyData.int)) = 0
    rw [depth_ints r]
    rfl
theorem eqv_same {d : PyData} (h : SeqAt.shaped d = true) : PyData.eqv d d = true := SeqAt.eqv_refl d (SeqAt.canLay_of_shaped h)
end Q

namespace Q
open PySem PySem.Spec PyProof.Rows L2 LamX
theorem Tabs.lst {T : List (Addr × Str)} {D : Addr} {H : Hp} {xs : List V} {o : HO} (t : Tabs T H) (hD : H D = some (.lst xs)) : Tabs T (upd H D o) := fun p hp => by
  obtain ⟨ps, h1, h2, h3⟩ := t p hp
  refine ⟨ps, ?_, h2, fun pos cv hc => ?_⟩
  · rw [upd_ne (fun z => ?_)]
    · exact h1
    · rw [z, hD] at h1
      cases h1
  · obtain ⟨c1, e1, e2⟩ := h3 pos cv hc
    refine ⟨c1, e1, ?_⟩
    rw [upd_ne (fun z => ?_)]
    · exact e2
    · rw [z, hD] at e2
      unfold CodeO at e2
      cases e2
/-- nothing but a table, if anything -/
def NoO (H : Hp) (p : Addr) : Prop := ∀ o, H p = some o → ∃ ps, o = .tbl ps
theorem Kp.mutN {S p : Addr} {H H' : Hp} {o : HO} (e : Kp S H H') (h : NoO H p) : Kp S H (L2.upd H' p o) := fun b u hb n t => by
  rw [upd_ne (fun z => ?_)]
  · exact e b u hb n t
  · rw [z] at hb
    obtain ⟨ps, q⟩ := h u hb
    exact t ps q
/-- how a law's def stands within its run: what was there, the source, the tables -/
structure Now (T : List (Addr × Str)) (S : Addr) (H0 H : Hp) : Prop where
  kp : Kp S H0 H
  hs : HasSrc S H
  tb : Tabs T H
section
variable {T : List (Addr × Str)} {S p D : Addr} {H0 H H' : Hp} {o : HO} {xs : List V}
theorem Now.new (n : Now T S H0 H) (h : H p = none) : Now T S H0 (upd H p o) :=
  ⟨n.kp.trans (Kp.ks (Ks.of (Same.new h))), src_new n.hs h, n.tb.ext (Same.new h)⟩
theorem Now.ks (n : Now T S H0 H) (k : Ks S H H') (h : HasSrc S H') : Now T S H0 H' := ⟨n.kp.trans (Kp.ks k), h, Tabs.ks n.tb n.hs k⟩
theorem Now.same (n : Now T S H0 H) (k : Same H H') : Now T S H0 H' := ⟨n.kp.trans (Kp.ks (Ks.of k)), Same.src k n.hs, n.tb.ext k⟩
theorem Now.mut (n : Now T S H0 H) (hD : H D = some (.lst xs)) (h0 : NoO H0 D) (ne : D ≠ S) : Now T S H0 (upd H D o) := ⟨n.kp.mutN h0, src_mut n.hs (Ne.symm ne), Tabs.lst n.tb hD⟩
theorem Now.ext (n : Now T S H0 H) (e : ExtN H H') (t : Tabs T H') : Now T S H0 H' := ⟨n.kp.trans (Kp.ext e), ExtN.src e n.hs, t⟩
theorem Now.noS (n : Now T S H0 H) (h : H p = none) : p ≠ S := src_ne (o := .lst []) n.hs h
theorem Now.fresh (n : Now T S H0 H) (h : H p = none) : NoO H0 p := fun o q => by
  by_cases tt : ∃ ps, o = .tbl ps
  · exact tt
  · rw [n.kp p o q (n.noS h) (fun ps e => tt ⟨ps, e⟩)] at h
    cases h
end
theorem lc_yes {te no : Hp → Prop} {σ : L2.St} {H : Hp} (q : te H) : tYes σ H (fun b H3 => if b = true then te H3 else no H3) := by
  show (if true = true then te H else no H)
  exact iteT q
def hoOf (b : Bool) (xs : List V) : HO := match b with
  | true => .lst xs
  | false => .tup xs
theorem hoOf_tbl (b : Bool) (xs : List V) : ∀ ps, hoOf b xs ≠ .tbl ps := fun ps z => by cases b <;> cases z
theorem sq_hoOf {b : Bool} {K : PySem.W.Frag} {H : Hp} {a : Addr} {xs : List V} (h : H a = some (hoOf b xs)) : Sq b K H a xs := by
  cases b with
  | true => exact SqL.of h
  | false => exact SqT.of h
/-- what a memory of these sizes is told as -/
def dueOf (ns : List Int) : PyData := match badSizes ns with
  | none => .tuple [.str "ok", .tuple (ns.map PyData.int)]
  | some (w, n) => .tuple [.str "count", .str w, .int n]
theorem ok_shaped (ns : List Int) : SeqAt.shaped (.tuple [.str "ok", .tuple (ns.map PyData.int)]) = true := by
  have h1 : PyData.canLay0 (.tuple [.str "ok", .tuple (ns.map PyData.int)]) = true := by
    simp only [PyData.canLay0, PyData.canLayAll0, lay_ints, Bool.and_true]
    decide +kernel
  have h2 : PyData.depth (.tuple [.str "ok", .tuple (ns.map PyData.int)]) ≤ 64 := by
    simp [PyData.depth, PyData.depthAll, depth_ints]
  unfold SeqAt.shaped
  rw [h1, decide_eq_true h2]
  rfl
theorem count_shaped {w : Str} (n : Int) (hw : PyData.canLay0 (.str w) = true) : SeqAt.shaped (.tuple [.str "count", .str w, .int n]) = true := by
  have h1 : PyData.canLay0 (.tuple [.str "count", .str w, .int n]) = true := by
    have e : PyData.canLay0 (.tuple [.str "count", .str w, .int n]) = (PyData.canLay0 (.str "count") && (PyData.canLay0 (.str w) && true)) := rfl
    rw [e, hw]
    decide +kernel
  have h2 : PyData.depth (.tuple [.str "count", .str w, .int n]) ≤ 64 := by
    simp [PyData.depth, PyData.depthAll]
  unfold SeqAt.shaped
  rw [h1, decide_eq_true h2]
  rfl
theorem bad_words {ns : List Int} {w : Str} {n : Int} (h : badSizes ns = some (w, n)) : w = "lines" ∨ w = "words" := by
  unfold badSizes at h
  split at h
  · cases e : ns.find? fun n => !decide (1 ≤ n ∧ n ≤ 4) with
    | none =>
      rw [e] at h
      cases h
    | some m =>
      rw [e] at h
      cases h
      exact .inr rfl
  · cases h
    exact .inl rfl
theorem due_shaped (ns : List Int) : SeqAt.shaped (dueOf ns) = true := by
  unfold dueOf
  cases e : badSizes ns with
  | none => exact ok_shaped ns
  | some p =>
    obtain ⟨w, n⟩ := p
    refine count_shaped n ?_
    rcases bad_words e with h | h <;> (rw [h]; decide +kernel)
end Q

namespace Q
open PySem PySem.Spec PyProof.Rows L2 LamX
/-! ### a class without __init__, called; isinstance of own classes -/
structure Bare (K : PySem.W.Frag) (mg : Str → Option Value) (x : Str) (C : Addr) : Prop where
  gC : mg x = some (.ref C)
  makes : PySem.W.makesIn K C = true
  init : PySem.W.findIn K (.ref C) "__init__" = some (some (.builtin "object.__init__"))
  kp : PySem.W.keepIn K (.ref C) = true
  top : PySem.W.mroIn K C (.type "object") = some true
section
variable {X : Cx} {C : Addr} {x : Str} {p pos : Pos}
theorem pe_bare (M : Bare X.K X.mg x C) (hg : Gl X x) (hdb : (x == ("__debug__" : Str)) = false := by decide) :
    PE X (.Call (.Name x p) [] [] pos) (fun σ H Q => ∀ y dx, H y = none → H dx = none → dx ≠ y → Q (.ref y) (upd (upd H dx (.own y)) y (.ins C dx []))) := by
  refine ⟨fun pz s σ H Q I h => ?_⟩
  refine wpAny_Call_Name_kw (ld_glob I hg M.gC ?_ hdb)
  refine PySem.W.callWith_K0 I.kIn M.kp ?_
  have hq := h (s.heap.objs.size + 1) s.heap.objs.size (I.hok.fresh (Nat.le_succ _)) (I.hok.fresh (Nat.le_refl _)) (Nat.ne_of_lt (Nat.lt_succ_self _))
  have I2 := Inv.made (C := C) I
  have X2 := I2.kIn
  refine wpAny_call (make_map0 I.kIn M.makes M.init (fun self => PySem.W.Looks.of_pure (PySem.W.oi_bind _)) ?_)
  have hk : ({ s with heap := (s.heap.push PySem.W.emptyDict).push (PySem.W.instObj C s.heap.objs.size) } : Shared).heap.get? (s.heap.objs.size + 1) = some (PySem.W.instObj C s.heap.objs.size) := by
    show ((s.heap.push PySem.W.emptyDict).push (PySem.W.instObj C s.heap.objs.size)).get? (s.heap.objs.size + 1) = _
    heap_get
  have t1 : PySem.W.Looks (model X.prog X.w) ({ s with heap := (s.heap.push PySem.W.emptyDict).push (PySem.W.instObj C s.heap.objs.size) } : Shared).heap (typeOf (.ref (s.heap.objs.size + 1))) (.ref C) := NwA.type_at hk rfl
  have t2 : PySem.W.Looks (model X.prog X.w) ({ s with heap := (s.heap.push PySem.W.emptyDict).push (PySem.W.instObj C s.heap.objs.size) } : Shared).heap (isInstance (.ref (s.heap.objs.size + 1)) (.type "object")) true :=
    t1.andThen (PySem.W.looks_mroIn X2 M.top)
  refine codeAny_call_builtin PySem.W.oi_plain PySem.W.entry_oi (@PySem.W.check_slot (model X.prog X.w) _ _ _ "object.__init__" "object" "__init__" (.ref (s.heap.objs.size + 1)) [] [] _ PySem.W.oi_kind PySem.W.oi_split t2 (NwA.oi_args_any _ [] []) ?_)
  rw [PySem.W.oi_run]
  exact wpAny_pure ⟨rfl, ⟨V.ref (s.heap.objs.size + 1), _, I2, rfl, hq⟩⟩
end
end Q

namespace Q
open PySem PySem.Spec PyProof.Rows L2 LamX
theorem ne_plain : plainId "object.__ne__" = true := by decide +kernel
theorem ne_bind (self : Value) : bindSpecial (.builtin "object.__ne__") self = pure (.builtin "object.__ne__", [self]) :=
  (Slot.of (T := "object") (name := "__ne__") (owner := "object") (n := "__ne__") (by rw [typeLookup_type, builtinLookup_eq_fast]; kernel_rfl) (by decide +kernel) (by decide +kernel) (by decide +kernel)
    (.inl (by decide +kernel)) (by rw [isSubtype_type]; kernel_rfl)).bind self
section
variable {prog : Program} {w : World} {A : Around} {E : Value → Shared → Prop} {s : Shared} {K : PySem.W.Frag} {x C L f : Addr} {h₀ : Heap} {m : Str → Option Value} {ox : Obj} {od : Option Obj} {name : Str} {b tb : Value}
theorem ifBoundB {M : Model} {args : List Value} {id : String} {Q : Option Value → Shared → Prop} (X : K.In s.heap) (I : PySem.W.InstAt s.heap x ox C od) (hs : PySem.W.findIn K (.ref C) name = some (some (.builtin id)))
    (hb : ∀ self, bindSpecial (.builtin id) self = pure (.builtin id, [self]))
    (h : wpAny M A (call (.builtin id) (.ref x :: args)) (fun v => Q (some v)) E s) : wpAny M A (callSpecialIfBound? (.ref x) name args) Q E s := by
  simp only [callSpecialIfBound?, bindSpecialIfBound?]
  refine wpAny_holding (wpAny_bind (wpAny_bind (wpAny_bind (I.type.here ((PySem.W.looks_findIn X hs).here ?_)))))
  refine wpAny_bind (wpAny_askSetting (wpAny_ite ?_))
  have last : wpAny M A (call (.builtin id) ([.ref x] ++ args) >>= fun v => pure (some v)) Q E s := wpAny_bind (wpAny_mono h (fun v sx hx => wpAny_pure hx) fun _ _ hx => hx)
  split
  · exact wpAny_bind ((PySem.W.Looks.of_pure (hb _)).here (wpAny_pure (by exact last)))
  · exact wpAny_tryCatch (wpAny_bind ((PySem.W.Looks.of_pure (hb _)).here (wpAny_pure (by exact last))))
theorem ne_own {Q : Value → Shared → Prop} (hu : A.units + 1 < cLine) (X : K.In s.heap) (I : PySem.W.InstAt s.heap x ox C od) (hb : PySem.W.Looks (model prog w) s.heap (typeOf b) (.ref C))
    (hn : PySem.W.findIn K (.ref C) "__ne__" = some (some (.builtin "object.__ne__"))) (hs : PySem.W.findIn K (.ref C) "__eq__" = some (some (.ref f))) (hf : PySem.W.isFn K (.ref f) = true) (ht : PySem.W.mroIn K C (.type "object") = some true)
    (h : wpAny (model prog w) A.in1 (call (.ref f) [.ref x, b]) (fun v s' => ∃ r, v = .bool r ∧ Q (.bool (!r)) s') E s) : wpAny (model prog w) A (richCompare .NotEq (.ref x) b) Q E s := by
  have one : wpAny (model prog w) A (tryCompare (.ref x) "__ne__" b) (fun r s' => ∃ v, r = some v ∧ Q v s') E s := by
    unfold tryCompare
    refine wpAny_bind (ifBoundB X I hn ne_bind (wpAny_call (codeAny_call_builtin ne_plain F.cmpEntry_ne ?_)))
    have tt : PySem.W.Looks (model prog w) s.heap (isInstance (.ref x) (.type "object")) true := I.type.andThen (PySem.W.looks_mroIn X ht)
    refine @PySem.W.check_slot (model prog w) _ _ _ "object.__ne__" "object" "__ne__" (.ref x) [b] [] _ F.cmpKind_ne F.cmpSplit_ne tt (F.cmpArgs_ne _ _) ?_
    unfold Builtin.«object.__ne__»
    repeat (first
      | with_reducible refine wpAny_cRoomFor (A := A.in1) (show A.in1.units < cLine from hu) ?_
      | (refine wpAny_bind (m := callSpecialIfBound? (.ref x) (Str.ofString "__eq__") [b]) (PySem.W.ifBound_K X I hs hf (wpAny_mono h (fun r sx hr => ?_) fun _ _ e => e)))
      | wp_step)
    obtain ⟨r, rfl, hq⟩ := hr
    repeat (first | exact ⟨_, rfl, hq⟩ | exact wpAny_pure ⟨_, rfl, hq⟩ | (refine wpAny_bind (m := truthy (.bool _)) (wpAny_truthy_bool ?_)) | wp_step)
  unfold richCompare
  simp only [oneThing_ref]
  refine wpAny_holding (wpAny_bind (wpAny_cRoomFor (Nat.lt_of_succ_lt hu) ?_))
  refine wpAny_bind (I.type.here (wpAny_bind (hb.here ?_)))
  rw [cmpInfo_NotEq]
  rw [show (Value.ref C != Value.ref C) = false from by simp]
  simp only [Bool.false_eq_true, if_false]
  refine wpAny_bind (wpAny_pure ?_)
  simp only [Bool.false_eq_true, if_false]
  refine wpAny_bind (wpAny_mono one (fun r sx z => ?_) fun _ _ e => e)
  obtain ⟨v, rfl, hq⟩ := z
  exact wpAny_pure hq
end
end Q

namespace Q
open PySem PySem.Spec PyProof.Rows L2 LamX
/-- a method by which two instances of the class at C are compared or added -/
structure Dun (P : Program) (w : World) (K : PySem.W.Frag) (mg : Str → Option Value) (base : Heap) (CX : CXT) (C : Addr) (m : Str) (k : Nat) (ps : List Str) (sp : Sp) : Prop where
  ex : ∃ (f : Addr) (fd : FuncData), FnOk P w K mg base CX k f fd ps sp ∧ PySem.W.findIn K (.ref C) m = some (some (.ref f)) ∧ PySem.W.isFn K (.ref f) = true ∧ Binds K fd ps []
section
variable {X : Cx} {CX : CXT} {C : Addr} {k : Nat} {ps : List Str} {sp : Sp} {E : XK}
/-- the callee runs, at any place below the frame -/
theorem run_at {A : Around} {f : Addr} {fd : FuncData} {pz : List (Addr × Obj)} {σ : L2.St} {H : Hp} {s : Shared} {R : VK} {us : List Value} {vs : List V} (hA : A.frames = X.A.frames) (F : FnOk X.prog X.w X.K X.mg X.base CX k f fd ps sp) (hr : Room k A) (hb : Binds X.K fd ps [])
    (hx : Passes CX X E) (I : Inv X pz σ H s) (r : Vals vs us) (h : sp vs H R E) : wpAny (model X.prog X.w) A (call (.ref f) us) (EP X pz σ R) X.xe s := by
  have e0 : Env0 X.prog X.w X.K X.mg X.base A X.stack s H := by
    have e := I.env0
    exact ⟨by rw [hA]; exact e.frames, e.mod, e.bs, e.bsz, e.funs, e.frf, e.hok, e.bare⟩
  have hl : us.length = ps.length := by rw [← r.length]; exact F.len _ _ _ _ h
  have b := hb s us I.kIn (by rw [List.append_nil]; exact hl)
  rw [List.append_nil] at b
  refine wpAny_call (codeAny_mono (F.run A X.stack s H ⟨us, []⟩ us vs R E hr e0 b r h) fun r sx hq => ?_)
  cases r with
  | error e => exact hx pz σ H s e sx I hq
  | ok fl =>
    cases fl with
    | ret u => exact I.after hq
    | next => exact False.elim hq
    | brk => exact False.elim hq
    | cont => exact False.elim hq
def rOwn (C : Addr) (sp : Sp) (E : XK) (g : Bool → Bool) : R2 := fun x y H Q => ∃ a b dx dy fs gs, x = .ref a ∧ y = .ref b ∧ H a = some (.ins C dx fs) ∧ H b = some (.ins C dy gs) ∧ sp [x, y] H (fun v H' => ∃ r, v = .bl r ∧ Q (.bl (g r)) H') E
theorem op_eqO (D : Dun X.prog X.w X.K X.mg X.base CX C "__eq__" k ps sp) (hr : Room k X.A) (hx : Passes CX X E) : OpR X (compareOp .Eq) (rOwn C sp E id) := by
  intro pz s σ H x y v u R I rx ry hq
  obtain ⟨f, fd, F, hs, hf, hb⟩ := D.ex
  obtain ⟨a, b, dx, dy, fs, gs, rfl, rfl, ha, hb', h⟩ := hq
  cases rx
  cases ry
  obtain ⟨mA, J, _⟩ := ins_get I.hok ha
  obtain ⟨mB, J2, _⟩ := ins_get I.hok hb'
  obtain ⟨od, J, _⟩ := J.look
  obtain ⟨od2, J2, _⟩ := J2.look
  obtain ⟨m, hF⟩ := I.fr
  refine PySem.W.cmp_ofEq (PySem.W.cmp_K (op := .Eq) (tb := .ref C) hr.units0 hF I.ok.mod.kin J J2.type (by simp [PySem.W.notFirst]) hs hf ?_)
  refine wpAny_mono (run_at rfl F hr hb hx I (show Vals [V.ref a, V.ref b] [Value.ref a, Value.ref b] from .cons rfl (.cons rfl .nil)) h) (fun v sx hq => ?_) fun _ _ e => e
  obtain ⟨z, H', I', rz, r, ez, q⟩ := hq
  subst ez
  cases rz
  exact ⟨.bl r, H', I', rfl, q⟩
theorem op_neO (D : Dun X.prog X.w X.K X.mg X.base CX C "__eq__" k ps sp) (hn : PySem.W.findIn X.K (.ref C) "__ne__" = some (some (.builtin "object.__ne__"))) (ht : PySem.W.mroIn X.K C (.type "object") = some true) (hr : Room (k + 1) X.A) (hx : Passes CX X E) :
    OpR X (compareOp .NotEq) (rOwn C sp E not) := by
  intro pz s σ H x y v u R I rx ry hq
  obtain ⟨f, fd, F, hs, hf, hb⟩ := D.ex
  obtain ⟨a, b, dx, dy, fs, gs, rfl, rfl, ha, hb', h⟩ := hq
  cases rx
  cases ry
  obtain ⟨mA, J, _⟩ := ins_get I.hok ha
  obtain ⟨mB, J2, _⟩ := ins_get I.hok hb'
  obtain ⟨od, J, _⟩ := J.look
  obtain ⟨od2, J2, _⟩ := J2.look
  refine PySem.W.cmp_ofNotEq (ne_own (by have := hr.un; omega) I.kIn J J2.type hn hs hf ht ?_)
  refine wpAny_mono (run_at rfl F hr.in1 hb hx I (show Vals [V.ref a, V.ref b] [Value.ref a, Value.ref b] from .cons rfl (.cons rfl .nil)) h) (fun v sx hq => ?_) fun _ _ e => e
  obtain ⟨z, H', I', rz, r, ez, q⟩ := hq
  subst ez
  obtain rfl : v = Value.bool r := rz
  exact ⟨r, rfl, .bl (!r), H', I', rfl, q⟩
/-- one + other of one class -/
def rPlus (C : Addr) (sp : Sp) (E : XK) : R2 := fun x y H Q => ∃ a b dx dy fs gs, x = .ref a ∧ y = .ref b ∧ H a = some (.ins C dx fs) ∧ H b = some (.ins C dy gs) ∧ sp [x, y] H (fun v H' => (∃ p, v = .ref p) ∧ Q v H') E
theorem op_addO (D : Dun X.prog X.w X.K X.mg X.base CX C "__add__" k ps sp) (hc : PySem.W.selfFirst X.K C = true) (hr : Room k X.A) (hx : Passes CX X E) : OpR X (binaryOp .Add) (rPlus C sp E) := by
  intro pz s σ H x y v u R I rx ry hq
  obtain ⟨f, fd, F, hs, hf, hb⟩ := D.ex
  obtain ⟨a, b, dx, dy, fs, gs, rfl, rfl, ha, hb', h⟩ := hq
  cases rx
  cases ry
  obtain ⟨mA, J, _⟩ := ins_get I.hok ha
  obtain ⟨mB, J2, _⟩ := ins_get I.hok hb'
  obtain ⟨od, J, _⟩ := J.look
  obtain ⟨od2, J2, _⟩ := J2.look
  obtain ⟨m, hF⟩ := I.fr
  refine PySem.W.binop_K (op := .Add) hF I.ok.mod.kin J J2.type hc hs hf ?_
  refine wpAny_mono (run_at rfl F hr hb hx I (show Vals [V.ref a, V.ref b] [Value.ref a, Value.ref b] from .cons rfl (.cons rfl .nil)) h) (fun v sx hq => ?_) fun _ _ e => e
  obtain ⟨z, H', I', rz, ⟨p, ez⟩, q⟩ := hq
  subst ez
  cases rz
  exact ⟨.ref p, H', I', rfl, q⟩
end
/-! ### isinstance of own classes -/
structure OwnC (K : PySem.W.Frag) (C : Addr) : Prop where
  cl : Cls K C
  ha : PySem.W.findIn K (.ref C) "__class__" = some (some (.builtin "object.__class__"))
  hn : PySem.W.specialIn K (.builtin "object.__class__") "__get__" = some (some (.builtin "getset_descriptor.__get__"))
  htk : PySem.W.takesIn K (.builtin "object.__class__") = some true
  hm : PySem.W.mroIn K C (.type "object") = some true
theorem kit_self {K : PySem.W.Frag} {C : Addr} : PySem.W.kitOne K (.ref C) (.ref C) = some true := by
  unfold PySem.W.kitOne
  rw [if_pos (by simp)]
theorem kit_no {K : PySem.W.Frag} {C D : Addr} (ne : C ≠ D) (h1 : PySem.W.isClsIn K D = true) (h2 : PySem.W.typeIn K (.ref D) = some (.type "type")) (h3 : PySem.W.subIn K (.ref C) (.ref D) = some false) : PySem.W.kitOne K (.ref C) (.ref D) = some false := by
  unfold PySem.W.kitOne
  rw [if_neg (by simpa using ne)]
  unfold PySem.W.kitCls
  have e2 : ((PySem.W.clsIn K D).isSome && PySem.W.typeIn K (.ref D) == some (.type "type")) = true := by
    have h5 : (PySem.W.clsIn K D).isSome = true := h1
    rw [h5, h2] <;> rfl
  show (if ((PySem.W.clsIn K D).isSome && PySem.W.typeIn K (.ref D) == some (.type "type")) = true then PySem.W.subIn K (.ref C) (.ref D) else none) = some false
  rw [if_pos e2]
  exact h3
/-- isinstance(x, D) of an instance of the class at C -/
theorem v_isi {K : PySem.W.Frag} {σ : L2.St} {H : Hp} {te tc : TE} {a C D dx : Addr} {fs : List (Str × V)} {b : Bool} (hx : Val te σ H (.ref a)) (hc : Val tc σ H (.ref D)) (o : OwnC K C) (ha : H a = some (.ins C dx fs)) (hk : PySem.W.kitOne K (.ref C) (.ref D) = some b) :
    Val (tCB (rIsi K) (tCons te (tCons tc tNil))) σ H (.bl b) := by
  intro Q q
  refine hx _ ?_
  refine hc _ ?_
  exact ⟨.ref a, .ref D, _, _, b, rfl, .own D, .base (.ins ha o.cl o.ha o.hn o.htk o.hm), hk, q⟩
end Q

namespace Q
open PySem PySem.Spec PyProof.Rows L2 LamX
section
variable {X : Cx}
/-- xs[i], ahead of xs[i] op= e -/
def rGetL (K : PySem.W.Frag) : V → V → Hp → VK → Prop := fun o i H Q => ∃ (p : Addr) (xs : List V) (j : Nat) (v : V), o = .ref p ∧ i = .int (j : Nat) ∧ SqL K H p xs ∧ xs[j]? = some v ∧ Q v H
theorem get_list : PGet X (rGetL X.K) := by
  intro pz s σ H o i ov iv R I ro ri h
  obtain ⟨p, xs, j, v, rfl, rfl, hq, he, q⟩ := h
  cases ro
  obtain ⟨t, rfl⟩ := ri
  obtain ⟨its, r, pl, hz⟩ := I.list hq
  obtain ⟨u, eu, ru⟩ := r.get he
  have hlt : j < its.length := (List.getElem?_eq_some_iff.mp eu).1
  have hl := r.length
  have hn := line63
  refine wpAny_getItem_list (k := (j : Int)) pl.isList (Int.natCast_nonneg j) (by omega) (by simpa using eu) ?_
  exact ⟨v, H, I, ru, q⟩
end
/-! ### commands, memories, programs: the data -/
inductive Cmd where
  | store (l w n : Int)
  | flush (l : Int)
  | fence
  deriving DecidableEq
/-- where the module's classes stand -/
structure Ad where
  st : Addr
  fl : Addr
  fe : Addr
  me : Addr
  pr : Addr
  bc : Addr
  nl : Addr
  nw : Addr
  nt : Addr
def Ad.cls (d : Ad) : Cmd → Addr
  | .store _ _ _ => d.st
  | .flush _ => d.fl
  | .fence => d.fe
def cmdFs : Cmd → List (Str × V)
  | .store l w n => [("line", .int l), ("word", .int w), ("number", .int n)]
  | .flush l => [("line", .int l)]
  | .fence => []
def All2 {α : Type} (R : V → α → Prop) (vs : List V) (cs : List α) : Prop := vs.length = cs.length ∧ ∀ (i : Nat) (v : V) (c : α), vs[i]? = some v → cs[i]? = some c → R v c
theorem All2.mono {α : Type} {R R' : V → α → Prop} {vs : List V} {cs : List α} (h : ∀ v c, R v c → R' v c) (a : All2 R vs cs) : All2 R' vs cs := ⟨a.1, fun i v c h1 h2 => h v c (a.2 i v c h1 h2)⟩
theorem All2.nil {α : Type} {R : V → α → Prop} : All2 R [] [] := ⟨rfl, fun i v c h => by simp at h⟩
theorem All2.snoc {α : Type} {R : V → α → Prop} {vs : List V} {cs : List α} {v : V} {c : α} (a : All2 R vs cs) (h : R v c) : All2 R (vs ++ [v]) (cs ++ [c]) := by
  refine ⟨by rw [List.length_append, List.length_append, a.1]; rfl, fun i x y h1 h2 => ?_⟩
  by_cases hi : i < vs.length
  · rw [List.getElem?_append_left hi] at h1
    rw [List.getElem?_append_left (by rw [← a.1]; exact hi)] at h2
    exact a.2 i x y h1 h2
  · rw [List.getElem?_append_right (by omega)] at h1
    rw [List.getElem?_append_right (by rw [← a.1]; omega)] at h2
    have e : i - vs.length = 0 := by
      have q := (List.getElem?_eq_some_iff.mp h1).1
      simp at q
      omega
    rw [e] at h1
    rw [← a.1, e] at h2
    cases h1
    cases h2
    exact h
theorem All2.get {α : Type} {R : V → α → Prop} {vs : List V} {cs : List α} {i : Nat} {v : V} (a : All2 R vs cs) (h : vs[i]? = some v) : ∃ c, cs[i]? = some c ∧ R v c := by
  have hi : i < cs.length := by rw [← a.1]; exact (List.getElem?_eq_some_iff.mp h).1
  exact ⟨cs[i], by simp [hi], a.2 i v _ h (by simp [hi])⟩
theorem All2.get' {α : Type} {R : V → α → Prop} {vs : List V} {cs : List α} {i : Nat} {c : α} (a : All2 R vs cs) (h : cs[i]? = some c) : ∃ v, vs[i]? = some v ∧ R v c := by
  have hi : i < vs.length := by rw [a.1]; exact (List.getElem?_eq_some_iff.mp h).1
  exact ⟨vs[i], by simp [hi], a.2 i _ c (by simp [hi]) h⟩
theorem All2.take {α : Type} {R : V → α → Prop} {vs : List V} {cs : List α} (n : Nat) (a : All2 R vs cs) : All2 R (vs.take n) (cs.take n) :=
  ⟨by rw [List.length_take, List.length_take, a.1], fun i v c h1 h2 => by
    rw [List.getElem?_take] at h1 h2
    split at h1
    · rename_i q
      rw [if_pos q] at h2
      exact a.2 i v c h1 h2
    · cases h1⟩
theorem All2.drop {α : Type} {R : V → α → Prop} {vs : List V} {cs : List α} (n : Nat) (a : All2 R vs cs) : All2 R (vs.drop n) (cs.drop n) :=
  ⟨by rw [List.length_drop, List.length_drop, a.1], fun i v c h1 h2 => by
    rw [List.getElem?_drop] at h1 h2
    exact a.2 _ v c h1 h2⟩
theorem All2.app {α : Type} {R : V → α → Prop} {vs ws : List V} {cs ds : List α} (a : All2 R vs cs) (b : All2 R ws ds) : All2 R (vs ++ ws) (cs ++ ds) := by
  refine ⟨by rw [List.length_append, List.length_append, a.1, b.1], fun i x y h1 h2 => ?_⟩
  by_cases hi : i < vs.length
  · rw [List.getElem?_append_left hi] at h1
    rw [List.getElem?_append_left (by rw [← a.1]; exact hi)] at h2
    exact a.2 i x y h1 h2
  · rw [List.getElem?_append_right (by omega)] at h1
    rw [List.getElem?_append_right (by rw [← a.1]; omega)] at h2
    rw [← a.1] at h2
    exact b.2 _ x y h1 h2
/-- what is neither a list nor a table stands as it was -/
def Ke (H H' : Hp) : Prop := ∀ b o, H b = some o → (∀ xs, o ≠ .lst xs) → (∀ ps, o ≠ .tbl ps) → H' b = some o
theorem Ke.refl (H : Hp) : Ke H H := fun _ _ h _ _ => h
theorem Ke.trans {H H1 H2 : Hp} (a : Ke H H1) (b : Ke H1 H2) : Ke H H2 := fun c o h n t => b c o (a c o h n t) n t
theorem Ke.same {H H' : Hp} (e : Same H H') : Ke H H' := fun b o h _ _ => e b o h
theorem Ke.ext {H H' : Hp} (e : ExtN H H') : Ke H H' := fun b o h _ t => e b o h t
theorem Ke.ks {S : Addr} {H H' : Hp} (hs : HasSrc S H) (e : Ks S H H') : Ke H H' := fun b o h n _ => e b o h (fun z => by
  obtain ⟨x, y, c, hS⟩ := hs
  rw [z, hS] at h
  cases h
  exact n _ rfl)
theorem Ke.lst {H : Hp} {p : Addr} {xs : List V} {o : HO} (h : H p = some (.lst xs)) : Ke H (L2.upd H p o) := fun b u hb n _ => by
  rw [upd_ne (fun z => ?_)]
  · exact hb
  · rw [z, h] at hb
    cases hb
    exact n _ rfl
theorem Ke.kp {S : Addr} {H H' : Hp} (hs : HasSrc S H) (e : Kp S H H') : Ke H H' := fun b o h n t => e b o h (fun z => by
  obtain ⟨x, y, c, hS⟩ := hs
  rw [z, hS] at h
  cases h
  exact n _ rfl) t
theorem Now.ke {T : List (Addr × Str)} {S : Addr} {H0 H : Hp} (hs : HasSrc S H0) (n : Now T S H0 H) : Ke H0 H := Ke.kp hs n.kp
def CmdAt (d : Ad) (H : Hp) (v : V) (c : Cmd) : Prop := ∃ a dx, v = .ref a ∧ H a = some (.ins (d.cls c) dx (cmdFs c))
def MemAt (d : Ad) (H : Hp) (m : Addr) (ns : List Int) : Prop := ∃ dx t, H m = some (.ins d.me dx [("sizes", .ref t)]) ∧ H t = some (.tup (ns.map V.int))
def ProgAt (d : Ad) (H : Hp) (p : Addr) (ns : List Int) (cs : List Cmd) : Prop := ∃ dx m t vs, H p = some (.ins d.pr dx [("memory", .ref m), ("commands", .ref t)]) ∧ MemAt d H m ns ∧ H t = some (.tup vs) ∧ All2 (CmdAt d H) vs cs
theorem CmdAt.ke {d : Ad} {H H' : Hp} {v : V} {c : Cmd} (e : Ke H H') (h : CmdAt d H v c) : CmdAt d H' v c := by
  obtain ⟨a, dx, rfl, h⟩ := h
  exact ⟨a, dx, rfl, e _ _ h (fun _ z => by cases z) (fun _ z => by cases z)⟩
theorem MemAt.ke {d : Ad} {H H' : Hp} {m : Addr} {ns : List Int} (e : Ke H H') (h : MemAt d H m ns) : MemAt d H' m ns := by
  obtain ⟨dx, t, h1, h2⟩ := h
  exact ⟨dx, t, e _ _ h1 (fun _ z => by cases z) (fun _ z => by cases z), e _ _ h2 (fun _ z => by cases z) (fun _ z => by cases z)⟩
theorem ProgAt.ke {d : Ad} {H H' : Hp} {p : Addr} {ns : List Int} {cs : List Cmd} (e : Ke H H') (h : ProgAt d H p ns cs) : ProgAt d H' p ns cs := by
  obtain ⟨dx, m, t, vs, h1, h2, h3, h4⟩ := h
  exact ⟨dx, m, t, vs, e _ _ h1 (fun _ z => by cases z) (fun _ z => by cases z), h2.ke e, e _ _ h3 (fun _ z => by cases z) (fun _ z => by cases z), h4.mono fun v c q => q.ke e⟩
/-! ### what may be refused -/
inductive PErr where
  | count (w : Str) (n : Int)
  | line (n : Int)
  | word (n : Int)
  | time (n : Int)
def Ad.err (d : Ad) : PErr → Addr
  | .count _ _ => d.bc
  | .line _ => d.nl
  | .word _ => d.nw
  | .time _ => d.nt
def errFs : PErr → List (Str × V)
  | .count w n => [("count", .int n), ("what", .str w)]
  | .line n => [("line", .int n)]
  | .word n => [("word", .int n)]
  | .time n => [("time", .int n)]
/-- the error e is let out: its own dict is new -/
def Raised (d : Ad) (e : PErr) (E : XK) (H : Hp) : Prop := ∀ x, H x = none → E (.ref (d.err e)) (some x) (upd H x (.xd (errFs e)))
def lineErr (ns : List Int) (l : Int) : Option PErr := if 0 ≤ l ∧ l < ns.length then none else some (.line l)
def wordErr (ns : List Int) (l w : Int) : Option PErr := if 0 ≤ l ∧ l < ns.length then (if 0 ≤ w ∧ w < ns.getD l.toNat 0 then none else some (.word w)) else some (.line l)
def cmdErr (ns : List Int) : Cmd → Option PErr
  | .store l w _ => wordErr ns l w
  | .flush l => lineErr ns l
  | .fence => none
def progErr (ns : List Int) (cs : List Cmd) : Option PErr := if 200 < cs.length then some (.count "commands" cs.length) else cs.findSome? (cmdErr ns)
/-- how a check ends -/
def Checks (d : Ad) (o : Option PErr) (Q : VK) (E : XK) (H : Hp) : Prop := match o with
  | none => Q .non H
  | some e => Raised d e E H
def spStoreI (d : Ad) : Sp := fun vs H Q _ => ∃ x dx v1 v2 v3, vs = [.ref x, v1, v2, v3] ∧ H x = some (.ins d.st dx []) ∧ Q .non (upd H x (.ins d.st dx [("line", v1), ("word", v2), ("number", v3)]))
def spFlushI (d : Ad) : Sp := fun vs H Q _ => ∃ x dx v1, vs = [.ref x, v1] ∧ H x = some (.ins d.fl dx []) ∧ Q .non (upd H x (.ins d.fl dx [("line", v1)]))
def spLine (d : Ad) : Sp := fun vs H Q E => ∃ m ns l, vs = [.ref m, .int l] ∧ MemAt d H m ns ∧ Checks d (lineErr ns l) Q E H
def spWord (d : Ad) : Sp := fun vs H Q E => ∃ m ns l w, vs = [.ref m, .int l, .int w] ∧ MemAt d H m ns ∧ Checks d (wordErr ns l w) Q E H
def spCmd (d : Ad) : Sp := fun vs H Q E => ∃ m ns v c, vs = [.ref m, v] ∧ MemAt d H m ns ∧ CmdAt d H v c ∧ Checks d (cmdErr ns c) Q E H
def spCmds (d : Ad) (K : PySem.W.Frag) : Sp := fun vs H Q E => ∃ b m ns a xs cs, vs = [.ref m, .ref a] ∧ MemAt d H m ns ∧ Sq b K H a xs ∧ All2 (CmdAt d H) xs cs ∧ Checks d (progErr ns cs) Q E H
def spProgI (d : Ad) (K : PySem.W.Frag) : Sp := fun vs H Q E => ∃ b p dx m ns a xs cs, vs = [.ref p, .ref m, .ref a] ∧ H p = some (.ins d.pr dx []) ∧ MemAt d H m ns ∧ H a = some (hoOf b xs) ∧ All2 (CmdAt d H) xs cs ∧
  (∀ e, progErr ns cs = some e → Raised d e E H) ∧ (progErr ns cs = none → ∀ H', Ks p H H' → ProgAt d H' p ns cs → Q .non H')
end Q

namespace Q
open PySem PySem.Spec PyProof.Rows L2 LamX
theorem findSome_at {α β : Type} {f : α → Option β} {cs : List α} {i : Nat} {c : α} {e : β} (hi : cs[i]? = some c) (he : f c = some e) (hb : ∀ (j : Nat) (x : α), j < i → cs[j]? = some x → f x = none) : cs.findSome? f = some e := by
  induction cs generalizing i with
  | nil => simp at hi
  | cons a r ih =>
    cases i with
    | zero =>
      simp at hi
      subst hi
      simp [List.findSome?, he]
    | succ i =>
      have ha : f a = none := hb 0 a (Nat.succ_pos i) rfl
      have hi2 : r[i]? = some c := by simpa using hi
      rw [List.findSome?_cons, ha]
      exact ih hi2 fun j x hj hx => hb (j + 1) x (Nat.succ_lt_succ hj) (by simpa using hx)
end Q

namespace Q
open PySem PySem.Spec PyProof.Rows L2 LamX
/-! ### equality of tuples of numbers -/
theorem eqvAll_ints : ∀ ns ms : List Int, PyData.eqvAll (ns.map PyData.int) (ms.map PyData.int) = decide (ns = ms)
  | [], [] => rfl
  | [], m :: ms => by simp [PyData.eqvAll]
  | n :: ns, [] => by simp [PyData.eqvAll]
  | n :: ns, m :: ms => by
    show (PyData.eqv (.int n) (.int m) && PyData.eqvAll (ns.map PyData.int) (ms.map PyData.int)) = _
    rw [eqvAll_ints ns ms]
    have e : PyData.eqv (.int n) (.int m) = (n == m) := by simp [PyData.eqv]
    rw [e]
    by_cases h : n = m
    · subst h
      simp
    · have h2 : ¬ (n :: ns = m :: ms) := fun z => h (List.cons.inj z).1
      rw [decide_eq_false h2]
      simp [h]
theorem eqv_tup (ns ms : List Int) : PyData.eqv (.tuple (ns.map PyData.int)) (.tuple (ms.map PyData.int)) = decide (ns = ms) := by
  rw [PyData.eqv]
  exact eqvAll_ints ns ms
theorem shaped_tup (ns : List Int) : SeqAt.shaped (.tuple (ns.map PyData.int)) = true := by
  unfold SeqAt.shaped
  have h1 : PyData.canLay0 (.tuple (ns.map PyData.int)) = true := lay_ints ns
  have h2 : PyData.depth (.tuple (ns.map PyData.int)) ≤ 64 := by
    simp [PyData.depth, depth_ints]
  rw [h1, decide_eq_true h2]
  rfl
def spMemEq (d : Ad) : Sp := fun vs H Q _ => ∃ a b ns ms, vs = [.ref a, .ref b] ∧ MemAt d H a ns ∧ MemAt d H b ms ∧ Q (.bl (decide (ns = ms))) H
def spAdd (d : Ad) : Sp := fun vs H Q _ => ∃ p q ns cs es, vs = [.ref p, .ref q] ∧ ProgAt d H p ns cs ∧ ProgAt d H q ns es ∧ progErr ns (cs ++ es) = none ∧ cs.length + es.length ≤ 100000 ∧
  ∀ r H', Same H H' → ProgAt d H' r ns (cs ++ es) → Q (.ref r) H'
/-! ### what is made, flushed and sure as the commands go -/
structure Pg where
  d : List Int
  f : List Int
  s : List Int
def pstep (x : Pg) : Cmd → Pg
  | .store l _ _ => ⟨x.d.set l.toNat (x.d.getD l.toNat 0 + 1), x.f, x.s⟩
  | .flush l => ⟨x.d, x.f.set l.toNat (x.d.getD l.toNat 0), x.s⟩
  | .fence => ⟨x.d, x.f, x.f⟩
def pinit (n : Nat) : Pg := ⟨List.replicate n 0, List.replicate n 0, List.replicate n 0⟩
def prun (n : Nat) (cs : List Cmd) : Pg := cs.foldl pstep (pinit n)
theorem prun_snoc {n : Nat} {cs : List Cmd} {c : Cmd} : prun n (cs ++ [c]) = pstep (prun n cs) c := by
  unfold prun
  rw [List.foldl_append]
  rfl
theorem pstep_len {x : Pg} {n : Nat} (c : Cmd) (h : x.d.length = n ∧ x.f.length = n ∧ x.s.length = n) : (pstep x c).d.length = n ∧ (pstep x c).f.length = n ∧ (pstep x c).s.length = n := by
  obtain ⟨h1, h2, h3⟩ := h
  cases c with
  | store l w m => exact ⟨by simpa [pstep] using h1, h2, h3⟩
  | flush l => exact ⟨h1, by simpa [pstep] using h2, h3⟩
  | fence => exact ⟨h1, h2, h2⟩
theorem prun_len (n : Nat) (cs : List Cmd) : (prun n cs).d.length = n ∧ (prun n cs).f.length = n ∧ (prun n cs).s.length = n := by
  unfold prun
  have key : ∀ (l : List Cmd) (x : Pg), (x.d.length = n ∧ x.f.length = n ∧ x.s.length = n) → ((l.foldl pstep x).d.length = n ∧ (l.foldl pstep x).f.length = n ∧ (l.foldl pstep x).s.length = n) := by
    intro l
    induction l with
    | nil => exact fun _ h => h
    | cons c r ih => exact fun x h => ih _ (pstep_len c h)
  exact key cs _ ⟨by simp [pinit], by simp [pinit], by simp [pinit]⟩
theorem take_snoc {α : Type} {cs : List α} {i : Nat} {c : α} (h : cs[i]? = some c) : cs.take (i + 1) = cs.take i ++ [c] := by
  rw [List.take_add_one, h]
  rfl
def RowAt (H : Hp) (v : V) (x : Pg) : Prop := ∃ r a b, v = .ref r ∧ H r = some (.tup [.ref a, .ref b]) ∧ H a = some (.tup (x.d.map V.int)) ∧ H b = some (.tup (x.s.map V.int))
theorem RowAt.ke {H H' : Hp} {v : V} {x : Pg} (e : Ke H H') (h : RowAt H v x) : RowAt H' v x := by
  obtain ⟨r, a, b, rfl, h1, h2, h3⟩ := h
  exact ⟨r, a, b, rfl, e _ _ h1 (fun _ z => by cases z) (fun _ z => by cases z), e _ _ h2 (fun _ z => by cases z) (fun _ z => by cases z), e _ _ h3 (fun _ z => by cases z) (fun _ z => by cases z)⟩
def rowsOf (n : Nat) (cs : List Cmd) (i : Nat) : List Pg := (List.range i).map fun j => prun n (cs.take j)
theorem rowsOf_succ (n : Nat) (cs : List Cmd) (i : Nat) : rowsOf n cs (i + 1) = rowsOf n cs i ++ [prun n (cs.take i)] := by
  unfold rowsOf
  rw [List.range_succ, List.map_append]
  rfl
def Valid (ns : List Int) (cs : List Cmd) : Prop := ∀ c ∈ cs, cmdErr ns c = none
def spProgress (d : Ad) : Sp := fun vs H Q _ => ∃ p ns cs, vs = [.ref p] ∧ ProgAt d H p ns cs ∧ Valid ns cs ∧ ns.length ≤ 6 ∧ cs.length ≤ 200 ∧
  ∀ r xs H', Same H H' → H' r = some (.lst xs) → All2 (RowAt H') xs (rowsOf ns.length cs (cs.length + 1)) → Q (.ref r) H'
def timeErr (cs : List Cmd) (t : Int) : Option PErr := if 0 ≤ t ∧ t ≤ cs.length then none else some (.time t)
def spTime (d : Ad) : Sp := fun vs H Q E => ∃ p ns cs t, vs = [.ref p, .int t] ∧ ProgAt d H p ns cs ∧ Checks d (timeErr cs t) Q E H
def spAt (d : Ad) (sel : Pg → List Int) : Sp := fun vs H Q E => ∃ p ns cs t, vs = [.ref p, .int t] ∧ ProgAt d H p ns cs ∧ Valid ns cs ∧ ns.length ≤ 6 ∧ cs.length ≤ 200 ∧
  (∀ e, timeErr cs t = some e → Raised d e E H) ∧ (timeErr cs t = none → ∀ q H', Same H H' → H' q = some (.tup ((sel (prun ns.length (cs.take t.toNat))).map V.int)) → Q (.ref q) H')
theorem Ke.mut {H H' : Hp} {p : Addr} {xs : List V} {o : HO} (e : Ke H H') (h : H' p = some (.lst xs)) : Ke H (L2.upd H' p o) := e.trans (Ke.lst h)
theorem store_line {ns : List Int} {l w n : Int} (h : cmdErr ns (.store l w n) = none) : 0 ≤ l ∧ l < ns.length := by
  by_cases hl : 0 ≤ l ∧ l < ns.length
  · exact hl
  · have e : wordErr ns l w = some (.line l) := if_neg hl
    have e2 : wordErr ns l w = none := h
    rw [e] at e2
    cases e2
theorem flush_line {ns : List Int} {l : Int} (h : cmdErr ns (.flush l) = none) : 0 ≤ l ∧ l < ns.length := by
  by_cases hl : 0 ≤ l ∧ l < ns.length
  · exact hl
  · have e : lineErr ns l = some (.line l) := if_neg hl
    have e2 : lineErr ns l = none := h
    rw [e] at e2
    cases e2
theorem cons1 {te : TE} {σ : L2.St} {H : Hp} {R : List V → Hp → Prop} (h : te σ H fun x H1 => R [x] H1) : tCons te tNil σ H R := h
theorem asg_lst1 {te : TE} {g : TG} {D : Ends} {σ : L2.St} {H : Hp} (h : te σ H fun x H1 => 1 ≤ sizeLine ∧ ∀ p, H1 p = none → g (.ref p) σ (upd H1 p (.lst [x])) D.nx) : tAsg (tLst (tCons te tNil)) g D σ H := h
end Q

namespace Q
open PySem PySem.Spec PyProof.Rows L2 LamX
/-! ### what a law draws: kinds, specs -/
inductive Kd where
  | st
  | fl
  | fe
  deriving DecidableEq
def Kd.str : Kd → Str
  | .st => "store"
  | .fl => "flush"
  | .fe => "fence"
structure Sc where
  k : Kd
  a : Int
  b : Int
  c : Int
def scV (s : Sc) : List V := [.str s.k.str, .int s.a, .int s.b, .int s.c]
def SpecAt (H : Hp) (v : V) (s : Sc) : Prop := ∃ r, v = .ref r ∧ H r = some (.tup (scV s))
theorem SpecAt.ke {H H' : Hp} {v : V} {s : Sc} (e : Ke H H') (h : SpecAt H v s) : SpecAt H' v s := by
  obtain ⟨r, rfl, h⟩ := h
  exact ⟨r, rfl, e _ _ h (fun _ z => by cases z) (fun _ z => by cases z)⟩
/-- a list of specs at p -/
def Specs (H : Hp) (p : Addr) (ss : List Sc) : Prop := ∃ vs, H p = some (.lst vs) ∧ All2 (SpecAt H) vs ss
theorem Specs.ks {S : Addr} {H H' : Hp} {p : Addr} {ss : List Sc} (hs : HasSrc S H) (ne : p ≠ S) (e : Ks S H H') (h : Specs H p ss) : Specs H' p ss := by
  obtain ⟨vs, h1, h2⟩ := h
  exact ⟨vs, e _ _ h1 ne, h2.mono fun v c q => q.ke (Ke.ks hs e)⟩
theorem Specs.same {H H' : Hp} {p : Addr} {ss : List Sc} (e : Same H H') (h : Specs H p ss) : Specs H' p ss := by
  obtain ⟨vs, h1, h2⟩ := h
  exact ⟨vs, e _ _ h1, h2.mono fun v c q => q.ke (Ke.same e)⟩
theorem Specs.ext {H H' : Hp} {p : Addr} {ss : List Sc} (e : ExtN H H') (h : Specs H p ss) : Specs H' p ss := by
  obtain ⟨vs, h1, h2⟩ := h
  exact ⟨vs, e _ _ h1 (fun _ z => by cases z), h2.mono fun v c q => q.ke (Ke.ext e)⟩
def Sc.cmd (s : Sc) : Cmd := match s.k with
  | .st => .store s.a s.b s.c
  | .fl => .flush s.a
  | .fe => .fence
def cmds (ss : List Sc) : List Cmd := ss.map Sc.cmd
/-- the line and the word are there -/
def Good (ns : List Int) (s : Sc) : Prop := (0 ≤ s.a ∧ s.a < ns.length) ∧ 0 ≤ s.b ∧ s.b < ns.getD s.a.toNat 0
theorem Good.ok {ns : List Int} {s : Sc} (g : Good ns s) : cmdErr ns s.cmd = none := by
  obtain ⟨g1, g2⟩ := g
  obtain ⟨k, a, b, c⟩ := s
  cases k with
  | st =>
    show wordErr ns a b = none
    unfold wordErr
    rw [if_pos g1, if_pos g2]
  | fl => exact if_pos g1
  | fe => rfl
theorem valid_of {ns : List Int} {ss : List Sc} (g : ∀ s ∈ ss, Good ns s) : Valid ns (cmds ss) := fun c hc => by
  obtain ⟨s, hs, rfl⟩ := List.mem_map.mp hc
  exact (g s hs).ok
theorem progErr_of {ns : List Int} {cs : List Cmd} (v : Valid ns cs) (h : cs.length ≤ 200) : progErr ns cs = none := by
  unfold progErr
  rw [if_neg (by omega)]
  exact List.findSome?_eq_none_iff.mpr v
theorem cmds_len (ss : List Sc) : (cmds ss).length = ss.length := List.length_map ..
theorem cmds_take (ss : List Sc) (t : Nat) : (cmds ss).take t = cmds (ss.take t) := by
  unfold cmds
  rw [List.map_take]
def SizesOk (ns : List Int) : Prop := (1 ≤ ns.length ∧ ns.length ≤ 6) ∧ ∀ n ∈ ns, 1 ≤ n ∧ n ≤ 4
theorem SizesOk.bad {ns : List Int} (h : SizesOk ns) : badSizes ns = none := by
  have h1 : 1 ≤ (ns.length : Int) ∧ (ns.length : Int) ≤ 6 := by
    have := h.1
    omega
  unfold badSizes
  rw [if_pos h1]
  rw [List.find?_eq_none.mpr (fun n hn => by
    rw [decide_eq_true (h.2 n hn)]
    decide)]
  rfl
/-! ### the law's own search for what is made and sure -/
def isK (k : Kd) (s : Sc) : Bool := decide (s.k = k)
def lawMade (ss : List Sc) (n t : Nat) : List Int := (List.range n).map fun (a : Nat) => ((((ss.take t).filter (isK .st)).filter fun s => decide (s.a = (a : Int))).length : Int)
def sureStep (ss : List Sc) (n : Nat) (c : Nat → Bool) (r : List Int) (i : Nat) : List Int := match ss[i]? with
  | some s => if isK .fl s && c i then r.set s.a.toNat (max (r.getD s.a.toNat 0) ((lawMade ss n i).getD s.a.toNat 0)) else r
  | none => r
def sureFold (ss : List Sc) (n : Nat) (c : Nat → Bool) (t : Nat) : List Int := (List.range t).foldl (sureStep ss n c) (List.replicate n 0)
/-- is a fence among the commands from i on, ahead of t -/
def fenceIn (ss : List Sc) (i t : Nat) : Bool := !(((ss.drop i).take (t - i)).filter (isK .fe)).isEmpty
def lawSure (ss : List Sc) (n t : Nat) : List Int := sureFold ss n (fun i => fenceIn ss i t) t
theorem sureFold_succ (ss : List Sc) (n : Nat) (c : Nat → Bool) (t : Nat) : sureFold ss n c (t + 1) = sureStep ss n c (sureFold ss n c t) t := by
  unfold sureFold
  rw [List.range_succ, List.foldl_append]
  rfl
theorem sureFold_congr {ss : List Sc} {n : Nat} {c c' : Nat → Bool} : ∀ {t : Nat}, (∀ i, i < t → c i = c' i) → sureFold ss n c t = sureFold ss n c' t
  | 0, _ => rfl
  | t + 1, h => by
    rw [sureFold_succ, sureFold_succ, sureFold_congr (t := t) fun i hi => h i (by omega)]
    unfold sureStep
    rw [h t (by omega)]
theorem lawMade_len (ss : List Sc) (n t : Nat) : (lawMade ss n t).length = n := by simp [lawMade]
theorem lawMade_at {ss : List Sc} {n t a : Nat} (h : a < n) : (lawMade ss n t).getD a 0 = ((((ss.take t).filter (isK .st)).filter fun s => decide (s.a = (a : Int))).length : Int) := by
  unfold lawMade
  rw [List.getD_eq_getElem?_getD, List.getElem?_map, List.getElem?_range h]
  rfl
theorem lawMade_zero (ss : List Sc) (n : Nat) : lawMade ss n 0 = List.replicate n 0 := by
  refine List.ext_getElem (by simp [lawMade]) fun i h1 h2 => ?_
  simp [lawMade]
/-- one more command -/
theorem lawMade_succ {ss : List Sc} {n t : Nat} {s : Sc} (h : ss[t]? = some s) : lawMade ss n (t + 1) = if isK .st s then (lawMade ss n t).set s.a.toNat ((lawMade ss n t).getD s.a.toNat 0 + (if 0 ≤ s.a then 1 else 0)) else lawMade ss n t := by
  have ht : ss.take (t + 1) = ss.take t ++ [s] := take_snoc h
  by_cases hk : isK .st s = true
  · rw [if_pos hk]
    refine List.ext_getElem (by simp [lawMade]) fun i h1 h2 => ?_
    have hi : i < n := by simpa [lawMade] using h1
    rw [List.getElem_set]
    simp only [lawMade, List.getElem_map, List.getElem_range, ht, List.filter_append, hk, List.filter_cons, List.filter_nil, if_true, List.length_append]
    by_cases e : s.a = (i : Int)
    · have e2 : s.a.toNat = i := by omega
      rw [if_pos e2, e2]
      have q := lawMade_at (ss := ss) (t := t) hi
      unfold lawMade at q
      rw [q]
      simp [e]
    · by_cases e2 : s.a.toNat = i
      · have hneg : ¬ 0 ≤ s.a := by omega
        rw [if_pos e2, e2, if_neg hneg]
        have q := lawMade_at (ss := ss) (t := t) hi
        unfold lawMade at q
        rw [q]
        simp [e]
      · rw [if_neg e2]
        simp [e]
  · rw [if_neg hk]
    unfold lawMade
    refine List.map_congr_left fun a _ => ?_
    rw [ht, List.filter_append]
    simp [hk]
theorem get_set {l : List Int} {i j : Nat} {x : Int} (h : j < l.length) : (l.set i x).getD j 0 = if i = j then x else l.getD j 0 := by
  rw [List.getD_eq_getElem?_getD, List.getD_eq_getElem?_getD, List.getElem?_set]
  split
  · rename_i q
    subst q
    simp [h]
  · rfl
/-- the program's way: done and flushed, and that what is flushed is not more than what is done -/
theorem made_flushed {ss : List Sc} {ns : List Int} (g : ∀ s ∈ ss, Good ns s) : ∀ t, t ≤ ss.length →
    (prun ns.length (cmds (ss.take t))).d = lawMade ss ns.length t ∧ (prun ns.length (cmds (ss.take t))).f = sureFold ss ns.length (fun _ => true) t ∧
      ∀ a, a < ns.length → (sureFold ss ns.length (fun _ => true) t).getD a 0 ≤ (lawMade ss ns.length t).getD a 0
  | 0, _ => by
    refine ⟨?_, rfl, fun a ha => ?_⟩
    · rw [lawMade_zero]
      rfl
    · rw [lawMade_zero]
      exact Int.le_refl _
  | t + 1, h => by
    obtain ⟨i1, i2, i3⟩ := made_flushed g t (by omega)
    have hs : ss[t]? = some ss[t] := by simp [show t < ss.length by omega]
    generalize ss[t] = s at hs
    have hg : Good ns s := g s (List.mem_of_getElem? hs)
    have e : cmds (ss.take (t + 1)) = cmds (ss.take t) ++ [s.cmd] := by
      rw [take_snoc hs]
      simp [cmds]
    rw [e, prun_snoc, sureFold_succ, lawMade_succ hs]
    have l1 := lawMade_len ss ns.length t
    have l2 : (sureFold ss ns.length (fun _ => true) t).length = ns.length := by rw [← i2]; exact (prun_len _ _).2.1
    unfold sureStep
    rw [hs]
    obtain ⟨k, a, b, c⟩ := s
    have ha : 0 ≤ a ∧ a < ns.length := hg.1
    cases k with
    | st =>
      refine ⟨?_, ?_, fun x hx => ?_⟩
      · show (prun ns.length (cmds (ss.take t))).d.set a.toNat _ = _
        rw [i1]
        simp [isK, ha.1]
      · show (prun ns.length (cmds (ss.take t))).f = _
        rw [i2]
        simp [isK]
      · have q := i3 x hx
        simp only [isK, decide_true, if_true, ha.1, show (decide (Kd.st = Kd.fl)) = false from rfl, Bool.false_and, Bool.false_eq_true, if_false]
        rw [get_set (by omega)]
        split
        · rename_i z
          rw [z]
          omega
        · exact q
    | fl =>
      refine ⟨?_, ?_, fun x hx => ?_⟩
      · show (prun ns.length (cmds (ss.take t))).d = _
        rw [i1]
        simp [isK]
      · show (prun ns.length (cmds (ss.take t))).f.set a.toNat ((prun ns.length (cmds (ss.take t))).d.getD a.toNat 0) = _
        rw [i1, i2]
        have q := i3 a.toNat (by omega)
        simp only [isK, decide_true, Bool.and_true, if_true]
        rw [Int.max_eq_right q]
      · have q := i3 x hx
        simp only [isK, decide_true, Bool.and_true, if_true, show (decide (Kd.fl = Kd.st)) = false from rfl, Bool.false_eq_true, if_false]
        rw [get_set (by omega)]
        split
        · rename_i z
          rw [z]
          have q2 := i3 x hx
          rw [Int.max_eq_right q2]
          exact Int.le_refl _
        · exact q
    | fe =>
      refine ⟨?_, ?_, fun x hx => ?_⟩
      · show (prun ns.length (cmds (ss.take t))).d = _
        rw [i1]
        simp [isK]
      · show (prun ns.length (cmds (ss.take t))).f = _
        rw [i2]
        simp [isK]
      · have q := i3 x hx
        simpa [isK] using q
theorem fenceIn_succ {ss : List Sc} {i t : Nat} {s : Sc} (h : ss[t]? = some s) (hi : i ≤ t) : fenceIn ss i (t + 1) = (fenceIn ss i t || isK .fe s) := by
  unfold fenceIn
  have e : (ss.drop i).take (t + 1 - i) = (ss.drop i).take (t - i) ++ [s] := by
    rw [show t + 1 - i = (t - i) + 1 by omega]
    refine take_snoc ?_
    rw [List.getElem?_drop, show i + (t - i) = t by omega]
    exact h
  rw [e, List.filter_append]
  by_cases q : isK .fe s = true
  · simp [q]
  · simp [q]
theorem sure_is {ss : List Sc} {ns : List Int} (g : ∀ s ∈ ss, Good ns s) : ∀ t, t ≤ ss.length → (prun ns.length (cmds (ss.take t))).s = lawSure ss ns.length t
  | 0, _ => rfl
  | t + 1, h => by
    have ih := sure_is g t (by omega)
    obtain ⟨i1, i2, i3⟩ := made_flushed g t (by omega)
    have hs : ss[t]? = some ss[t] := by simp [show t < ss.length by omega]
    generalize ss[t] = s at hs
    have e : cmds (ss.take (t + 1)) = cmds (ss.take t) ++ [s.cmd] := by
      rw [take_snoc hs]
      simp [cmds]
    rw [e, prun_snoc]
    unfold lawSure
    rw [sureFold_succ]
    by_cases hk : isK .fe s = true
    · have hkf : isK .fl s = false := by
        have : s.k = .fe := by simpa [isK] using hk
        simp [isK, this]
      have e2 : sureFold ss ns.length (fun i => fenceIn ss i (t + 1)) t = sureFold ss ns.length (fun _ => true) t := sureFold_congr fun i hi => by
        rw [fenceIn_succ hs (by omega), hk, Bool.or_true]
      rw [e2]
      unfold sureStep
      rw [hs]
      simp only [hkf, Bool.false_and, Bool.false_eq_true, if_false]
      rw [← i2]
      have : s.k = .fe := by simpa [isK] using hk
      unfold Sc.cmd
      rw [this]
      rfl
    · have hk' : isK .fe s = false := by simpa using hk
      have e2 : sureFold ss ns.length (fun i => fenceIn ss i (t + 1)) t = lawSure ss ns.length t := sureFold_congr fun i hi => by
        rw [fenceIn_succ hs (by omega), hk', Bool.or_false]
      rw [e2]
      have e3 : fenceIn ss t (t + 1) = false := by
        rw [fenceIn_succ hs (Nat.le_refl t), hk', Bool.or_false]
        unfold fenceIn
        simp
      unfold sureStep
      rw [hs]
      simp only [e3, Bool.and_false, Bool.false_eq_true, if_false]
      rw [← ih]
      obtain ⟨k, a, b, c⟩ := s
      cases k with
      | st => rfl
      | fl => rfl
      | fe => simp [isK] at hk
end Q

namespace Q
open PySem PySem.Spec PyProof.Rows L2 LamX
theorem cut_to {xs : List V} {t : Nat} : cutV xs none (some (t : Int)) = xs.take t := by
  unfold cutV
  rw [HT.sIx_none, HT.sIx_nat, List.drop_zero, Nat.sub_zero]
  by_cases h : t ≤ xs.length
  · rw [Nat.min_eq_left h]
  · rw [Nat.min_eq_right (by omega), List.take_length, List.take_of_length_le (by omega)]
theorem cut_from {xs : List V} {i t : Nat} : cutV xs (some (i : Int)) (some (t : Int)) = (xs.drop i).take (t - i) := by
  unfold cutV
  rw [HT.sIx_nat, HT.sIx_nat]
  by_cases h : i ≤ xs.length
  · rw [Nat.min_eq_left h]
    by_cases h2 : t ≤ xs.length
    · rw [Nat.min_eq_left h2]
    · rw [Nat.min_eq_right (by omega), List.take_of_length_le (by rw [List.length_drop]; omega), List.take_of_length_le (by rw [List.length_drop]; omega)]
  · have e : min i xs.length = xs.length := Nat.min_eq_right (by omega)
    rw [e, List.drop_of_length_le (Nat.le_refl _), List.drop_of_length_le (show xs.length ≤ i by omega)]
    simp
theorem cut_rest {xs : List V} {i : Nat} : cutV xs (some (i : Int)) none = xs.drop i := by
  unfold cutV
  rw [HT.sIx_none, HT.sIx_nat]
  by_cases h : i ≤ xs.length
  · rw [Nat.min_eq_left h, List.take_of_length_le (by rw [List.length_drop]; omega)]
  · have e : min i xs.length = xs.length := Nat.min_eq_right (by omega)
    rw [e, List.drop_of_length_le (Nat.le_refl _), List.drop_of_length_le (show xs.length ≤ i by omega)]
    simp
def spSizes : Sp := fun vs H Q _ => ∃ (S : Addr) (m : Int), vs = [.ref S, .int m] ∧ HasSrc S H ∧ 1 ≤ m ∧ m ≤ 6 ∧
  ∀ (p : Addr) (ns : List Int) (H' : Hp), HasSrc S H' → Ks S H H' → H' p = some (.lst (ns.map V.int)) → p ≠ S → H p = none → SizesOk ns → (ns.length : Int) ≤ m → Q (.ref p) H'
def spNumber : Sp := fun vs H Q _ => ∃ S : Addr, vs = [.ref S] ∧ HasSrc S H ∧ ∀ (z : Int) (H' : Hp), HasSrc S H' → Ks S H H' → Q (.int z) H'
def spSpecs : Sp := fun vs H Q _ => ∃ (S p : Addr) (ns : List Int) (lo hi : Int), vs = [.ref S, .ref p, .int lo, .int hi] ∧ HasSrc S H ∧ H p = some (.lst (ns.map V.int)) ∧ p ≠ S ∧ SizesOk ns ∧ 0 ≤ lo ∧ lo ≤ hi ∧ hi ≤ 200 ∧
  ∀ (r : Addr) (ss : List Sc) (H' : Hp), HasSrc S H' → Ks S H H' → Specs H' r ss → r ≠ S → H r = none → (∀ s ∈ ss, Good ns s) → lo ≤ (ss.length : Int) → (ss.length : Int) ≤ hi → Q (.ref r) H'
def spCommand (d : Ad) : Sp := fun vs H Q _ => ∃ v s, vs = [v] ∧ SpecAt H v s ∧ ∀ x H', Same H H' → CmdAt d H' (.ref x) s.cmd → Q (.ref x) H'
def spProgram (d : Ad) : Sp := fun vs H Q _ => ∃ (p q : Addr) (ns : List Int) (ss : List Sc), vs = [.ref p, .ref q] ∧ H p = some (.lst (ns.map V.int)) ∧ SizesOk ns ∧ Specs H q ss ∧ (∀ s ∈ ss, Good ns s) ∧ ss.length ≤ 200 ∧
  ∀ x H', Same H H' → ProgAt d H' x ns (cmds ss) → Q (.ref x) H'
def spLMade : Sp := fun vs H Q _ => ∃ (q : Addr) (ss : List Sc) (n t : Nat), vs = [.ref q, .int n, .int t] ∧ Specs H q ss ∧ n ≤ 6 ∧ t ≤ ss.length ∧ ss.length ≤ 200 ∧
  ∀ x H', Same H H' → H' x = some (.tup ((lawMade ss n t).map V.int)) → Q (.ref x) H'
def spLSure : Sp := fun vs H Q _ => ∃ (q : Addr) (ss : List Sc) (n t : Nat), vs = [.ref q, .int n, .int t] ∧ Specs H q ss ∧ n ≤ 6 ∧ t ≤ ss.length ∧ ss.length ≤ 200 ∧ (∀ s ∈ ss, 0 ≤ s.a ∧ s.a < n) ∧
  ∀ x H', Same H H' → H' x = some (.tup ((lawSure ss n t).map V.int)) → Q (.ref x) H'
section
variable {X : Cx} {K : PySem.W.Frag}
/-- within a comprehension's block the written part is named, since the block's context is not in reach -/
theorem ix_tupK (h : X.K = K) : IxR X (rIxT K) := by
  subst h
  exact ix_tup
theorem ix_listK (h : X.K = K) : IxR X (rIxL K) := by
  subst h
  exact ix_list
def rLenK (K : PySem.W.Frag) : List V → Hp → VK → Prop := fun xs H Q => ∃ p ys, xs = [.ref p] ∧ (SqL K H p ys ∨ SqT K H p ys) ∧ Q (.int ys.length) H
theorem call_lenK (h : X.K = K) : CallR X (.builtin "len") (rLenK K) := by
  subst h
  exact call_len_seq
theorem pi_listK {tg e : Expr} {tl : TE} (h : X.K = K) (hl : PE X e tl) : PI X tg e (iList K tl) := by
  subst h
  exact pi_list hl
theorem pi_tupK {tg e : Expr} {tl : TE} (h : X.K = K) (hl : PE X e tl) : PI X tg e (iTup K tl) := by
  subst h
  exact pi_tup hl
end
theorem filter_snoc {α : Type} {l : List α} {i : Nat} {x : α} {p : α → Bool} (h : l[i]? = some x) : (l.take (i + 1)).filter p = (l.take i).filter p ++ (if p x = true then [x] else []) := by
  rw [take_snoc h, List.filter_append]
  congr 1
  by_cases q : p x = true
  · rw [if_pos q]
    simp [q]
  · rw [if_neg q]
    simp [q]
def specD (s : Sc) : PyData := .tuple [.str s.k.str, .int s.a, .int s.b, .int s.c]
theorem dp_spec {K : PySem.W.Frag} {H : Hp} {v : V} {s : Sc} (h : SpecAt H v s) : Dp K H v (specD s) := by
  obtain ⟨r, rfl, h⟩ := h
  exact .tup (SqT.of h) (.cons (.str _) (.cons (.int _) (.cons (.int _) (.cons (.int _) .nil))))
theorem dpAll_specs {K : PySem.W.Frag} {H : Hp} : ∀ {vs : List V} {ss : List Sc}, All2 (SpecAt H) vs ss → DpAll K H vs (ss.map specD)
  | [], [], _ => .nil
  | [], _ :: _, a => by cases a.1
  | _ :: _, [], a => by cases a.1
  | v :: vs, s :: ss, a => .cons (dp_spec (a.2 0 v s rfl rfl)) (dpAll_specs ⟨Nat.succ.inj a.1, fun i x y h1 h2 => a.2 (i + 1) x y h1 h2⟩)
theorem lay_spec (s : Sc) : PyData.canLay0 (specD s) = true := by
  obtain ⟨k, a, b, c⟩ := s
  have e : PyData.canLay0 (specD ⟨k, a, b, c⟩) = (PyData.canLay0 (.str k.str) && true) := rfl
  rw [e]
  cases k <;> decide +kernel
theorem lay_specs : ∀ ss : List Sc, PyData.canLayAll0 (ss.map specD) = true
  | [] => rfl
  | s :: r => by
    show (PyData.canLay0 (specD s) && PyData.canLayAll0 (r.map specD)) = true
    rw [lay_spec, lay_specs r]
    rfl
theorem depth_specs : ∀ ss : List Sc, PyData.depthAll (ss.map specD) ≤ 1
  | [] => Nat.zero_le _
  | s :: r => by
    show max (PyData.depth (specD s)) (PyData.depthAll (r.map specD)) ≤ 1
    have h := depth_specs r
    have e : PyData.depth (specD s) = 1 := by simp [specD, PyData.depth, PyData.depthAll]
    omega
theorem shaped_specs (ss : List Sc) : SeqAt.shaped (.list (ss.map specD)) = true := by
  unfold SeqAt.shaped
  have h1 : PyData.canLay0 (.list (ss.map specD)) = true := lay_specs ss
  have h2 : PyData.depth (.list (ss.map specD)) ≤ 64 := by
    have := depth_specs ss
    simp only [PyData.depth]
    omega
  rw [h1, decide_eq_true h2]
  rfl
theorem eqv_empty (ss : List Sc) : PyData.eqv (.list (ss.map specD)) (.list []) = ss.isEmpty := by
  cases ss with
  | nil => rfl
  | cons s r => rfl
theorem max_if (i j : Int) : (if j > i then j else i) = max i j := by
  rw [Int.max_def]
  split <;> split <;> omega
theorem kd_is (k j : Kd) : decide (V.str k.str = V.str j.str) = decide (k = j) := by cases k <;> cases j <;> decide +kernel
theorem ite_kd {k : Kd} (j : Kd) {A B : Prop} (h1 : k = j → A) (h2 : k ≠ j → B) : if decide (V.str k.str = V.str j.str) = true then A else B := by
  rw [kd_is]
  by_cases h : k = j
  · rw [decide_eq_true h]
    exact iteT (h1 h)
  · rw [decide_eq_false h]
    exact iteF (h2 h)
theorem kd_isnt (k j : Kd) : (!decide (V.str k.str = V.str j.str)) = !decide (k = j) := by rw [kd_is]
theorem sizes_at {ns : List Int} {j : Nat} (h : j < ns.length) : (ns.map V.int)[j]? = some (.int (ns.getD j 0)) := by
  rw [List.getElem?_map, List.getD_eq_getElem?_getD]
  simp [h]
theorem sizes_get {ns : List Int} (h : SizesOk ns) {j : Nat} (hj : j < ns.length) : 1 ≤ ns.getD j 0 ∧ ns.getD j 0 ≤ 4 := by
  rw [List.getD_eq_getElem?_getD]
  simp only [hj, List.getElem?_eq_getElem, Option.getD_some]
  exact h.2 _ (List.getElem_mem hj)
end Q

namespace Q
open PySem PySem.Spec PyProof.Rows L2 LamX
/-- told of a call: the time that an error of the class at d.nt tells, else 'none' -/
def TRef (d : Ad) : (XK → Hp → VK → Prop) → Hp → VK → Prop := fun tl H R => ∀ (E' : XK) (R' : VK),
  (∀ (x : Addr) (t : Int) (H' : Hp), H' x = some (.xd [("time", .int t)]) → R (.int t) H' → E' (.ref d.nt) (some x) H') → (∀ (v : V) (H1 : Hp), R (.str "none") H1 → R' v H1) → tl E' H R'
def spLong (T : List (Addr × Str)) : Sp := fun vs H Q _ => ∃ S : Addr, vs = [.ref S] ∧ HasSrc S H ∧ Tabs T H ∧ ∀ H', Q (.bl true) H'
def spRightT (T : List (Addr × Str)) : Sp := fun vs H Q _ => ∃ S : Addr, vs = [.ref S] ∧ HasSrc S H ∧ Tabs T H ∧ ∀ H', Now T S H H' → Q (.bl true) H'
theorem made_is {ss : List Sc} {ns : List Int} (g : ∀ s ∈ ss, Good ns s) {t : Nat} (h : t ≤ ss.length) : (prun ns.length ((cmds ss).take t)).d = lawMade ss ns.length t := by
  rw [cmds_take]
  exact (made_flushed g t h).1
theorem sure_is2 {ss : List Sc} {ns : List Int} (g : ∀ s ∈ ss, Good ns s) {t : Nat} (h : t ≤ ss.length) : (prun ns.length ((cmds ss).take t)).s = lawSure ss ns.length t := by
  rw [cmds_take]
  exact sure_is g t h
theorem time_ok {cs : List Cmd} {t : Nat} (h : t ≤ cs.length) : timeErr cs (t : Int) = none := if_pos ⟨by omega, by omega⟩
theorem time_bad {cs : List Cmd} {t : Int} (h : t < 0 ∨ (cs.length : Int) < t) : timeErr cs t = some (.time t) := if_neg (by omega)
/-- a program and its specs, as a law's def has them -/
structure Has (d : Ad) (H : Hp) (sz sp pg : Addr) (ns : List Int) (ss : List Sc) : Prop where
  ok : SizesOk ns
  sz : H sz = some (.lst (ns.map V.int))
  sp : Specs H sp ss
  pg : ProgAt d H pg ns (cmds ss)
  good : ∀ s ∈ ss, Good ns s
theorem Has.same {d : Ad} {H H' : Hp} {sz sp pg : Addr} {ns : List Int} {ss : List Sc} (h : Has d H sz sp pg ns ss) (e : Same H H') : Has d H' sz sp pg ns ss := ⟨h.ok, e _ _ h.sz, h.sp.same e, h.pg.ke (Ke.same e), h.good⟩
theorem Has.ks {d : Ad} {S : Addr} {H H' : Hp} {sz sp pg : Addr} {ns : List Int} {ss : List Sc} (h : Has d H sz sp pg ns ss) (hs : HasSrc S H) (e : Ks S H H') (n1 : sz ≠ S) (n2 : sp ≠ S) : Has d H' sz sp pg ns ss :=
  ⟨h.ok, e _ _ h.sz n1, h.sp.ks hs n2 e, h.pg.ke (Ke.ks hs e), h.good⟩
theorem Has.ext {d : Ad} {H H' : Hp} {sz sp pg : Addr} {ns : List Int} {ss : List Sc} (h : Has d H sz sp pg ns ss) (e : ExtN H H') : Has d H' sz sp pg ns ss :=
  ⟨h.ok, e _ _ h.sz (fun _ z => by cases z), h.sp.ext e, h.pg.ke (Ke.ext e), h.good⟩
section
variable {d : Ad} {K : PySem.W.Frag} {H : Hp} {sz sp pg : Addr} {ns : List Int} {ss : List Sc}
theorem Has.n6 (h : Has d H sz sp pg ns ss) : ns.length ≤ 6 := h.ok.1.2
theorem Has.lines (h : Has d H sz sp pg ns ss) : ∀ s ∈ ss, 0 ≤ s.a ∧ s.a < (ns.length : Nat) := fun s hs => (h.good s hs).1
/-- made(program, t), t a time: what the law's search makes -/
theorem Has.made (h : Has d H sz sp pg ns ss) (h200 : ss.length ≤ 200) {t : Nat} (ht : t ≤ ss.length) {R : VK} {E : XK} (k : ∀ q H', Same H H' → H' q = some (.tup ((lawMade ss ns.length t).map V.int)) → R (.ref q) H') : spAt d Pg.d [.ref pg, .int (t : Int)] H R E := by
  refine ⟨pg, ns, cmds ss, t, rfl, h.pg, valid_of h.good, h.n6, by rw [cmds_len]; exact h200, fun e z => ?_, fun _ q H' e hq => k q H' e ?_⟩
  · rw [time_ok (by rw [cmds_len]; exact ht)] at z
    cases z
  · rw [Int.toNat_natCast, made_is h.good ht] at hq
    exact hq
theorem Has.sure (h : Has d H sz sp pg ns ss) (h200 : ss.length ≤ 200) {t : Nat} (ht : t ≤ ss.length) {R : VK} {E : XK} (k : ∀ q H', Same H H' → H' q = some (.tup ((lawSure ss ns.length t).map V.int)) → R (.ref q) H') : spAt d Pg.s [.ref pg, .int (t : Int)] H R E := by
  refine ⟨pg, ns, cmds ss, t, rfl, h.pg, valid_of h.good, h.n6, by rw [cmds_len]; exact h200, fun e z => ?_, fun _ q H' e hq => k q H' e ?_⟩
  · rw [time_ok (by rw [cmds_len]; exact ht)] at z
    cases z
  · rw [Int.toNat_natCast, sure_is2 h.good ht] at hq
    exact hq
/-- .. and of a time that is none -/
theorem Has.bad (h : Has d H sz sp pg ns ss) (h200 : ss.length ≤ 200) {t : Int} (ht : t < 0 ∨ (ss.length : Int) < t) {sel : Pg → List Int} {R : VK} {E : XK} (k : Raised d (.time t) E H) : spAt d sel [.ref pg, .int t] H R E := by
  have hb : timeErr (cmds ss) t = some (.time t) := time_bad (by rw [cmds_len]; exact ht)
  refine ⟨pg, ns, cmds ss, t, rfl, h.pg, valid_of h.good, h.n6, by rw [cmds_len]; exact h200, fun e z => ?_, fun z => ?_⟩
  · rw [hb] at z
    cases z
    exact k
  · rw [hb] at z
    cases z
end
end Q
namespace Q
open PySem PySem.Spec PyProof.Rows L2 LamX
/-- two tuples of numbers in a tuple -/
def pairD (xs ys : List Int) : PyData := .tuple [.tuple (xs.map PyData.int), .tuple (ys.map PyData.int)]
theorem pair_shaped (xs ys : List Int) : SeqAt.shaped (pairD xs ys) = true := by
  unfold SeqAt.shaped pairD
  have h1 : PyData.canLay0 (.tuple [.tuple (xs.map PyData.int), .tuple (ys.map PyData.int)]) = true := by
    simp only [PyData.canLay0, PyData.canLayAll0, lay_ints, Bool.and_true]
  have h2 : PyData.depth (.tuple [.tuple (xs.map PyData.int), .tuple (ys.map PyData.int)]) ≤ 64 := by
    simp [PyData.depth, PyData.depthAll, depth_ints]
  rw [h1, decide_eq_true h2]
  rfl
theorem dp_pair {K : PySem.W.Frag} {H : Hp} {p a b : Addr} {xs ys : List Int} (hp : H p = some (.tup [.ref a, .ref b])) (ha : H a = some (.tup (xs.map V.int))) (hb : H b = some (.tup (ys.map V.int))) : Dp K H (.ref p) (pairD xs ys) :=
  .tup (SqT.of hp) (.cons (.tup (SqT.of ha) (dpAll_ints xs)) (.cons (.tup (SqT.of hb) (dpAll_ints ys)) .nil))
theorem Now.dp {T : List (Addr × Str)} {K : PySem.W.Frag} {H H' : Hp} {v : V} {x : PyData} (e : Same H H') (h : Dp K H v x) : Dp K H' v x := dp_same e h
end Q

namespace Q
open PySem PySem.Spec PyProof.Rows L2 LamX
theorem int_of_mem {ns : List Int} {x : V} (h : x ∈ ns.map V.int) : ∃ n, x = .int n := by
  obtain ⟨n, _, rfl⟩ := List.mem_map.mp h
  exact ⟨n, rfl⟩
/-- the law's own list stays, where a source is new and only the source changes -/
theorem sq_kp {K : PySem.W.Frag} {H1 H3 : Hp} {S a : Addr} {xs : List V} {o : HO} (h0 : H1 S = none) (q : SqL K H1 a xs) (e : Kp S (upd H1 S o) H3) : SqL K H3 a xs := by
  have step : ∀ u, H1 a = some u → (∀ ps, u ≠ .tbl ps) → H3 a = some u := fun u hu nt => by
    have ne : a ≠ S := ne_of_none hu h0
    exact e a u (by rw [upd_ne ne]; exact hu) ne nt
  rcases q with (q | ⟨o', q⟩) | q
  · exact .inl (.inl (step _ q (fun ps z => by cases z)))
  · exact .inl (.inr ⟨o', step _ q (fun ps z => by cases z)⟩)
  · exact .inr q
end Q

namespace Q
open PySem PySem.W PySem.Calls PyProof.Rows
/-- err.m, ahead of the call err.m() -/
theorem exc_method {prog : Program} {w : World} {A : Around} {E : Value → Shared → Prop} {s : Shared} {K : Frag} {x C g : Addr} {ox : Obj} {od : Option Obj} {name : Str} {pl : Sem Bool} {Q : Value × List Value → Shared → Prop}
    (kin : K.In s.heap) (at_ : PySem.W.InstAt s.heap x ox C od) (e1 : findIn K (.ref C) "__getattribute__" = some (some (.builtin "BaseException.__getattribute__"))) (e2 : findIn K (.ref C) "__getattr__" = some none)
    (e3 : findIn K (.ref C) name = some (some (.ref g))) (e4 : typeIn K (.ref g) = some (.type "function")) (e5 : ∀ o, od = some o → lookIn name o = some none)
    (q : Q (.ref g, [.ref x]) s) : wpAny (model prog w) A (getMethod (.ref x) name pl) Q E s := by
  have c0 : (Manifest.canonical "BaseException.__getattribute__" != "object.__getattribute__") = false := by decide +kernel
  unfold getMethod specialOf
  refine wpAny_bind (wpAny_bind (at_.type.here ((looks_findIn kin e1).here ?_)))
  dsimp only
  rw [c0, if_neg (by decide)]
  refine wpAny_bind (wpAny_bind (at_.type.here ((looks_findIn kin e2).here ?_)))
  refine wpAny_bind (wpAny_bind (at_.type.here ((looks_findIn kin e3).here (wpAny_bind ((looks_typeIn kin e4).here ?_)))))
  rw [if_neg (by decide +kernel)]
  refine wpAny_bind (wpAny_loadPart at_.at_ ?_)
  have dd := at_.dict
  cases z : ox.dict with
  | none => exact wpAny_bind (wpAny_rule (wpAny_pure q))
  | some dx =>
    cases od with
    | none => rw [z] at dd; exact dd.elim
    | some o =>
      rw [z] at dd
      refine wpAny_bind (wpAny_bind (wpAny_loadPart dd ?_))
      rw [nsLook_of (e5 o rfl)]
      exact wpAny_pure (wpAny_bind (wpAny_rule (wpAny_pure q)))
end Q
namespace Q
open PySem PySem.Spec PyProof.Rows L2 LamX
/-- a def that may be called while an exception is handled; it raises nothing itself -/
structure FnC (P : Program) (w : World) (K : PySem.W.Frag) (mg : Str → Option Value) (base : Heap) (k : Nat) (f : Addr) (fd : FuncData) (ps : List Str) (sp : Sp) : Prop where
  lenC : ∀ vs H Q E, sp vs H Q E → vs.length = ps.length
  runC : ∀ (A : Around) (outer : List Env) (s : Shared) (H : Hp) (args : Args) (us : List Value) (vs : List V) (Q : VK) (p : Addr × Obj), L2H.RoomH k A → L2H.PinOk outer H s p → Env0 P w K mg base A outer s H → BindsTo s fd args (ps.zip us) → Vals vs us → sp vs H Q E0 →
    codeAny (model P w) A (.call (.ref f) args) (CR CX0 outer P w H s Q E0) s
theorem fn_ofC {P : Program} {w : World} {K : PySem.W.Frag} {mg : Str → Option Value} {base : Heap} {k : Nat} {f : Addr} {name qual : Str} {pa : Arguments} {body : List Stmt} {sc : Scope} {dV kV doc pm cd ct oc : Value} {an od : Option Addr}
    {sl : Array (Option Value)} {N ps : List Str} {sp : Sp} (lk : K.lookup f = some ⟨oc, od, .func (PySem.W.fnOf name qual pa body sc dV kV doc pm an cd ct), sl⟩) (hcd : PySem.W.codeIn K cd qual = true) (S : FnScope N ps sc)
    (len : ∀ vs H Q E, sp vs H Q E → vs.length = ps.length)
    (hbody : ∀ (A : Around) (outer : List Env) (s : Shared) (H : Hp) (vs : List V) (Q : VK) (p : Addr × Obj), L2H.RoomH k (A.deeper (envOfC qual sc s.heap.objs.size f cd)) → sp vs H Q E0 →
      ∃ t, PSs (L2H.cxH CX0 P w K mg base N qual sc f cd A outer s H E0 p) body t ∧ t { nx := fun _ H' => Q .non H', rt := Q } (L2.start N vs) H) :
    FnC P w K mg base (k + 1) f (PySem.W.fnOf name qual pa body sc dV kV doc pm an cd ct) ps sp := by
  refine ⟨len, fun A outer s H args us vs Q p hr pin e0 hb r hsp => ?_⟩
  have nL : vs.length = ps.length := len _ _ _ _ hsp
  have kS : K.In s.heap := e0.mod.kin.keeps fun b o z => (e0.bs b o z).1
  have lS : s.heap.NoLimit := e0.mod.nolimit.keeps fun b o z => (e0.bs b o z).1
  have kinds : ∀ y ∈ ps.zip us, sc.names.lookup y.1 = some .local ∨ (sc.names.lookup y.1 = some .cell ∧ ((cellsFrom (s.heap.objs.size + 1) sc.names []).lookup y.1).isSome = true) := fun y hy => by
    rcases S.par y.1 (List.of_mem_zip hy).1 with z | z
    · exact .inl z
    · exact .inr ⟨z, PySem.W.cellsFrom_some _ _ _ (.inl z)⟩
  refine codeAny_call_function hr.depth (kS _ _ lk) rfl S.co S.gen rfl (PySem.W.codeRec_of kS hcd) (hb _ _ _ _ (wpAny_newFunctionEnv_cells S.kind kinds fun env z s1 x => ?_))
  subst z
  obtain ⟨t, ht, hq⟩ := hbody A outer s H vs Q p (hr.deeper _) hsp
  refine ⟨lS.keeps x.toInCall.keep, codeAny_func ?_⟩
  have I0 := L2H.inv_startH (CX := CX0) (E := E0) (mg := mg) (base := base) S pin e0 nL r x
  refine wpAny_mono (ht.run [] s1 (L2.start N vs) H _ I0 hq) (fun fl s' hs => ?_) fun e s' hs => hs
  cases fl with
  | ret u =>
    obtain ⟨v, σ', H', J, rv, q⟩ := hs
    exact ⟨v, H', J.os, J.bare, J.base, J.hok, rv, q⟩
  | next =>
    obtain ⟨σ', H', J, q⟩ := hs
    exact ⟨V.non, H', J.os, J.bare, J.base, J.hok, rfl, q⟩
  | brk =>
    obtain ⟨_, _, _, q⟩ := hs
    exact q.elim
  | cont =>
    obtain ⟨_, _, _, q⟩ := hs
    exact q.elim
/-- a method of an error class -/
structure XMeth (K : PySem.W.Frag) (C : Addr) (m : Str) (g : Addr) : Prop where
  at_ : PySem.W.findIn K (.ref C) m = some (some (.ref g))
  fn : PySem.W.isFn K (.ref g) = true
  kp : PySem.W.keepIn K (.ref g) = true
/-- err.m(): err the caught error at a, of the class at C, its dict at d -/
def tXm (a : Addr) (cls : Value) (d : Option Addr) (C : Addr) (m : Str) (sp : Sp) (te : TE) : TE := fun σ H Q => te σ H fun x H1 => x = .ref a ∧ cls = .ref C ∧ (∀ dd, d = some dd → ∃ fs : List (Str × V), H1 dd = some (.xd fs) ∧ fs.lookup m = none) ∧ sp [.ref a] H1 Q E0
theorem pe_xm {X : Cx} {k : Nat} {a C g : Addr} {fd : FuncData} {ps : List Str} {oe : Obj} {cls : Value} {d : Option Addr} {pn : List (Addr × Obj)} {e : Expr} {te : TE} {apos pos : Pos} {m : Str} {sp : Sp} {pl : Sem Bool} (T : XfC X.K C) (b : XMeth X.K C m g)
    (F : FnC X.prog X.w X.K X.mg X.base k g fd ps sp) (hb : Binds X.K fd ps []) (hr : Room k X.A)
    (hz : Zc cls d oe) (hf : ∃ vs, oe.data = .fields vs) (he : PE (X.suite a ((a, oe) :: pn)) e te)
    (ht : eval (.Call (.Attribute e m apos) [] [] pos) X.env = (do
      let v0 ← eval e X.env
      standAt apos.atName
      let (f, fst) ← holding [v0] (getMethod v0 m pl)
      callWith pos f fst (backTo pos (starEach [] X.env)) (backToKw pos (keywordEach [] X.env))) := by rfl) :
    PE (X.suite a ((a, oe) :: pn)) (.Call (.Attribute e m apos) [] [] pos) (tXm a cls d C m sp te) := by
  refine ⟨fun pins s σ H Q I h => ?_⟩
  refine PySem.W.methodCall_KW (pl := pl) (thn (he.run pins s σ H _ I h) fun u s1 hh => ?_) ht
  obtain ⟨x, H1, I1, rx, ex, ec, dd, q⟩ := hh
  subst ex
  obtain rfl : u = Value.ref a := rx
  subst ec
  have P1 := I1.pin (a, oe) (List.mem_append_left _ List.mem_cons_self)
  obtain ⟨vs, hd⟩ := hf
  have hno : PySem.W.notCls oe = true := by unfold PySem.W.notCls; rw [hd] <;> rfl
  have J : ∃ od, PySem.W.InstAt s1.heap a oe C od ∧ ∀ o, od = some o → PySem.W.lookIn m o = some none := by
    cases d with
    | none => exact ⟨none, ⟨P1.1, hz.1, hno, by rw [hz.2]; trivial⟩, fun o z => by cases z⟩
    | some dx =>
      obtain ⟨fs, ea, l⟩ := dd dx rfl
      have hxo : ObjOk X.prog X.w H1 s1.heap dx (.xd fs) := I1.hok dx _ ea
      obtain ⟨mA, hns, hr1⟩ := hxo
      obtain ⟨od, ho, hl⟩ := lookIn_ns hns
      have hn : mA m = none := RelO.none_of (by rw [← l]; exact hr1 m)
      exact ⟨some od, ⟨P1.1, hz.1, hno, by rw [hz.2]; exact ho⟩, fun o z => by cases z; rw [hl, hn]⟩
  obtain ⟨od, J, hod⟩ := J
  refine exc_method I1.kIn J T.ga T.gg b.at_ (beq_iff_eq.mp b.fn) hod ?_
  refine PySem.W.callWith_K0 (first := [.ref a]) I1.kIn b.kp ?_
  have nL : [V.ref a].length = ps.length := F.lenC _ _ _ _ q
  have bb := hb s1 [.ref a] I1.kIn (by rw [List.append_nil]; exact nL)
  rw [List.append_nil] at bb
  have pin : L2H.PinOk (X.suite a ((a, oe) :: pn)).stack H1 s1 (a, oe) := ⟨P1.1, P1.2.1, fun z => (List.mem_cons.mp (I1.stkSub a z)).elim P1.2.2.1 P1.2.2.2.1, P1.2.2.2.2⟩
  refine wpAny_call (codeAny_mono (F.runC _ _ s1 H1 ⟨[.ref a], []⟩ [.ref a] [.ref a] Q (a, oe) ⟨hr.dp, hr.un⟩ pin I1.env0 bb (.cons rfl .nil) q) fun r s2 hq => ?_)
  cases r with
  | error e => exact hq.elim
  | ok fl =>
    cases fl with
    | ret u => exact I1.after hq
    | next => exact hq.elim
    | brk => exact hq.elim
    | cont => exact hq.elim
/-- X(), X an own exception class without own __init__ -/
theorem pmk_own0 {X : Cx} {C : Addr} {bmB : List Value} {B newId initId : String} {x : Str} {p pos : Pos} (F : ExcBaseFacts B newId initId bmB) (q : PySem.W.excIn X.K C bmB newId = true) (gC : X.mg x = some (.ref C))
    (kC : PySem.W.keepIn X.K (.ref C) = true) (r : Raises X (.ref C)) (hg : Gl X x) (hdb : (x == ("__debug__" : Str)) = false := by decide) :
    PMk X (.Call (.Name x p) [] [] pos) (fun _ H Q => Q (.ref C) none H) := by
  intro pins s σ H Q I h
  refine wpAny_Call_Name_kw (ld_glob I hg gC ?_ hdb)
  refine PySem.W.callWith_K0 I.kIn kC ?_
  show wpAny _ _ (call (.ref C) []) _ _ _
  obtain ⟨m0, N0, n0, q0, b0, d0, s0, u0, a0, c0, g0, k0, k1, k2, k3, k5, mN, hC, hN, hni, T⟩ := exc_obj I.kIn q
  exact wpAny_call_exc_subT F T hC hN hni (fun h' e hm => mk_of I hm r h (I.hok.gone hm.new)) (Nat.zero_le _)
end Q

namespace Q
open PySem PySem.Spec PyProof.Rows L2 LamX
/-- a or b of values: a is None, or a tuple that is not empty -/
def tOrN (ta tb : TE) : TE := fun σ H Q => ta σ H fun x H1 => (x = .non ∧ tb σ H1 Q) ∨ ∃ a y ys, x = .ref a ∧ H1 a = some (.tup (y :: ys)) ∧ Q x H1
theorem pe_orN {X : Cx} {a b : Expr} {rest : List Expr} {pos : Pos} {ta tb : TE} (ha : PE X a ta) (hb : PE X (.BoolOp .Or (b :: rest) pos) tb) : PE X (.BoolOp .Or (a :: b :: rest) pos) (tOrN ta tb) := by
  refine ⟨fun pz s σ H Q I h => ?_⟩
  refine BoolOp_or (thn (ha.run pz s σ H _ I h) fun v s1 hh => ?_)
  obtain ⟨x, H1, I1, r1, h1 | ⟨p, y, ys, ex, hp, q⟩⟩ := hh
  · obtain ⟨ex, q⟩ := h1
    subst ex
    obtain rfl : v = Value.none := r1
    exact wpAny_pure (hb.run pz s1 σ H1 Q I1 q)
  · subst ex
    obtain rfl : v = Value.ref p := r1
    obtain ⟨its, r, e, z⟩ := I1.tuple (.inl (.inl hp))
    have hl := line63
    have hlen := r.length
    refine truthy_tuple e (by simp only [List.size_toArray]; omega) ?_
    have ne : (!its.toArray.isEmpty) = true := by
      cases r
      rfl
    rw [ne]
    exact ⟨.ref p, H1, I1.tok _, rfl, q⟩
/-! ### the outcome of a call: the result, or the error's name and fields -/
def tagOf : PErr → List V
  | .count w n => [.str "count", .str w, .int n]
  | .line n => [.str "line", .int n]
  | .word n => [.str "word", .int n]
  | .time n => [.str "time", .int n]
def notTime : PErr → Bool
  | .time _ => false
  | _ => true
def TOutX (d : Ad) (CO : Addr) : (XK → Hp → VK → Prop) → Hp → VK → Prop := fun tl H R => ∀ (E' : XK) (R' : VK),
  (∀ (e : PErr) (x : Addr) (H' : Hp), notTime e = true → H' x = some (.xd (errFs e)) → (∀ p, H' p = none → R (.ref p) (upd H' p (.tup (tagOf e)))) → E' (.ref (d.err e)) (some x) H') →
  (∀ H', (∀ p, H' p = none → R (.ref p) (upd H' p (.tup [.str "refused othermemory"]))) → E' (.ref CO) none H') →
  (∀ (v : V) (H1 : Hp), (∀ p, H1 p = none → R (.ref p) (upd H1 p (.tup [.str "ok", v]))) → R' v H1) → tl E' H R'
/-- what a def without parameters but self tells -/
def spTold (z : Str) : Sp := fun vs H Q _ => ∃ a, vs = [.ref a] ∧ Q (.str z) H
theorem exm_yes {K : PySem.W.Frag} {C S : Addr} (h1 : PySem.W.subIn K (.ref S) (.type "BaseException") = some true) (h2 : PySem.W.isClsIn K S = true) (h3 : PySem.W.typeIn K (.ref S) = some (.type "type")) {b : Bool} (h4 : PySem.W.subIn K (.ref C) (.ref S) = some b) :
    PySem.W.exmOne K (.ref C) (.ref S) = some b := by
  have e1 : (PySem.W.subIn K (.ref S) (.type "BaseException") == some true) = true := by rw [h1] <;> rfl
  have e2 : ((PySem.W.clsIn K S).isSome && PySem.W.typeIn K (.ref S) == some (.type "type")) = true := by
    have h5 : (PySem.W.clsIn K S).isSome = true := h2
    rw [h5, h3] <;> rfl
  show (if (PySem.W.subIn K (.ref S) (.type "BaseException") == some true) = true then (if ((PySem.W.clsIn K S).isSome && PySem.W.typeIn K (.ref S) == some (.type "type")) = true then PySem.W.subIn K (.ref C) (.ref S) else none) else none) = some b
  rw [if_pos e1, if_pos e2]
  exact h4
/-! ### programs that may be refused -/
def spProgramX (d : Ad) : Sp := fun vs H Q E => ∃ (p q : Addr) (ns : List Int) (ss : List Sc), vs = [.ref p, .ref q] ∧ H p = some (.lst (ns.map V.int)) ∧ SizesOk ns ∧ Specs H q ss ∧ ss.length ≤ 400 ∧
  (∀ e, progErr ns (cmds ss) = some e → ∀ H', Same H H' → Raised d e E H') ∧ (progErr ns (cmds ss) = none → ∀ x H', Same H H' → ProgAt d H' x ns (cmds ss) → Q (.ref x) H')
def spAddX (d : Ad) (CO : Addr) : Sp := fun vs H Q E => ∃ p q ns ms cs es, vs = [.ref p, .ref q] ∧ ProgAt d H p ns cs ∧ ProgAt d H q ms es ∧ cs.length + es.length ≤ 100000 ∧
  (ns ≠ ms → E (.ref CO) none H) ∧ (ns = ms → (∀ e, progErr ns (cs ++ es) = some e → ∀ H', Same H H' → Raised d e E H') ∧ (progErr ns (cs ++ es) = none → ∀ r H', Same H H' → ProgAt d H' r ns (cs ++ es) → Q (.ref r) H'))
/-! ### commands with an invalid part -/
def isLW : PErr → Bool
  | .line _ => true
  | .word _ => true
  | _ => false
def spBent : Sp := fun vs H Q _ => ∃ (S sz : Addr) (v : V) (ns : List Int) (s : Sc), vs = [.ref S, .ref sz, v] ∧ HasSrc S H ∧ H sz = some (.lst (ns.map V.int)) ∧ sz ≠ S ∧ SizesOk ns ∧ SpecAt H v s ∧ Good ns s ∧
  ∀ (r q e : Addr) (s' : Sc) (er : PErr) (H' : Hp), HasSrc S H' → Ks S H H' → H' r = some (.tup [.ref q, .ref e]) → SpecAt H' (.ref q) s' → H' e = some (.tup (tagOf er)) → cmdErr ns s'.cmd = some er → isLW er = true → Q (.ref r) H'
end Q

namespace Q
open PySem PySem.Spec PyProof.Rows L2 LamX
theorem All2.set {α : Type} {R : V → α → Prop} {vs : List V} {cs : List α} {i : Nat} {v : V} {c : α} (a : All2 R vs cs) (h : R v c) : All2 R (vs.set i v) (cs.set i c) := by
  refine ⟨by rw [List.length_set, List.length_set]; exact a.1, fun j x y h1 h2 => ?_⟩
  by_cases e : i = j
  · subst e
    have l1 : i < vs.length := by
      have := (List.getElem?_eq_some_iff.mp h1).1
      rwa [List.length_set] at this
    rw [List.getElem?_set_self l1] at h1
    rw [List.getElem?_set_self (by rw [← a.1]; exact l1)] at h2
    cases h1
    cases h2
    exact h
  · rw [List.getElem?_set_ne e] at h1
    rw [List.getElem?_set_ne e] at h2
    exact a.2 j x y h1 h2
theorem All2.rep {α : Type} {R : V → α → Prop} {vs : List V} {cs : List α} (a : All2 R vs cs) : ∀ n : Nat, All2 R (List.replicate n vs).flatten (List.replicate n cs).flatten
  | 0 => by
    rw [List.replicate_zero, List.replicate_zero]
    exact All2.nil
  | n + 1 => by
    rw [List.replicate_succ, List.replicate_succ, List.flatten_cons, List.flatten_cons]
    exact a.app (All2.rep a n)
theorem rep_len {α : Type} (xs : List α) : ∀ n : Nat, (List.replicate n xs).flatten.length = n * xs.length
  | 0 => by simp
  | n + 1 => by
    rw [List.replicate_succ, List.flatten_cons, List.length_append, rep_len xs n, Nat.succ_mul, Nat.add_comm]
/-- a value that is None or an error's name and fields -/
def Due (H : Hp) (v : V) (o : Option PErr) : Prop := match o with
  | none => v = .non
  | some e => ∃ q, v = .ref q ∧ H q = some (.tup (tagOf e))
theorem Due.ke {H H' : Hp} {v : V} {o : Option PErr} (e : Ke H H') (h : Due H v o) : Due H' v o := by
  cases o with
  | none => exact h
  | some er =>
    obtain ⟨q, rfl, hq⟩ := h
    exact ⟨q, rfl, e _ _ hq (fun _ z => by cases z) (fun _ z => by cases z)⟩
theorem tag_cons (e : PErr) : ∃ y ys, tagOf e = y :: ys := by cases e <;> exact ⟨_, _, rfl⟩
def tagD : PErr → List PyData
  | .count w n => [.str "count", .str w, .int n]
  | .line n => [.str "line", .int n]
  | .word n => [.str "word", .int n]
  | .time n => [.str "time", .int n]
theorem dp_tag {K : PySem.W.Frag} {H : Hp} {q : Addr} {e : PErr} (h : H q = some (.tup (tagOf e))) : Dp K H (.ref q) (.tuple (tagD e)) := by
  refine .tup (SqT.of h) ?_
  cases e with
  | count w n => exact .cons (.str _) (.cons (.str _) (.cons (.int _) .nil))
  | line n => exact .cons (.str _) (.cons (.int _) .nil)
  | word n => exact .cons (.str _) (.cons (.int _) .nil)
  | time n => exact .cons (.str _) (.cons (.int _) .nil)
theorem shaped_of {d : PyData} (h1 : PyData.canLay0 d = true) (h2 : PyData.depth d ≤ 64) : SeqAt.shaped d = true := by
  unfold SeqAt.shaped
  rw [h1, decide_eq_true h2]
  rfl
theorem tag_shaped {e : PErr} (h : isLW e = true) : SeqAt.shaped (.tuple (tagD e)) = true := by
  cases e with
  | count w n => cases h
  | time n => cases h
  | line n =>
    refine shaped_of ?_ (by simp [tagD, PyData.depth, PyData.depthAll])
    have z : PyData.canLay0 (.tuple (tagD (.line n))) = (PyData.canLay0 (.str "line") && true) := rfl
    rw [z]
    decide +kernel
  | word n =>
    refine shaped_of ?_ (by simp [tagD, PyData.depth, PyData.depthAll])
    have z : PyData.canLay0 (.tuple (tagD (.word n))) = (PyData.canLay0 (.str "word") && true) := rfl
    rw [z]
    decide +kernel
theorem cmds_shaped (n : Int) : SeqAt.shaped (.tuple (tagD (.count "commands" n))) = true := by
  refine shaped_of ?_ (by simp [tagD, PyData.depth, PyData.depthAll])
  have z : PyData.canLay0 (.tuple (tagD (.count "commands" n))) = (PyData.canLay0 (.str "count") && (PyData.canLay0 (.str "commands") && true)) := rfl
  rw [z]
  decide +kernel
theorem prog_short {ns : List Int} {cs : List Cmd} (h : cs.length ≤ 200) : progErr ns cs = cs.findSome? (cmdErr ns) := if_neg (by omega)
theorem prog_long {ns : List Int} {cs : List Cmd} (h : 200 < cs.length) : progErr ns cs = some (.count "commands" cs.length) := if_pos h
theorem cmds_snoc (ss : List Sc) (s : Sc) : cmds (ss ++ [s]) = cmds ss ++ [s.cmd] := by simp [cmds]
theorem find_snoc {ns : List Int} {cs : List Cmd} {c : Cmd} : (cs ++ [c]).findSome? (cmdErr ns) = (cs.findSome? (cmdErr ns)).or (cmdErr ns c) := by
  rw [List.findSome?_append]
  cases h : cs.findSome? (cmdErr ns) with
  | none => simp [List.findSome?]; cases cmdErr ns c <;> rfl
  | some e => rfl
end Q

namespace Q
open PySem PySem.Spec PyProof.Rows L2 LamX
/-- n times one command -/
def rs (n : Nat) (s : Sc) : List Sc := (List.replicate n [s]).flatten
def rc (n : Nat) (s : Sc) : List Cmd := cmds (rs n s)
theorem rs_len (n : Nat) (s : Sc) : (rs n s).length = n := by
  unfold rs
  rw [rep_len]
  simp
theorem rc_len (n : Nat) (s : Sc) : (rc n s).length = n := by
  unfold rc
  rw [cmds_len, rs_len]
theorem rc_ok {ns : List Int} {s : Sc} (h : cmdErr ns s.cmd = none) : ∀ n : Nat, (rc n s).findSome? (cmdErr ns) = none
  | 0 => rfl
  | n + 1 => by
    have e : rc (n + 1) s = s.cmd :: rc n s := by
      unfold rc rs
      rw [List.replicate_succ, List.flatten_cons]
      rfl
    rw [e, List.findSome?_cons, h]
    exact rc_ok h n
theorem rc_none {ns : List Int} {s : Sc} (h : cmdErr ns s.cmd = none) {n : Nat} (hn : n ≤ 200) : progErr ns (rc n s) = none := by
  rw [prog_short (by rw [rc_len]; exact hn)]
  exact rc_ok h n
theorem rc_sum {ns : List Int} {s t : Sc} (h : cmdErr ns s.cmd = none) (h2 : cmdErr ns t.cmd = none) {n m : Nat} : progErr ns (rc n s ++ rc m t) = if 200 < n + m then some (.count "commands" ((n + m : Nat) : Int)) else none := by
  have hl : (rc n s ++ rc m t).length = n + m := by rw [List.length_append, rc_len, rc_len]
  by_cases z : 200 < n + m
  · rw [if_pos z, prog_long (by rw [hl]; exact z), hl]
  · rw [if_neg z, prog_short (by rw [hl]; omega), List.findSome?_append, rc_ok h, rc_ok h2]
    rfl
theorem rs_at {H : Hp} {z q : Addr} {s : Sc} {n : Nat} (hz : H z = some (.lst (List.replicate n [V.ref q]).flatten)) (hq : H q = some (.tup (scV s))) : Specs H z (rs n s) := by
  refine ⟨_, hz, All2.rep ?_ n⟩
  exact All2.snoc (vs := []) (cs := []) .nil ⟨q, rfl, hq⟩
def feS : Sc := ⟨.fe, 0, 0, 0⟩
def flS : Sc := ⟨.fl, 0, 0, 0⟩
theorem fe_ok (ns : List Int) : cmdErr ns feS.cmd = none := rfl
theorem fl_ok {ns : List Int} (h : 1 ≤ ns.length) : cmdErr ns flS.cmd = none := by
  show lineErr ns 0 = none
  exact if_pos ⟨by decide, by omega⟩
theorem cut_init {xs : List V} : cutV xs none (some (-1)) = xs.take (xs.length - 1) := by
  unfold cutV
  rw [HT.sIx_none]
  have e : HT.sIx xs.length xs.length (some (-1)) = xs.length - 1 := by
    show (if (-1 : Int) < 0 then ((-1 : Int) + (xs.length : Int)).toNat else min (-1 : Int).toNat xs.length) = _
    rw [if_pos (by decide)]
    omega
  rw [e, List.drop_zero, Nat.sub_zero]
theorem last_at {ns : List Int} (h : 1 ≤ ns.length) : ∃ l, l ∈ ns ∧ atI (ns.map V.int) (-1) = some (.int l) := by
  have ne : ns ≠ [] := fun z => by rw [z] at h; simp at h
  refine ⟨ns.getLast ne, List.getLast_mem ne, ?_⟩
  have e : ns.map V.int = ns.dropLast.map V.int ++ [V.int (ns.getLast ne)] := by
    have := congrArg (List.map V.int) (List.dropLast_concat_getLast ne)
    rw [List.map_append] at this
    exact this.symm
  rw [e]
  exact atI_last _ _
theorem sizes1 {ns : List Int} (ok : SizesOk ns) {l : Int} (hl : l ∈ ns) : SizesOk (ns.take (ns.length - 1) ++ [l % 4 + 1]) := by
  have h1 := ok.1
  refine ⟨by rw [List.length_append, List.length_take, List.length_singleton]; omega, fun n hn => ?_⟩
  rcases List.mem_append.mp hn with h | h
  · exact ok.2 n (List.mem_of_mem_take h)
  · rw [List.mem_singleton.mp h]
    have := ok.2 l hl
    omega
theorem sizes2 {ns : List Int} (ok : SizesOk ns) : SizesOk ((ns ++ [1, 2]).take 6) := by
  have h1 := ok.1
  refine ⟨by rw [List.length_take, List.length_append]; simp; omega, fun n hn => ?_⟩
  rcases List.mem_append.mp (List.mem_of_mem_take hn) with h | h
  · exact ok.2 n h
  · simp only [List.mem_cons, List.not_mem_nil, or_false] at h
    omega
theorem eqv_lst (ns ms : List Int) : PyData.eqv (.list (ns.map PyData.int)) (.list (ms.map PyData.int)) = decide (ns = ms) := by
  rw [PyData.eqv]
  exact eqvAll_ints ns ms
theorem shaped_lst (ns : List Int) : SeqAt.shaped (.list (ns.map PyData.int)) = true := by
  refine shaped_of (lay_ints ns) ?_
  simp [PyData.depth, depth_ints]
/-- what stands while sums are made -/
structure R04 (d : Ad) (H : Hp) (sz one : Addr) (ns : List Int) (l : Nat) : Prop where
  sz : H sz = some (.lst (ns.map V.int))
  one : ProgAt d H one ns (rc l feS)
theorem R04.ext {d : Ad} {H H' : Hp} {sz one : Addr} {ns : List Int} {l : Nat} (r : R04 d H sz one ns l) (e : ExtN H H') : R04 d H' sz one ns l := ⟨e _ _ r.sz (fun ps z => by cases z), r.one.ke (Ke.ext e)⟩
theorem R04.same {d : Ad} {H H' : Hp} {sz one : Addr} {ns : List Int} {l : Nat} (r : R04 d H sz one ns l) (e : Same H H') : R04 d H' sz one ns l := r.ext (ExtN.of e)
/-- ('ok', n) and an error's word -/
def okV (n : Int) : List V := [.str "ok", .int n]
def okD (n : Int) : PyData := .tuple [.str "ok", .int n]
def omV : List V := [.str "refused othermemory"]
def omD : PyData := .tuple [.str "refused othermemory"]
theorem dp_ok {K : PySem.W.Frag} {H : Hp} {q : Addr} {n : Int} (h : H q = some (.tup (okV n))) : Dp K H (.ref q) (okD n) := .tup (SqT.of h) (.cons (.str _) (.cons (.int _) .nil))
theorem dp_om {K : PySem.W.Frag} {H : Hp} {q : Addr} (h : H q = some (.tup omV)) : Dp K H (.ref q) omD := .tup (SqT.of h) (.cons (.str _) .nil)
theorem okn_shaped (n : Int) : SeqAt.shaped (okD n) = true := by
  refine shaped_of ?_ (by simp [okD, PyData.depth, PyData.depthAll])
  have z : PyData.canLay0 (okD n) = (PyData.canLay0 (.str "ok") && true) := rfl
  rw [z]
  decide +kernel
theorem om_shaped : SeqAt.shaped omD = true := by
  refine shaped_of ?_ (by simp [omD, PyData.depth, PyData.depthAll])
  have z : PyData.canLay0 omD = (PyData.canLay0 (.str "refused othermemory") && true) := rfl
  rw [z]
  decide +kernel
/-- what is due of a sum -/
def dueV (ns ms : List Int) (n : Nat) : List V := if ns = ms then (if 200 < n then tagOf (.count "commands" (n : Int)) else okV (n : Int)) else omV
def dueD (ns ms : List Int) (n : Nat) : PyData := if ns = ms then (if 200 < n then .tuple (tagD (.count "commands" (n : Int))) else okD (n : Int)) else omD
theorem dp_due {K : PySem.W.Frag} {H : Hp} {q : Addr} {ns ms : List Int} {n : Nat} (h : H q = some (.tup (dueV ns ms n))) : Dp K H (.ref q) (dueD ns ms n) := by
  unfold dueV at h
  unfold dueD
  by_cases e : ns = ms
  · rw [if_pos e] at h
    rw [if_pos e]
    by_cases z : 200 < n
    · rw [if_pos z] at h
      rw [if_pos z]
      exact dp_tag h
    · rw [if_neg z] at h
      rw [if_neg z]
      exact dp_ok h
  · rw [if_neg e] at h
    rw [if_neg e]
    exact dp_om h
theorem duen_shaped {ns ms : List Int} {n : Nat} : SeqAt.shaped (dueD ns ms n) = true := by
  unfold dueD
  by_cases e : ns = ms
  · rw [if_pos e]
    by_cases z : 200 < n
    · rw [if_pos z]
      exact cmds_shaped _
    · rw [if_neg z]
      exact okn_shaped _
  · rw [if_neg e]
    exact om_shaped
end Q

namespace Q
open PySem
/-! ### zip of three, each a list or a tuple -/
theorem neA {a b : Nat} (h : a < b ∨ b < a) : (a : Addr) ≠ b := by
  intro z
  have : (a : Nat) = b := z
  omega
/-- an iterator over the list (true) or tuple (false) at l, ahead of its item i -/
def ItR (b : Bool) (h : Heap) (it l : Addr) (i : Nat) : Prop := match b with
  | true => h.IsListIter it l i
  | false => h.IsTupleIter it l i
def SqR (b : Bool) (h : Heap) (l : Addr) (xs : Array Value) : Prop := match b with
  | true => h.IsList l xs
  | false => h.IsTuple l xs
theorem ItR.eb {b : Bool} {h h' : Heap} {it l a : Addr} {i : Nat} (x : ItR b h it l i) (hs : Heap.ExtBut a h h') (ne : it ≠ a) : ItR b h' it l i := by
  cases b with
  | true => exact Heap.IsListIter.extBut x hs ne
  | false => exact Heap.IsTupleIter.extBut x hs ne
theorem SqR.eb {b : Bool} {h h' : Heap} {l a : Addr} {xs : Array Value} (x : SqR b h l xs) (hs : Heap.ExtBut a h h') (ne : l ≠ a) : SqR b h' l xs := by
  cases b with
  | true => exact Heap.IsList.extBut x hs ne
  | false => exact Heap.IsTuple.extBut x hs ne
theorem ItR.by {b : Bool} {h h' : Heap} {it l : Addr} {i : Nat} (x : ItR b h it l i) (e : ∀ o, h.get? it = some o → h'.get? it = some o) : ItR b h' it l i := by
  cases b with
  | true => exact Heap.IsListIter.at x e
  | false => exact Heap.IsTupleIter.at x e
theorem ItR.obj {b : Bool} {h : Heap} {it l : Addr} {i : Nat} (x : ItR b h it l i) : ∃ o, h.get? it = some o ∧ ∀ v, o.data ≠ .cell v := by
  cases b with
  | true =>
    obtain ⟨o, e, _, d⟩ := x
    exact ⟨o, e, fun v z => by rw [d] at z; cases z⟩
  | false =>
    obtain ⟨o, e, _, d⟩ := x
    exact ⟨o, e, fun v z => by rw [d] at z; cases z⟩
theorem ItR.lt {b : Bool} {h : Heap} {it l : Addr} {i : Nat} (x : ItR b h it l i) : it < h.objs.size := by
  obtain ⟨o, e, _⟩ := x.obj
  exact Heap.lt_size e
/-- three values in a tuple's object -/
abbrev Trip (h : Heap) (T : Addr) (a b c : Value) : Prop := h.get? T = some { cls := .type "tuple", data := .seq #[a, b, c] }
section
variable {prog : Program} {w : World} {A : Around} {E : Value → Shared → Prop} {s : Shared}
theorem next_it {b : Bool} {it l : Addr} {i : Nat} {xs : Array Value} {x : Value} {Q : Value → Shared → Prop} (hit : ItR b s.heap it l i) (hl : SqR b s.heap l xs) (hx : xs[i]? = some x)
    (q : ∀ h', ItR b h' it l (i + 1) → Heap.SameBut it s.heap h' → Q x { s with heap := h' }) : wpAny (model prog w) A (Builtin.SmallTypes.nextOf (.ref it)) Q E s := by
  cases b with
  | true => exact wpAny_nextOf_list_item hit hl hx q
  | false => exact RZ.nextOf_tuple_item hit hl hx q
theorem next_no {b : Bool} {it l : Addr} {i : Nat} {xs : Array Value} {Q : Value → Shared → Prop} (hh : A.handled = none) (hit : ItR b s.heap it l i) (hl : SqR b s.heap l xs) (hx : xs[i]? = none)
    (q : ∀ h' e, Heap.ExtBut it s.heap h' → (∃ o, h'.get? e = some o ∧ o.cls = .type "StopIteration") → E (.ref e) { s with heap := h' }) : wpAny (model prog w) A (Builtin.SmallTypes.nextOf (.ref it)) Q E s := by
  cases b with
  | true => exact wpAny_nextOf_list_end hh hit hl hx q
  | false => exact RZ.nextOf_tuple_end hh hit hl hx q
theorem upd_trip {T : Addr} {a b c x : Value} {k : Nat} {Q : Unit → Shared → Prop} (hT : Trip s.heap T a b c)
    (q : ∀ h', h'.get? T = some { cls := .type "tuple", data := .seq ((#[a, b, c] : Array Value).setIfInBounds k x) } → Heap.SameBut T s.heap h' → Q () { s with heap := h' }) :
    wpAny (model prog w) A (updateSeq T (·.setIfInBounds k x)) Q E s := by
  refine wpAny_updateSeq hT rfl (q _ ?_ (Heap.SameBut.update ..))
  rw [Heap.get?_update_self _ hT rfl] <;> simp [Obj.mapSeq]
/-- where the parts of a zip of three stand: n, n + 1, n + 2 the iterators, n + 3 and n + 4 its tuples, n + 5 the zip -/
structure Z3 (b1 b2 b3 : Bool) (n a1 a2 a3 : Nat) (f0 : Value) (i1 i2 i3 : Nat) (h : Heap) : Prop where
  z : IsZip h (n + 5) (n + 3) (n + 4) f0
  ti : Trip h (n + 3) (.ref n) (.ref (n + 1)) (.ref (n + 2))
  to_ : ∃ x y v, Trip h (n + 4) x y v
  j1 : ItR b1 h n a1 i1
  j2 : ItR b2 h (n + 1) a2 i2
  j3 : ItR b3 h (n + 2) a3 i3
  lt : a1 < n ∧ a2 < n ∧ a3 < n
theorem z3_item {b1 b2 b3 : Bool} {n a1 a2 a3 i : Nat} {xs ys vs : Array Value} {x y v : Value} {Q : Value → Shared → Prop} (Z : Z3 b1 b2 b3 n a1 a2 a3 .none i i i s.heap)
    (l1 : SqR b1 s.heap a1 xs) (l2 : SqR b2 s.heap a2 ys) (l3 : SqR b3 s.heap a3 vs) (hx : xs[i]? = some x) (hy : ys[i]? = some y) (hv : vs[i]? = some v)
    (q : ∀ h', Z3 b1 b2 b3 n a1 a2 a3 (rawInt s.heap.objs.size) (i + 1) (i + 1) (i + 1) h' → Trip h' s.heap.objs.size x y v → h'.objs.size = s.heap.objs.size + 1 →
      (∀ c o, c ≠ n + 5 → c ≠ n + 4 → c ≠ n → c ≠ n + 1 → c ≠ n + 2 → s.heap.get? c = some o → h'.get? c = some o) → Q (.ref s.heap.objs.size) { s with heap := h' }) :
    wpAny (model prog w) A (Builtin.«zip.__next__» ⟨[.ref (n + 5)], []⟩) (fun fin s' => ∃ u, fin = .done (.ret u) ∧ Q u s') E s := by
  obtain ⟨hz, hTI, ⟨p1, p2, p3, hTO⟩, j1, j2, j3, hl1, hl2, hl3⟩ := Z
  show wpAny _ _ (field (.ref (n + 5)) 2 >>= _) _ _ _
  refine wpAny_bind (wpAny_field hz rfl (x := .bool false) rfl ?_)
  show wpAny _ _ (field (.ref (n + 5)) 3 >>= _) _ _ _
  refine wpAny_bind (wpAny_field hz rfl (x := .ref (n + 3)) rfl (wpAny_bind (wpAny_seqItems hTI rfl ?_)))
  show wpAny _ _ (Builtin.SmallTypes.ownedTupleIsFree (.ref (n + 5)) >>= _) _ _ _
  refine wpAny_bind ?_
  unfold Builtin.SmallTypes.ownedTupleIsFree; refine wpAny_bind (wpAny_field hz rfl (x := .none) rfl (wpAny_pure ?_)); simp only [if_true]
  refine wpAny_bind (wpAny_rule (wpAny_bind (wpAny_field hz rfl (x := .ref (n + 4)) rfl (wpAny_bind (wpAny_setField_rec hz (by simp) fun g1 hz1 hs1 => ?_)))))
  replace hz1 : IsZip g1 (n + 5) (n + 3) (n + 4) .ellipsis := hz1
  refine wpAny_bind ?_
  simp only [List.forIn_cons, List.forIn_nil, List.zipIdx_cons, List.zipIdx_nil]
  -- the first
  refine wpAny_bind (wpAny_bind (wpAny_onRaise ?_))
  show wpAny _ _ (Builtin.SmallTypes.nextOf (.ref n) >>= _) _ _ _
  refine wpAny_bind (next_it (j1.eb hs1.extBut (neA (by omega))) (l1.eb hs1.extBut (neA (by omega))) hx fun g2 k1 hs2 => wpAny_pure ?_)
  have t2 : Trip g2 (n + 4) p1 p2 p3 := hs2.extBut _ _ (neA (by omega)) (hs1.extBut _ _ (neA (by omega)) hTO)
  refine wpAny_bind (wpAny_seqItems t2 rfl (wpAny_bind (upd_trip t2 fun g3 t3 hs3 => ?_)))
  replace t3 : Trip g3 (n + 4) x p2 p3 := t3
  refine wpAny_bind (wpAny_letGo (wpAny_pure ?_))
  -- the second
  refine wpAny_bind (wpAny_bind (wpAny_onRaise ?_))
  show wpAny _ _ (Builtin.SmallTypes.nextOf (.ref (n + 1)) >>= _) _ _ _
  refine wpAny_bind (next_it (((j2.eb hs1.extBut (neA (by omega))).eb hs2.extBut (neA (by omega))).eb hs3.extBut (neA (by omega))) (((l2.eb hs1.extBut (neA (by omega))).eb hs2.extBut (neA (by omega))).eb hs3.extBut (neA (by omega))) hy fun g4 k2 hs4 => wpAny_pure ?_)
  have t4 : Trip g4 (n + 4) x p2 p3 := hs4.extBut _ _ (neA (by omega)) t3
  refine wpAny_bind (wpAny_seqItems t4 rfl (wpAny_bind (upd_trip t4 fun g5 t5 hs5 => ?_)))
  replace t5 : Trip g5 (n + 4) x y p3 := t5
  refine wpAny_bind (wpAny_letGo (wpAny_pure ?_))
  -- the third
  refine wpAny_bind (wpAny_bind (wpAny_onRaise ?_))
  show wpAny _ _ (Builtin.SmallTypes.nextOf (.ref (n + 2)) >>= _) _ _ _
  refine wpAny_bind (next_it (((((j3.eb hs1.extBut (neA (by omega))).eb hs2.extBut (neA (by omega))).eb hs3.extBut (neA (by omega))).eb hs4.extBut (neA (by omega))).eb hs5.extBut (neA (by omega)))
    (((((l3.eb hs1.extBut (neA (by omega))).eb hs2.extBut (neA (by omega))).eb hs3.extBut (neA (by omega))).eb hs4.extBut (neA (by omega))).eb hs5.extBut (neA (by omega))) hv fun g6 k3 hs6 => wpAny_pure ?_)
  have t6 : Trip g6 (n + 4) x y p3 := hs6.extBut _ _ (neA (by omega)) t5
  refine wpAny_bind (wpAny_seqItems t6 rfl (wpAny_bind (upd_trip t6 fun g7 t7 hs7 => ?_)))
  replace t7 : Trip g7 (n + 4) x y v := t7
  refine wpAny_bind (wpAny_letGo (wpAny_pure (wpAny_pure ?_)))
  refine wpAny_bind (wpAny_seqItems t7 rfl (wpAny_bind (wpAny_newTuple ?_)))
  have sz : g7.objs.size = s.heap.objs.size := by rw [hs7.1, hs6.1, hs5.1, hs4.1, hs3.1, hs2.1, hs1.1]
  have kp : ∀ c o, c ≠ n + 4 → c ≠ n → c ≠ n + 1 → c ≠ n + 2 → g1.get? c = some o → g7.get? c = some o := fun c o c2 c3 c4 c5 e =>
    hs7.extBut _ _ c2 (hs6.extBut _ _ c5 (hs5.extBut _ _ c2 (hs4.extBut _ _ c4 (hs3.extBut _ _ c2 (hs2.extBut _ _ c3 e)))))
  have z7 : IsZip g7 (n + 5) (n + 3) (n + 4) .ellipsis := kp _ _ (neA (by omega)) (neA (by omega)) (neA (by omega)) (neA (by omega)) hz1
  have i7 : Trip g7 (n + 3) (.ref n) (.ref (n + 1)) (.ref (n + 2)) := kp _ _ (neA (by omega)) (neA (by omega)) (neA (by omega)) (neA (by omega)) (hs1.extBut _ _ (neA (by omega)) hTI)
  have k1' : ItR b1 g7 n a1 (i + 1) := ((((k1.eb hs3.extBut (neA (by omega))).eb hs4.extBut (neA (by omega))).eb hs5.extBut (neA (by omega))).eb hs6.extBut (neA (by omega))).eb hs7.extBut (neA (by omega))
  have k2' : ItR b2 g7 (n + 1) a2 (i + 1) := ((k2.eb hs5.extBut (neA (by omega))).eb hs6.extBut (neA (by omega))).eb hs7.extBut (neA (by omega))
  have k3' : ItR b3 g7 (n + 2) a3 (i + 1) := k3.eb hs7.extBut (neA (by omega))
  have zlt : n + 5 < g7.objs.size := Heap.lt_size z7
  show wpAny _ _ (Builtin.SmallTypes.ownedTupleHandOut (.ref (n + 5)) (.ref g7.objs.size) >>= _) _ _ _
  refine wpAny_bind ?_
  unfold Builtin.SmallTypes.ownedTupleHandOut; have z8 : IsZip (g7.push { cls := .type "tuple", data := .seq #[x, y, v] }) (n + 5) (n + 3) (n + 4) .ellipsis := Heap.get?_push_of_some _ z7
  refine wpAny_bind (wpAny_setField_rec z8 (by simp) fun g9 z9 hs9 => ?_)
  replace z9 : IsZip g9 (n + 5) (n + 3) (n + 4) (rawInt g7.objs.size) := z9
  refine wpAny_setField_rec z9 (by simp) fun g10 z10 hs10 => ?_
  replace z10 : IsZip g10 (n + 5) (n + 3) (n + 4) (rawInt g7.objs.size) := z10
  have up : ∀ c o, c ≠ n + 5 → g7.get? c = some o → g10.get? c = some o := fun c o c1 e => hs10.extBut _ _ c1 (hs9.extBut _ _ c1 (Heap.get?_push_of_some _ e))
  have nT : (g7.objs.size : Addr) ≠ n + 5 := neA (.inr zlt)
  have tT : Trip g10 g7.objs.size x y v := hs10.extBut _ _ nT (hs9.extBut _ _ nT (Heap.get?_push_size _ rfl))
  have s10 : g10.objs.size = g7.objs.size + 1 := by rw [hs10.1, hs9.1, Heap.size_push]
  rw [sz] at z10 tT s10
  refine wpAny_pure ⟨_, rfl, ?_⟩
  show Q (.ref g7.objs.size) _
  rw [sz]
  refine q g10 ⟨z10, up _ _ (neA (by omega)) i7, ⟨x, y, v, up _ _ (neA (by omega)) t7⟩, k1'.by fun o e => up _ o (neA (by omega)) e, k2'.by fun o e => up _ o (neA (by omega)) e, k3'.by fun o e => up _ o (neA (by omega)) e, hl1, hl2, hl3⟩ tT s10 ?_
  exact fun c o c1 c2 c3 c4 c5 e => up c o c1 (kp c o c2 c3 c4 c5 (hs1.extBut _ _ c1 e))
end
end Q

namespace Q
open PySem
section
variable {prog : Program} {w : World} {A : Around} {E : Value → Shared → Prop} {s : Shared}
/-- the first of the three ends -/
theorem z3_end {b1 b2 b3 : Bool} {n a1 a2 a3 i : Nat} {xs : Array Value} {Q : Fin → Shared → Prop} (hh : A.handled = none) (Z : Z3 b1 b2 b3 n a1 a2 a3 .none i i i s.heap)
    (l1 : SqR b1 s.heap a1 xs) (hx : xs[i]? = none)
    (q : ∀ h' e, (∀ c o, c ≠ n + 5 → c ≠ n → s.heap.get? c = some o → h'.get? c = some o) → (∃ o, h'.get? e = some o ∧ o.cls = .type "StopIteration") → E (.ref e) { s with heap := h' }) :
    wpAny (model prog w) A (Builtin.«zip.__next__» ⟨[.ref (n + 5)], []⟩) Q E s := by
  obtain ⟨hz, hTI, ⟨p1, p2, p3, hTO⟩, j1, j2, j3, hl1, hl2, hl3⟩ := Z
  show wpAny _ _ (field (.ref (n + 5)) 2 >>= _) _ _ _
  refine wpAny_bind (wpAny_field hz rfl (x := .bool false) rfl ?_)
  show wpAny _ _ (field (.ref (n + 5)) 3 >>= _) _ _ _
  refine wpAny_bind (wpAny_field hz rfl (x := .ref (n + 3)) rfl (wpAny_bind (wpAny_seqItems hTI rfl ?_)))
  show wpAny _ _ (Builtin.SmallTypes.ownedTupleIsFree (.ref (n + 5)) >>= _) _ _ _
  refine wpAny_bind ?_
  unfold Builtin.SmallTypes.ownedTupleIsFree; refine wpAny_bind (wpAny_field hz rfl (x := .none) rfl (wpAny_pure ?_)); simp only [if_true]
  refine wpAny_bind (wpAny_rule (wpAny_bind (wpAny_field hz rfl (x := .ref (n + 4)) rfl (wpAny_bind (wpAny_setField_rec hz (by simp) fun g1 hz1 hs1 => ?_)))))
  replace hz1 : IsZip g1 (n + 5) (n + 3) (n + 4) .ellipsis := hz1
  refine wpAny_bind ?_
  simp only [List.forIn_cons, List.forIn_nil, List.zipIdx_cons, List.zipIdx_nil]
  refine wpAny_bind (wpAny_bind (wpAny_onRaise ?_))
  show wpAny _ _ (Builtin.SmallTypes.nextOf (.ref n) >>= _) _ _ _
  refine wpAny_bind (next_no hh (j1.eb hs1.extBut (neA (by omega))) (l1.eb hs1.extBut (neA (by omega))) hx fun g2 e hs2 he => ?_)
  obtain ⟨oe, hoe, hce⟩ := he
  have z2 : IsZip g2 (n + 5) (n + 3) (n + 4) .ellipsis := hs2 _ _ (neA (by omega)) hz1
  have ez : e ≠ n + 5 := fun x => by rw [x, z2] at hoe; cases hoe; simp at hce
  exact wpAny_setField_rec z2 (by simp) fun g3 _ hs3 => q g3 e (fun c o c1 c3 x => hs3.extBut _ _ c1 (hs2 _ _ c3 (hs1.extBut _ _ c1 x))) ⟨oe, hs3.extBut _ _ ez hoe, hce⟩
theorem py_z3_item {b1 b2 b3 : Bool} {n a1 a2 a3 i : Nat} {xs ys vs : Array Value} {x y v : Value} {Q : Option Value → Shared → Prop} (Z : Z3 b1 b2 b3 n a1 a2 a3 .none i i i s.heap)
    (l1 : SqR b1 s.heap a1 xs) (l2 : SqR b2 s.heap a2 ys) (l3 : SqR b3 s.heap a3 vs) (hx : xs[i]? = some x) (hy : ys[i]? = some y) (hv : vs[i]? = some v)
    (q : ∀ h', Z3 b1 b2 b3 n a1 a2 a3 (rawInt s.heap.objs.size) (i + 1) (i + 1) (i + 1) h' → Trip h' s.heap.objs.size x y v → h'.objs.size = s.heap.objs.size + 1 →
      (∀ c o, c ≠ n + 5 → c ≠ n + 4 → c ≠ n → c ≠ n + 1 → c ≠ n + 2 → s.heap.get? c = some o → h'.get? c = some o) → Q (some (.ref s.heap.objs.size)) { s with heap := h' }) :
    wpAny (model prog w) A (pyNext (.ref (n + 5))) Q E s := by
  have hT : s.TypeIs (.ref (n + 5)) "zip" := ⟨_, Z.z, rfl⟩
  unfold pyNext
  exact wpAny_bind (wpAny_attempt (wpAny_callSpecial?_slot (name := Str.ofString "__next__") hT F.slot_zip_next
    (wpAny_call_entry F.slot_zip_next hT F.entry_zip_next (z3_item Z l1 l2 l3 hx hy hv fun h' z1 z2 z3 z4 => wpAny_pure (q h' z1 z2 z3 z4)) (F.args_zip_next_1 _))))
theorem py_z3_end {b1 b2 b3 : Bool} {n a1 a2 a3 i : Nat} {xs : Array Value} {Q : Option Value → Shared → Prop} (hh : A.handled = none) (Z : Z3 b1 b2 b3 n a1 a2 a3 .none i i i s.heap)
    (l1 : SqR b1 s.heap a1 xs) (hx : xs[i]? = none)
    (q : ∀ h', (∀ c o, c ≠ n + 5 → c ≠ n → s.heap.get? c = some o → h'.get? c = some o) → Q none { s with heap := h' }) : wpAny (model prog w) A (pyNext (.ref (n + 5))) Q E s := by
  have hT : s.TypeIs (.ref (n + 5)) "zip" := ⟨_, Z.z, rfl⟩
  unfold pyNext
  refine wpAny_bind (wpAny_attempt (wpAny_callSpecial?_slot (name := Str.ofString "__next__") hT F.slot_zip_next
    (wpAny_call_entry F.slot_zip_next hT F.entry_zip_next (z3_end hh Z l1 hx fun h' e hk he => ?_) (F.args_zip_next_1 _))))
  obtain ⟨o, ho, hc⟩ := he
  exact wpAny_bind (wpAny_isInstance (T := "StopIteration") (b := true) ⟨o, ho, hc⟩ isSubtype_stop (wpAny_pure (q _ hk)))
end
/-! ### zip(a, b, c) -/
theorem typeCall_zip3 (a b c : Value) : checkTypeCall "zip" ⟨[a, b, c], []⟩ = pure () := by kernel_rfl
theorem newCall_zip3 (a b c : Value) : checkBuiltinCall "zip.__new__" ⟨[.type "zip", a, b, c], []⟩ = pure () := by kernel_rfl
theorem args_init4 (a b c d : Value) : argsOk "object.__init__" ⟨[a, b, c, d], []⟩ := by
  unfold argsOk; rw [signature?_of (o := ['t', 'c', 'e', 'j', 'b', 'o']) (n := ['_', '_', 't', 'i', 'n', 'i', '_', '_']) (id := "object.__init__") (by kernel_rfl) F.owner_object]; kernel_rfl
/-- an iterator's object -/
def itO (b : Bool) (l : Addr) : Obj := match b with
  | true => { cls := .type "list_iterator", data := .fields #[.ref l, .int 0 0] }
  | false => { cls := .type "tuple_iterator", data := .fields #[.ref l, .int 0 0] }
theorem itO_at {b : Bool} {h : Heap} {it l : Addr} (e : h.get? it = some (itO b l)) : ItR b h it l 0 := by
  cases b with
  | true => exact ⟨_, e, rfl, rfl⟩
  | false => exact ⟨_, e, rfl, rfl⟩
theorem iter_sq {prog : Program} {w : World} {A : Around} {E : Value → Shared → Prop} {s : Shared} {b : Bool} {l : Addr} {xs : Array Value} {Q : Value → Shared → Prop} (hl : SqR b s.heap l xs) (q : Q (.ref s.heap.objs.size) { s with heap := s.heap.push (itO b l) }) :
    wpAny (model prog w) A (pyIter (.ref l)) Q E s := by
  cases b with
  | true => exact wpAny_pyIter_list hl q
  | false => exact wpAny_pyIter_tuple hl q
abbrev H1 (h : Heap) (b1 : Bool) (l1 : Addr) : Heap := h.push (itO b1 l1)
abbrev H2 (h : Heap) (b1 b2 : Bool) (l1 l2 : Addr) : Heap := (H1 h b1 l1).push (itO b2 l2)
abbrev H3 (h : Heap) (b1 b2 b3 : Bool) (l1 l2 l3 : Addr) : Heap := (H2 h b1 b2 l1 l2).push (itO b3 l3)
abbrev H4 (h : Heap) (b1 b2 b3 : Bool) (l1 l2 l3 : Addr) : Heap := (H3 h b1 b2 b3 l1 l2 l3).push { cls := .type "tuple", data := .seq #[.ref h.objs.size, .ref (H1 h b1 l1).objs.size, .ref (H2 h b1 b2 l1 l2).objs.size] }
abbrev H5 (h : Heap) (b1 b2 b3 : Bool) (l1 l2 l3 : Addr) : Heap := (H4 h b1 b2 b3 l1 l2 l3).push { cls := .type "tuple", data := .seq #[.none, .none, .none] }
abbrev H6 (h : Heap) (b1 b2 b3 : Bool) (l1 l2 l3 : Addr) : Heap := (H5 h b1 b2 b3 l1 l2 l3).push { cls := .type "zip", data := .fields #[.none, .bool false, .bool false, .ref (H3 h b1 b2 b3 l1 l2 l3).objs.size, .ref (H4 h b1 b2 b3 l1 l2 l3).objs.size] }
theorem SqR.push {b : Bool} {h : Heap} {l : Addr} {xs : Array Value} (x : SqR b h l xs) (o : Obj) : SqR b (h.push o) l xs := by
  cases b with
  | true => exact Heap.IsList.push x o
  | false => exact Heap.IsTuple.push x o
theorem meets_zip3 (b1 b2 b3 : Bool) (l1 l2 l3 : Addr) (xs ys vs : Array Value) :
    Meets (Builtin.«zip.__new__» ⟨[.type "zip", .ref l1, .ref l2, .ref l3], []⟩) (fun _ R s => SqR b1 s.heap l1 xs ∧ SqR b2 s.heap l2 ys ∧ SqR b3 s.heap l3 vs ∧
      R (.ok (.ret (.ref (H5 s.heap b1 b2 b3 l1 l2 l3).objs.size))) { s with heap := H6 s.heap b1 b2 b3 l1 l2 l3 }) :=
  .of_wp fun prog w A R s h => by
    obtain ⟨hp, g, d, tk, os⟩ := s; obtain ⟨q1, q2, q3, h⟩ := h
    have hs := sub_zip
    have r1 : SqR b1 (Shared.heap ⟨hp, g, d, tk, os⟩) l1 xs := q1
    have r2 : SqR b2 (Shared.heap ⟨hp.push (itO b1 l1), g, d, tk, os⟩) l2 ys := q2.push _
    have r3 : SqR b3 (Shared.heap ⟨(hp.push (itO b1 l1)).push (itO b2 l2), g, d, tk, os⟩) l3 vs := (q3.push _).push _
    wp_walk using iter_sq r1, iter_sq r2, iter_sq r3
    exact ⟨_, rfl, h⟩
end Q

namespace Q
open PySem
theorem call_zip3 {prog : Program} {w : World} {A : Around} {E : Value → Shared → Prop} {s : Shared} {b1 b2 b3 : Bool} {l1 l2 l3 : Addr} {xs ys vs : Array Value} {Q : Value → Shared → Prop} (q1 : SqR b1 s.heap l1 xs) (q2 : SqR b2 s.heap l2 ys) (q3 : SqR b3 s.heap l3 vs)
    (lt1 : l1 < s.heap.objs.size) (lt2 : l2 < s.heap.objs.size) (lt3 : l3 < s.heap.objs.size)
    (q : ∀ h', Z3 b1 b2 b3 s.heap.objs.size l1 l2 l3 .none 0 0 0 h' → h'.objs.size = s.heap.objs.size + 6 → (∀ c o, s.heap.get? c = some o → h'.get? c = some o) → Q (.ref (s.heap.objs.size + 5)) { s with heap := h' }) :
    wpAny (model prog w) A (call (.type "zip") [.ref l1, .ref l2, .ref l3]) Q E s := by
  refine callType_new F.called_zip (by decide) (typeCall_zip3 _ _ _) (newCall_zip3 _ _ _) (fun obj => args_init4 obj _ _ _) F.entry_zip_new (meets_zip3 b1 b2 b3 l1 l2 l3 xs ys vs) ⟨q1, q2, q3, ?_⟩
  have z1 : (H1 s.heap b1 l1).objs.size = s.heap.objs.size + 1 := Heap.size_push ..
  have z2 : (H2 s.heap b1 b2 l1 l2).objs.size = s.heap.objs.size + 2 := by rw [Heap.size_push, z1]
  have z3 : (H3 s.heap b1 b2 b3 l1 l2 l3).objs.size = s.heap.objs.size + 3 := by rw [Heap.size_push, z2]
  have z4 : (H4 s.heap b1 b2 b3 l1 l2 l3).objs.size = s.heap.objs.size + 4 := by rw [Heap.size_push, z3]
  have z5 : (H5 s.heap b1 b2 b3 l1 l2 l3).objs.size = s.heap.objs.size + 5 := by rw [Heap.size_push, z4]
  have z6 : (H6 s.heap b1 b2 b3 l1 l2 l3).objs.size = s.heap.objs.size + 6 := by rw [Heap.size_push, z5]
  have up : ∀ {h : Heap} {c : Addr} {o o' : Obj}, h.get? c = some o → (h.push o').get? c = some o := fun e => Heap.get?_push_of_some _ e
  have g1 : (H6 s.heap b1 b2 b3 l1 l2 l3).get? s.heap.objs.size = some (itO b1 l1) := up (up (up (up (up (Heap.get?_push_size _ (by cases b1 <;> rfl))))))
  have g2 : (H6 s.heap b1 b2 b3 l1 l2 l3).get? (H1 s.heap b1 l1).objs.size = some (itO b2 l2) := up (up (up (up (Heap.get?_push_size _ (by cases b2 <;> rfl)))))
  have g3 : (H6 s.heap b1 b2 b3 l1 l2 l3).get? (H2 s.heap b1 b2 l1 l2).objs.size = some (itO b3 l3) := up (up (up (Heap.get?_push_size _ (by cases b3 <;> rfl))))
  have g4 : (H6 s.heap b1 b2 b3 l1 l2 l3).get? (H3 s.heap b1 b2 b3 l1 l2 l3).objs.size = some _ := up (up (Heap.get?_push_size _ rfl))
  have g5 : (H6 s.heap b1 b2 b3 l1 l2 l3).get? (H4 s.heap b1 b2 b3 l1 l2 l3).objs.size = some _ := up (Heap.get?_push_size _ rfl)
  have g6 : (H6 s.heap b1 b2 b3 l1 l2 l3).get? (H5 s.heap b1 b2 b3 l1 l2 l3).objs.size = some _ := Heap.get?_push_size _ rfl
  rw [z3, z4, z5] at g6
  rw [z1, z2, z3] at g4
  rw [z4] at g5
  rw [z1] at g2
  rw [z2] at g3
  show _ ∧ _
  rw [z5]
  exact ⟨⟨_, g6, rfl⟩, q _ ⟨g6, g4, ⟨_, _, _, g5⟩, itO_at g1, itO_at g2, itO_at g3, lt1, lt2, lt3⟩ z6 fun c o e => up (up (up (up (up (up e)))))⟩
end Q
namespace Q
open PySem PySem.Spec PyProof.Rows L2 LamX
theorem Z3.stays {b1 b2 b3 : Bool} {n a1 a2 a3 i : Nat} {f0 : Value} {h h' : Heap} (Z : Z3 b1 b2 b3 n a1 a2 a3 f0 i i i h) (k : ∀ c ∈ ([n + 5, n + 3, n + 4, n, n + 1, n + 2] : List Addr), ∀ o, h.get? c = some o → h'.get? c = some o) : Z3 b1 b2 b3 n a1 a2 a3 f0 i i i h' := by
  obtain ⟨x, y, v, t⟩ := Z.to_
  exact ⟨k _ (by simp) _ Z.z, k _ (by simp) _ Z.ti, ⟨x, y, v, k _ (by simp) _ t⟩, Z.j1.by fun o => k _ (by simp) o, Z.j2.by fun o => k _ (by simp) o, Z.j3.by fun o => k _ (by simp) o, Z.lt⟩
theorem sqr_of {X : Cx} {pins : List (Addr × Obj)} {σ : L2.St} {H : Hp} {s : Shared} {b : Bool} {a : Addr} {xs : List V} (I : Inv X pins σ H s) (h : Sq b X.K H a xs) : ∃ its : List Value, Vals xs its ∧ SqR b s.heap a its.toArray ∧ a < s.heap.objs.size := by
  cases b with
  | true =>
    obtain ⟨its, rv, p, _⟩ := I.list h
    exact ⟨its, rv, p.isList, p.lt⟩
  | false =>
    obtain ⟨its, rv, p, _⟩ := I.tuple h
    obtain ⟨o, ho, _⟩ := id p
    exact ⟨its, rv, p, Heap.lt_size ho⟩
theorem sq_inj {X : Cx} {pins : List (Addr × Obj)} {σ : L2.St} {H : Hp} {s : Shared} {b : Bool} {a : Addr} {xs ys : List V} (I : Inv X pins σ H s) (h : Sq b X.K H a xs) (h' : Sq b X.K H a ys) : xs = ys := by
  cases b with
  | true => exact I.list_inj h h'
  | false => exact I.tuple_inj h h'
/-- the three as they stand at each turn, of one length, the items in new tuples -/
def It3 (K : PySem.W.Frag) (b1 b2 b3 : Bool) (a1 a2 a3 : Addr) : It :=
  ⟨fun i H => ∃ (xs ys vs : List V) (x y v : V), Sq b1 K H a1 xs ∧ Sq b2 K H a2 ys ∧ Sq b3 K H a3 vs ∧ xs[i]? = some x ∧ ys[i]? = some y ∧ vs[i]? = some v,
    fun i H u H' => ∃ T x y v, u = .ref T ∧ H T = none ∧ H' = upd H T (.tup [x, y, v]) ∧ (∀ xs, Sq b1 K H a1 xs → xs[i]? = some x) ∧ (∀ ys, Sq b2 K H a2 ys → ys[i]? = some y) ∧ ∀ vs, Sq b3 K H a3 vs → vs[i]? = some v,
    fun i H => ∃ xs : List V, Sq b1 K H a1 xs ∧ xs.length ≤ i⟩
theorem turn_zip3 {P : Program} {w : World} {K : PySem.W.Frag} {elts : List Expr} {kk : Nat} {tpos : Pos} {b1 b2 b3 : Bool} {n a1 a2 a3 : Nat} :
    Turn P w K (.Tuple elts kk tpos) (It3 K b1 b2 b3 a1 a2 a3) [n + 5, n + 3, n + 4, n, n + 1, n + 2] (n + 5) (fun i h => Z3 b1 b2 b3 n a1 a2 a3 .none i i i h) where
  mem := by simp
  obj := fun i h Z c hc => by
    obtain ⟨x, y, v, t⟩ := Z.to_
    have e' : c = n + 5 ∨ c = n + 3 ∨ c = n + 4 ∨ c = n ∨ c = n + 1 ∨ c = n + 2 := by simpa using hc
    rcases e' with q | q | q | q | q | q
    · rw [q]; exact ⟨_, Z.z, fun v q => nomatch q⟩
    · rw [q]; exact ⟨_, Z.ti, fun v q => nomatch q⟩
    · rw [q]; exact ⟨_, t, fun v q => nomatch q⟩
    · rw [q]; exact Z.j1.obj
    · rw [q]; exact Z.j2.obj
    · rw [q]; exact Z.j3.obj
  keep := fun i h h' Z k => Z.stays k
  item := by
    intro X hP hw hK hc i pins s σ H E I hf Z hg
    subst hP hw hK
    obtain ⟨xs, ys, vs, x, y, v, s1, s2, s3, hx, hy, hv⟩ := hg
    obtain ⟨i1, r1, p1, _⟩ := sqr_of I s1
    obtain ⟨i2, r2, p2, _⟩ := sqr_of I s2
    obtain ⟨i3, r3, p3, _⟩ := sqr_of I s3
    obtain ⟨u1, hu1, ru1⟩ := r1.get hx
    obtain ⟨u2, hu2, ru2⟩ := r2.get hy
    obtain ⟨u3, hu3, ru3⟩ := r3.get hv
    have hzl : n + 5 < s.heap.objs.size := Heap.lt_size Z.z
    refine py_z3_item Z p1 p2 p3 (x := u1) (y := u2) (v := u3) (by simpa using hu1) (by simpa using hu2) (by simpa using hu3) fun h' Z' hT hsz hk => ?_
    refine ⟨_, rfl, wpAny_letOwnedTupleGo_zip (s := { s with heap := h' }) Z'.z fun h'' z'' sb => ?_⟩
    have hT2 : h''.get? s.heap.objs.size = some { cls := .type "tuple", data := .seq #[u1, u2, u3] } := (sb.2 _ (neA (.inr hzl))).trans hT
    have new : ObjOk X.prog X.w (upd H s.heap.objs.size (.tup [x, y, v])) h'' s.heap.objs.size (.tup [x, y, v]) :=
      ⟨by show 3 ≤ sizeLine; decide, [u1, u2, u3], .cons ru1 (.cons ru2 (.cons ru3 .nil)), ⟨_, hT2, rfl, _, rfl⟩⟩
    have I1 : Inv X pins σ (upd H s.heap.objs.size (.tup [x, y, v])) { s with heap := h'' } :=
      I.turnedNew (t' := s.toks) (ch := [n + 5, n + 3, n + 4, n, n + 1, n + 2]) (fun c o hb q => (sb.2 c (fun q' => hb (by simp [q']))).trans (hk c o (fun q' => hb (by simp [q'])) (fun q' => hb (by simp [q'])) (fun q' => hb (by simp [q'])) (fun q' => hb (by simp [q'])) (fun q' => hb (by simp [q'])) q)) hf (Nat.le_refl _) new
    refine ⟨.ref s.heap.objs.size, _, I1, rfl, ⟨_, x, y, v, rfl, I.hok.fresh (Nat.le_refl _), rfl, fun l hl => by rw [sq_inj I hl s1]; exact hx, fun l hl => by rw [sq_inj I hl s2]; exact hy, fun l hl => by rw [sq_inj I hl s3]; exact hv⟩, ?_, fun c hcm => ?_⟩
    · obtain ⟨t1, t2, t3, t⟩ := Z'.to_
      have lt := Z'.lt
      exact ⟨z'', (sb.2 _ (neA (by omega))).trans Z'.ti, ⟨t1, t2, t3, (sb.2 _ (neA (by omega))).trans t⟩, Z'.j1.by fun o q => (sb.2 _ (neA (by omega))).trans q, Z'.j2.by fun o q => (sb.2 _ (neA (by omega))).trans q, Z'.j3.by fun o q => (sb.2 _ (neA (by omega))).trans q, lt⟩
    · have hlt : (c : Nat) < s.heap.objs.size := by
        have e' : c = n + 5 ∨ c = n + 3 ∨ c = n + 4 ∨ c = n ∨ c = n + 1 ∨ c = n + 2 := by simpa using hcm
        rcases e' with q | q | q | q | q | q
        · rw [q]; exact hzl
        · rw [q]; exact Nat.lt_of_le_of_lt (Nat.add_le_add_left (show 3 ≤ 5 by decide) n) hzl
        · rw [q]; exact Nat.lt_of_le_of_lt (Nat.add_le_add_left (show 4 ≤ 5 by decide) n) hzl
        · rw [q]; exact Nat.lt_of_le_of_lt (Nat.le_add_right n 5) hzl
        · rw [q]; exact Nat.lt_of_le_of_lt (Nat.add_le_add_left (show 1 ≤ 5 by decide) n) hzl
        · rw [q]; exact Nat.lt_of_le_of_lt (Nat.add_le_add_left (show 2 ≤ 5 by decide) n) hzl
      rw [upd_ne (Nat.ne_of_lt hlt)]
      exact (hf c hcm).1
  done := by
    intro X hP hw hK hc i pins s σ H E I hf Z hg
    subst hP hw hK
    obtain ⟨xs, s1, hend⟩ := hg
    obtain ⟨i1, r1, p1, _⟩ := sqr_of I s1
    have l1 := r1.length
    exact py_z3_end (I.ok.hd hc) Z p1 (by simp; omega) fun h' hk => ⟨rfl, I.turnedL (t' := s.toks) (ch := [n + 5, n + 3, n + 4, n, n + 1, n + 2]) (fun c o hb q => hk c o (fun q' => hb (by simp [q'])) (fun q' => hb (by simp [q'])) q) hf⟩
  self := fun A i s Q E Z h => wpAny_pyIter_zip Z.z h
def iZip3 (K : PySem.W.Frag) (ta : TA) : TI := fun σ H R => ta σ H fun vs H1 => ∃ b1 b2 b3 a1 a2 a3 xs ys zs, vs = [.ref a1, .ref a2, .ref a3] ∧ Sq b1 K H1 a1 xs ∧ Sq b2 K H1 a2 ys ∧ Sq b3 K H1 a3 zs ∧ R (It3 K b1 b2 b3 a1 a2 a3) H1
theorem pi_zip3 {X : Cx} {e e2 e3 : Expr} {ta : TA} {p pos tpos : Pos} {elts : List Expr} {kk : Nat} (hg : Gl X "zip") (hm : X.mg "zip" = none) (ha : PA X [e, e2, e3] ta)
    (hs : starEach [e, e2, e3] X.env = (false, eval e X.env) :: starEach [e2, e3] X.env := by rfl) (hpl : (backTo pos (starEach [e2, e3] X.env)).any (·.1) = false := by rfl) :
    PI X (.Tuple elts kk tpos) (.Call (.Name "zip" p) [e, e2, e3] [] pos) (iZip3 X.K ta) := by
  refine ⟨fun pins s σ H R I h => ?_⟩
  refine Call_ (ld_blt I hg hm PyProof.Rows.boot_zip (PyProof.Rows.callWith_type1 (thn (ha.run pos pins s σ H _ I h) fun us s1 hh => ?_) hs hpl))
  obtain ⟨vs, G, I1, r1, b1, b2, b3, a1, a2, a3, xs, ys, zs, ex, s1', s2', s3', q⟩ := hh
  subst ex
  cases r1 with
  | cons ra rr =>
  cases rr with
  | cons rb rr =>
  cases rr with
  | cons rc rr =>
  cases rr
  cases ra
  cases rb
  cases rc
  obtain ⟨i1, v1, p1, lt1⟩ := sqr_of I1 s1'
  obtain ⟨i2, v2, p2, lt2⟩ := sqr_of I1 s2'
  obtain ⟨i3, v3, p3, lt3⟩ := sqr_of I1 s3'
  refine call_zip3 p1 p2 p3 lt1 lt2 lt3 fun h' Z hsz hk => wpAny_pyIter_zip Z.z ?_
  have I2 : Inv X pins σ G { s1 with heap := h' } := I1.kept (t' := s1.toks) hk
  refine ⟨s1.heap.objs.size + 5, [s1.heap.objs.size + 5, s1.heap.objs.size + 3, s1.heap.objs.size + 4, s1.heap.objs.size, s1.heap.objs.size + 1, s1.heap.objs.size + 2], _, _, G, rfl, I2, turn_zip3, Z, fun c hc => ?_, q⟩
  have hle : s1.heap.objs.size ≤ c := by
    have e' : c = s1.heap.objs.size + 5 ∨ c = s1.heap.objs.size + 3 ∨ c = s1.heap.objs.size + 4 ∨ c = s1.heap.objs.size ∨ c = s1.heap.objs.size + 1 ∨ c = s1.heap.objs.size + 2 := by simpa using hc
    rcases e' with z | z | z | z | z | z <;> (rw [z]; first | exact Nat.le_add_right _ _ | exact Nat.le_refl _)
  exact I1.fpOk hle (I1.hok.fresh hle)
/-- a comprehension over zip of three of one length -/
theorem lc_zip3 {K : PySem.W.Frag} {b1 b2 b3 : Bool} {a1 a2 a3 : Addr} {xs ys zs : List V} (e1 : ys.length = xs.length) (e2 : zs.length = xs.length) {g : TG} {tt : TT} {te : TE} {vs : List Nat} {σ : L2.St} {G : Hp} {D : Addr} {Qd : Hp → Prop} (Pv : Nat → Hp → Prop)
    (h0 : Pv 0 (upd G D (.lst []))) (hl : ∀ i H, i ≤ xs.length → Pv i H → Sq b1 K H a1 xs ∧ Sq b2 K H a2 ys ∧ Sq b3 K H a3 zs)
    (hs : ∀ i x y v T H, xs[i]? = some x → ys[i]? = some y → zs[i]? = some v → Pv i H → H T = none → g (.ref T) (wipe σ vs) (upd H T (.tup [x, y, v])) fun σ2 H2 => wipe σ2 vs = wipe σ vs ∧ tt σ2 H2 fun b H3 =>
      if b = true then te σ2 H3 fun r H4 => ∃ acc, H4 D = some (.lst acc) ∧ acc.length < sizeLine ∧ Pv (i + 1) (upd H4 D (.lst (acc ++ [r]))) else Pv (i + 1) H3) (hd : ∀ H, Pv xs.length H → Qd H) :
    ∃ W : Nat → Nat → Hp → Prop, (∃ m, W 0 m (upd G D (.lst []))) ∧ ∀ i m H, W i m H →
      ((It3 K b1 b2 b3 a1 a2 a3).stop i H ∧ Qd H) ∨ ((It3 K b1 b2 b3 a1 a2 a3).go i H ∧ ∃ Nx : Hp → Prop, (∀ H', Nx H' → ∃ m', m' < m ∧ W (i + 1) m' H') ∧ ∀ x H', (It3 K b1 b2 b3 a1 a2 a3).yld i H x H' → g x (wipe σ vs) H' fun σ2 H2 => wipe σ2 vs = wipe σ vs ∧ tt σ2 H2 fun b H3 =>
        if b = true then te σ2 H3 fun y H4 => ∃ acc, H4 D = some (.lst acc) ∧ acc.length < sizeLine ∧ Nx (upd H4 D (.lst (acc ++ [y]))) else Nx H3) := by
  refine ⟨fun i m H => m = xs.length - i ∧ i ≤ xs.length ∧ Pv i H, ⟨xs.length, by simp, Nat.zero_le _, h0⟩, fun i m H hW => ?_⟩
  obtain ⟨rfl, hi, p⟩ := hW
  obtain ⟨q1, q2, q3⟩ := hl i H hi p
  by_cases hlt : i < xs.length
  · refine .inr ⟨⟨xs, ys, zs, _, _, _, q1, q2, q3, List.getElem?_eq_getElem hlt, List.getElem?_eq_getElem (by omega), List.getElem?_eq_getElem (by omega)⟩, Pv (i + 1), fun H' p' => ⟨_, by omega, rfl, hlt, p'⟩, fun u H' y => ?_⟩
    obtain ⟨T, x', y', v', rfl, hT, rfl, f1, f2, f3⟩ := y
    exact hs i x' y' v' T H (f1 xs q1) (f2 ys q2) (f3 zs q3) p hT
  · have e : i = xs.length := by omega
    subst e
    exact .inl ⟨⟨xs, q1, Nat.le_refl _⟩, hd H p⟩
/-- a loop over zip of three of one length -/
theorem for_zip3 {K : PySem.W.Frag} {b1 b2 b3 : Bool} {a1 a2 a3 : Addr} {xs ys zs : List V} (e1 : ys.length = xs.length) (e2 : zs.length = xs.length) {g : TG} {tb : TS} {D : Ends} {σ : L2.St} {H : Hp} (Pv : Nat → L2.St → Hp → Prop) (h0 : Pv 0 σ H)
    (hq : ∀ i σ H, Pv i σ H → Sq b1 K H a1 xs ∧ Sq b2 K H a2 ys ∧ Sq b3 K H a3 zs)
    (hs : ∀ (i : Nat) (x y v : V) (T : Addr) (σ : L2.St) (H : Hp), xs[i]? = some x → ys[i]? = some y → zs[i]? = some v → Pv i σ H → H T = none → g (.ref T) σ (upd H T (.tup [x, y, v])) fun σ2 H2 => tb { D with nx := Pv (i + 1), ct := Pv (i + 1), bk := D.nx } σ2 H2) (hd : ∀ σ H, Pv xs.length σ H → D.nx σ H) :
    ∃ W : Nat → Nat → L2.St → Hp → Prop, (∃ m, W 0 m σ H) ∧ ∀ i m σ H, W i m σ H →
      ((It3 K b1 b2 b3 a1 a2 a3).stop i H ∧ D.nx σ H) ∨ ((It3 K b1 b2 b3 a1 a2 a3).go i H ∧ ∃ N : L2.St → Hp → Prop, (∀ σ' H', N σ' H' → ∃ m', m' < m ∧ W (i + 1) m' σ' H') ∧ ∀ v H', (It3 K b1 b2 b3 a1 a2 a3).yld i H v H' → g v σ H' fun σ2 H2 => tb { D with nx := N, ct := N, bk := D.nx } σ2 H2) := by
  refine ⟨fun i m σ H => m = xs.length - i ∧ i ≤ xs.length ∧ Pv i σ H, ⟨xs.length, rfl, Nat.zero_le _, h0⟩, fun i m σ H hW => ?_⟩
  obtain ⟨rfl, hi, p⟩ := hW
  obtain ⟨q1, q2, q3⟩ := hq i σ H p
  by_cases hlt : i < xs.length
  · refine .inr ⟨⟨xs, ys, zs, _, _, _, q1, q2, q3, List.getElem?_eq_getElem hlt, List.getElem?_eq_getElem (by omega), List.getElem?_eq_getElem (by omega)⟩, Pv (i + 1), fun σ' H' p' => ⟨_, by omega, rfl, hlt, p'⟩, fun u H' y => ?_⟩
    obtain ⟨T, x', y', v', rfl, hT, rfl, f1, f2, f3⟩ := y
    exact hs i x' y' v' T σ H (f1 xs q1) (f2 ys q2) (f3 zs q3) p hT
  · have e : i = xs.length := by omega
    subst e
    exact .inl ⟨⟨xs, q1, Nat.le_refl _⟩, hd σ H p⟩
end Q

namespace Q
open PySem PySem.Spec PyProof.Rows L2 LamX
section
variable {X : Cx} {CX : CXT} {C : Addr} {k : Nat} {ps : List Str} {sp : Sp} {E : XK}
/-- x in y, y an instance with its class's own __contains__ -/
def rInO (C : Addr) (sp : Sp) (E : XK) : R2 := fun x y H Q => ∃ b dy gs, y = .ref b ∧ H b = some (.ins C dy gs) ∧ sp [y, x] H (fun v H' => ∃ r, v = .bl r ∧ Q (.bl r) H') E
theorem op_inO (D : Dun X.prog X.w X.K X.mg X.base CX C "__contains__" k ps sp) (hr : Room k X.A) (hx : Passes CX X E) : OpR X (compareOp .In) (rInO C sp E) := by
  intro pz s σ H x y v u R I rx ry hq
  obtain ⟨f, fd, F, hs, hf, hb⟩ := D.ex
  obtain ⟨b, dy, gs, rfl, hb', h⟩ := hq
  cases ry
  obtain ⟨mB, J2, _⟩ := ins_get I.hok hb'
  obtain ⟨od2, J2, _⟩ := J2.look
  obtain ⟨m, hF⟩ := I.fr
  refine PySem.W.in_K hF I.ok.mod.kin J2 hs hf ?_
  refine wpAny_mono (run_at rfl F hr hb hx I (show Vals [V.ref b, x] [Value.ref b, v] from .cons rfl (.cons rx .nil)) h) (fun z sx hq => ?_) fun _ _ e => e
  obtain ⟨v1, H', I', rz, r, rfl, q⟩ := hq
  cases rz
  exact wpAny_truthy_bool ⟨.bl r, H', I', rfl, q⟩
end
end Q

namespace Q
open PySem PySem.Spec PyProof.Rows L2 LamX
/-! ### numbers between two lists of numbers -/
def btw : List Int → List Int → List Int → Bool
  | l :: ls, x :: xs, h :: hs => (decide (l ≤ x) && decide (x ≤ h)) && btw ls xs hs
  | _, _, _ => true
def isBtw (xs ls hs : List Int) : Bool := decide (xs.length = ls.length) && (decide (xs.length = hs.length) && btw ls xs hs)
theorem btw_iff : ∀ {ls xs hs : List Int}, xs.length = ls.length → xs.length = hs.length → (btw ls xs hs = true ↔ ∀ i, i < xs.length → ls.getD i 0 ≤ xs.getD i 0 ∧ xs.getD i 0 ≤ hs.getD i 0)
  | [], [], [], _, _ => by simp [btw]
  | l :: ls, x :: xs, h :: hs, e1, e2 => by
    have ih := btw_iff (ls := ls) (xs := xs) (hs := hs) (by simpa using e1) (by simpa using e2)
    unfold btw
    rw [Bool.and_eq_true, Bool.and_eq_true, decide_eq_true_iff, decide_eq_true_iff, ih]
    constructor
    · rintro ⟨h0, h1⟩ i hi
      cases i with
      | zero => simpa using h0
      | succ i =>
        have := h1 i (by simpa using hi)
        simpa using this
    · intro q
      refine ⟨by simpa using q 0 (by simp), fun i hi => ?_⟩
      have := q (i + 1) (by simpa using hi)
      simpa using this
  | [], x :: xs, _, e1, _ => by simp at e1
  | l :: ls, [], _, e1, _ => by simp at e1
  | [], [], h :: hs, _, e2 => by simp at e2
  | l :: ls, x :: xs, [], _, e2 => by simp at e2
theorem isBtw_iff {xs ls hs : List Int} : isBtw xs ls hs = true ↔ xs.length = ls.length ∧ xs.length = hs.length ∧ ∀ i, i < xs.length → ls.getD i 0 ≤ xs.getD i 0 ∧ xs.getD i 0 ≤ hs.getD i 0 := by
  unfold isBtw
  rw [Bool.and_eq_true, Bool.and_eq_true, decide_eq_true_iff, decide_eq_true_iff]
  constructor
  · rintro ⟨h1, h2, h3⟩
    exact ⟨h1, h2, (btw_iff h1 h2).mp h3⟩
  · rintro ⟨h1, h2, h3⟩
    exact ⟨h1, h2, (btw_iff h1 h2).mpr h3⟩
/-! ### what is made and sure only grows -/
structure PgOk (n : Nat) (x : Pg) : Prop where
  d : x.d.length = n
  f : x.f.length = n
  s : x.s.length = n
  ord : ∀ i, 0 ≤ x.s.getD i 0 ∧ x.s.getD i 0 ≤ x.f.getD i 0 ∧ x.f.getD i 0 ≤ x.d.getD i 0
theorem rep_getD (n i : Nat) : (List.replicate n (0 : Int)).getD i 0 = 0 := by
  rw [List.getD_eq_getElem?_getD, List.getElem?_replicate]
  by_cases h : i < n <;> simp [h]
theorem pinit_ok (n : Nat) : PgOk n (pinit n) := ⟨by simp [pinit], by simp [pinit], by simp [pinit], fun i => by
  unfold pinit
  rw [rep_getD]
  omega⟩
theorem set_getD (l : List Int) (i j : Nat) (x : Int) : (l.set i x).getD j 0 = if i = j ∧ j < l.length then x else l.getD j 0 := by
  by_cases h : j < l.length
  · rw [get_set h]
    by_cases e : i = j
    · rw [if_pos e, if_pos ⟨e, h⟩]
    · rw [if_neg e, if_neg (fun z => e z.1)]
  · rw [if_neg (fun z => h z.2), List.getD_eq_getElem?_getD, List.getD_eq_getElem?_getD, List.getElem?_eq_none (by rw [List.length_set]; omega), List.getElem?_eq_none (by omega)]
theorem pstep_ok {n : Nat} {x : Pg} (c : Cmd) (h : PgOk n x) : PgOk n (pstep x c) ∧ ∀ i, x.d.getD i 0 ≤ (pstep x c).d.getD i 0 ∧ x.s.getD i 0 ≤ (pstep x c).s.getD i 0 := by
  obtain ⟨h1, h2, h3, h4⟩ := h
  cases c with
  | store l w m =>
    have g : ∀ i, x.d.getD i 0 ≤ (x.d.set l.toNat (x.d.getD l.toNat 0 + 1)).getD i 0 := fun i => by
      rw [set_getD]
      by_cases e : l.toNat = i ∧ i < x.d.length
      · rw [if_pos e, e.1]
        omega
      · rw [if_neg e]
        exact Int.le_refl _
    exact ⟨⟨by simpa [pstep] using h1, h2, h3, fun i => ⟨(h4 i).1, (h4 i).2.1, Int.le_trans (h4 i).2.2 (g i)⟩⟩, fun i => ⟨g i, Int.le_refl _⟩⟩
  | flush l =>
    refine ⟨⟨h1, by simpa [pstep] using h2, h3, fun i => ?_⟩, fun i => ⟨Int.le_refl _, Int.le_refl _⟩⟩
    show 0 ≤ x.s.getD i 0 ∧ x.s.getD i 0 ≤ (x.f.set l.toNat (x.d.getD l.toNat 0)).getD i 0 ∧ (x.f.set l.toNat (x.d.getD l.toNat 0)).getD i 0 ≤ x.d.getD i 0
    have := h4 i
    rw [set_getD]
    by_cases e : l.toNat = i ∧ i < x.f.length
    · rw [if_pos e, e.1]
      omega
    · rw [if_neg e]
      exact this
  | fence =>
    refine ⟨⟨h1, h2, h2, fun i => ?_⟩, fun i => ⟨Int.le_refl _, (h4 i).2.1⟩⟩
    show 0 ≤ x.f.getD i 0 ∧ x.f.getD i 0 ≤ x.f.getD i 0 ∧ x.f.getD i 0 ≤ x.d.getD i 0
    have := h4 i
    omega
/-- the state ahead of the command t -/
def pat (n : Nat) (cs : List Cmd) (t : Nat) : Pg := prun n (cs.take t)
theorem pat_succ {n : Nat} {cs : List Cmd} {t : Nat} {c : Cmd} (h : cs[t]? = some c) : pat n cs (t + 1) = pstep (pat n cs t) c := by
  unfold pat
  rw [take_snoc h, prun_snoc]
theorem pat_ok (n : Nat) (cs : List Cmd) : ∀ t, PgOk n (pat n cs t)
  | 0 => by
    show PgOk n (prun n (cs.take 0))
    rw [List.take_zero]
    exact pinit_ok n
  | t + 1 => by
    by_cases h : t < cs.length
    · rw [pat_succ (List.getElem?_eq_getElem h)]
      exact (pstep_ok _ (pat_ok n cs t)).1
    · have e : pat n cs (t + 1) = pat n cs t := by
        unfold pat
        rw [List.take_of_length_le (by omega), List.take_of_length_le (by omega)]
      rw [e]
      exact pat_ok n cs t
theorem pat_step (n : Nat) (cs : List Cmd) (t i : Nat) : (pat n cs t).d.getD i 0 ≤ (pat n cs (t + 1)).d.getD i 0 ∧ (pat n cs t).s.getD i 0 ≤ (pat n cs (t + 1)).s.getD i 0 := by
  by_cases h : t < cs.length
  · rw [pat_succ (List.getElem?_eq_getElem h)]
    exact (pstep_ok _ (pat_ok n cs t)).2 i
  · have e : pat n cs (t + 1) = pat n cs t := by
      unfold pat
      rw [List.take_of_length_le (by omega), List.take_of_length_le (by omega)]
    rw [e]
    exact ⟨Int.le_refl _, Int.le_refl _⟩
theorem pat_mono (n : Nat) (cs : List Cmd) (i : Nat) {t u : Nat} (h : t ≤ u) : (pat n cs t).d.getD i 0 ≤ (pat n cs u).d.getD i 0 ∧ (pat n cs t).s.getD i 0 ≤ (pat n cs u).s.getD i 0 := by
  obtain ⟨k, rfl⟩ := Nat.le.dest h
  induction k with
  | zero => exact ⟨Int.le_refl _, Int.le_refl _⟩
  | succ k ih =>
    have a := ih (Nat.le_add_right _ _)
    have b := pat_step n cs (t + k) i
    exact ⟨Int.le_trans a.1 b.1, Int.le_trans a.2 b.2⟩
/-! ### the times of an image -/
/-- a cut at the time t can leave the image -/
def canB (n : Nat) (cs : List Cmd) (xs : List Int) (t : Nat) : Bool := isBtw xs (pat n cs t).s (pat n cs t).d
theorem canB_iff {n : Nat} {cs : List Cmd} {xs : List Int} {t : Nat} : canB n cs xs t = true ↔ xs.length = n ∧ ∀ i, i < n → (pat n cs t).s.getD i 0 ≤ xs.getD i 0 ∧ xs.getD i 0 ≤ (pat n cs t).d.getD i 0 := by
  unfold canB
  rw [isBtw_iff]
  have o := pat_ok n cs t
  rw [o.s, o.d]
  constructor
  · rintro ⟨h1, _, h3⟩
    exact ⟨h1, fun i hi => h3 i (by omega)⟩
  · rintro ⟨h1, h3⟩
    exact ⟨h1, h1, fun i hi => h3 i (by omega)⟩
theorem can_mid {n : Nat} {cs : List Cmd} {xs : List Int} {t u v : Nat} (h1 : t ≤ u) (h2 : u ≤ v) (a : canB n cs xs t = true) (b : canB n cs xs v = true) : canB n cs xs u = true := by
  rw [canB_iff] at *
  refine ⟨a.1, fun i hi => ?_⟩
  have x := (pat_mono n cs i h2).2
  have y := (pat_mono n cs i h1).1
  have p := a.2 i hi
  have q := b.2 i hi
  omega
def timesOf (n : Nat) (cs : List Cmd) (xs : List Int) (m : Nat) : List Nat := (List.range m).filter (canB n cs xs)
theorem times_succ (n : Nat) (cs : List Cmd) (xs : List Int) (m : Nat) : timesOf n cs xs (m + 1) = if canB n cs xs m then timesOf n cs xs m ++ [m] else timesOf n cs xs m := by
  unfold timesOf
  rw [List.range_succ, List.filter_append]
  by_cases h : canB n cs xs m = true
  · rw [if_pos h]
    simp [h]
  · rw [if_neg h]
    simp [h]
theorem times_line (n : Nat) (cs : List Cmd) (xs : List Int) : ∀ m, ∃ a k, timesOf n cs xs m = List.range' a k ∧ (0 < k → a + k ≤ m)
  | 0 => ⟨0, 0, rfl, fun h => absurd h (Nat.lt_irrefl 0)⟩
  | m + 1 => by
    obtain ⟨a, k, e, hk⟩ := times_line n cs xs m
    rw [times_succ]
    by_cases h : canB n cs xs m = true
    · rw [if_pos h]
      cases k with
      | zero => exact ⟨m, 1, by rw [e]; rfl, fun _ => Nat.le_refl _⟩
      | succ k =>
        have h0 := hk (Nat.succ_pos _)
        have mem : ∀ t, t ∈ timesOf n cs xs m ↔ t < m ∧ canB n cs xs t = true := fun t => by
          unfold timesOf
          rw [List.mem_filter, List.mem_range]
        have last : canB n cs xs (a + k) = true := by
          have : a + k ∈ timesOf n cs xs m := by rw [e, List.mem_range'_1]; omega
          exact ((mem _).mp this).2
        have em : a + (k + 1) = m := by
          apply Decidable.byContradiction
          intro ne
          have c1 : canB n cs xs (a + (k + 1)) = true := can_mid (by omega) (by omega) last h
          have : a + (k + 1) ∈ timesOf n cs xs m := (mem _).mpr ⟨by omega, c1⟩
          rw [e, List.mem_range'_1] at this
          omega
        refine ⟨a, k + 2, ?_, fun _ => by omega⟩
        rw [e]
        have c := List.range'_concat (step := 1) (s := a) (n := k + 1)
        rw [Nat.one_mul, em] at c
        exact c.symm
    · rw [if_neg h]
      exact ⟨a, k, e, fun z => by have := hk z; omega⟩
/-! ### boxes -/
structure Bx where
  t : Int
  lo : List Int
  hi : List Int
def bxAt (n : Nat) (cs : List Cmd) (i : Nat) : Option Bx := match cs[i]? with
  | some (.store l _ _) => some ⟨(i : Int) + 1, (pat n cs (i + 1)).s.set l.toNat ((pat n cs (i + 1)).d.getD l.toNat 0), (pat n cs (i + 1)).d⟩
  | _ => none
def bxTo (n : Nat) (cs : List Cmd) (i : Nat) : List Bx := ⟨0, List.replicate n 0, List.replicate n 0⟩ :: (List.range i).filterMap (bxAt n cs)
theorem bxTo_succ (n : Nat) (cs : List Cmd) (i : Nat) : bxTo n cs (i + 1) = match bxAt n cs i with
  | some b => bxTo n cs i ++ [b]
  | none => bxTo n cs i := by
  unfold bxTo
  rw [List.range_succ, List.filterMap_append]
  cases h : bxAt n cs i with
  | none => simp [h]
  | some b => simp [h]
def inB (b : Bx) (xs : List Int) : Bool := isBtw xs b.lo b.hi
theorem valid_line {ns : List Int} {cs : List Cmd} (v : Valid ns cs) {i : Nat} {l w m : Int} (h : cs[i]? = some (.store l w m)) : 0 ≤ l ∧ l < ns.length := store_line (v _ (List.mem_of_getElem? h))
/-- some box has the image exactly if some time can leave it -/
theorem box_times {ns : List Int} {cs : List Cmd} {xs : List Int} (v : Valid ns cs) (pos : ∀ i, 0 ≤ xs.getD i 0) : (∃ b ∈ bxTo ns.length cs cs.length, inB b xs = true) ↔ ∃ t, t < cs.length + 1 ∧ canB ns.length cs xs t = true := by
  constructor
  · rintro ⟨b, hb, hin⟩
    have hin2 : xs.length = b.lo.length ∧ xs.length = b.hi.length ∧ ∀ i, i < xs.length → b.lo.getD i 0 ≤ xs.getD i 0 ∧ xs.getD i 0 ≤ b.hi.getD i 0 := isBtw_iff.mp hin
    unfold bxTo at hb
    rcases List.mem_cons.mp hb with rfl | hb
    · refine ⟨0, Nat.succ_pos _, canB_iff.mpr ⟨by simpa using hin2.1, fun i hi => ?_⟩⟩
      have := hin2.2.2 i (by have := hin2.1; simp at this; omega)
      rw [rep_getD] at this
      have e : pat ns.length cs 0 = pinit ns.length := by
        unfold pat
        rw [List.take_zero]
        rfl
      rw [e]
      show (List.replicate ns.length (0 : Int)).getD i 0 ≤ _ ∧ _ ≤ (List.replicate ns.length (0 : Int)).getD i 0
      rw [rep_getD]
      exact this
    · obtain ⟨i, hi, hb⟩ := List.mem_filterMap.mp hb
      rw [List.mem_range] at hi
      unfold bxAt at hb
      have o := pat_ok ns.length cs (i + 1)
      cases hc : cs[i]? with
      | none => rw [hc] at hb; cases hb
      | some c =>
        rw [hc] at hb
        cases c with
        | flush l => cases hb
        | fence => cases hb
        | store l w m =>
          cases hb
          refine ⟨i + 1, by omega, canB_iff.mpr ⟨by have := hin2.2.1; rw [o.d] at this; exact this, fun j hj => ?_⟩⟩
          have hl : xs.length = ns.length := by have := hin2.2.1; rw [o.d] at this; exact this
          have q := hin2.2.2 j (by omega)
          refine ⟨?_, q.2⟩
          have q1 := q.1
          rw [set_getD] at q1
          by_cases e : l.toNat = j ∧ j < (pat ns.length cs (i + 1)).s.length
          · rw [if_pos e, e.1] at q1
            have := o.ord j
            omega
          · rw [if_neg e] at q1
            exact q1
  · rintro ⟨t, ht, hc⟩
    rw [canB_iff] at hc
    -- the first time at which the image is made
    have key : ∀ u, (∀ i, i < ns.length → xs.getD i 0 ≤ (pat ns.length cs u).d.getD i 0) → u ≤ t → ∃ b ∈ bxTo ns.length cs cs.length, inB b xs = true := by
      intro u
      induction u with
      | zero =>
        intro hm _
        refine ⟨_, List.mem_cons_self, isBtw_iff.mpr ⟨by simpa using hc.1, by simpa using hc.1, fun i hi => ?_⟩⟩
        have := hm i (by omega)
        have e : pat ns.length cs 0 = pinit ns.length := by
          unfold pat
          rw [List.take_zero]
          rfl
        rw [e] at this
        have this : xs.getD i 0 ≤ (List.replicate ns.length (0 : Int)).getD i 0 := this
        rw [rep_getD] at this
        show (List.replicate ns.length (0 : Int)).getD i 0 ≤ _ ∧ _ ≤ (List.replicate ns.length (0 : Int)).getD i 0
        rw [rep_getD]
        exact ⟨pos i, this⟩
      | succ u ih =>
        intro hm hu
        by_cases hp : ∀ i, i < ns.length → xs.getD i 0 ≤ (pat ns.length cs u).d.getD i 0
        · exact ih hp (by omega)
        · have hlt : u < cs.length := by omega
          have hcu := List.getElem?_eq_getElem hlt
          generalize cs[u] = c at hcu
          have step := pat_succ (n := ns.length) hcu
          cases c with
          | flush l =>
            rw [step] at hm
            exact absurd hm hp
          | fence =>
            rw [step] at hm
            exact absurd hm hp
          | store l w m =>
            have hl := valid_line v hcu
            have o := pat_ok ns.length cs (u + 1)
            have o0 := pat_ok ns.length cs u
            refine ⟨⟨(u : Int) + 1, (pat ns.length cs (u + 1)).s.set l.toNat ((pat ns.length cs (u + 1)).d.getD l.toNat 0), (pat ns.length cs (u + 1)).d⟩, List.mem_cons_of_mem _ (List.mem_filterMap.mpr ⟨u, List.mem_range.mpr hlt, by unfold bxAt; rw [hcu]⟩), isBtw_iff.mpr ⟨?_, ?_, fun j hj => ?_⟩⟩
            · rw [List.length_set, o.s]
              exact hc.1
            · rw [o.d]
              exact hc.1
            · have hj2 : j < ns.length := by have := hc.1; omega
              refine ⟨?_, hm j hj2⟩
              show ((pat ns.length cs (u + 1)).s.set l.toNat _).getD j 0 ≤ _
              rw [set_getD]
              by_cases e : l.toNat = j ∧ j < (pat ns.length cs (u + 1)).s.length
              · rw [if_pos e, e.1]
                -- only this line was stored, so the image has its latest store
                apply Decidable.byContradiction
                intro lt
                refine hp fun i hi => ?_
                have a := hm i hi
                rw [step] at a
                have a : xs.getD i 0 ≤ ((pat ns.length cs u).d.set l.toNat ((pat ns.length cs u).d.getD l.toNat 0 + 1)).getD i 0 := a
                rw [set_getD] at a
                by_cases ei : l.toNat = i ∧ i < (pat ns.length cs u).d.length
                · rw [if_pos ei] at a
                  have eij : i = j := by rw [← ei.1, e.1]
                  subst eij
                  have b : ¬ (pat ns.length cs (u + 1)).d.getD i 0 ≤ xs.getD i 0 := lt
                  rw [step] at b
                  have b : ¬ ((pat ns.length cs u).d.set l.toNat ((pat ns.length cs u).d.getD l.toNat 0 + 1)).getD i 0 ≤ xs.getD i 0 := b
                  rw [set_getD, if_pos ei] at b
                  rw [e.1] at b
                  omega
                · rw [if_neg ei] at a
                  exact a
              · rw [if_neg e]
                have x := (pat_mono ns.length cs j hu).2
                have y := (hc.2 j hj2).1
                omega
    exact key t (fun i hi => (hc.2 i hi).2) (Nat.le_refl _)
/-! ### sizes and places -/
def sizeF : List Int → List Int → Int → Int
  | l :: ls, h :: hs, a => sizeF ls hs (a * (h - l + 1))
  | _, _, a => a
def sizeB (b : Bx) : Int := sizeF b.lo b.hi 1
def placeF : List Int → List Int → List Int → Int → Int
  | l :: ls, x :: xs, h :: hs, a => placeF ls xs hs (a * (h - l + 1) + x - l)
  | _, _, _, a => a
def placeB (b : Bx) (xs : List Int) : Int := placeF b.lo xs b.hi 0
def placeO : List Bx → List Int → Int → Option Int
  | [], _, _ => none
  | b :: r, xs, a => if inB b xs then some (a + placeB b xs) else placeO r xs (a + sizeB b)
theorem placeO_none : ∀ {bs : List Bx} {xs : List Int} {a : Int}, placeO bs xs a = none ↔ ∀ b ∈ bs, inB b xs = false
  | [], xs, a => by simp [placeO]
  | b :: r, xs, a => by
    unfold placeO
    by_cases h : inB b xs = true
    · rw [if_pos h]
      simp [h]
    · rw [if_neg h, placeO_none]
      have h' : inB b xs = false := by simpa using h
      simp [h']
theorem btw_ne1 {xs ls hs : List Int} (h : xs.length ≠ ls.length) : isBtw xs ls hs = false := by
  unfold isBtw
  rw [decide_eq_false h]
  rfl
theorem btw_ne2 {xs ls hs : List Int} (h : xs.length ≠ hs.length) : isBtw xs ls hs = false := by
  unfold isBtw
  rw [decide_eq_false h, Bool.false_and, Bool.and_false]
theorem btw_snoc : ∀ {ls xs hs : List Int} {l x h : Int}, ls.length = xs.length → hs.length = xs.length → btw (ls ++ [l]) (xs ++ [x]) (hs ++ [h]) = (btw ls xs hs && (decide (l ≤ x) && decide (x ≤ h)))
  | [], [], [], l, x, h, _, _ => by simp [btw]
  | a :: ls, b :: xs, c :: hs, l, x, h, e1, e2 => by
    have ih := btw_snoc (ls := ls) (xs := xs) (hs := hs) (l := l) (x := x) (h := h) (by simpa using e1) (by simpa using e2)
    show ((decide (a ≤ b) && decide (b ≤ c)) && btw (ls ++ [l]) (xs ++ [x]) (hs ++ [h])) = _
    rw [ih, ← Bool.and_assoc]
    rfl
  | [], b :: xs, _, _, _, _, e1, _ => by simp at e1
  | a :: ls, [], _, _, _, _, e1, _ => by simp at e1
  | [], [], c :: hs, _, _, _, _, e2 => by simp at e2
  | a :: ls, b :: xs, [], _, _, _, _, e2 => by simp at e2
theorem at_int {ns : List Int} {i : Nat} {x : V} (h : (ns.map V.int)[i]? = some x) : ∃ n, ns[i]? = some n ∧ x = .int n := by
  rw [List.getElem?_map] at h
  obtain ⟨n, h1, h2⟩ := Option.map_eq_some_iff.mp h
  exact ⟨n, h1, h2.symm⟩
theorem nd_true {x y : V} (h : x ≠ y) : (!decide (x = y)) = true := by
  rw [decide_eq_false h]
  rfl
theorem nd_not {x : V} : ¬ (!decide (x = x)) = true := by
  rw [decide_eq_true rfl]
  decide
theorem rows_at {n : Nat} {cs : List Cmd} {t m : Nat} (h : t < m) : (rowsOf n cs m)[t]? = some (pat n cs t) := by
  unfold rowsOf
  rw [List.getElem?_map, List.getElem?_range h]
  rfl
theorem end_at {xs : List V} {j : Nat} {v : V} (h : xs.length = j + 1) (e : xs[j]? = some v) : atI xs (-1) = some v := by
  unfold atI ixN
  rw [if_neg (by decide), if_pos (by omega)]
  show xs[((-1 : Int) + (xs.length : Int)).toNat]? = some v
  rw [show ((-1 : Int) + (xs.length : Int)).toNat = j by omega]
  exact e
theorem zeros_map : ∀ n : Nat, (List.replicate n [V.int 0]).flatten = (List.replicate n (0 : Int)).map V.int
  | 0 => rfl
  | n + 1 => by
    rw [List.replicate_succ, List.replicate_succ, List.flatten_cons, List.map_cons, zeros_map n]
    rfl
/-- an image of the program: as many stores of each line as there are, at most -/
def isImg (n : Nat) (cs : List Cmd) (xs : List Int) : Bool := isBtw xs (List.replicate n 0) (prun n cs).d
theorem pat_end (n : Nat) (cs : List Cmd) : pat n cs cs.length = prun n cs := by
  unfold pat
  rw [List.take_length]
end Q

namespace Q
open PySem
/-! ### enumerate of a list or a tuple -/
theorem SqR.by {b : Bool} {h h' : Heap} {l : Addr} {xs : Array Value} (x : SqR b h l xs) (e : ∀ o, h.get? l = some o → h'.get? l = some o) : SqR b h' l xs := by
  cases b with
  | true => obtain ⟨o, h1, r⟩ := x; exact ⟨o, e _ h1, r⟩
  | false => obtain ⟨o, h1, r⟩ := x; exact ⟨o, e _ h1, r⟩
theorem draws_sq {prog : Program} {w : World} {A : Around} (hh : A.handled = none) (b : Bool) (it l : Addr) (ne : l ≠ it) (xs : Array Value) :
    Draws prog w A it [it, l] xs.size (fun i v => xs[i]? = some v) (fun i h => ItR b h it l i ∧ SqR b h l xs) where
  live := fun _ _ z => let ⟨o, ho, _⟩ := z.1.obj; ⟨o, ho⟩
  frame := fun _ _ _ z k => ⟨z.1.by fun o e => k it (by simp) o e, z.2.by fun o e => k l (by simp) o e⟩
  item := fun i s Q E hi z q => next_it z.1 z.2 (x := xs[i]) (by simp [hi]) fun h' k hs => q _ h' s.toks (by simp [hi]) ⟨k, z.2.eb hs.extBut ne⟩ hs
  done := fun s Q E z q => next_no hh z.1 z.2 (by simp) q
theorem meets_enumB (b : Bool) (l : Addr) (xs : Array Value) :
    Meets (Builtin.«enumerate.__new__» ⟨[.type "enumerate", .ref l], []⟩) (fun _ R s => SqR b s.heap l xs ∧
      R (.ok (.ret (.ref (H1 s.heap b l).objs.size))) { s with heap := (H1 s.heap b l).push { cls := .type "enumerate", data := .fields #[.none, .bool false, .ref s.heap.objs.size, rawInt 0, .none, .none] } }) :=
  .of_wp fun prog w A R s h => by
    obtain ⟨hp, g, d, tk, os⟩ := s; obtain ⟨q1, h⟩ := h
    have hs := sub_enumerate
    have r1 : SqR b (Shared.heap ⟨hp, g, d, tk, os⟩) l xs := q1
    wp_walk using iter_sq r1
    refine wpAny_stack_any fun st => wpAny_pure ?_
    split
    · rename_i c _ _ _ _ _
      cases (c == Value.type "enumerate") <;> (wp_walk using iter_sq r1; exact ⟨_, rfl, h⟩)
    · wp_walk using iter_sq r1; exact ⟨_, rfl, h⟩
theorem call_enumB {prog : Program} {w : World} {A : Around} {E : Value → Shared → Prop} {s : Shared} {b : Bool} {l : Addr} {xs : Array Value} {Q : Value → Shared → Prop} (q1 : SqR b s.heap l xs)
    (q : ∀ h', IsEnum h' (s.heap.objs.size + 1) s.heap.objs.size 0 .none → ItR b h' s.heap.objs.size l 0 → (∀ c o, s.heap.get? c = some o → h'.get? c = some o) → Q (.ref (s.heap.objs.size + 1)) { s with heap := h' }) :
    wpAny (model prog w) A (call (.type "enumerate") [.ref l]) Q E s := by
  refine callType_new F.called_enumerate (by decide) (F.typeCall_enumerate_1 _) (F.newCall_enumerate_1 _) (fun obj => F.args_object_init_2 obj _) F.entry_enumerate_new (meets_enumB b l xs) ⟨q1, ?_⟩
  have z1 : (H1 s.heap b l).objs.size = s.heap.objs.size + 1 := Heap.size_push ..
  have up : ∀ {h : Heap} {c : Addr} {o o' : Obj}, h.get? c = some o → (h.push o').get? c = some o := fun e => Heap.get?_push_of_some _ e
  have g2 := Heap.get?_push_size (H1 s.heap b l) (o := { cls := .type "enumerate", data := .fields #[.none, .bool false, .ref s.heap.objs.size, rawInt 0, .none, .none] }) rfl
  have g1 : ((H1 s.heap b l).push { cls := .type "enumerate", data := .fields #[.none, .bool false, .ref s.heap.objs.size, rawInt 0, .none, .none] }).get? s.heap.objs.size = some (itO b l) := up (Heap.get?_push_size _ (by cases b <;> rfl))
  rw [z1] at g2
  show _ ∧ _
  rw [z1]
  exact ⟨⟨_, g2, rfl⟩, q _ g2 (itO_at g1) fun c o e => up (up e)⟩
end Q
namespace Q
open PySem PySem.Spec PyProof.Rows L2 LamX
def ItN (K : PySem.W.Frag) (b : Bool) (a : Addr) : It :=
  ⟨fun i H => ∃ (xs : List V) (x : V), Sq b K H a xs ∧ xs[i]? = some x, fun i H v H' => ∃ T x, v = .ref T ∧ H T = none ∧ H' = upd H T (.tup [.int (i : Nat), x]) ∧ ∀ xs, Sq b K H a xs → xs[i]? = some x, fun i H => ∃ xs : List V, Sq b K H a xs ∧ xs.length = i⟩
theorem turn_enumB {P : Program} {w : World} {K : PySem.W.Frag} {elts : List Expr} {kk : Nat} {tpos : Pos} {b : Bool} (a n : Nat) (lt : a < n) :
    Turn P w K (.Tuple elts kk tpos) (ItN K b a) [n + 1, n] (n + 1) (fun i h => (∃ old, IsEnum h (n + 1) n ((i : Nat) : Int) old) ∧ ItR b h n a i) where
  mem := by simp
  obj := fun i h st c hc => by
    obtain ⟨⟨old, he⟩, j⟩ := st
    have e' : c = n + 1 ∨ c = n := by simpa using hc
    rcases e' with z | z
    · rw [z]; exact ⟨_, he, fun v q => nomatch q⟩
    · rw [z]; exact j.obj
  keep := fun i h h' st k => let ⟨⟨old, he⟩, j⟩ := st; ⟨⟨old, k _ (by simp) _ he⟩, j.by fun o q => k n (by simp) o q⟩
  item := by
    intro X hP hw hK hc i pins s σ H E I hf st hg
    subst hP hw hK
    obtain ⟨⟨old, he⟩, j⟩ := st
    obtain ⟨xs, x, hq, hx⟩ := hg
    obtain ⟨its, rv, p, _⟩ := sqr_of I hq
    obtain ⟨u, hu, ru⟩ := rv.get hx
    have hel : n + 1 < s.heap.objs.size := Heap.lt_size he
    have hin : X.A.in1.handled = none := I.ok.hd hc
    have hlen : i < its.toArray.size := by
      have := (List.getElem?_eq_some_iff.mp hu).1
      simpa using this
    refine wpAny_pyNext_enum_itemD (draws_sq hin b n a (neA (.inl lt)) its.toArray) he ⟨j, p⟩ hlen (neA (by omega)) (by simp; exact neA (.inr (by omega))) fun y h' tk hy ho hst' hT hsz hk => ?_
    have ey : y = u := by
      rw [show its.toArray[i]? = some u by simpa using hu] at hy
      exact (Option.some.inj hy).symm
    subst ey
    refine ⟨_, rfl, wpAny_letOwnedTupleGo_enum (s := { s with heap := h', toks := tk + 1 }) ho fun h'' he' sb => ?_⟩
    have hT2 : h''.get? s.heap.objs.size = some { cls := .type "tuple", data := .seq #[.int i tk, y] } := (sb.2 _ (neA (.inr hel))).trans hT
    have new : ObjOk X.prog X.w (upd H s.heap.objs.size (.tup [.int (i : Nat), x])) h'' s.heap.objs.size (.tup [.int (i : Nat), x]) :=
      ⟨by show 2 ≤ sizeLine; decide, [.int i tk, y], .cons ⟨_, rfl⟩ (.cons ru .nil), ⟨_, hT2, rfl, _, rfl⟩⟩
    have I1 : Inv X pins σ (upd H s.heap.objs.size (.tup [.int (i : Nat), x])) { s with heap := h'', toks := tk + 1 } :=
      I.turnedNew (ch := [n + 1, n]) (fun c ob hb q => (sb.2 c (fun z => hb (by simp [z]))).trans (hk c ob (fun z => hb (by simp [z])) (fun z => hb (by simp [z])) q)) hf (Nat.le_refl _) new
    refine ⟨.ref s.heap.objs.size, _, I1, rfl, ⟨_, x, rfl, I.hok.fresh (Nat.le_refl _), rfl, fun ys hy => by rw [sq_inj I hy hq]; exact hx⟩, ⟨⟨y, ?_⟩, hst'.1.by fun o q => (sb.2 n (neA (by omega))).trans q⟩, fun c hcm => ?_⟩
    · have e1 : ((i + 1 : Nat) : Int) = (i : Int) + 1 := by omega
      rw [e1]
      exact he'
    · have hlt : (c : Nat) < s.heap.objs.size := by
        have e' : c = n + 1 ∨ c = n := by simpa using hcm
        rcases e' with z | z
        · rw [z]; exact hel
        · rw [z]; exact Nat.lt_of_le_of_lt (Nat.le_add_right n 1) hel
      rw [upd_ne (Nat.ne_of_lt hlt)]
      exact (hf c hcm).1
  done := by
    intro X hP hw hK hc i pins s σ H E I hf st hg
    subst hP hw hK
    obtain ⟨⟨old, he⟩, j⟩ := st
    obtain ⟨xs, hq, hx⟩ := hg
    obtain ⟨its, rv, p, _⟩ := sqr_of I hq
    obtain ⟨f0, f1, f2, f3, f4, f5⟩ := hf n (by simp)
    have hl := rv.length
    have hin : X.A.in1.handled = none := I.ok.hd hc
    have ei : i = its.toArray.size := by simp; omega
    subst ei
    exact wpAny_pyNext_enum_endD (draws_sq hin b n a (neA (.inl lt)) its.toArray) he ⟨j, p⟩ fun h' eb => ⟨rfl, I.turned (t' := s.toks) (fun c o hb q => eb c o hb q) f0 f1 f3 f4 f5⟩
  self := fun A i s Q E st h => let ⟨⟨_, he⟩, _⟩ := st; wpAny_pyIter_enum he h
def iEnB (K : PySem.W.Frag) (b : Bool) (ta : TA) : TI := fun σ H R => ta σ H fun vs G => ∃ a xs, vs = [.ref a] ∧ Sq b K G a xs ∧ R (ItN K b a) G
theorem pi_enB {X : Cx} (b : Bool) {e : Expr} {ta : TA} {p pos tpos : Pos} {elts : List Expr} {kk : Nat} (hg : Gl X "enumerate") (hm : X.mg "enumerate" = none) (ha : PA X [e] ta) (hs : starEach [e] X.env = [(false, eval e X.env)] := by rfl) :
    PI X (.Tuple elts kk tpos) (.Call (.Name "enumerate" p) [e] [] pos) (iEnB X.K b ta) := by
  refine ⟨fun pins s σ H R I h => ?_⟩
  refine Call_ (ld_blt I hg hm boot_enumerate (PyProof.Rows.callWith_type1 (thn (ha.run pos pins s σ H _ I h) fun us s1 hh => ?_) hs rfl))
  obtain ⟨vs, G, I1, r1, a, xs, ex, hq, q⟩ := hh
  subst ex
  cases r1 with
  | cons r rr =>
    cases rr
    cases r
    obtain ⟨its, rv, p', lt⟩ := sqr_of I1 hq
    refine call_enumB p' fun h' he hit hk => wpAny_pyIter_enum he ?_
    have I2 : Inv X pins σ G { s1 with heap := h' } := I1.kept (t' := s1.toks) hk
    refine ⟨s1.heap.objs.size + 1, [s1.heap.objs.size + 1, s1.heap.objs.size], _, _, G, rfl, I2, turn_enumB a s1.heap.objs.size lt, ⟨⟨.none, he⟩, hit⟩, fun c hc => ?_, q⟩
    have hle : s1.heap.objs.size ≤ c := by
      have e' : c = s1.heap.objs.size + 1 ∨ c = s1.heap.objs.size := by simpa using hc
      rcases e' with z | z <;> (rw [z]; first | exact Nat.le_add_right _ _ | exact Nat.le_refl _)
    exact I1.fpOk hle (I1.hok.fresh hle)
theorem walk_enB {K : PySem.W.Frag} {b : Bool} {a : Addr} {xs : List V} : Walk (ItN K b a) xs.length (fun H => Sq b K H a xs) (YPair (fun i => some (.int (i : Nat))) (fun i => xs[i]?)) :=
  ⟨fun i _ hi q => ⟨xs, xs[i], q, List.getElem?_eq_getElem hi⟩, fun _ q => ⟨xs, q, rfl⟩, fun i H v H' _ q y => by
    obtain ⟨T, x, h1, h2, h3, h4⟩ := y
    exact ⟨T, .int (i : Nat), x, h1, h2, h3, rfl, h4 xs q⟩⟩
/-- three items in a new tuple -/
def Y3 (xs ys zs : List V) : Nat → Hp → V → Hp → Prop := fun i H v H' => ∃ T x y z, v = .ref T ∧ H T = none ∧ H' = upd H T (.tup [x, y, z]) ∧ xs[i]? = some x ∧ ys[i]? = some y ∧ zs[i]? = some z
theorem walk_zip3 {K : PySem.W.Frag} {b1 b2 b3 : Bool} {a1 a2 a3 : Addr} {xs ys zs : List V} (e1 : ys.length = xs.length) (e2 : zs.length = xs.length) :
    Walk (It3 K b1 b2 b3 a1 a2 a3) xs.length (fun H => Sq b1 K H a1 xs ∧ Sq b2 K H a2 ys ∧ Sq b3 K H a3 zs) (Y3 xs ys zs) :=
  ⟨fun i _ hi q => ⟨xs, ys, zs, _, _, _, q.1, q.2.1, q.2.2, List.getElem?_eq_getElem hi, List.getElem?_eq_getElem (by omega), List.getElem?_eq_getElem (by omega)⟩, fun _ q => ⟨xs, q.1, Nat.le_refl _⟩, fun i H v H' _ q y => by
    obtain ⟨T, x, y, z, h1, h2, h3, h4, h5, h6⟩ := y
    exact ⟨T, x, y, z, h1, h2, h3, h4 xs q.1, h5 ys q.2.1, h6 zs q.2.2⟩⟩
/-- zip of two tuples -/
theorem walk_zipT {K : PySem.W.Frag} {a b : Addr} {xs ys : List V} (e1 : ys.length = xs.length) : Walk (RZ.ItzT K a b) xs.length (fun H => SqT K H a xs ∧ SqT K H b ys) (YPair (fun i => xs[i]?) (fun i => ys[i]?)) :=
  ⟨fun i _ hi q => ⟨xs, ys, _, _, q.1, q.2, List.getElem?_eq_getElem hi, List.getElem?_eq_getElem (by omega)⟩, fun _ q => ⟨xs, ys, q.1, q.2, .inl (Nat.le_refl _)⟩, fun i H v H' _ q y => by
    obtain ⟨T, x, y, h1, h2, h3, h4, h5⟩ := y
    exact ⟨T, x, y, h1, h2, h3, h4 xs q.1, h5 ys q.2⟩⟩
end Q

/-! == of lists and of tuples item by item, with both answers, where the items' == may run code. -/
namespace GB
open PySem PySem.SeqAt
open AutoSeq1 (wpAny_loadPart')
open MeetsSeq MeetsSeq2 MeetsSeq3 SeqRoads2 GQ
/-- from place i on, k places left -/
def andAt (bs : Nat → Bool) : Nat → Nat → Bool
  | _, 0 => true
  | i, k + 1 => if bs i = true then andAt bs (i + 1) k else false
theorem andAt_succ {bs : Nat → Bool} {i k : Nat} : andAt bs i (k + 1) = if bs i = true then andAt bs (i + 1) k else false := rfl
section
variable {prog : Program} {w : World} {A : Around} {R : Result → Shared → Prop}
def ListB (prog : Program) (w : World) (A : Around) (E : Value → Shared → Prop) (l b : Addr) (N : Nat) (bs : Nat → Bool) (I : Shared → Prop) : Prop :=
  ∀ s, I s → ∃ (items items2 : Array Value) (n n2 : Nat) (dd dd2 : Option Addr) (sl sl2 : Array (Option Value)), s.heap.get? l = some { cls := .type "list", dict := dd, data := .seq items n, slots := sl } ∧ s.heap.get? b = some { cls := .type "list", dict := dd2, data := .seq items2 n2, slots := sl2 } ∧ items.size = N ∧ items2.size = N ∧
    ∀ i (h1 : i < items.size) (h2 : i < items2.size), wpAny (model prog w) A.in1 (eqBool items[i] items2[i]) (fun r s' => r = bs i ∧ I s') E s
theorem eq_loopB (l b : Addr) (N : Nat) (bs : Nat → Bool) (I : Shared → Prop) (hl : ListB prog w A (fun e s' => R (.error e) s') l b N bs I) (k : Nat) :
    ∀ i : Nat, N - i = k → i ≤ N → ∀ s, I s → (∀ s', I s' → R (.ok (.ret (.bool (andAt bs i k)))) s') →
      wpAny (model prog w) A.in1 (Builtin.«list.__eq__.loop» ⟨[.ref l, .ref b, rawInt i, rawInt 2], []⟩) (FinOf prog w A R) (fun e s' => R (.error e) s') s := by
  induction k with
  | zero =>
    intro i hk hi s h fin
    obtain ⟨items, items2, n, n2, dd, dd2, sl, sl2, hl1, hb1, hs1, hs2, _⟩ := hl _ h
    have hi' : i = N := by omega
    have hR : R (.ok (.ret (.bool true))) s := fin s h
    obtain ⟨hp, g, d, tk, os⟩ := s
    wp_walk using wpAny_loadPart' hl1, wpAny_loadPart' hb1
    have hi1 : items[((i : Nat) : Int).toNat]? = none := by simp; omega
    have hi2 : items2[((i : Nat) : Int).toNat]? = none := by simp; omega
    rw [hi1, hi2]
    wp_walk using wpAny_loadPart' hl1, wpAny_loadPart' hb1
    show R (.ok (.ret (.bool (items.size == items2.size)))) _
    rw [hs1, hs2]
    simpa using hR
  | succ k ih =>
    intro i hk hi s h fin
    obtain ⟨items, items2, n, n2, dd, dd2, sl, sl2, hl1, hb1, hs1, hs2, turn⟩ := hl _ h
    have hlt : i < items.size := by omega
    have hlt2 : i < items2.size := by omega
    have ht := turn i hlt hlt2
    obtain ⟨hp, g, d, tk, os⟩ := s
    wp_walk using wpAny_loadPart' hl1, wpAny_loadPart' hb1
    have hi1 : items[((i : Nat) : Int).toNat]? = some items[i] := by simp [hlt]
    have hi2 : items2[((i : Nat) : Int).toNat]? = some items2[i] := by simp [hlt2]
    have hc : ((i : Int) + 1) = ((i + 1 : Nat) : Int) := by omega
    rw [hi1, hi2]
    refine wpAny_bind (wpAny_mono ht (fun r s2 h2 => ?_) fun _ _ x => x)
    obtain ⟨hr, h2⟩ := h2
    cases hbi : bs i with
    | true =>
      rw [hbi] at hr
      subst hr
      have hrec := ih (i + 1) (by omega) (by omega) s2 h2 (fun s' hs' => by
        have := fin s' hs'
        unfold andAt at this
        rwa [if_pos hbi] at this)
      obtain ⟨hp2, g2, d2, tk2, os2⟩ := s2
      wp_walk
      rw [hc]
      exact ⟨plainId_quiet plain_eq_loop _, codeAny_builtin entry_eq_loop (by
        rw [Around.under_plainId plain_eq_loop _]
        exact hrec)⟩
    | false =>
      rw [hbi] at hr
      subst hr
      have hf := fin s2 h2
      unfold andAt at hf
      rw [if_neg (by rw [hbi]; exact Bool.false_ne_true)] at hf
      obtain ⟨items', items2', n', n2', dd', dd2', sl', sl2', hl1', hb1', hs1', hs2', _⟩ := hl _ h2
      obtain ⟨hp2, g2, d2, tk2, os2⟩ := s2
      have hlt' : i < items'.size := by omega
      have hlt2' : i < items2'.size := by omega
      wp_walk using wpAny_loadPart' hl1', wpAny_loadPart' hb1'
      have hj1 : items'[((i : Nat) : Int).toNat]? = some items'[i] := by simp [hlt']
      have hj2 : items2'[((i : Nat) : Int).toNat]? = some items2'[i] := by simp [hlt2']
      rw [hj1, hj2]
      wp_walk
      exact hf
theorem list_eqB (l b : Addr) (N : Nat) (bs : Nat → Bool) (I : Shared → Prop) (hl : ListB prog w A (fun e s' => R (.error e) s') l b N bs I)
    (fin : ∀ s, I s → R (.ok (.ret (.bool (andAt bs 0 N)))) s) {s : Shared} (h : I s) :
    wpAny (model prog w) A.in1 (Builtin.«list.__eq__» ⟨[.ref l, .ref b], []⟩) (FinOf prog w A R) (fun e s' => R (.error e) s') s := by
  obtain ⟨items, items2, n, n2, dd, dd2, sl, sl2, hl1, hb1, hs1, hs2, _⟩ := hl _ h
  have hrec := eq_loopB (A := A) (R := R) l b N bs I hl N 0 rfl (Nat.zero_le _) s h fin
  obtain ⟨hp, g, d, tk, os⟩ := s
  have f3 := AutoSeq1.sub_list_list
  have hne : ¬ (items.size != items2.size) = true := by simp [hs1, hs2]
  wp_walk using wpAny_loadPart' hl1, wpAny_loadPart' hb1
  exact ⟨plainId_quiet plain_eq_loop _, codeAny_builtin entry_eq_loop (by
    rw [Around.under_plainId plain_eq_loop _]
    exact hrec)⟩
theorem list_eqN (l b : Addr) (items items2 : Array Value) (n n2 : Nat) (dd dd2 : Option Addr) (sl sl2 : Array (Option Value)) (hsz : items.size ≠ items2.size) {s : Shared} (hl1 : s.heap.get? l = some { cls := .type "list", dict := dd, data := .seq items n, slots := sl }) (hb1 : s.heap.get? b = some { cls := .type "list", dict := dd2, data := .seq items2 n2, slots := sl2 })
    (fin : R (.ok (.ret (.bool false))) s) :
    wpAny (model prog w) A.in1 (Builtin.«list.__eq__» ⟨[.ref l, .ref b], []⟩) (FinOf prog w A R) (fun e s' => R (.error e) s') s := by
  obtain ⟨hp, g, d, tk, os⟩ := s
  have f3 := AutoSeq1.sub_list_list
  have hne : (items.size != items2.size) = true := by simpa using hsz
  wp_walk using wpAny_loadPart' hl1, wpAny_loadPart' hb1
  exact fin
theorem tuple_eqB (l b : Addr) (items items2 : Array Value) (n n2 : Nat) (dd dd2 : Option Addr) (sl sl2 : Array (Option Value)) (bs : Nat → Bool) (I : Shared → Prop)
    (turn : ∀ i (h1 : i < items.size) (h2 : i < items2.size) s, I s → wpAny (model prog w) A.in1 (eqBool items[i] items2[i]) (fun r s' => r = bs i ∧ I s') (fun e s' => R (.error e) s') s)
    (fin : ∀ s, I s → R (.ok (.ret (.bool (andAt bs 0 (min items.size items2.size) && items.size == items2.size)))) s) {s : Shared} (hl1 : s.heap.get? l = some { cls := .type "tuple", dict := dd, data := .seq items n, slots := sl }) (hb1 : s.heap.get? b = some { cls := .type "tuple", dict := dd2, data := .seq items2 n2, slots := sl2 }) (h : I s) :
    wpAny (model prog w) A.in1 (Builtin.«tuple.__eq__» ⟨[.ref l, .ref b], []⟩) (FinOf prog w A R) (fun e s' => R (.error e) s') s := by
  have f2 := AutoSeq1.sub_tuple_tuple
  have hZ : (items.toList.zip items2.toList).length = min items.size items2.size := by simp
  have h0 := h
  obtain ⟨hp, g, d, tk, os⟩ := s
  wp_walk using wpAny_loadPart' hl1, wpAny_loadPart' hb1, wpAny_forIn_list _ (fun rest b s' => b.1 = none ∧ I s' ∧ ∃ i, rest = (items.toList.zip items2.toList).drop i ∧ i ≤ min items.size items2.size ∧ andAt bs 0 (min items.size items2.size) = andAt bs i (min items.size items2.size - i)) _
  case turn =>
    rintro ⟨y, x⟩ rest b s' ⟨hb', hI, i, hz, hi, ha⟩
    have hlt : i < (items.toList.zip items2.toList).length := by
      rcases Nat.lt_or_ge i (items.toList.zip items2.toList).length with h' | h'
      · exact h'
      · rw [List.drop_of_length_le h'] at hz; cases hz
    have hm : i < min items.size items2.size := hZ ▸ hlt
    have h1 : i < items.size := Nat.lt_of_lt_of_le hm (Nat.min_le_left _ _)
    have h2 : i < items2.size := Nat.lt_of_lt_of_le hm (Nat.min_le_right _ _)
    rw [List.drop_eq_getElem_cons hlt] at hz
    injection hz with hyx hrest
    have hy : y = items[i] := by have := congrArg Prod.fst hyx; simpa using this
    have hx : x = items2[i] := by have := congrArg Prod.snd hyx; simpa using this
    subst hy hx
    rw [show min items.size items2.size - i = (min items.size items2.size - (i + 1)) + 1 by omega] at ha
    rw [andAt_succ] at ha
    refine wpAny_bind (wpAny_mono (turn i h1 h2 s' hI) (fun r s2 q2 => ?_) fun _ _ x => x)
    obtain ⟨hr, q2⟩ := q2
    cases hbi : bs i with
    | true =>
      rw [hbi] at hr
      subst hr
      rw [if_pos hbi] at ha
      wp_walk
      exact ⟨rfl, q2, i + 1, hrest, hm, ha⟩
    | false =>
      rw [hbi] at hr
      subst hr
      rw [if_neg (by rw [hbi]; exact Bool.false_ne_true)] at ha
      have hf := fin s2 q2
      rw [ha, Bool.false_and] at hf
      wp_walk
      exact hf
  case fin =>
    rintro ⟨b1, b2⟩ s' ⟨hb', hI, i, hz, hi, ha⟩
    simp only at hb'
    subst hb'
    have hge : min items.size items2.size ≤ i := by
      rcases Nat.lt_or_ge i (items.toList.zip items2.toList).length with h' | h'
      · rw [List.drop_eq_getElem_cons h'] at hz; cases hz
      · exact hZ ▸ h'
    have hi' : i = min items.size items2.size := by omega
    have hR := fin s' hI
    rw [ha, Nat.sub_eq_zero_of_le hge] at hR
    wp_walk
    simpa [Builtin.Tuple.tupleCompareSizes, andAt] using hR
  case h =>
    exact ⟨rfl, h0, 0, rfl, Nat.zero_le _, rfl⟩
theorem ne_loopB (l b : Addr) (N : Nat) (bs : Nat → Bool) (I : Shared → Prop) (hl : ListB prog w A (fun e s' => R (.error e) s') l b N bs I) (k : Nat) :
    ∀ i : Nat, N - i = k → i ≤ N → ∀ s, I s → (∀ s', I s' → R (.ok (.ret (.bool (!andAt bs i k)))) s') →
      wpAny (model prog w) A.in1 (Builtin.«list.__eq__.loop» ⟨[.ref l, .ref b, rawInt i, rawInt 3], []⟩) (FinOf prog w A R) (fun e s' => R (.error e) s') s := by
  induction k with
  | zero =>
    intro i hk hi s h fin
    obtain ⟨items, items2, n, n2, dd, dd2, sl, sl2, hl1, hb1, hs1, hs2, _⟩ := hl _ h
    have hi' : i = N := by omega
    have hR : R (.ok (.ret (.bool false))) s := fin s h
    obtain ⟨hp, g, d, tk, os⟩ := s
    wp_walk using wpAny_loadPart' hl1, wpAny_loadPart' hb1
    have hi1 : items[((i : Nat) : Int).toNat]? = none := by simp; omega
    have hi2 : items2[((i : Nat) : Int).toNat]? = none := by simp; omega
    rw [hi1, hi2]
    wp_walk using wpAny_loadPart' hl1, wpAny_loadPart' hb1
    show R (.ok (.ret (.bool (items.size != items2.size)))) _
    rw [hs1, hs2]
    simpa using hR
  | succ k ih =>
    intro i hk hi s h fin
    obtain ⟨items, items2, n, n2, dd, dd2, sl, sl2, hl1, hb1, hs1, hs2, turn⟩ := hl _ h
    have hlt : i < items.size := by omega
    have hlt2 : i < items2.size := by omega
    have ht := turn i hlt hlt2
    obtain ⟨hp, g, d, tk, os⟩ := s
    wp_walk using wpAny_loadPart' hl1, wpAny_loadPart' hb1
    have hi1 : items[((i : Nat) : Int).toNat]? = some items[i] := by simp [hlt]
    have hi2 : items2[((i : Nat) : Int).toNat]? = some items2[i] := by simp [hlt2]
    have hc : ((i : Int) + 1) = ((i + 1 : Nat) : Int) := by omega
    rw [hi1, hi2]
    refine wpAny_bind (wpAny_mono ht (fun r s2 h2 => ?_) fun _ _ x => x)
    obtain ⟨hr, h2⟩ := h2
    cases hbi : bs i with
    | true =>
      rw [hbi] at hr
      subst hr
      have hrec := ih (i + 1) (by omega) (by omega) s2 h2 (fun s' hs' => by
        have := fin s' hs'
        unfold andAt at this
        rwa [if_pos hbi] at this)
      obtain ⟨hp2, g2, d2, tk2, os2⟩ := s2
      wp_walk
      rw [hc]
      exact ⟨plainId_quiet plain_eq_loop _, codeAny_builtin entry_eq_loop (by
        rw [Around.under_plainId plain_eq_loop _]
        exact hrec)⟩
    | false =>
      rw [hbi] at hr
      subst hr
      have hf := fin s2 h2
      unfold andAt at hf
      rw [if_neg (by rw [hbi]; exact Bool.false_ne_true)] at hf
      obtain ⟨items', items2', n', n2', dd', dd2', sl', sl2', hl1', hb1', hs1', hs2', _⟩ := hl _ h2
      obtain ⟨hp2, g2, d2, tk2, os2⟩ := s2
      have hlt' : i < items'.size := by omega
      have hlt2' : i < items2'.size := by omega
      wp_walk using wpAny_loadPart' hl1', wpAny_loadPart' hb1'
      have hj1 : items'[((i : Nat) : Int).toNat]? = some items'[i] := by simp [hlt']
      have hj2 : items2'[((i : Nat) : Int).toNat]? = some items2'[i] := by simp [hlt2']
      rw [hj1, hj2]
      wp_walk
      exact hf
theorem list_neB (l b : Addr) (N : Nat) (bs : Nat → Bool) (I : Shared → Prop) (hl : ListB prog w A (fun e s' => R (.error e) s') l b N bs I)
    (fin : ∀ s, I s → R (.ok (.ret (.bool (!andAt bs 0 N)))) s) {s : Shared} (h : I s) :
    wpAny (model prog w) A.in1 (Builtin.«list.__ne__» ⟨[.ref l, .ref b], []⟩) (FinOf prog w A R) (fun e s' => R (.error e) s') s := by
  obtain ⟨items, items2, n, n2, dd, dd2, sl, sl2, hl1, hb1, hs1, hs2, _⟩ := hl _ h
  have hrec := ne_loopB (A := A) (R := R) l b N bs I hl N 0 rfl (Nat.zero_le _) s h fin
  obtain ⟨hp, g, d, tk, os⟩ := s
  have f3 := AutoSeq1.sub_list_list
  have hne : ¬ (items.size != items2.size) = true := by simp [hs1, hs2]
  wp_walk using wpAny_loadPart' hl1, wpAny_loadPart' hb1
  exact ⟨plainId_quiet plain_eq_loop _, codeAny_builtin entry_eq_loop (by
    rw [Around.under_plainId plain_eq_loop _]
    exact hrec)⟩
theorem list_neN (l b : Addr) (items items2 : Array Value) (n n2 : Nat) (dd dd2 : Option Addr) (sl sl2 : Array (Option Value)) (hsz : items.size ≠ items2.size) {s : Shared} (hl1 : s.heap.get? l = some { cls := .type "list", dict := dd, data := .seq items n, slots := sl }) (hb1 : s.heap.get? b = some { cls := .type "list", dict := dd2, data := .seq items2 n2, slots := sl2 })
    (fin : R (.ok (.ret (.bool true))) s) :
    wpAny (model prog w) A.in1 (Builtin.«list.__ne__» ⟨[.ref l, .ref b], []⟩) (FinOf prog w A R) (fun e s' => R (.error e) s') s := by
  obtain ⟨hp, g, d, tk, os⟩ := s
  have f3 := AutoSeq1.sub_list_list
  have hne : (items.size != items2.size) = true := by simpa using hsz
  wp_walk using wpAny_loadPart' hl1, wpAny_loadPart' hb1
  exact fin
theorem tuple_neB (l b : Addr) (items items2 : Array Value) (n n2 : Nat) (dd dd2 : Option Addr) (sl sl2 : Array (Option Value)) (bs : Nat → Bool) (I : Shared → Prop)
    (turn : ∀ i (h1 : i < items.size) (h2 : i < items2.size) s, I s → wpAny (model prog w) A.in1 (eqBool items[i] items2[i]) (fun r s' => r = bs i ∧ I s') (fun e s' => R (.error e) s') s)
    (fin : ∀ s, I s → R (.ok (.ret (.bool (!(andAt bs 0 (min items.size items2.size) && items.size == items2.size))))) s) {s : Shared} (hl1 : s.heap.get? l = some { cls := .type "tuple", dict := dd, data := .seq items n, slots := sl }) (hb1 : s.heap.get? b = some { cls := .type "tuple", dict := dd2, data := .seq items2 n2, slots := sl2 }) (h : I s) :
    wpAny (model prog w) A.in1 (Builtin.«tuple.__ne__» ⟨[.ref l, .ref b], []⟩) (FinOf prog w A R) (fun e s' => R (.error e) s') s := by
  have f2 := AutoSeq1.sub_tuple_tuple
  have hZ : (items.toList.zip items2.toList).length = min items.size items2.size := by simp
  have h0 := h
  obtain ⟨hp, g, d, tk, os⟩ := s
  wp_walk using wpAny_loadPart' hl1, wpAny_loadPart' hb1, wpAny_forIn_list _ (fun rest b s' => b.1 = none ∧ I s' ∧ ∃ i, rest = (items.toList.zip items2.toList).drop i ∧ i ≤ min items.size items2.size ∧ andAt bs 0 (min items.size items2.size) = andAt bs i (min items.size items2.size - i)) _
  case turn =>
    rintro ⟨y, x⟩ rest b s' ⟨hb', hI, i, hz, hi, ha⟩
    have hlt : i < (items.toList.zip items2.toList).length := by
      rcases Nat.lt_or_ge i (items.toList.zip items2.toList).length with h' | h'
      · exact h'
      · rw [List.drop_of_length_le h'] at hz; cases hz
    have hm : i < min items.size items2.size := hZ ▸ hlt
    have h1 : i < items.size := Nat.lt_of_lt_of_le hm (Nat.min_le_left _ _)
    have h2 : i < items2.size := Nat.lt_of_lt_of_le hm (Nat.min_le_right _ _)
    rw [List.drop_eq_getElem_cons hlt] at hz
    injection hz with hyx hrest
    have hy : y = items[i] := by have := congrArg Prod.fst hyx; simpa using this
    have hx : x = items2[i] := by have := congrArg Prod.snd hyx; simpa using this
    subst hy hx
    rw [show min items.size items2.size - i = (min items.size items2.size - (i + 1)) + 1 by omega] at ha
    rw [andAt_succ] at ha
    refine wpAny_bind (wpAny_mono (turn i h1 h2 s' hI) (fun r s2 q2 => ?_) fun _ _ x => x)
    obtain ⟨hr, q2⟩ := q2
    cases hbi : bs i with
    | true =>
      rw [hbi] at hr
      subst hr
      rw [if_pos hbi] at ha
      wp_walk
      exact ⟨rfl, q2, i + 1, hrest, hm, ha⟩
    | false =>
      rw [hbi] at hr
      subst hr
      rw [if_neg (by rw [hbi]; exact Bool.false_ne_true)] at ha
      have hf := fin s2 q2
      rw [ha, Bool.false_and] at hf
      wp_walk
      exact hf
  case fin =>
    rintro ⟨b1, b2⟩ s' ⟨hb', hI, i, hz, hi, ha⟩
    simp only at hb'
    subst hb'
    have hge : min items.size items2.size ≤ i := by
      rcases Nat.lt_or_ge i (items.toList.zip items2.toList).length with h' | h'
      · rw [List.drop_eq_getElem_cons h'] at hz; cases hz
      · exact hZ ▸ h'
    have hi' : i = min items.size items2.size := by omega
    have hR := fin s' hI
    rw [ha, Nat.sub_eq_zero_of_le hge] at hR
    wp_walk
    rw [show andAt bs i 0 = true from rfl, Bool.true_and] at hR
    exact hR
  case h =>
    exact ⟨rfl, h0, 0, rfl, Nat.zero_le _, rfl⟩
end
section
variable {prog : Program} {w : World} {A : Around} {E : Value → Shared → Prop} {s : Shared}
theorem rc_listB {l b : Addr} {N : Nat} {Q : Value → Shared → Prop} (hu : A.units < cLine) (bs : Nat → Bool) (I : Shared → Prop) (hl : ListB prog w A E l b N bs I)
    (fin : ∀ s, I s → Q (.bool (andAt bs 0 N)) s) (h : I s) : wpAny (model prog w) A (richCompare .Eq (.ref l) (.ref b)) Q E s := by
  obtain ⟨items, items2, n, n2, dd, dd2, sl, sl2, hl1, hb1, _, _, _⟩ := hl _ h
  refine wpAny_richCompare_same_room (op := .Eq) ⟨_, hl1, rfl⟩ ⟨_, hb1, rfl⟩ F.slot_list_eq (call_here F.slot_list_eq ⟨_, hl1, rfl⟩ F.entry_list_eq (F.args_list_eq_2 _ _) ?_) hu
  exact list_eqB (R := wants (fun v s' => v ≠ .notImplemented ∧ Q v s') E) l b N bs I hl (fun s' q => ⟨(fun x => nomatch x), fin s' q⟩) h
theorem rc_listN {l b : Addr} {items items2 : Array Value} {n n2 : Nat} {dd dd2 : Option Addr} {sl sl2 : Array (Option Value)} {Q : Value → Shared → Prop} (hu : A.units < cLine) (hsz : items.size ≠ items2.size) (hl1 : s.heap.get? l = some { cls := .type "list", dict := dd, data := .seq items n, slots := sl }) (hb1 : s.heap.get? b = some { cls := .type "list", dict := dd2, data := .seq items2 n2, slots := sl2 })
    (fin : Q (.bool false) s) : wpAny (model prog w) A (richCompare .Eq (.ref l) (.ref b)) Q E s := by
  refine wpAny_richCompare_same_room (op := .Eq) ⟨_, hl1, rfl⟩ ⟨_, hb1, rfl⟩ F.slot_list_eq (call_here F.slot_list_eq ⟨_, hl1, rfl⟩ F.entry_list_eq (F.args_list_eq_2 _ _) ?_) hu
  exact list_eqN (R := wants (fun v s' => v ≠ .notImplemented ∧ Q v s') E) l b items items2 n n2 dd dd2 sl sl2 hsz hl1 hb1 ⟨(fun x => nomatch x), fin⟩
theorem rc_tupB {l b : Addr} {items items2 : Array Value} {Q : Value → Shared → Prop} (hu : A.units < cLine) (bs : Nat → Bool) (I : Shared → Prop)
    (hl : s.heap.IsTuple l items) (hb : s.heap.IsTuple b items2)
    (turn : ∀ i (h1 : i < items.size) (h2 : i < items2.size) s, I s → wpAny (model prog w) A.in1 (eqBool items[i] items2[i]) (fun r s' => r = bs i ∧ I s') E s)
    (fin : ∀ s, I s → Q (.bool (andAt bs 0 (min items.size items2.size) && items.size == items2.size)) s) (h : I s) : wpAny (model prog w) A (richCompare .Eq (.ref l) (.ref b)) Q E s := by
  obtain ⟨⟨cls, dd, data, sl⟩, ho, hc, n, hd⟩ := id hl
  obtain ⟨⟨cls2, dd2, data2, sl2⟩, ho2, hc2, n2, hd2⟩ := id hb
  simp only at hc hd hc2 hd2
  subst hc hd hc2 hd2
  refine wpAny_richCompare_same_room (op := .Eq) ⟨_, ho, rfl⟩ ⟨_, ho2, rfl⟩ F.slot_tuple_eq (call_here F.slot_tuple_eq ⟨_, ho, rfl⟩ F.entry_tuple_eq (F.args_tuple_eq_2 _ _) ?_) hu
  exact tuple_eqB (R := wants (fun v s' => v ≠ .notImplemented ∧ Q v s') E) l b items items2 n n2 dd dd2 sl sl2 bs I turn (fun s' q => ⟨(fun x => nomatch x), fin s' q⟩) ho ho2 h
theorem rn_listB {l b : Addr} {N : Nat} {Q : Value → Shared → Prop} (hu : A.units < cLine) (bs : Nat → Bool) (I : Shared → Prop) (hl : ListB prog w A E l b N bs I)
    (fin : ∀ s, I s → Q (.bool (!andAt bs 0 N)) s) (h : I s) : wpAny (model prog w) A (richCompare .NotEq (.ref l) (.ref b)) Q E s := by
  obtain ⟨items, items2, n, n2, dd, dd2, sl, sl2, hl1, hb1, _, _, _⟩ := hl _ h
  refine wpAny_richCompare_same_room (op := .NotEq) ⟨_, hl1, rfl⟩ ⟨_, hb1, rfl⟩ F.slot_list_ne (call_here F.slot_list_ne ⟨_, hl1, rfl⟩ F.entry_list_ne (F.args_list_ne_2 _ _) ?_) hu
  exact list_neB (R := wants (fun v s' => v ≠ .notImplemented ∧ Q v s') E) l b N bs I hl (fun s' q => ⟨(fun x => nomatch x), fin s' q⟩) h
theorem rn_listN {l b : Addr} {items items2 : Array Value} {n n2 : Nat} {dd dd2 : Option Addr} {sl sl2 : Array (Option Value)} {Q : Value → Shared → Prop} (hu : A.units < cLine) (hsz : items.size ≠ items2.size) (hl1 : s.heap.get? l = some { cls := .type "list", dict := dd, data := .seq items n, slots := sl }) (hb1 : s.heap.get? b = some { cls := .type "list", dict := dd2, data := .seq items2 n2, slots := sl2 })
    (fin : Q (.bool true) s) : wpAny (model prog w) A (richCompare .NotEq (.ref l) (.ref b)) Q E s := by
  refine wpAny_richCompare_same_room (op := .NotEq) ⟨_, hl1, rfl⟩ ⟨_, hb1, rfl⟩ F.slot_list_ne (call_here F.slot_list_ne ⟨_, hl1, rfl⟩ F.entry_list_ne (F.args_list_ne_2 _ _) ?_) hu
  exact list_neN (R := wants (fun v s' => v ≠ .notImplemented ∧ Q v s') E) l b items items2 n n2 dd dd2 sl sl2 hsz hl1 hb1 ⟨(fun x => nomatch x), fin⟩
theorem rn_tupB {l b : Addr} {items items2 : Array Value} {Q : Value → Shared → Prop} (hu : A.units < cLine) (bs : Nat → Bool) (I : Shared → Prop)
    (hl : s.heap.IsTuple l items) (hb : s.heap.IsTuple b items2)
    (turn : ∀ i (h1 : i < items.size) (h2 : i < items2.size) s, I s → wpAny (model prog w) A.in1 (eqBool items[i] items2[i]) (fun r s' => r = bs i ∧ I s') E s)
    (fin : ∀ s, I s → Q (.bool (!(andAt bs 0 (min items.size items2.size) && items.size == items2.size))) s) (h : I s) : wpAny (model prog w) A (richCompare .NotEq (.ref l) (.ref b)) Q E s := by
  obtain ⟨⟨cls, dd, data, sl⟩, ho, hc, n, hd⟩ := id hl
  obtain ⟨⟨cls2, dd2, data2, sl2⟩, ho2, hc2, n2, hd2⟩ := id hb
  simp only at hc hd hc2 hd2
  subst hc hd hc2 hd2
  refine wpAny_richCompare_same_room (op := .NotEq) ⟨_, ho, rfl⟩ ⟨_, ho2, rfl⟩ F.slot_tuple_ne (call_here F.slot_tuple_ne ⟨_, ho, rfl⟩ F.entry_tuple_ne (F.args_tuple_ne_2 _ _) ?_) hu
  exact tuple_neB (R := wants (fun v s' => v ≠ .notImplemented ∧ Q v s') E) l b items items2 n n2 dd dd2 sl sl2 bs I turn (fun s' q => ⟨(fun x => nomatch x), fin s' q⟩) ho ho2 h
end
end GB

/-! A tuple taken once. -/
namespace Dn
open PySem PySem.Spec PyProof.Rows L2 LamX Q
theorem tuple_mul1 (l : Addr) (items : Array Value) (n : Nat) (dd : Option Addr) (sl : Array (Option Value)) (u : Tok) :
    Meets (Builtin.«tuple.__mul__» ⟨[.ref l, .int 1 u], []⟩) (fun _ R s => s.heap.get? l = some { cls := .type "tuple", dict := dd, data := .seq items n, slots := sl } ∧ R (.ok (.ret (Value.ref l))) s) :=
  .of_wp fun prog w A R s h => by
    obtain ⟨hp, g, d, tk, os⟩ := s
    obtain ⟨hl, h⟩ := h
    have f1 := AutoSeq1.idx_int
    wp_walk using wpAny_loadPart' hl
    exact ⟨_, rfl, h⟩
def rRepT1 (K : PySem.W.Frag) : R2 := fun x y H Q => ∃ l xs, x = .ref l ∧ y = .int 1 ∧ SqT K H l xs ∧ Q (.ref l) H
theorem op_repT1 {X : Cx} : OpR X (binaryOp .Mult) (rRepT1 X.K) := by
  intro pins s σ H x y v u Q I rx ry h
  obtain ⟨l, xs, rfl, rfl, hT, q⟩ := h
  cases rx
  obtain ⟨t, rfl⟩ := ry
  obtain ⟨its, r, ⟨⟨cls, dd, data, sl⟩, ho, hc, n, hd⟩, hs⟩ := I.tuple hT
  simp only at hc hd
  subst hc hd
  exact wpAny_binaryOp_repeat_ref (T := "tuple") (U := "int") (by decide) ⟨_, ho, rfl⟩ (fun s' => typeIs_int s' 1 t) noFill_tuple_mul F.fills_int_mul F.slot_int_rmul repeat_tuple F.slot_int_index.lookup
    (call_meets F.slot_int_rmul (typeIs_int s 1 t) F.entry_int_rmul (F.args_int_rmul_2 _ _) (int_rmul_tuple 1 t l its.toArray n dd sl)
      ⟨ho, rfl, ⟨_, ho, rfl⟩, call_meets F.slot_tuple_mul ⟨_, ho, rfl⟩ F.entry_tuple_mul (F.args_tuple_mul_2 _ _) (tuple_mul1 l its.toArray n dd sl t) ⟨ho, .ref l, H, I, rfl, q⟩⟩)
end Dn

/-! Values as trees: what a heap tells of them, what stays of it, a def's slots. -/
namespace Dn
open PySem PySem.Spec PyProof.Rows L2 LamX Q
/-- a value as a tree; lists are taken as they stand -/
inductive Dv where
  | non | bl (b : Bool) | int (i : Int) | str (x : Str)
  | tup (ds : List Dv) | lst (ds : List Dv)
  | obj (c : Str) (ks : List Str) (ds : List Dv)
/-- the part of SqT, SqL that the written part tells -/
def WrT (K : PySem.W.Frag) (a : Addr) (xs : List V) : Prop := ∃ (o : Obj) (its : Array Value) (n : Nat), K.lookup a = some o ∧ o.cls = .type "tuple" ∧ o.data = .seq its n ∧ its.size ≤ sizeLine ∧ Vals xs its.toList
/-- the same for a list -/
def WrL (K : PySem.W.Frag) (a : Addr) (xs : List V) : Prop := ∃ (o : Obj) (its : Array Value) (n : Nat), K.lookup a = some o ∧ o.cls = .type "list" ∧ o.dict = none ∧ o.data = .seq its n ∧ its.size ≤ sizeLine ∧ Vals xs its.toList
abbrev Ads := Addr → Prop
/-- where the classes are, and the tables of the codes that make lambdas -/
structure Ct where
  f : Str → Addr
  tabs : List (Addr × Str)
instance : CoeFun Ct (fun _ => Str → Addr) := ⟨Ct.f⟩
mutual
/-- the tree d is what v means, and no address of it is in M -/
def rep (K : PySem.W.Frag) (ct : Ct) (M : Ads) (H : Hp) : Dv → V → Prop
  | .non, v => v = .non
  | .bl b, v => v = .bl b
  | .int i, v => v = .int i
  | .str x, v => v = .str x
  | .tup ds, v => ∃ a xs, v = .ref a ∧ ((¬ M a ∧ Rd H a (.tup xs)) ∨ WrT K a xs) ∧ reps K ct M H ds xs
  | .lst ds, v => ∃ a xs, v = .ref a ∧ ((¬ M a ∧ Rd H a (.lst xs)) ∨ WrL K a xs) ∧ reps K ct M H ds xs
  | .obj c ks ds, v => ∃ a dx xs, v = .ref a ∧ ¬ M a ∧ H a = some (.ins (ct c) dx (ks.zip xs)) ∧ reps K ct M H ds xs
def reps (K : PySem.W.Frag) (ct : Ct) (M : Ads) (H : Hp) : List Dv → List V → Prop
  | [], xs => xs = []
  | d :: ds, xs => ∃ x ys, xs = x :: ys ∧ rep K ct M H d x ∧ reps K ct M H ds ys
end
/-- what a step keeps: all tracked that is not in S and is no table -/
structure Kp3 (T : List (Addr × Str)) (S : Ads) (H H' : Hp) : Prop where
  keep : ∀ a o, H a = some o → ¬ S a → (∀ ps, o ≠ .tbl ps) → H' a = some o
  live : ∀ a, H a ≠ none → H' a ≠ none
  tabs : Tabs T H → Tabs T H'
section
variable {T : List (Addr × Str)}
theorem Kp3.refl (S : Ads) (H : Hp) : Kp3 T S H H := ⟨fun _ _ h _ _ => h, fun _ h => h, fun h => h⟩
theorem Kp3.mono {S S' : Ads} {H H' : Hp} (k : Kp3 T S H H') (h : ∀ a, S a → S' a) : Kp3 T S' H H' := ⟨fun a o q n t => k.keep a o q (fun z => n (h a z)) t, k.live, k.tabs⟩
theorem Kp3.trans {S : Ads} {H H1 H2 : Hp} (a : Kp3 T S H H1) (b : Kp3 T S H1 H2) : Kp3 T S H H2 := ⟨fun c o h n t => b.keep c o (a.keep c o h n t) n t, fun c h => b.live c (a.live c h), fun h => b.tabs (a.tabs h)⟩
theorem Same.live {H H' : Hp} (e : Same H H') {a : Addr} (h : H a ≠ none) : H' a ≠ none := fun z => by
  cases q : H a with
  | none => exact h q
  | some o =>
    rw [e a o q] at z
    cases z
theorem Kp3.same {S : Ads} {H H' : Hp} (e : Same H H') : Kp3 T S H H' := ⟨fun a o h _ _ => e a o h, fun a h => Same.live e h, fun t p hp => TabS.ext (t p hp) e⟩
theorem Kp3.new {S : Ads} {H : Hp} {p : Addr} {o : HO} (h : H p = none) : Kp3 T S H (upd H p o) := Kp3.same (Same.new h)
theorem Kp3.free {S : Ads} {H H' : Hp} (k : Kp3 T S H H') {p : Addr} (h : H' p = none) : H p = none := by
  cases q : H p with
  | none => rfl
  | some o => exact absurd h (k.live p (by rw [q]; exact fun z => by cases z))
theorem Kp3.rd {S : Ads} {H H' : Hp} (k : Kp3 T S H H') {a : Addr} {u : HO} (h : Rd H a u) (n : ¬ S a) (t : ∀ ps, u ≠ .tbl ps) : Rd H' a u := by
  rcases h with h | ⟨o, h⟩
  · exact .inl (k.keep _ _ h n t)
  · exact .inr ⟨o, k.keep _ _ h n fun ps z => by cases z⟩
theorem Rd.live {H : Hp} {a : Addr} {u : HO} (h : Rd H a u) : H a ≠ none := by
  rcases h with h | ⟨o, h⟩ <;> rw [h] <;> exact fun z => by cases z
end
section
variable {K : PySem.W.Frag} {ct : Ct} {M M' S : Ads} {H H' : Hp}
mutual
theorem rep_step (k : Kp3 (Ct.tabs ct) S H H') (hs : ∀ a, S a → M a ∨ H a = none) (hm : ∀ a, M' a → M a ∨ H a = none) : ∀ {d : Dv} {v : V}, rep K ct M H d v → rep K ct M' H' d v
  | .non, _, h => h
  | .bl _, _, h => h
  | .int _, _, h => h
  | .str _, _, h => h
  | .tup ds, v, h => by
    unfold rep at h ⊢
    obtain ⟨a, xs, e, r, hd⟩ := h
    refine ⟨a, xs, e, ?_, reps_step k hs hm hd⟩
    rcases r with ⟨n, r⟩ | r
    · exact .inl ⟨fun z => (hm a z).elim n fun q => Rd.live r q, k.rd r (fun z => (hs a z).elim n fun q => Rd.live r q) fun ps z => by cases z⟩
    · exact .inr r
  | .lst ds, v, h => by
    unfold rep at h ⊢
    obtain ⟨a, xs, e, r, hd⟩ := h
    refine ⟨a, xs, e, ?_, reps_step k hs hm hd⟩
    rcases r with ⟨n, r⟩ | r
    · exact .inl ⟨fun z => (hm a z).elim n fun q => Rd.live r q, k.rd r (fun z => (hs a z).elim n fun q => Rd.live r q) fun ps z => by cases z⟩
    · exact .inr r
  | .obj c ks ds, v, h => by
    unfold rep at h ⊢
    obtain ⟨a, dx, xs, e, n, r, hd⟩ := h
    have lv : H a ≠ none := by rw [r]; exact fun z => by cases z
    exact ⟨a, dx, xs, e, fun z => (hm a z).elim n fun q => lv q, k.keep _ _ r (fun z => (hs a z).elim n fun q => lv q) (fun ps z => by cases z), reps_step k hs hm hd⟩
theorem reps_step (k : Kp3 (Ct.tabs ct) S H H') (hs : ∀ a, S a → M a ∨ H a = none) (hm : ∀ a, M' a → M a ∨ H a = none) : ∀ {ds : List Dv} {vs : List V}, reps K ct M H ds vs → reps K ct M' H' ds vs
  | [], _, h => h
  | d :: ds, _, h => by
    unfold reps at h ⊢
    obtain ⟨x, ys, e, h1, h2⟩ := h
    exact ⟨x, ys, e, rep_step k hs hm h1, reps_step k hs hm h2⟩
end
theorem rep_same (e : Same H H') {d : Dv} {v : V} (h : rep K ct M H d v) : rep K ct M H' d v := rep_step (S := fun _ => False) (Kp3.same e) (fun _ z => z.elim) (fun _ z => .inl z) h
theorem reps_same (e : Same H H') {d : List Dv} {v : List V} (h : reps K ct M H d v) : reps K ct M H' d v := reps_step (S := fun _ => False) (Kp3.same e) (fun _ z => z.elim) (fun _ z => .inl z) h
theorem rep_kp (k : Kp3 (Ct.tabs ct) S H H') (hs : ∀ a, S a → M a) {d : Dv} {v : V} (h : rep K ct M H d v) : rep K ct M H' d v := rep_step k (fun a z => .inl (hs a z)) (fun _ z => .inl z) h
theorem reps_kp (k : Kp3 (Ct.tabs ct) S H H') (hs : ∀ a, S a → M a) {d : List Dv} {v : List V} (h : reps K ct M H d v) : reps K ct M H' d v := reps_step k (fun a z => .inl (hs a z)) (fun _ z => .inl z) h
theorem reps_len : ∀ {ds : List Dv} {vs : List V}, reps K ct M H ds vs → vs.length = ds.length
  | [], _, h => by unfold reps at h; rw [h]; rfl
  | d :: ds, _, h => by
    unfold reps at h
    obtain ⟨x, ys, e, h1, h2⟩ := h
    rw [e, List.length_cons, List.length_cons, reps_len h2]
theorem reps_get : ∀ {ds : List Dv} {vs : List V} {i : Nat} {d : Dv}, reps K ct M H ds vs → ds[i]? = some d → ∃ v, vs[i]? = some v ∧ rep K ct M H d v
  | [], _, _, _, _, e => by simp at e
  | d :: ds, _, 0, _, h, e => by
    unfold reps at h
    obtain ⟨x, ys, e2, h1, h2⟩ := h
    simp at e
    subst e
    exact ⟨x, by rw [e2]; rfl, h1⟩
  | d :: ds, _, i + 1, _, h, e => by
    unfold reps at h
    obtain ⟨x, ys, e2, h1, h2⟩ := h
    obtain ⟨v, g1, g2⟩ := reps_get (i := i) h2 (by simpa using e)
    exact ⟨v, by rw [e2]; simpa using g1, g2⟩
theorem reps_cons {d : Dv} {ds : List Dv} {v : V} {vs : List V} (h1 : rep K ct M H d v) (h2 : reps K ct M H ds vs) : reps K ct M H (d :: ds) (v :: vs) := by
  unfold reps
  exact ⟨v, vs, rfl, h1, h2⟩
theorem reps_nil : reps K ct M H [] [] := by
  unfold reps
  rfl
theorem reps_inv {d : Dv} {ds : List Dv} {vs : List V} (h : reps K ct M H (d :: ds) vs) : ∃ x ys, vs = x :: ys ∧ rep K ct M H d x ∧ reps K ct M H ds ys := by
  unfold reps at h
  exact h
theorem reps_inv0 {vs : List V} (h : reps K ct M H [] vs) : vs = [] := by
  unfold reps at h
  exact h
theorem reps_app : ∀ {ds es : List Dv} {vs ws : List V}, reps K ct M H ds vs → reps K ct M H es ws → reps K ct M H (ds ++ es) (vs ++ ws)
  | [], _, _, _, h, g => by rw [reps_inv0 h]; exact g
  | d :: ds, _, _, _, h, g => by
    obtain ⟨x, ys, e, h1, h2⟩ := reps_inv h
    rw [e]
    exact reps_cons h1 (reps_app h2 g)
theorem reps_take : ∀ {ds : List Dv} {vs : List V} (n : Nat), reps K ct M H ds vs → reps K ct M H (ds.take n) (vs.take n)
  | _, _, 0, _ => by rw [List.take_zero, List.take_zero]; exact reps_nil
  | [], _, n + 1, h => by rw [reps_inv0 h]; exact reps_nil
  | d :: ds, _, n + 1, h => by
    obtain ⟨x, ys, e, h1, h2⟩ := reps_inv h
    rw [e]
    exact reps_cons h1 (reps_take n h2)
theorem reps_drop : ∀ {ds : List Dv} {vs : List V} (n : Nat), reps K ct M H ds vs → reps K ct M H (ds.drop n) (vs.drop n)
  | _, _, 0, h => h
  | [], _, n + 1, h => by rw [reps_inv0 h]; exact reps_nil
  | d :: ds, _, n + 1, h => by
    obtain ⟨x, ys, e, h1, h2⟩ := reps_inv h
    rw [e]
    exact reps_drop n h2
theorem reps_set {d : Dv} {v : V} (hd : rep K ct M H d v) : ∀ {ds : List Dv} {vs : List V} (n : Nat), reps K ct M H ds vs → reps K ct M H (ds.set n d) (vs.set n v)
  | [], _, _, h => by rw [reps_inv0 h]; exact reps_nil
  | c :: ds, _, 0, h => by
    obtain ⟨x, ys, e, h1, h2⟩ := reps_inv h
    rw [e]
    exact reps_cons hd h2
  | c :: ds, _, n + 1, h => by
    obtain ⟨x, ys, e, h1, h2⟩ := reps_inv h
    rw [e]
    exact reps_cons h1 (reps_set hd n h2)
theorem reps_rep {d : Dv} {v : V} (hd : rep K ct M H d v) : ∀ n : Nat, reps K ct M H (List.replicate n d) (List.replicate n v)
  | 0 => reps_nil
  | n + 1 => by
    rw [List.replicate_succ, List.replicate_succ]
    exact reps_cons hd (reps_rep hd n)
theorem reps_all : ∀ {ds : List Dv} {vs : List V}, vs.length = ds.length → (∀ (i : Nat) d v, ds[i]? = some d → vs[i]? = some v → rep K ct M H d v) → reps K ct M H ds vs
  | [], [], _, _ => reps_nil
  | [], x :: xs, e, _ => by simp at e
  | d :: ds, [], e, _ => by simp at e
  | d :: ds, x :: xs, e, h => reps_cons (h 0 d x rfl rfl) (reps_all (by simpa using e) fun i d v h1 h2 => h (i + 1) d v (by simpa using h1) (by simpa using h2))
theorem reps_zip {ks : List Str} : ∀ {ds : List Dv} {vs : List V} {f : Str} {d : Dv}, reps K ct M H ds vs → (ks.zip ds).lookup f = some d → ∃ v, (ks.zip vs).lookup f = some v ∧ rep K ct M H d v := by
  induction ks with
  | nil => intro ds vs f d _ e; simp at e
  | cons k ks ih =>
    intro ds vs f d h e
    cases ds with
    | nil => simp at e
    | cons c ds =>
      obtain ⟨x, ys, e2, h1, h2⟩ := reps_inv h
      rw [e2]
      rw [List.zip_cons_cons, List.lookup_cons] at e
      rw [List.zip_cons_cons, List.lookup_cons]
      cases hk : (f == k) with
      | true =>
        rw [hk] at e
        simp at e
        subst e
        exact ⟨x, rfl, h1⟩
      | false =>
        rw [hk] at e
        exact ih h2 (by simpa using e)
end
/-- how a slot is held: a value; a list that is read; a list of the def's own; a parameter's list that is written -/
inductive Kd where
  | v | b | o | p
  deriving DecidableEq
def Kd.own : Kd → Bool
  | .o => true
  | .p => true
  | _ => false
/-- the slots' kinds; the addresses of the parameters' lists that are written; of those that are only read -/
structure Ky where
  k : Nat → Kd
  pc : Ads
  be : Ads
instance : CoeFun Ky (fun _ => Nat → Kd) := ⟨Ky.k⟩
abbrev Dl := List (Option Dv)
/-- what may be written and is no table -/
def mutO : Option HO → Prop
  | some (.lst _) => True
  | some (.ins _ _ _) => True
  | _ => False
section
variable (K : PySem.W.Frag) (ct : Ct)
/-- the list or the object at a, as it stands -/
def mrep (M : Ads) (H : Hp) (d : Dv) (a : Addr) : Prop := (∃ ds xs, d = .lst ds ∧ H a = some (.lst xs) ∧ reps K ct M H ds xs) ∨
  ∃ c ns ds dx xs, d = .obj c ns ds ∧ ns.length = ds.length ∧ H a = some (.ins (ct c) dx (ns.zip xs)) ∧ reps K ct M H ds xs
/-- the same, to be read -/
def brep (M : Ads) (H : Hp) (d : Dv) (a : Addr) : Prop := (∃ ds xs, d = .lst ds ∧ Rd H a (.lst xs) ∧ reps K ct M H ds xs) ∨
  ∃ c ns ds dx xs, d = .obj c ns ds ∧ H a = some (.ins (ct c) dx (ns.zip xs)) ∧ reps K ct M H ds xs
def repb (M : Ads) (H : Hp) (d : Dv) (v : V) : Prop := rep K ct M H d v ∨ ∃ a, v = .ref a ∧ brep K ct M H d a
def slr (be M W : Ads) (H : Hp) : Kd → Dv → V → Prop
  | .v, d, v => rep K ct M H d v
  | .b, d, v => rep K ct M H d v ∨ ∃ a, v = .ref a ∧ be a ∧ brep K ct M H d a
  | .o, d, v => ∃ a, v = .ref a ∧ W a ∧ mrep K ct M H d a
  | .p, d, v => ∃ a, v = .ref a ∧ W a ∧ mrep K ct M H d a
/-- the slots σ of a def at the heap H are what δ tells -/
structure ER (ks : Ky) (M W : Ads) (H : Hp) (δ : Dl) (σ : L2.St) : Prop where
  len : σ.length = δ.length
  sl : ∀ i d, δ[i]? = some (some d) → ∃ v, σ[i]? = some (some v) ∧ slr K ct ks.be M W H (ks i) d v
  dis : ∀ i j a di dj, i ≠ j → (ks i).own = true → (ks j).own = true → δ[i]? = some (some di) → δ[j]? = some (some dj) → σ[i]? = some (some (.ref a)) → σ[j]? = some (some (.ref a)) → False
  wm : ∀ a, W a → M a
  mt : ∀ a, M a → H a ≠ none
  wl : ∀ a, W a → mutO (H a)
  oc : ∀ i a d, ks i = .o → δ[i]? = some (some d) → σ[i]? = some (some (.ref a)) → ¬ ks.pc a
  pw : ∀ a, ks.pc a → W a
  bw : ∀ a, ks.be a → ¬ W a ∧ H a ≠ none
  tb : Tabs ct.tabs H
end
theorem Tabs.kp {T : List (Addr × Str)} {S : Ads} {H H' : Hp} (t : Tabs T H) (k : Kp3 T S H H') : Tabs T H' := k.tabs t
theorem mutO_keep {T : List (Addr × Str)} {S : Ads} {H H' : Hp} (k : Kp3 T S H H') {a : Addr} (n : ¬ S a) (h : mutO (H a)) : H' a = H a := by
  cases q : H a with
  | none => rw [q] at h; exact h.elim
  | some o =>
    rw [q] at h
    refine k.keep a o q n fun ps z => ?_
    subst z
    exact h.elim
theorem mutO_tab {T : List (Addr × Str)} {H : Hp} {a : Addr} (h : mutO (H a)) {o' : HO} : Kp3 T (fun b => b = a) H (upd H a o') := by
  refine ⟨fun b o hb n _ => by rw [upd_ne n]; exact hb, fun b hb => ?_, fun tt p hp => ?_⟩
  · by_cases z : b = a
    · rw [z, upd_same]; exact fun y => by cases y
    · rw [upd_ne z]; exact hb
  · obtain ⟨P, q⟩ := p
    obtain ⟨ps, p1, p2, p3⟩ := tt _ hp
    have nP : P ≠ a := fun z => by rw [← z, p1] at h; exact h.elim
    refine ⟨ps, by rw [upd_ne nP]; exact p1, p2, fun pos cv hc => ?_⟩
    obtain ⟨c, c1, c2⟩ := p3 pos cv hc
    refine ⟨c, c1, ?_⟩
    rw [upd_ne (fun z => by rw [← z, c2] at h; exact h.elim)]
    exact c2
section
variable {K : PySem.W.Frag} {ct : Ct} {ks : Ky} {M M' W S : Ads} {H H' : Hp} {δ : Dl} {σ : L2.St}
theorem mrep_mut {d : Dv} {a : Addr} (h : mrep K ct M H d a) : mutO (H a) := by
  rcases h with ⟨_, _, _, h, _⟩ | ⟨_, _, _, _, _, _, _, h, _⟩ <;> rw [h] <;> exact True.intro
theorem mrep_b {d : Dv} {a : Addr} (h : mrep K ct M H d a) : brep K ct M H d a := by
  rcases h with ⟨ds, xs, e, h, r⟩ | ⟨c, ns, ds, dx, xs, e, _, h, r⟩
  · exact .inl ⟨ds, xs, e, .inl h, r⟩
  · exact .inr ⟨c, ns, ds, dx, xs, e, h, r⟩
theorem mrep_step (k : Kp3 (Ct.tabs ct) S H H') (hs : ∀ a, S a → M a ∨ H a = none) (hm : ∀ a, M' a → M a ∨ H a = none) {d : Dv} {a : Addr} (n : ¬ S a) (h : mrep K ct M H d a) : mrep K ct M' H' d a := by
  have e := mutO_keep k n (mrep_mut h)
  rcases h with ⟨ds, xs, e1, h, r⟩ | ⟨c, ns, ds, dx, xs, e1, hl, h, r⟩
  · exact .inl ⟨ds, xs, e1, by rw [e]; exact h, reps_step k hs hm r⟩
  · exact .inr ⟨c, ns, ds, dx, xs, e1, hl, by rw [e]; exact h, reps_step k hs hm r⟩
theorem brep_step (k : Kp3 (Ct.tabs ct) S H H') (hs : ∀ a, S a → M a ∨ H a = none) (hm : ∀ a, M' a → M a ∨ H a = none) {d : Dv} {a : Addr} (n : ¬ S a) (h : brep K ct M H d a) : brep K ct M' H' d a := by
  rcases h with ⟨ds, xs, e1, h, r⟩ | ⟨c, ns, ds, dx, xs, e1, h, r⟩
  · exact .inl ⟨ds, xs, e1, k.rd h n (fun _ z => by cases z), reps_step k hs hm r⟩
  · exact .inr ⟨c, ns, ds, dx, xs, e1, k.keep _ _ h n (fun _ z => by cases z), reps_step k hs hm r⟩
theorem brep_live {d : Dv} {a : Addr} (h : brep K ct M H d a) : H a ≠ none := by
  rcases h with ⟨_, _, _, h, _⟩ | ⟨_, _, _, _, _, _, h, _⟩
  · exact Rd.live h
  · rw [h]
    exact fun z => by cases z
theorem slr_own {be : Ads} {k : Kd} {d : Dv} {v : V} (o : k.own = true) (h : slr K ct be M W H k d v) : ∃ a, v = .ref a ∧ W a ∧ mrep K ct M H d a := by
  cases k with
  | v => cases o
  | b => cases o
  | o => exact h
  | p => exact h
theorem slr_mk {be : Ads} {k : Kd} {d : Dv} {v : V} (o : k.own = true) (h : ∃ a, v = .ref a ∧ W a ∧ mrep K ct M H d a) : slr K ct be M W H k d v := by
  cases k with
  | v => cases o
  | b => cases o
  | o => exact h
  | p => exact h
theorem slr_b {be : Ads} {k : Kd} {d : Dv} {v : V} (h : slr K ct be M W H k d v) : repb K ct M H d v := by
  cases k with
  | v => exact .inl h
  | b => exact h.imp id fun ⟨a, h1, _, h2⟩ => ⟨a, h1, h2⟩
  | o =>
    obtain ⟨a, h1, _, h2⟩ := h
    exact .inr ⟨a, h1, mrep_b h2⟩
  | p =>
    obtain ⟨a, h1, _, h2⟩ := h
    exact .inr ⟨a, h1, mrep_b h2⟩
/-- what a slot tells, carried over a step: the parts -/
theorem slr_step {be : Ads} {W' : Ads} (k : Kp3 (Ct.tabs ct) S H H') (hs : ∀ a, S a → M a ∨ H a = none) (hm : ∀ a, M' a → M a ∨ H a = none) (hw : ∀ a, W a → W' a) (hb : ∀ a, be a → ¬ S a) {kd : Kd} {d : Dv} {v : V}
    (no : kd.own = true → ∀ a, v = .ref a → ¬ S a) (h : slr K ct be M W H kd d v) : slr K ct be M' W' H' kd d v := by
  cases kd with
  | v => exact rep_step k hs hm h
  | b => exact h.imp (rep_step k hs hm) fun ⟨a, h1, h2, h3⟩ => ⟨a, h1, h2, brep_step k hs hm (hb a h2) h3⟩
  | o =>
    obtain ⟨a, h1, h2, h3⟩ := h
    exact ⟨a, h1, hw a h2, mrep_step k hs hm (no rfl a h1) h3⟩
  | p =>
    obtain ⟨a, h1, h2, h3⟩ := h
    exact ⟨a, h1, hw a h2, mrep_step k hs hm (no rfl a h1) h3⟩
theorem ER.q (e : ER K ct ks M W H δ σ) (q : Kp3 (Ct.tabs ct) (fun _ => False) H H') : ER K ct ks M W H' δ σ :=
  ⟨e.len, fun i d h => by
    obtain ⟨v, h1, h2⟩ := e.sl i d h
    exact ⟨v, h1, slr_step q (fun _ z => z.elim) (fun _ z => .inl z) (fun _ z => z) (fun _ _ z => z) (fun _ _ _ z => z) h2⟩, e.dis, e.wm, fun a h => q.live a (e.mt a h), fun a h => by
    rw [mutO_keep q (fun z => z) (e.wl a h)]
    exact e.wl a h, e.oc, e.pw, fun a h => ⟨(e.bw a h).1, q.live a (e.bw a h).2⟩, Tabs.kp e.tb q⟩
theorem repb_q {d : Dv} {v : V} (q : Kp3 (Ct.tabs ct) (fun _ => False) H H') (h : repb K ct M H d v) : repb K ct M H' d v :=
  h.imp (rep_kp q fun _ z => z.elim) fun ⟨a, h1, h2⟩ => ⟨a, h1, brep_step q (fun _ z => z.elim) (fun _ z => .inl z) (fun z => z) h2⟩
/-- a list or object of one's own is written -/
theorem ER.write (e : ER K ct ks M W H δ σ) {i : Nat} {a : Addr} {d0 d' : Dv} {o' : HO} (hk : (ks i).own = true) (hi : δ[i]? = some (some d0)) (hs : σ[i]? = some (some (.ref a)))
    (hr : mrep K ct M (upd H a o') d' a) : ER K ct ks M W (upd H a o') (δ.set i (some d')) σ ∧ Kp3 (Ct.tabs ct) W H (upd H a o') := by
  obtain ⟨v, h1, h2⟩ := e.sl i _ hi
  rw [hs] at h1
  cases h1
  obtain ⟨a', ea, hw, _⟩ := slr_own hk h2
  cases ea
  have kp : Kp3 (Ct.tabs ct) (fun b => b = a) H (upd H a o') := mutO_tab (e.wl a hw)
  have mA : ∀ b, (fun b => b = a) b → M b ∨ H b = none := fun b z => by rw [z]; exact .inl (e.wm a hw)
  have kW : Kp3 (Ct.tabs ct) W H (upd H a o') := kp.mono fun b z => by rw [z]; exact hw
  have old : ∀ m dm, (δ.set i (some d'))[m]? = some (some dm) → ∃ dm', δ[m]? = some (some dm') := fun m dm hm => by
    by_cases z : m = i
    · exact ⟨_, by rw [z]; exact hi⟩
    · rw [List.getElem?_set_ne (Ne.symm z)] at hm
      exact ⟨dm, hm⟩
  refine ⟨⟨by rw [List.length_set]; exact e.len, fun j d hj => ?_, fun j k b dj dk hne oj ok hj hk' sj sk => ?_, e.wm, fun b hb => kp.live b (e.mt b hb), fun b hb => ?_, fun j b d hk2 hj sj => ?_, e.pw, fun b hb => ⟨(e.bw b hb).1, kp.live b (e.bw b hb).2⟩, Tabs.kp e.tb kp⟩, kW⟩
  · by_cases z : j = i
    · subst z
      have lt : j < δ.length := (List.getElem?_eq_some_iff.mp hi).1
      rw [List.getElem?_set_self lt] at hj
      cases hj
      exact ⟨.ref a, hs, slr_mk hk ⟨a, rfl, hw, hr⟩⟩
    · rw [List.getElem?_set_ne (Ne.symm z)] at hj
      obtain ⟨v, g1, g2⟩ := e.sl j d hj
      refine ⟨v, g1, slr_step kp mA (fun _ z => .inl z) (fun _ z => z) (fun b hb y => (e.bw b hb).1 (by rw [show b = a from y]; exact hw)) (fun oj b hb y => ?_) g2⟩
      have yy : b = a := y
      rw [hb, yy] at g1
      exact e.dis j i a d d0 z oj hk hj hi g1 hs
  · obtain ⟨dj', hj'⟩ := old j dj hj
    obtain ⟨dk', hk''⟩ := old k dk hk'
    exact e.dis j k b dj' dk' hne oj ok hj' hk'' sj sk
  · by_cases z : b = a
    · rw [z]
      exact mrep_mut hr
    · rw [upd_ne z]
      exact e.wl b hb
  · obtain ⟨dj', hj'⟩ := old j d hj
    exact e.oc j b dj' hk2 hj' sj
/-- .. of a list -/
theorem ER.writeL (e : ER K ct ks M W H δ σ) {i : Nat} {a : Addr} {d0 : Dv} {ds' : List Dv} {xs' : List V} (hk : (ks i).own = true) (hi : δ[i]? = some (some d0)) (hs : σ[i]? = some (some (.ref a)))
    (hr : reps K ct M H ds' xs') : ER K ct ks M W (upd H a (.lst xs')) (δ.set i (some (.lst ds'))) σ ∧ Kp3 (Ct.tabs ct) W H (upd H a (.lst xs')) := by
  obtain ⟨v, h1, h2⟩ := e.sl i _ hi
  rw [hs] at h1
  cases h1
  obtain ⟨a', ea, hw, hm⟩ := slr_own hk h2
  cases ea
  exact e.write hk hi hs (.inl ⟨ds', xs', rfl, upd_same, reps_kp (S := fun b => b = a) (mutO_tab (e.wl a hw)) (fun b z => by rw [show b = a from z]; exact e.wm a hw) hr⟩)
end
end Dn

/-! Expressions: what a reading does, told by a function of the slots' trees. -/
namespace Dn
open PySem PySem.Spec PyProof.Rows L2 LamX Q
inductive Rs (α : Type) where
  | ok (x : α) (δ : Dl)
  | exc (c : Str) (ns : List Str) (ds : List Dv) (δ : Dl)
  | stuck
def bnd {α β : Type} : Rs α → (α → Dl → Rs β) → Rs β
  | .ok x δ, k => k x δ
  | .exc c ns ds δ, _ => .exc c ns ds δ
  | .stuck, _ => .stuck
/-- how a result is held: a value; a list that is only read; a new list -/
inductive Md where
  | v | b | f
  deriving DecidableEq
def plus (M : Ads) (a : Addr) : Ads := fun b => M b ∨ b = a
theorem plus_ok {M : Ads} {a : Addr} {H : Hp} (h : H a = none) : ∀ b, plus M a b → M b ∨ H b = none := fun b z => z.imp id fun e => by rw [e]; exact h
theorem plus_less {M : Ads} {a : Addr} {H : Hp} : ∀ b, M b → plus M a b ∨ H b = none := fun b z => .inl (.inl z)
theorem reps_less {K : PySem.W.Frag} {ct : Ct} {M : Ads} {H : Hp} {a : Addr} {ds : List Dv} {xs : List V} (h : reps K ct (plus M a) H ds xs) : reps K ct M H ds xs := reps_step (S := fun _ => False) (Kp3.refl _ _) (fun _ z => z.elim) plus_less h
section
variable (K : PySem.W.Frag) (ct : Ct)
def rm : Md → Ads → Hp → Hp → Dv → V → Prop
  | .v, M, _, H', d, x => rep K ct M H' d x
  | .b, M, _, H', d, x => repb K ct M H' d x
  | .f, M, H, H', d, x => ∃ ds a xs, d = .lst ds ∧ x = .ref a ∧ H a = none ∧ H' a = some (.lst xs) ∧ reps K ct (plus M a) H' ds xs
/-- an exception's own dict -/
def ExR (M : Ads) (H : Hp) (ns : List Str) (ds : List Dv) (xd : Option Addr) : Prop :=
  (ns = [] ∧ xd = none) ∨ ∃ a vs, xd = some a ∧ H a = some (.xd (ns.zip vs)) ∧ reps K ct M H ds vs
end
section
variable {K : PySem.W.Frag} {ct : Ct} {ks : Ky} {M W : Ads} {H H' H1 H2 : Hp} {δ : Dl} {σ : L2.St}
theorem rm_v {m : Md} {d : Dv} {x : V} (mt : ∀ a, M a → H a ≠ none) (hm : m ≠ .b) (h : rm K ct m M H H' d x) : rep K ct M H' d x := by
  cases m with
  | v => exact h
  | b => exact absurd rfl hm
  | f =>
    obtain ⟨ds, a, xs, rfl, rfl, h1, h2, h3⟩ := h
    unfold rep
    exact ⟨a, xs, rfl, .inl ⟨fun z => mt a z h1, .inl h2⟩, reps_less h3⟩
theorem rm_b {m : Md} {d : Dv} {x : V} (mt : ∀ a, M a → H a ≠ none) (h : rm K ct m M H H' d x) : repb K ct M H' d x := by
  cases m with
  | v => exact .inl h
  | b => exact h
  | f =>
    obtain ⟨ds, a, xs, rfl, rfl, h1, h2, h3⟩ := h
    exact .inr ⟨a, rfl, .inl ⟨ds, xs, rfl, .inl h2, reps_less h3⟩⟩
theorem rm_anti {S : Ads} {m : Md} {d : Dv} {x : V} (k : Kp3 (Ct.tabs ct) S H H1) (h : rm K ct m M H1 H2 d x) : rm K ct m M H H2 d x := by
  cases m with
  | v => exact h
  | b => exact h
  | f =>
    obtain ⟨ds, a, xs, e1, e2, h1, h2, h3⟩ := h
    exact ⟨ds, a, xs, e1, e2, k.free h1, h2, h3⟩
end
/-- a result's relation: the set, the heaps, the slots' state by a set, the tree, the value -/
abbrev Rl (α β : Type) := Ads → Hp → Hp → (Addr → Prop) → α → β → Prop
def rmE (K : PySem.W.Frag) (ct : Ct) (m : Md) (M : Ads) (H H' : Hp) (er : Addr → Prop) (d : Dv) (x : V) : Prop := rm K ct m M H H' d x ∧ (m = .f → ∃ a, x = .ref a ∧ er a)
abbrev EX := XK
section
variable {K : PySem.W.Frag} {ct : Ct} {M S : Ads} {H H' H1 H2 : Hp} {er : Addr → Prop} {m : Md} {d : Dv} {x : V}
theorem re_anti (k : Kp3 (Ct.tabs ct) S H H1) (h : rmE K ct m M H1 H2 er d x) : rmE K ct m M H H2 er d x := ⟨rm_anti k h.1, h.2⟩
theorem re_v (h : rep K ct M H' d x) : rmE K ct .v M H H' er d x := ⟨h, fun z => by cases z⟩
end
section
variable {K : PySem.W.Frag} {ct : Ct} {ks : Ky} {M W : Ads} {H H' : Hp} {δ : Dl} {σ : L2.St}
/-- a new list is none of the slots' -/
theorem ER.fresh (e : ER K ct ks M W H δ σ) {a : Addr} {xs : List V} (ha : H a = none) (s : Same H H') (h' : H' a = some (.lst xs)) : ER K ct ks (plus M a) (plus W a) H' δ σ := by
  have k : Kp3 (Ct.tabs ct) (fun _ => False) H H' := Kp3.same s
  refine ⟨e.len, fun i d h => ?_, e.dis, fun b hb => hb.imp (e.wm b) id, fun b hb => ?_, fun b hb => ?_, e.oc, fun b hb => .inl (e.pw b hb), fun b hb => ⟨fun z => z.elim (e.bw b hb).1 fun y => (e.bw b hb).2 (y ▸ ha), k.live b (e.bw b hb).2⟩, Tabs.kp e.tb k⟩
  · obtain ⟨v, h1, h2⟩ := e.sl i d h
    exact ⟨v, h1, slr_step k (fun _ z => z.elim) (plus_ok ha) (fun _ z => .inl z) (fun _ _ z => z) (fun _ _ _ z => z) h2⟩
  · rcases hb with hb | rfl
    · exact k.live b (e.mt b hb)
    · rw [h']
      exact fun z => by cases z
  · rcases hb with hb | rfl
    · rw [mutO_keep k (fun z => z) (e.wl b hb)]
      exact e.wl b hb
    · rw [h']
      exact True.intro
theorem re_of {m : Md} {d : Dv} {x : V} (e : ER K ct ks M W H δ σ) (s : Same H H') (h : rm K ct m M H H' d x) : rmE K ct m M H H' (fun a => ER K ct ks (plus M a) (plus W a) H' δ σ) d x := ⟨h, fun z => by
  cases z
  obtain ⟨ds, a, xs, _, e2, h1, h2, _⟩ := h
  exact ⟨a, e2, e.fresh h1 s h2⟩⟩
end
section
variable (K : PySem.W.Frag) (ct : Ct) (ks : Ky) (E : EX)
/-- what may be wished behind a result -/
def Pst {α β : Type} (R : Rl α β) (S M W : Ads) (H : Hp) (σ : L2.St) (Q : β → Hp → Prop) : Rs α → Prop
  | .ok v δ' => ∀ x H', Kp3 (Ct.tabs ct) S H H' → ER K ct ks M W H' δ' σ → R M H H' (fun a => ER K ct ks (plus M a) (plus W a) H' δ' σ) v x → Q x H'
  | .exc c ns ds δ' => ∀ xd H', Kp3 (Ct.tabs ct) S H H' → ER K ct ks M W H' δ' σ → ExR K ct M H' ns ds xd → E (.ref (ct c)) xd H'
  | .stuck => False
def Ev2 {α β : Type} (R : Rl α β) (S M W : Ads) (H : Hp) (σ : L2.St) (s : (β → Hp → Prop) → Prop) (r : Rs α) : Prop := ∀ Q, Pst K ct ks E R S M W H σ Q r → s Q
def Wq (q : Bool) (W : Ads) : Ads := fun a => q = false ∧ W a
def DGs {α β : Type} (R : Rl α β) (q : Bool) (t : L2.St → Hp → (β → Hp → Prop) → Prop) (d : Dl → Rs α) : Prop := ∀ M W H δ σ, ER K ct ks M W H δ σ → Ev2 K ct ks E R (Wq q W) M W H σ (t σ H) (d δ)
end
section
variable {K : PySem.W.Frag} {ct : Ct} {ks : Ky} {E : EX} {M W S S' : Ads} {H H' H1 H2 : Hp} {δ : Dl} {σ : L2.St}
theorem Wq.w {q : Bool} {a : Addr} (h : Wq q W a) : W a := h.2
theorem Wq.no {a : Addr} (h : Wq true W a) : False := nomatch h.1
theorem Wq.f {a : Addr} (h : W a) : Wq false W a := ⟨rfl, h⟩
theorem Ev2.weak {α β : Type} {R : Rl α β} {s : (β → Hp → Prop) → Prop} {r : Rs α} (h : Ev2 K ct ks E R S M W H σ s r) (hs : ∀ a, S a → S' a) : Ev2 K ct ks E R S' M W H σ s r := fun Q p => h Q (by
  cases r with
  | ok v δ' => exact fun x H' k e r => p x H' (k.mono hs) e r
  | exc c ns ds δ' => exact fun xd H' k e r => p xd H' (k.mono hs) e r
  | stuck => exact p)
theorem Ev2.imp {α β : Type} {R R' : Rl α β} {s : (β → Hp → Prop) → Prop} {r : Rs α} (h : Ev2 K ct ks E R S M W H σ s r) (hs : ∀ H' er v x, R M H H' er v x → R' M H H' er v x) : Ev2 K ct ks E R' S M W H σ s r := fun Q p => h Q (by
  cases r with
  | ok v δ' => exact fun x H' k e r => p x H' k e (hs _ _ _ _ r)
  | exc c ns ds δ' => exact p
  | stuck => exact p)
theorem Ev2.bind {α β α' β' : Type} {R : Rl α β} {R' : Rl α' β'} {s : (β → Hp → Prop) → Prop} {s' : β → Hp → (β' → Hp → Prop) → Prop} {T : (β' → Hp → Prop) → Prop} {r : Rs α} {k : α → Dl → Rs α'} (h : Ev2 K ct ks E R S M W H σ s r)
    (he : ∀ Q, s (fun x H1 => s' x H1 Q) → T Q)
    (anti : ∀ H1 H2 er v x, Kp3 (Ct.tabs ct) S H H1 → R' M H1 H2 er v x → R' M H H2 er v x)
    (h2 : ∀ v δ1 x H1, Kp3 (Ct.tabs ct) S H H1 → ER K ct ks M W H1 δ1 σ → R M H H1 (fun a => ER K ct ks (plus M a) (plus W a) H1 δ1 σ) v x → Ev2 K ct ks E R' S M W H1 σ (s' x H1) (k v δ1)) : Ev2 K ct ks E R' S M W H σ T (bnd r k) := fun Q p => he Q <| h _ (by
  cases r with
  | ok v δ1 =>
    refine fun x H1 k1 e1 r1 => h2 v δ1 x H1 k1 e1 r1 Q ?_
    have p' : Pst K ct ks E R' S M W H σ Q (k v δ1) := p
    cases hk : k v δ1 with
    | ok w δ2 =>
      rw [hk] at p'
      exact fun y H2 k2 e2 r2 => p' y H2 (k1.trans k2) e2 (anti _ _ _ _ _ k1 r2)
    | exc c ns ds δ2 =>
      rw [hk] at p'
      exact fun y H2 k2 e2 r2 => p' y H2 (k1.trans k2) e2 r2
    | stuck =>
      rw [hk] at p'
      exact p'
  | exc c ns ds δ' => exact p
  | stuck => exact p)
theorem Ev2.ret {α β : Type} {R : Rl α β} {s : (β → Hp → Prop) → Prop} {v : α} (h : ∀ Q, (∀ x H', Kp3 (Ct.tabs ct) S H H' → ER K ct ks M W H' δ σ → R M H H' (fun a => ER K ct ks (plus M a) (plus W a) H' δ σ) v x → Q x H') → s Q) : Ev2 K ct ks E R S M W H σ s (.ok v δ) := h
theorem Ev2.stuck {α β : Type} {R : Rl α β} {s : (β → Hp → Prop) → Prop} : Ev2 (α := α) K ct ks E R S M W H σ s .stuck := fun _ p => p.elim
end
section
variable (K : PySem.W.Frag) (ct : Ct) (ks : Ky) (E : EX)
/-- an expression -/
structure DX (q : Bool) (m : Md) (X : Cx) (e : Expr) (t : TE) (d : Dl → Rs Dv) : Prop where
  pe : PE X e t
  ev : DGs K ct ks E (rmE K ct m) q t d
/-- a test -/
structure DT (q : Bool) (X : Cx) (e : Expr) (t : TT) (d : Dl → Rs Bool) : Prop where
  pe : PT X e t
  ev : DGs K ct ks E (fun _ _ _ _ b c => b = c) q t d
structure DW (q : Bool) (X : Cx) (e : Expr) (t : TT) (d : Dl → Rs Bool) : Prop where
  pe : PW X e t
  ev : DGs K ct ks E (fun _ _ _ _ b c => b = c) q t d
end
/-- the function of an operator: what it asks and gives -/
def OpD (K : PySem.W.Frag) (ct : Ct) (m1 m2 : Bool) (m : Md) (r : R2) (f : Dv → Dv → Option Dv) : Prop :=
  ∀ (M : Ads) (H : Hp) (x y : Dv) (u v : V) (d : Dv), (∀ a, M a → H a ≠ none) → (if m1 then repb K ct M H x u else rep K ct M H x u) → (if m2 then repb K ct M H y v else rep K ct M H y v) → f x y = some d →
    ∀ Q : VK, (∀ z H', Same H H' → rm K ct m M H H' d z → Q z H') → r u v H Q
def UnD (K : PySem.W.Frag) (ct : Ct) (m1 : Bool) (m : Md) (r : V → Hp → VK → Prop) (f : Dv → Option Dv) : Prop :=
  ∀ (M : Ads) (H : Hp) (x : Dv) (u : V) (d : Dv), (∀ a, M a → H a ≠ none) → (if m1 then repb K ct M H x u else rep K ct M H x u) → f x = some d →
    ∀ Q : VK, (∀ z H', Same H H' → rm K ct m M H H' d z → Q z H') → r u H Q
/-- a result that may lack -/
def opt {α : Type} : Option α → Dl → Rs α
  | some d, δ => .ok d δ
  | none, _ => .stuck
def cVar (i : Nat) : Dl → Rs Dv := fun δ => match δ[i]? with
  | some (some d) => .ok d δ
  | _ => .stuck
def cC (d : Dv) : Dl → Rs Dv := fun δ => .ok d δ
def cOp (f : Dv → Dv → Option Dv) (a b : Dl → Rs Dv) : Dl → Rs Dv := fun δ => bnd (a δ) fun x δ1 => bnd (b δ1) fun y δ2 => opt (f x y) δ2
def cUn (f : Dv → Option Dv) (a : Dl → Rs Dv) : Dl → Rs Dv := fun δ => bnd (a δ) fun x δ1 => opt (f x) δ1
def cBl : Dv → Option Bool
  | .bl b => some b
  | _ => none
theorem cBl_some {x : Dv} {bb : Bool} (h : cBl x = some bb) : x = .bl bb := by
  cases x with
  | bl k => cases h; rfl
  | non => cases h
  | int _ => cases h
  | str _ => cases h
  | tup _ => cases h
  | lst _ => cases h
  | obj _ _ _ => cases h
def cTest (a : Dl → Rs Dv) : Dl → Rs Bool := fun δ => bnd (a δ) fun x δ1 => opt (cBl x) δ1
def cIf {α : Type} (c : Dl → Rs Bool) (a b : Dl → Rs α) : Dl → Rs α := fun δ => bnd (c δ) fun x δ1 => if x = true then a δ1 else b δ1
def cNot (c : Dl → Rs Bool) : Dl → Rs Bool := fun δ => bnd (c δ) fun x δ1 => .ok (!x) δ1
section
variable {K : PySem.W.Frag} {ct : Ct} {ks : Ky} {E : EX} {X : Cx} {q q1 q2 : Bool} {m m1 m2 : Md} {e a b c : Expr} {t ta tb : TE} {d da db : Dl → Rs Dv} {pos : Pos}
theorem DX.weak (h : DX K ct ks E q m X e t d) : DX K ct ks E false m X e t d := ⟨h.pe, fun M W H δ σ er => (h.ev M W H δ σ er).weak fun _ z => ⟨rfl, z.2⟩⟩
theorem DX.vl (h : DX K ct ks E q .f X e t d) : DX K ct ks E q .v X e t d := ⟨h.pe, fun M W H δ σ er => (h.ev M W H δ σ er).imp fun _ _ _ _ r => ⟨rm_v er.mt (by decide) r.1, fun z => by cases z⟩⟩
theorem DX.br (h : DX K ct ks E q m X e t d) : DX K ct ks E q .b X e t d := ⟨h.pe, fun M W H δ σ er => (h.ev M W H δ σ er).imp fun _ _ _ _ r => ⟨rm_b er.mt r.1, fun z => by cases z⟩⟩
theorem DT.weak {t : TT} {d : Dl → Rs Bool} (h : DT K ct ks E q X e t d) : DT K ct ks E false X e t d := ⟨h.pe, fun M W H δ σ er => (h.ev M W H δ σ er).weak fun _ z => ⟨rfl, z.2⟩⟩
theorem DW.weak {t : TT} {d : Dl → Rs Bool} (h : DW K ct ks E q X e t d) : DW K ct ks E false X e t d := ⟨h.pe, fun M W H δ σ er => (h.ev M W H δ σ er).weak fun _ z => ⟨rfl, z.2⟩⟩
/-! names, constants -/
theorem cVar_ok {i : Nat} {δ : Dl} {d : Dv} (h : δ[i]? = some (some d)) : cVar i δ = .ok d δ := by
  unfold cVar
  rw [h]
theorem ev_var {M W : Ads} {H : Hp} {δ : Dl} {σ : L2.St} {S : Ads} {i : Nat} {R : Rl Dv V} (er : ER K ct ks M W H δ σ) (h : ∀ d v, slr K ct ks.be M W H (ks i) d v → R M H H (fun a => ER K ct ks (plus M a) (plus W a) H δ σ) d v) : Ev2 K ct ks E R S M W H σ (tVar i σ H) (cVar i δ) := by
  cases hd : δ[i]? with
  | none =>
    unfold cVar
    rw [hd]
    exact Ev2.stuck
  | some o =>
    cases o with
    | none =>
      unfold cVar
      rw [hd]
      exact Ev2.stuck
    | some d =>
      rw [cVar_ok hd]
      refine Ev2.ret fun Q p => ?_
      obtain ⟨v, h1, h2⟩ := er.sl i d hd
      exact ⟨v, h1, p v H (Kp3.refl _ _) er (h d v h2)⟩
theorem dx_v (i : Nat) (hk : ks i = .v) (h : PE X e (tVar i)) : DX K ct ks E true .v X e (tVar i) (cVar i) := ⟨h, fun M W H δ σ er => ev_var er fun d v s => ⟨by rw [hk] at s; exact s, fun z => by cases z⟩⟩
theorem dx_b (i : Nat) (h : PE X e (tVar i)) : DX K ct ks E true .b X e (tVar i) (cVar i) := ⟨h, fun M W H δ σ er => ev_var er fun d v s => ⟨slr_b s, fun z => by cases z⟩⟩
theorem dx_c {v : V} (d : Dv) (h : PE X e (tC v)) (hr : ∀ K M H, rep K ct M H d v) : DX K ct ks E true .v X e (tC v) (cC d) :=
  ⟨h, fun M W H δ σ er => Ev2.ret fun Q p => p v H (Kp3.refl _ _) er ⟨hr _ _ _, fun z => by cases z⟩⟩
theorem rep_int {M : Ads} {H : Hp} {i : Int} {v : V} : rep K ct M H (.int i) v ↔ v = .int i := by
  unfold rep
  exact Iff.rfl
theorem rep_bl {M : Ads} {H : Hp} {i : Bool} {v : V} : rep K ct M H (.bl i) v ↔ v = .bl i := by
  unfold rep
  exact Iff.rfl
theorem rep_str {M : Ads} {H : Hp} {i : Str} {v : V} : rep K ct M H (.str i) v ↔ v = .str i := by
  unfold rep
  exact Iff.rfl
theorem rep_non {M : Ads} {H : Hp} {v : V} : rep K ct M H .non v ↔ v = .non := by
  unfold rep
  exact Iff.rfl
theorem rep_tup {M : Ads} {H : Hp} {ds : List Dv} {v : V} : rep K ct M H (.tup ds) v ↔ ∃ a xs, v = .ref a ∧ ((¬ M a ∧ Rd H a (.tup xs)) ∨ WrT K a xs) ∧ reps K ct M H ds xs := by
  unfold rep
  exact Iff.rfl
theorem rep_lst {M : Ads} {H : Hp} {ds : List Dv} {v : V} : rep K ct M H (.lst ds) v ↔ ∃ a xs, v = .ref a ∧ ((¬ M a ∧ Rd H a (.lst xs)) ∨ WrL K a xs) ∧ reps K ct M H ds xs := by
  unfold rep
  exact Iff.rfl
theorem rep_obj {M : Ads} {H : Hp} {c : Str} {fs : List Str} {ds : List Dv} {v : V} : rep K ct M H (.obj c fs ds) v ↔ ∃ a dx xs, v = .ref a ∧ ¬ M a ∧ H a = some (.ins (ct c) dx (fs.zip xs)) ∧ reps K ct M H ds xs := by
  unfold rep
  exact Iff.rfl
theorem rmv_bl {M : Ads} {H H' : Hp} {i : Bool} {v : V} (h : rm K ct .v M H H' (.bl i) v) : v = .bl i := (rep_bl (K := K) (ct := ct) (M := M) (H := H')).mp h
theorem rmv_int {M : Ads} {H H' : Hp} {i : Int} {v : V} (h : rm K ct .v M H H' (.int i) v) : v = .int i := (rep_int (K := K) (ct := ct) (M := M) (H := H')).mp h
theorem rm_bl {M : Ads} {H H' : Hp} {i : Bool} : rm K ct .v M H H' (.bl i) (.bl i) := (rep_bl (K := K) (ct := ct) (M := M) (H := H')).mpr rfl
theorem rm_int {M : Ads} {H H' : Hp} {i : Int} : rm K ct .v M H H' (.int i) (.int i) := (rep_int (K := K) (ct := ct) (M := M) (H := H')).mpr rfl
theorem rm_str {M : Ads} {H H' : Hp} {i : Str} : rm K ct .v M H H' (.str i) (.str i) := (rep_str (K := K) (ct := ct) (M := M) (H := H')).mpr rfl
theorem rm_non {M : Ads} {H H' : Hp} : rm K ct .v M H H' .non .non := (rep_non (K := K) (ct := ct) (M := M) (H := H')).mpr rfl
theorem dx_int {i : Int} {j pos} : DX K ct ks E true .v X (.Constant (.int i) j pos) (tC (.int i)) (cC (.int i)) := dx_c _ pe_int fun _ _ _ => rep_int.mpr rfl
theorem dx_bl {i : Bool} {j pos} : DX K ct ks E true .v X (.Constant (.bool i) j pos) (tC (.bl i)) (cC (.bl i)) := dx_c _ pe_bl fun _ _ _ => rep_bl.mpr rfl
theorem dx_str {i : Str} {j pos} : DX K ct ks E true .v X (.Constant (.str i) j pos) (tC (.str i)) (cC (.str i)) := dx_c _ pe_str fun _ _ _ => rep_str.mpr rfl
theorem dx_non {j pos} : DX K ct ks E true .v X (.Constant .none j pos) (tC .non) (cC .non) := dx_c _ pe_non fun _ _ _ => rep_non.mpr rfl
theorem dx_gint {i : Int} {x : Str} (hg : Gl X x) (hm : ∃ t, X.mg x = some (.int i t)) (hd : (x == ("__debug__" : Str)) = false := by decide) : DX K ct ks E true .v X (.Name x pos) (tC (.int i)) (cC (.int i)) := by
  obtain ⟨t, hm⟩ := hm
  exact dx_c _ (pe_glob (v := .int i) hg hm ⟨t, rfl⟩ hd) fun _ _ _ => rep_int.mpr rfl
/-! operators -/
theorem ev_if {M : Ads} {H : Hp} {d : Dv} {v : V} {bb : Bool} (h : if bb then repb K ct M H d v else rep K ct M H d v) : repb K ct M H d v := by
  cases bb with
  | true => exact h
  | false => exact .inl h
def Md.isB : Md → Bool
  | .b => true
  | _ => false
/-- a result held through a further step -/
theorem rm_hold {M W : Ads} {H0 H H' : Hp} {m : Md} {d : Dv} {v : V} {q : Bool} (wm : ∀ a, W a → M a) (mt : ∀ a, M a → H0 a ≠ none) (hq : m.isB = true → q = true) (k : Kp3 (Ct.tabs ct) (Wq q W) H H') (h : rm K ct m M H0 H d v) :
    if m.isB then repb K ct M H' d v else rep K ct M H' d v := by
  cases m with
  | v => exact rep_kp k (fun a z => wm a z.2) h
  | b =>
    cases hq rfl
    exact repb_q (k.mono fun a z => Wq.no z) h
  | f => exact rep_kp k (fun a z => wm a z.2) (rm_v mt (by decide) h)
theorem rm_now {M : Ads} {H0 H : Hp} {m : Md} {d : Dv} {v : V} (mt : ∀ a, M a → H0 a ≠ none) (h : rm K ct m M H0 H d v) : if m.isB then repb K ct M H d v else rep K ct M H d v := by
  cases m with
  | v => exact h
  | b => exact h
  | f => exact rm_v mt (by decide) h
theorem ev_opt {M W S : Ads} {H : Hp} {δ : Dl} {σ : L2.St} {m : Md} {s : VK → Prop} {o : Option Dv} (er : ER K ct ks M W H δ σ)
    (h : ∀ d, o = some d → ∀ Q : VK, (∀ z H', Same H H' → rm K ct m M H H' d z → Q z H') → s Q) : Ev2 K ct ks E (rmE K ct m) S M W H σ s (opt o δ) := by
  cases o with
  | none => exact Ev2.stuck
  | some d => exact Ev2.ret fun Q p => h d rfl Q fun z H' e r => p z H' (Kp3.same e) (er.q (Kp3.same e)) (re_of er e r)
theorem Pst.kp {M W S : Ads} {H H1 : Hp} {σ : L2.St} {α β : Type} {R : Rl α β} {Q : β → Hp → Prop} {r : Rs α} (p : Pst K ct ks E R S M W H σ Q r) (k : Kp3 (Ct.tabs ct) S H H1) (anti : ∀ H1 H2 er v x, Kp3 (Ct.tabs ct) S H H1 → R M H1 H2 er v x → R M H H2 er v x) : Pst K ct ks E R S M W H1 σ Q r := by
  cases r with
  | ok v δ' => exact fun x H' k2 e2 r2 => p x H' (k.trans k2) e2 (anti _ _ _ _ _ k r2)
  | exc c ns ds δ' => exact fun xd H' k2 e2 r2 => p xd H' (k.trans k2) e2 r2
  | stuck => exact p
theorem ev_op {r : R2} {f : Dv → Dv → Option Dv} (ho : OpD K ct m1.isB m2.isB m r f) (ha : DX K ct ks E q1 m1 X a ta da) (hb : DX K ct ks E q2 m2 X b tb db) (hq : m1.isB = true → q2 = true) :
    DGs K ct ks E (rmE K ct m) (q1 && q2) (tOp r ta tb) (cOp f da db) := fun M W H δ σ er => by
  refine Ev2.bind ((ha.ev M W H δ σ er).weak (fun z hz => ⟨by rw [hz.1]; rfl, hz.2⟩)) (fun _ h => h) (fun _ _ _ _ _ k h => re_anti k h) fun x δ1 u H1 k1 e1 r1 => ?_
  intro Q p
  refine hb.ev M W H1 δ1 σ e1 _ ?_
  cases hy : db δ1 with
  | ok y δ2 =>
    intro v H2 k2 e2 r2
    rw [hy] at p
    have p' : Pst K ct ks E (rmE K ct m) (Wq (q1 && q2) W) M W H1 σ Q (opt (f x y) δ2) := p
    have k2' : Kp3 (Ct.tabs ct) (Wq (q1 && q2) W) H1 H2 := k2.mono fun z hz => ⟨by rw [hz.1]; exact Bool.and_false _, hz.2⟩
    exact ev_opt e2 (fun d hd Q q => ho M H2 x y u v d e2.mt (rm_hold e1.wm er.mt hq k2 r1.1) (rm_now e1.mt r2.1) hd Q q) Q (p'.kp k2' fun _ _ _ _ _ k h => re_anti k h)
  | exc c ns ds δ2 =>
    intro xd H2 k2 e2 r2
    rw [hy] at p
    exact p xd H2 (k2.mono fun z hz => ⟨by rw [hz.1]; exact Bool.and_false _, hz.2⟩) e2 r2
  | stuck =>
    rw [hy] at p
    exact p
theorem dx_op {op : Operator} {r : R2} {f : Dv → Dv → Option Dv} (hp : OpR X (binaryOp op) r) (ho : OpD K ct m1.isB m2.isB m r f) (ha : DX K ct ks E q1 m1 X a ta da) (hb : DX K ct ks E q2 m2 X b tb db) (hq : m1.isB = true → q2 = true := by decide) :
    DX K ct ks E (q1 && q2) m X (.BinOp a op b pos) (tOp r ta tb) (cOp f da db) := ⟨pe_op hp ha.pe hb.pe, ev_op ho ha hb hq⟩
theorem dx_cmp {op : CmpOp} {r : R2} {f : Dv → Dv → Option Dv} (hp : OpR X (compareOp op) r) (ho : OpD K ct m1.isB m2.isB m r f) (ha : DX K ct ks E q1 m1 X a ta da) (hb : DX K ct ks E q2 m2 X b tb db) (hm : behindInMarks op b = false) (hq : m1.isB = true → q2 = true := by decide) :
    DX K ct ks E (q1 && q2) m X (.Compare a [op] [b] pos) (tOp r ta tb) (cOp f da db) := ⟨pe_cmpR hp ha.pe hb.pe hm, ev_op ho ha hb hq⟩
theorem ev_test (h : DGs K ct ks E (rmE K ct .v) q t d) : DGs K ct ks E (fun _ _ _ _ b c => b = c) q (tTest t) (cTest d) := fun M W H δ σ er => by
  refine Ev2.bind (h M W H δ σ er) (fun _ h => h) (fun _ _ _ _ _ _ h => h) fun x δ1 u H1 k1 e1 r1 => ?_
  cases hx : cBl x with
  | none => exact Ev2.stuck
  | some bb =>
    cases cBl_some hx
    refine Ev2.ret fun Q p => ?_
    cases rmv_bl r1.1
    exact ⟨bb, rfl, p bb H1 (Kp3.refl _ _) e1 rfl⟩
theorem dt_cmp {op : CmpOp} {r : R2} {f : Dv → Dv → Option Dv} (hp : OpR X (compareOp op) r) (ho : OpD K ct m1.isB m2.isB .v r f) (ha : DX K ct ks E q1 m1 X a ta da) (hb : DX K ct ks E q2 m2 X b tb db) (hm : behindInMarks op b = false) (hq : m1.isB = true → q2 = true := by decide) :
    DT K ct ks E (q1 && q2) X (.Compare a [op] [b] pos) (tTest (tOp r ta tb)) (cTest (cOp f da db)) := ⟨pt_cmpR hp ha.pe hb.pe hm, ev_test (ev_op ho ha hb hq)⟩
theorem dt_val (h : DX K ct ks E q .v X e t d) (he : ∀ whole, isTrue e X.env whole = (do let v ← whole; standAt e.pos; holding [v] (truthy v)) := by intro _; rfl) : DT K ct ks E q X e (tB t) (cTest d) := ⟨pt_val h.pe he, ev_test h.ev⟩
theorem dt_not {t : TT} {d : Dl → Rs Bool} (h : DT K ct ks E q X e t d) : DT K ct ks E q X (.UnaryOp .Not e pos) (tNot t) (cNot d) :=
  ⟨pt_not h.pe, fun M W H δ σ er => Ev2.bind (h.ev M W H δ σ er) (fun _ h => h) (fun _ _ _ _ _ _ h => h) fun x δ1 u H1 k1 e1 r1 => Ev2.ret fun Q p => p (!u) H1 (Kp3.refl _ _) e1 (by cases r1; rfl)⟩
def cAnd (a b : Dl → Rs Bool) : Dl → Rs Bool := fun δ => bnd (a δ) fun x δ1 => if x = true then b δ1 else .ok false δ1
def cOr (a b : Dl → Rs Bool) : Dl → Rs Bool := fun δ => bnd (a δ) fun x δ1 => if x = true then .ok true δ1 else b δ1
theorem ev_and {t u : TT} {d d' : Dl → Rs Bool} (h : DGs K ct ks E (fun _ _ _ _ b c => b = c) q1 t d) (h' : DGs K ct ks E (fun _ _ _ _ b c => b = c) q2 u d') : DGs K ct ks E (fun _ _ _ _ b c => b = c) (q1 && q2) (tAnd t u) (cAnd d d') := fun M W H δ σ er => by
  refine Ev2.bind ((h M W H δ σ er).weak fun z hz => ⟨by rw [hz.1]; rfl, hz.2⟩) (fun _ h => h) (fun _ _ _ _ _ _ h => h) fun x δ1 c H1 k1 e1 r1 => ?_
  cases r1
  cases x with
  | true => exact (h' M W H1 δ1 σ e1).weak fun z hz => ⟨by rw [hz.1]; exact Bool.and_false _, hz.2⟩
  | false => exact Ev2.ret fun Q p => p false H1 (Kp3.refl _ _) e1 rfl
theorem ev_or {t u : TT} {d d' : Dl → Rs Bool} (h : DGs K ct ks E (fun _ _ _ _ b c => b = c) q1 t d) (h' : DGs K ct ks E (fun _ _ _ _ b c => b = c) q2 u d') : DGs K ct ks E (fun _ _ _ _ b c => b = c) (q1 && q2) (tOr t u) (cOr d d') := fun M W H δ σ er => by
  refine Ev2.bind ((h M W H δ σ er).weak fun z hz => ⟨by rw [hz.1]; rfl, hz.2⟩) (fun _ h => h) (fun _ _ _ _ _ _ h => h) fun x δ1 c H1 k1 e1 r1 => ?_
  cases r1
  cases x with
  | false => exact (h' M W H1 δ1 σ e1).weak fun z hz => ⟨by rw [hz.1]; exact Bool.and_false _, hz.2⟩
  | true => exact Ev2.ret fun Q p => p true H1 (Kp3.refl _ _) e1 rfl
theorem DW.dt {t : TT} {d : Dl → Rs Bool} (h : DW K ct ks E q X e t d) : DT K ct ks E q X e t d := ⟨h.pe.pt, h.ev⟩
theorem dw_and1 {t : TT} {d : Dl → Rs Bool} (h : DT K ct ks E q X a t d) : DW K ct ks E q X (.BoolOp .And [a] pos) t d := ⟨pw_and1 h.pe, h.ev⟩
theorem dw_or1 {t : TT} {d : Dl → Rs Bool} (h : DT K ct ks E q X a t d) : DW K ct ks E q X (.BoolOp .Or [a] pos) t d := ⟨pw_or1 h.pe, h.ev⟩
theorem dw_and {rest : List Expr} {t u : TT} {d d' : Dl → Rs Bool} (h : DT K ct ks E q1 X a t d) (h' : DW K ct ks E q2 X (.BoolOp .And (b :: rest) pos) u d') : DW K ct ks E (q1 && q2) X (.BoolOp .And (a :: b :: rest) pos) (tAnd t u) (cAnd d d') := ⟨pw_and h.pe h'.pe, ev_and h.ev h'.ev⟩
theorem dw_or {rest : List Expr} {t u : TT} {d d' : Dl → Rs Bool} (h : DT K ct ks E q1 X a t d) (h' : DW K ct ks E q2 X (.BoolOp .Or (b :: rest) pos) u d') : DW K ct ks E (q1 && q2) X (.BoolOp .Or (a :: b :: rest) pos) (tOr t u) (cOr d d') := ⟨pw_or h.pe h'.pe, ev_or h.ev h'.ev⟩
theorem dx_ifExp {tc : TT} {dc : Dl → Rs Bool} (hc : DT K ct ks E q X c tc dc) (ha : DX K ct ks E q1 m X a ta da) (hb : DX K ct ks E q2 m X b tb db) : DX K ct ks E (q && (q1 && q2)) m X (.IfExp c a b pos) (tIf tc ta tb) (cIf dc da db) :=
  ⟨pe_ifExp hc.pe ha.pe hb.pe, fun M W H δ σ er => by
    refine Ev2.bind ((hc.ev M W H δ σ er).weak fun z hz => ⟨by rw [hz.1]; rfl, hz.2⟩) (fun _ h => h) (fun _ _ _ _ _ k h => re_anti k h) fun x δ1 c H1 k1 e1 r1 => ?_
    cases r1
    cases x with
    | true => exact (ha.ev M W H1 δ1 σ e1).weak fun z hz => ⟨by rw [hz.1]; simp, hz.2⟩
    | false => exact (hb.ev M W H1 δ1 σ e1).weak fun z hz => ⟨by rw [hz.1]; simp, hz.2⟩⟩
/-! and, or, not as values: of bools -/
def cAndV (a b : Dl → Rs Dv) : Dl → Rs Dv := fun δ => bnd (a δ) fun x δ1 => match cBl x with
  | some true => b δ1
  | some false => .ok (.bl false) δ1
  | none => .stuck
def cOrV (a b : Dl → Rs Dv) : Dl → Rs Dv := fun δ => bnd (a δ) fun x δ1 => match cBl x with
  | some false => b δ1
  | some true => .ok (.bl true) δ1
  | none => .stuck
theorem dx_one {op} (h : DX K ct ks E q m X a t d) : DX K ct ks E q m X (.BoolOp op [a] pos) t d := ⟨pe_one h.pe, h.ev⟩
theorem dx_and {rest : List Expr} (ha : DX K ct ks E q1 .v X a ta da) (hb : DX K ct ks E q2 .v X (.BoolOp .And (b :: rest) pos) tb db) : DX K ct ks E (q1 && q2) .v X (.BoolOp .And (a :: b :: rest) pos) (tAndV ta tb) (cAndV da db) :=
  ⟨pe_and ha.pe hb.pe, fun M W H δ σ er => by
    refine Ev2.bind ((ha.ev M W H δ σ er).weak fun z hz => ⟨by rw [hz.1]; rfl, hz.2⟩) (fun _ h => h) (fun _ _ _ _ _ k h => re_anti k h) fun x δ1 c H1 k1 e1 r1 => ?_
    cases hx : cBl x with
    | none => exact Ev2.stuck
    | some bb =>
      cases cBl_some hx
      cases rmv_bl r1.1
      cases bb with
      | true => exact fun Q p => ⟨true, rfl, ((hb.ev M W H1 δ1 σ e1).weak fun z hz => ⟨by rw [hz.1]; simp, hz.2⟩) Q p⟩
      | false => exact Ev2.ret fun Q p => ⟨false, rfl, p (.bl false) H1 (Kp3.refl _ _) e1 (re_v r1.1)⟩⟩
theorem dx_or {rest : List Expr} (ha : DX K ct ks E q1 .v X a ta da) (hb : DX K ct ks E q2 .v X (.BoolOp .Or (b :: rest) pos) tb db) : DX K ct ks E (q1 && q2) .v X (.BoolOp .Or (a :: b :: rest) pos) (tOrV ta tb) (cOrV da db) :=
  ⟨pe_or ha.pe hb.pe, fun M W H δ σ er => by
    refine Ev2.bind ((ha.ev M W H δ σ er).weak fun z hz => ⟨by rw [hz.1]; rfl, hz.2⟩) (fun _ h => h) (fun _ _ _ _ _ k h => re_anti k h) fun x δ1 c H1 k1 e1 r1 => ?_
    cases hx : cBl x with
    | none => exact Ev2.stuck
    | some bb =>
      cases cBl_some hx
      cases rmv_bl r1.1
      cases bb with
      | false => exact fun Q p => ⟨false, rfl, ((hb.ev M W H1 δ1 σ e1).weak fun z hz => ⟨by rw [hz.1]; simp, hz.2⟩) Q p⟩
      | true => exact Ev2.ret fun Q p => ⟨true, rfl, p (.bl true) H1 (Kp3.refl _ _) e1 (re_v r1.1)⟩⟩
def fNot : Dv → Option Dv
  | .bl b => some (.bl (!b))
  | _ => none
theorem dx_not (ha : DX K ct ks E q .v X a ta da) : DX K ct ks E q .v X (.UnaryOp .Not a pos) (tNotV ta) (cUn fNot da) :=
  ⟨pe_not ha.pe, fun M W H δ σ er => by
    refine Ev2.bind (ha.ev M W H δ σ er) (fun _ h => h) (fun _ _ _ _ _ k h => re_anti k h) fun x δ1 c H1 k1 e1 r1 => ?_
    refine ev_opt e1 fun d hd Q p => ?_
    cases x with
    | bl k =>
      cases hd
      cases rmv_bl r1.1
      exact ⟨k, rfl, p _ H1 (Same.refl _) rm_bl⟩
    | non => cases hd
    | int _ => cases hd
    | str _ => cases hd
    | tup _ => cases hd
    | lst _ => cases hd
    | obj _ _ _ => cases hd⟩
theorem ev_un {r : V → Hp → VK → Prop} {f : Dv → Option Dv} (ho : UnD K ct m1.isB m r f) (ha : DX K ct ks E q1 m1 X a ta da) : DGs K ct ks E (rmE K ct m) q1 (tUn r ta) (cUn f da) := fun M W H δ σ er => by
  refine Ev2.bind (ha.ev M W H δ σ er) (fun _ h => h) (fun _ _ _ _ _ k h => re_anti k h) fun x δ1 u H1 k1 e1 r1 => ?_
  exact ev_opt e1 fun d hd Q p => ho M H1 x u d e1.mt (rm_now er.mt r1.1) hd Q p
theorem dx_un {op : UnaryOp} {r : V → Hp → VK → Prop} {f : Dv → Option Dv} (hp : UnR X (unaryOp op) r) (ho : UnD K ct m1.isB m r f) (ha : DX K ct ks E q1 m1 X a ta da) : DX K ct ks E q1 m X (.UnaryOp op a pos) (tUn r ta) (cUn f da) := ⟨pe_un hp ha.pe, ev_un ho ha⟩
end
end Dn

/-! Operators, by the trees of their operands. -/
namespace Dn
open PySem PySem.Spec PyProof.Rows L2 LamX Q
section
variable {K : PySem.W.Frag} {ct : Ct} {M : Ads} {H H' : Hp}
theorem rep_SqT {ds : List Dv} {v : V} (h : rep K ct M H (.tup ds) v) : ∃ a xs, v = .ref a ∧ SqT K H a xs ∧ reps K ct M H ds xs := by
  obtain ⟨a, xs, e, r, hd⟩ := rep_tup.mp h
  refine ⟨a, xs, e, ?_, hd⟩
  rcases r with ⟨_, r⟩ | r
  · exact .inl r
  · exact .inr r
theorem rep_SqL {ds : List Dv} {v : V} (h : rep K ct M H (.lst ds) v) : ∃ a xs, v = .ref a ∧ SqL K H a xs ∧ reps K ct M H ds xs := by
  obtain ⟨a, xs, e, r, hd⟩ := rep_lst.mp h
  refine ⟨a, xs, e, ?_, hd⟩
  rcases r with ⟨_, r⟩ | r
  · exact .inl r
  · exact .inr r
theorem repb_SqL {ds : List Dv} {v : V} (h : repb K ct M H (.lst ds) v) : ∃ a xs, v = .ref a ∧ SqL K H a xs ∧ reps K ct M H ds xs := by
  rcases h with h | ⟨a, rfl, ⟨es, xs, e, h4, h5⟩ | ⟨_, _, _, _, _, e, _⟩⟩
  · obtain ⟨a, xs, e, r, hd⟩ := rep_SqL h
    exact ⟨a, xs, e, r, hd⟩
  · cases e
    exact ⟨a, xs, rfl, .inl h4, h5⟩
  · cases e
theorem repb_tup {ds : List Dv} {v : V} (h : repb K ct M H (.tup ds) v) : rep K ct M H (.tup ds) v := by
  rcases h with h | ⟨a, rfl, ⟨es, xs, e, h4, h5⟩ | ⟨_, _, _, _, _, e, _⟩⟩
  · exact h
  · cases e
  · cases e
theorem repb_int {i : Int} {v : V} (h : repb K ct M H (.int i) v) : v = .int i := by
  rcases h with h | ⟨a, rfl, ⟨es, xs, e, h4, h5⟩ | ⟨_, _, _, _, _, e, _⟩⟩
  · exact (rep_int (K := K) (ct := ct) (M := M) (H := H)).mp h
  · cases e
  · cases e
theorem repb_str {i : Str} {v : V} (h : repb K ct M H (.str i) v) : v = .str i := by
  rcases h with h | ⟨a, rfl, ⟨es, xs, e, h4, h5⟩ | ⟨_, _, _, _, _, e, _⟩⟩
  · exact (rep_str (K := K) (ct := ct) (M := M) (H := H)).mp h
  · cases e
  · cases e
theorem repb_bl {i : Bool} {v : V} (h : repb K ct M H (.bl i) v) : v = .bl i := by
  rcases h with h | ⟨a, rfl, ⟨es, xs, e, h4, h5⟩ | ⟨_, _, _, _, _, e, _⟩⟩
  · exact (rep_bl (K := K) (ct := ct) (M := M) (H := H)).mp h
  · cases e
  · cases e
theorem repb_non {v : V} (h : repb K ct M H .non v) : v = .non := by
  rcases h with h | ⟨a, rfl, ⟨es, xs, e, h4, h5⟩ | ⟨_, _, _, _, _, e, _⟩⟩
  · exact (rep_non (K := K) (ct := ct) (M := M) (H := H)).mp h
  · cases e
  · cases e
theorem repb_obj {c : Str} {ns : List Str} {ds : List Dv} {v : V} (h : repb K ct M H (.obj c ns ds) v) : ∃ a dx xs, v = .ref a ∧ H a = some (.ins (ct c) dx (ns.zip xs)) ∧ reps K ct M H ds xs := by
  rcases h with h | ⟨a, rfl, ⟨es, xs, e, h4, h5⟩ | ⟨_, _, _, dx, xs, e, h4, h5⟩⟩
  · obtain ⟨a, dx, xs, e, n, r, hd⟩ := rep_obj.mp h
    exact ⟨a, dx, xs, e, r, hd⟩
  · cases e
  · cases e
    exact ⟨a, dx, xs, rfl, h4, h5⟩
theorem reps_ints {ns : List Int} : reps K ct M H (ns.map Dv.int) (ns.map V.int) := by
  induction ns with
  | nil => exact reps_nil
  | cons n ns ih => exact reps_cons ((rep_int (K := K) (ct := ct) (M := M) (H := H)).mpr rfl) ih
/-- the ints of a list of trees -/
def asInts : List Dv → Option (List Int)
  | [] => some []
  | .int i :: ds => (asInts ds).map (i :: ·)
  | _ :: _ => none
theorem asInts_map : ∀ ns : List Int, asInts (ns.map Dv.int) = some ns
  | [] => rfl
  | n :: ns => by
    show (asInts (ns.map Dv.int)).map (n :: ·) = some (n :: ns)
    rw [asInts_map ns]
    rfl
theorem asInts_some : ∀ {ds : List Dv} {ns : List Int}, asInts ds = some ns → ds = ns.map Dv.int
  | [], ns, h => by cases h; rfl
  | .int i :: ds, ns, h => by
    unfold asInts at h
    cases h1 : asInts ds with
    | none => rw [h1] at h; cases h
    | some ms =>
      rw [h1] at h
      cases h
      rw [asInts_some h1]
      rfl
  | .non :: _, _, h => by cases h
  | .bl _ :: _, _, h => by cases h
  | .str _ :: _, _, h => by cases h
  | .tup _ :: _, _, h => by cases h
  | .lst _ :: _, _, h => by cases h
  | .obj _ _ _ :: _, _, h => by cases h
theorem reps_of_ints : ∀ {ns : List Int} {vs : List V}, reps K ct M H (ns.map Dv.int) vs → vs = ns.map V.int
  | [], _, h => reps_inv0 h
  | n :: ns, _, h => by
    obtain ⟨x, ys, e, h1, h2⟩ := reps_inv (d := .int n) (ds := ns.map Dv.int) h
    rw [e, reps_of_ints h2, (rep_int (K := K) (ct := ct) (M := M) (H := H)).mp h1]
    rfl
def asBls : List Dv → Option (List Bool)
  | [] => some []
  | .bl i :: ds => (asBls ds).map (i :: ·)
  | _ :: _ => none
theorem asBls_map : ∀ ns : List Bool, asBls (ns.map Dv.bl) = some ns
  | [] => rfl
  | n :: ns => by
    show (asBls (ns.map Dv.bl)).map (n :: ·) = some (n :: ns)
    rw [asBls_map ns]
    rfl
theorem asBls_some : ∀ {ds : List Dv} {ns : List Bool}, asBls ds = some ns → ds = ns.map Dv.bl
  | [], ns, h => by cases h; rfl
  | .bl i :: ds, ns, h => by
    unfold asBls at h
    cases h1 : asBls ds with
    | none => rw [h1] at h; cases h
    | some ms =>
      rw [h1] at h
      cases h
      rw [asBls_some h1]
      rfl
  | .non :: _, _, h => by cases h
  | .int _ :: _, _, h => by cases h
  | .str _ :: _, _, h => by cases h
  | .tup _ :: _, _, h => by cases h
  | .lst _ :: _, _, h => by cases h
  | .obj _ _ _ :: _, _, h => by cases h
theorem reps_of_bls : ∀ {ns : List Bool} {vs : List V}, reps K ct M H (ns.map Dv.bl) vs → vs = ns.map V.bl
  | [], _, h => reps_inv0 h
  | n :: ns, _, h => by
    obtain ⟨x, ys, e, h1, h2⟩ := reps_inv (d := .bl n) (ds := ns.map Dv.bl) h
    rw [e, reps_of_bls h2, (rep_bl (K := K) (ct := ct) (M := M) (H := H)).mp h1]
    rfl
/-! new things -/
theorem new_tup {ds : List Dv} {xs : List V} {p : Addr} (mt : ∀ a, M a → H a ≠ none) (hp : H p = none) (h : reps K ct M H ds xs) : rep K ct M (upd H p (.tup xs)) (.tup ds) (.ref p) := by
  rw [rep_tup]
  exact ⟨p, xs, rfl, .inl ⟨fun z => mt p z hp, .inl upd_same⟩, reps_same (Same.new hp) h⟩
theorem new_lst {ds : List Dv} {xs : List V} {p : Addr} (mt : ∀ a, M a → H a ≠ none) (hp : H p = none) (h : reps K ct M H ds xs) : rep K ct M (upd H p (.lst xs)) (.lst ds) (.ref p) := by
  rw [rep_lst]
  exact ⟨p, xs, rfl, .inl ⟨fun z => mt p z hp, .inl upd_same⟩, reps_same (Same.new hp) h⟩
theorem new_f {ds : List Dv} {xs : List V} {p : Addr} (hp : H p = none) (h : reps K ct M H ds xs) : rm K ct .f M H (upd H p (.lst xs)) (.lst ds) (.ref p) :=
  ⟨ds, p, xs, rfl, rfl, hp, upd_same, reps_step (S := fun _ => False) (Kp3.new hp) (fun _ z => z.elim) (plus_ok hp) h⟩
end
/-! ints -/
def fI (g : Int → Int → Dv) : Dv → Dv → Option Dv
  | .int i, .int j => some (g i j)
  | _, _ => none
def fIc (C : Int → Int → Bool) (g : Int → Int → Dv) : Dv → Dv → Option Dv
  | .int i, .int j => if C i j = true then some (g i j) else none
  | _, _ => none
theorem fI_some {g : Int → Int → Dv} {x y d : Dv} (h : fI g x y = some d) : ∃ i j, x = .int i ∧ y = .int j ∧ d = g i j := by
  unfold fI at h
  split at h
  · cases h
    exact ⟨_, _, rfl, rfl, rfl⟩
  · cases h
theorem fIc_some {C : Int → Int → Bool} {g : Int → Int → Dv} {x y d : Dv} (h : fIc C g x y = some d) : ∃ i j, x = .int i ∧ y = .int j ∧ C i j = true ∧ d = g i j := by
  unfold fIc at h
  split at h
  · split at h
    · cases h
      exact ⟨_, _, rfl, rfl, by assumption, rfl⟩
    · cases h
  · cases h
def sub2 : Dv → Dv → Option Dv := fI fun i j => .int (i - j)
def lt2 : Dv → Dv → Option Dv := fI fun i j => .bl (decide (i < j))
def le2 : Dv → Dv → Option Dv := fI fun i j => .bl (decide (i ≤ j))
def gt2 : Dv → Dv → Option Dv := fI fun i j => .bl (decide (j < i))
def ge2 : Dv → Dv → Option Dv := fI fun i j => .bl (decide (j ≤ i))
def bMul (i j : Int) : Bool := decide (-(2 ^ 64) < i ∧ i < 2 ^ 64) || decide (-(2 ^ 64) < j ∧ j < 2 ^ 64)
def bDiv (i j : Int) : Bool := decide (0 < j ∧ j < 1073741824)
def bPow (i j : Int) : Bool := decide (0 ≤ j ∧ j ≤ 1000000 ∧ i.natAbs < 2 ^ 64)
def fdiv2 : Dv → Dv → Option Dv := fIc bDiv fun i j => .int (i / j)
def mod2 : Dv → Dv → Option Dv := fIc (fun _ j => decide (0 < j)) fun i j => .int (i % j)
def pow2 : Dv → Dv → Option Dv := fIc bPow fun i j => .int (i ^ j.toNat)
section
variable {K : PySem.W.Frag} {ct : Ct} {b1 b2 : Bool}
theorem opd_I0 {g : Int → Int → V} {g' : Int → Int → Dv} (hg : ∀ i j M H, rep K ct M H (g' i j) (g i j)) : OpD K ct b1 b2 .v (rI0 g) (fI g') := fun M H x y u v d mt h1 h2 hf Q q => by
  obtain ⟨i, j, rfl, rfl, rfl⟩ := fI_some hf
  exact ⟨i, j, repb_int (ev_if h1), repb_int (ev_if h2), q _ H (Same.refl _) (hg _ _ _ _)⟩
theorem opd_I {C : Int → Int → Prop} {C' : Int → Int → Bool} {g : Int → Int → V} {g' : Int → Int → Dv} (hc : ∀ i j, C' i j = true → C i j) (hg : ∀ i j M H, rep K ct M H (g' i j) (g i j)) : OpD K ct b1 b2 .v (rI C g) (fIc C' g') := fun M H x y u v d mt h1 h2 hf Q q => by
  obtain ⟨i, j, rfl, rfl, hC, rfl⟩ := fIc_some hf
  exact ⟨i, j, repb_int (ev_if h1), repb_int (ev_if h2), hc _ _ hC, q _ H (Same.refl _) (hg _ _ _ _)⟩
theorem opd_sub : OpD K ct b1 b2 .v (rI0 fun i j => .int (i - j)) sub2 := opd_I0 fun _ _ _ _ => rep_int.mpr rfl
theorem opd_lt : OpD K ct b1 b2 .v (rI0 fun i j => .bl (decide (i < j))) lt2 := opd_I0 fun _ _ _ _ => rep_bl.mpr rfl
theorem opd_le : OpD K ct b1 b2 .v (rI0 fun i j => .bl (decide (i ≤ j))) le2 := opd_I0 fun _ _ _ _ => rep_bl.mpr rfl
theorem opd_gt : OpD K ct b1 b2 .v (rI0 fun i j => .bl (decide (j < i))) gt2 := opd_I0 fun _ _ _ _ => rep_bl.mpr rfl
theorem opd_ge : OpD K ct b1 b2 .v (rI0 fun i j => .bl (decide (j ≤ i))) ge2 := opd_I0 fun _ _ _ _ => rep_bl.mpr rfl
theorem opd_fdiv : OpD K ct b1 b2 .v (rI CDiv fun i j => .int (i / j)) fdiv2 := opd_I (fun i j h => show 0 < j ∧ j < 1073741824 from of_decide_eq_true h) fun _ _ _ _ => rep_int.mpr rfl
theorem opd_mod : OpD K ct b1 b2 .v (rI (fun _ j => 0 < j) fun i j => .int (i % j)) mod2 := opd_I (fun _ _ h => of_decide_eq_true h) fun _ _ _ _ => rep_int.mpr rfl
theorem opd_pow : OpD K ct b1 b2 .v (rI CPow fun i j => .int (i ^ j.toNat)) pow2 := opd_I (fun i j h => show 0 ≤ j ∧ j ≤ 1000000 ∧ i.natAbs < 2 ^ 64 from of_decide_eq_true h) fun _ _ _ _ => rep_int.mpr rfl
theorem OpD.or {r r' : R2} {m : Md} {f g : Dv → Dv → Option Dv} (h : OpD K ct b1 b2 m r f) (h' : OpD K ct b1 b2 m r' g) : OpD K ct b1 b2 m (fun x y H Q => r x y H Q ∨ r' x y H Q) (fun x y => (f x y).or (g x y)) := fun M H x y u v d mt h1 h2 hf Q q => by
  have hf2 : (f x y).or (g x y) = some d := hf
  cases e : f x y with
  | some z =>
    rw [e] at hf2
    have hf' : some z = some d := hf2
    cases hf'
    exact .inl (h M H x y u v _ mt h1 h2 e Q q)
  | none =>
    rw [e] at hf2
    have hf' : g x y = some d := hf2
    exact .inr (h' M H x y u v d mt h1 h2 hf' Q q)
end
/-! + -/
def catL : Dv → Dv → Option Dv
  | .lst a, .lst b => if a.length + b.length ≤ sizeLine then some (.lst (a ++ b)) else none
  | _, _ => none
def catT : Dv → Dv → Option Dv
  | .tup a, .tup b => if a.length + b.length ≤ sizeLine then some (.tup (a ++ b)) else none
  | _, _ => none
def catS : Dv → Dv → Option Dv
  | .str a, .str b => if a.length + b.length ≤ sizeLine then some (.str (a ++ b)) else none
  | _, _ => none
theorem catL_some {x y d : Dv} (h : catL x y = some d) : ∃ a b, x = .lst a ∧ y = .lst b ∧ a.length + b.length ≤ sizeLine ∧ d = .lst (a ++ b) := by
  unfold catL at h
  split at h
  · split at h
    · cases h
      exact ⟨_, _, rfl, rfl, by assumption, rfl⟩
    · cases h
  · cases h
theorem catT_some {x y d : Dv} (h : catT x y = some d) : ∃ a b, x = .tup a ∧ y = .tup b ∧ a.length + b.length ≤ sizeLine ∧ d = .tup (a ++ b) := by
  unfold catT at h
  split at h
  · split at h
    · cases h
      exact ⟨_, _, rfl, rfl, by assumption, rfl⟩
    · cases h
  · cases h
theorem catS_some {x y d : Dv} (h : catS x y = some d) : ∃ a b, x = .str a ∧ y = .str b ∧ a.length + b.length ≤ sizeLine ∧ d = .str (a ++ b) := by
  unfold catS at h
  split at h
  · split at h
    · cases h
      exact ⟨_, _, rfl, rfl, by assumption, rfl⟩
    · cases h
  · cases h
abbrev rStr : R2 := fun x y H Q => ∃ i j, x = .str i ∧ y = .str j ∧ i.length + j.length ≤ sizeLine ∧ Q (.str (i ++ j)) H
def rAdd4 (K : PySem.W.Frag) : R2 := fun x y H Q => (rI0 fun i j => .int (i + j)) x y H Q ∨ (rCatR K x y H Q ∨ (rCatA K x y H Q ∨ rStr x y H Q))
def add2 : Dv → Dv → Option Dv
  | .int i, .int j => some (.int (i + j))
  | .lst a, .lst b => catL (.lst a) (.lst b)
  | .tup a, .tup b => catT (.tup a) (.tup b)
  | .str a, .str b => catS (.str a) (.str b)
  | _, _ => none
section
variable {X : Cx} {K : PySem.W.Frag} {ct : Ct} {b1 b2 : Bool}
theorem op_add4 (hK : X.K = K) : OpR X (binaryOp .Add) (rAdd4 K) := by
  subst hK
  exact op_add.or (op_catR.or (op_catA.or op_add_str))
theorem op_catRK (hK : X.K = K) : OpR X (binaryOp .Add) (rCatR K) := by
  subst hK
  exact op_catR
theorem opd_catL : OpD K ct b1 b2 .f (rCatR K) catL := fun M H x y u v d mt h1 h2 hf Q q => by
  obtain ⟨a, b, rfl, rfl, hl, rfl⟩ := catL_some hf
  obtain ⟨l, xs, rfl, s1, r1⟩ := repb_SqL (ev_if h1)
  obtain ⟨k, ys, rfl, s2, r2⟩ := repb_SqL (ev_if h2)
  exact ⟨l, k, xs, ys, rfl, rfl, s1, s2, by rw [reps_len r1, reps_len r2]; exact hl, fun p hp => q _ _ (Same.new hp) (new_f hp (reps_app r1 r2))⟩
theorem opd_catT : OpD K ct b1 b2 .v (rCatA K) catT := fun M H x y u v d mt h1 h2 hf Q q => by
  obtain ⟨a, b, rfl, rfl, hl, rfl⟩ := catT_some hf
  have g1 := repb_tup (ev_if h1)
  have g2 := repb_tup (ev_if h2)
  obtain ⟨l, xs, rfl, s1, r1⟩ := rep_SqT g1
  obtain ⟨k, ys, rfl, s2, r2⟩ := rep_SqT g2
  refine ⟨l, k, xs, ys, rfl, rfl, s1, s2, by rw [reps_len r1, reps_len r2]; exact hl, fun e => ?_, fun _ e => ?_, fun _ _ p hp => q _ _ (Same.new hp) (new_tup mt hp (reps_app r1 r2))⟩
  · have : a = [] := List.eq_nil_of_length_eq_zero (by rw [← reps_len r1, e]; rfl)
    subst this
    exact q _ H (Same.refl _) g2
  · have : b = [] := List.eq_nil_of_length_eq_zero (by rw [← reps_len r2, e]; rfl)
    subst this
    rw [List.append_nil] at q
    exact q _ H (Same.refl _) g1
theorem opd_add : OpD K ct b1 b2 .v (rAdd4 K) add2 := fun M H x y u v d mt h1 h2 hf Q q => by
  unfold add2 at hf
  split at hf
  · cases hf
    exact .inl ⟨_, _, repb_int (ev_if h1), repb_int (ev_if h2), q _ H (Same.refl _) rm_int⟩
  · exact .inr (.inl (opd_catL M H _ _ u v d mt h1 h2 hf Q fun z H' e r => q z H' e (rm_v mt (by decide) r)))
  · exact .inr (.inr (.inl (opd_catT M H _ _ u v d mt h1 h2 hf Q q)))
  · obtain ⟨a, b, e1, e2, hl, rfl⟩ := catS_some hf
    cases e1
    cases e2
    exact .inr (.inr (.inr ⟨_, _, repb_str (ev_if h1), repb_str (ev_if h2), hl, q _ H (Same.refl _) rm_str⟩))
  · cases hf
/-! * -/
def repL : Dv → Dv → Option Dv
  | .lst a, .int k => if -(2 ^ 63) ≤ k ∧ k < 2 ^ 63 ∧ a.length * k.toNat ≤ sizeLine then some (.lst (List.replicate k.toNat a).flatten) else none
  | _, _ => none
def repT : Dv → Dv → Option Dv
  | .tup a, .int k => if a ≠ [] ∧ 2 ≤ k ∧ k ≤ 1000 ∧ a.length ≤ 1000 then some (.tup (List.replicate k.toNat a).flatten) else none
  | _, _ => none
def mul2 : Dv → Dv → Option Dv
  | .int i, .int j => if bMul i j = true then some (.int (i * j)) else none
  | .tup a, .int k => if k = 1 then some (.tup a) else repT (.tup a) (.int k)
  | _, _ => none
theorem repL_some {x y d : Dv} (h : repL x y = some d) : ∃ a k, x = .lst a ∧ y = .int k ∧ (-(2 ^ 63) ≤ k ∧ k < 2 ^ 63 ∧ a.length * k.toNat ≤ sizeLine) ∧ d = .lst (List.replicate k.toNat a).flatten := by
  unfold repL at h
  split at h
  · split at h
    · cases h
      exact ⟨_, _, rfl, rfl, by assumption, rfl⟩
    · cases h
  · cases h
theorem repT_some {x y d : Dv} (h : repT x y = some d) : ∃ a k, x = .tup a ∧ y = .int k ∧ (a ≠ [] ∧ 2 ≤ k ∧ k ≤ 1000 ∧ a.length ≤ 1000) ∧ d = .tup (List.replicate k.toNat a).flatten := by
  unfold repT at h
  split at h
  · split at h
    · cases h
      exact ⟨_, _, rfl, rfl, by assumption, rfl⟩
    · cases h
  · cases h
theorem reps_flat {M : Ads} {H : Hp} {ds : List Dv} {xs : List V} (h : reps K ct M H ds xs) : ∀ n : Nat, reps K ct M H (List.replicate n ds).flatten (List.replicate n xs).flatten
  | 0 => reps_nil
  | n + 1 => by
    rw [List.replicate_succ, List.replicate_succ, List.flatten_cons, List.flatten_cons]
    exact reps_app h (reps_flat h n)
def rMul3 (K : PySem.W.Frag) : R2 := fun x y H Q => (rI CMul fun i j => .int (i * j)) x y H Q ∨ (rRep x y H Q ∨ (rRepT K x y H Q ∨ rRepT1 K x y H Q))
theorem op_mul3 (hK : X.K = K) : OpR X (binaryOp .Mult) (rMul3 K) := by
  subst hK
  exact op_mul.or (op_rep.or (op_repT.or op_repT1))
theorem ev_repL {ks : Ky} {E : EX} {q1 : Bool} {a b : Expr} {ta tb : TE} {da db : Dl → Rs Dv} (ha : DX K ct ks E q1 .f X a ta da) (hb : DX K ct ks E true .v X b tb db) : DGs K ct ks E (rmE K ct .f) (q1 && true) (tOp rRep ta tb) (cOp repL da db) := fun M W H δ σ er => by
  refine Ev2.bind ((ha.ev M W H δ σ er).weak (fun z hz => ⟨by rw [hz.1]; rfl, hz.2⟩)) (fun _ h => h) (fun _ _ _ _ _ k h => re_anti k h) fun x δ1 u H1 k1 e1 r1 => ?_
  intro Q p
  refine hb.ev M W H1 δ1 σ e1 _ ?_
  cases hy : db δ1 with
  | ok y δ2 =>
    intro v H2 k2 e2 r2
    rw [hy] at p
    have p' : Pst K ct ks E (rmE K ct .f) (Wq (q1 && true) W) M W H1 σ Q (opt (repL x y) δ2) := p
    have k3 : Kp3 (Ct.tabs ct) (fun _ => False) H1 H2 := k2.mono fun z hz => Wq.no hz
    have k2' : Kp3 (Ct.tabs ct) (Wq (q1 && true) W) H1 H2 := k3.mono fun z hz => hz.elim
    refine ev_opt e2 (fun d hd Q q => ?_) Q (p'.kp k2' fun _ _ _ _ _ k h => re_anti k h)
    obtain ⟨c, k, rfl, rfl, hl, rfl⟩ := repL_some hd
    obtain ⟨⟨ds, l, xs, e1', rfl, g1, g2, g3⟩, _⟩ := r1
    cases e1'
    have r3 : rep K ct M H2 (.int k) v := rm_v e1.mt (by decide) r2.1
    cases (rep_int (K := K) (ct := ct) (M := M) (H := H2)).mp r3
    have g4 : reps K ct M H2 c xs := reps_kp k3 (fun _ z => z.elim) (reps_less g3)
    exact ⟨l, k, xs, rfl, rfl, k3.keep _ _ g2 (fun z => z) (fun _ z => by cases z), hl.1, hl.2.1, by rw [reps_len g3]; exact hl.2.2, fun p hp => q _ _ (Same.new hp) (new_f hp (reps_flat g4 _))⟩
  | exc c ns ds δ2 =>
    intro xd H2 k2 e2 r2
    rw [hy] at p
    exact p xd H2 (k2.mono fun z hz => (Wq.no hz).elim) e2 r2
  | stuck =>
    rw [hy] at p
    exact p
theorem dx_repL {ks : Ky} {E : EX} {q1 : Bool} {a b : Expr} {pos : Pos} {ta tb : TE} {da db : Dl → Rs Dv} (ha : DX K ct ks E q1 .f X a ta da) (hb : DX K ct ks E true .v X b tb db) : DX K ct ks E (q1 && true) .f X (.BinOp a .Mult b pos) (tOp rRep ta tb) (cOp repL da db) := ⟨pe_op op_rep ha.pe hb.pe, ev_repL ha hb⟩
theorem opd_mul : OpD K ct false b2 .v (rMul3 K) mul2 := fun M H x y u v d mt h1 h2 hf Q q => by
  unfold mul2 at hf
  split at hf
  · split at hf
    · rename_i hb
      cases hf
      refine .inl ⟨_, _, repb_int (ev_if (bb := false) h1), repb_int (ev_if h2), ?_, q _ H (Same.refl _) rm_int⟩
      unfold bMul at hb
      rw [Bool.or_eq_true, decide_eq_true_iff, decide_eq_true_iff] at hb
      exact hb
    · cases hf
  · split at hf
    · rename_i hk
      subst hk
      cases hf
      obtain ⟨l, xs, rfl, s1, r1⟩ := rep_SqT h1
      exact .inr (.inr (.inr ⟨l, xs, rfl, repb_int (ev_if h2), s1, q _ H (Same.refl _) h1⟩))
    · obtain ⟨a, k, e1, e2, hb, rfl⟩ := repT_some hf
      cases e1
      cases e2
      obtain ⟨l, xs, rfl, s1, r1⟩ := rep_SqT h1
      exact .inr (.inr (.inl ⟨l, _, xs, rfl, repb_int (ev_if h2), s1, fun z => hb.1 (List.eq_nil_of_length_eq_zero (by rw [← reps_len r1, z]; rfl)), hb.2.1, hb.2.2.1, by rw [reps_len r1]; exact hb.2.2.2, fun p hp => q _ _ (Same.new hp) (new_tup mt hp (reps_flat r1 _))⟩))
  · cases hf
end
end Dn

/-! Lists of arguments, displays, subscripts, slices, fields, calls of built-ins. -/
namespace Dn
open PySem PySem.Spec PyProof.Rows L2 LamX Q
def repbs (K : PySem.W.Frag) (ct : Ct) (M : Ads) (H : Hp) : List Dv → List V → Prop
  | [], xs => xs = []
  | d :: ds, xs => ∃ x ys, xs = x :: ys ∧ repb K ct M H d x ∧ repbs K ct M H ds ys
def rml (K : PySem.W.Frag) (ct : Ct) (b : Bool) (M : Ads) (_ H' : Hp) (_ : Addr → Prop) (ds : List Dv) (xs : List V) : Prop := if b then repbs K ct M H' ds xs else reps K ct M H' ds xs
def cNil : Dl → Rs (List Dv) := fun δ => .ok [] δ
def cCons (a : Dl → Rs Dv) (as : Dl → Rs (List Dv)) : Dl → Rs (List Dv) := fun δ => bnd (a δ) fun x δ1 => bnd (as δ1) fun xs δ2 => .ok (x :: xs) δ2
def cTup (as : Dl → Rs (List Dv)) : Dl → Rs Dv := fun δ => bnd (as δ) fun xs δ1 => .ok (.tup xs) δ1
def cLst (as : Dl → Rs (List Dv)) : Dl → Rs Dv := fun δ => bnd (as δ) fun xs δ1 => .ok (.lst xs) δ1
def cCall (f : List Dv → Option Dv) (as : Dl → Rs (List Dv)) : Dl → Rs Dv := fun δ => bnd (as δ) fun xs δ1 => opt (f xs) δ1
theorem bnd_ok {α β : Type} {r : Rs α} {k : α → Dl → Rs β} {y : β} {δ : Dl} (h : bnd r k = .ok y δ) : ∃ x δ1, r = .ok x δ1 ∧ k x δ1 = .ok y δ := by
  cases r with
  | ok x δ1 => exact ⟨x, δ1, rfl, h⟩
  | exc _ _ _ _ => cases h
  | stuck => cases h
section
variable (K : PySem.W.Frag) (ct : Ct) (ks : Ky) (E : EX)
structure DA (q : Bool) (b : Bool) (X : Cx) (es : List Expr) (t : TA) (d : Dl → Rs (List Dv)) : Prop where
  pe : PA X es t
  ev : DGs K ct ks E (rml K ct b) q t d
  len : ∀ δ xs δ', d δ = .ok xs δ' → xs.length = es.length
end
section
variable {K : PySem.W.Frag} {ct : Ct} {ks : Ky} {E : EX} {X : Cx} {q q1 q2 : Bool} {m m1 m2 : Md} {e a b c : Expr} {es : List Expr} {t ta tb : TE} {tl : TA} {d da db : Dl → Rs Dv} {dl : Dl → Rs (List Dv)} {pos : Pos}
theorem repbs_len {M : Ads} {H : Hp} : ∀ {ds : List Dv} {vs : List V}, repbs K ct M H ds vs → vs.length = ds.length
  | [], _, h => by unfold repbs at h; rw [h]; rfl
  | d :: ds, _, h => by
    unfold repbs at h
    obtain ⟨x, ys, e, h1, h2⟩ := h
    rw [e, List.length_cons, List.length_cons, repbs_len h2]
theorem repbs_inv {M : Ads} {H : Hp} {d : Dv} {ds : List Dv} {vs : List V} (h : repbs K ct M H (d :: ds) vs) : ∃ x ys, vs = x :: ys ∧ repb K ct M H d x ∧ repbs K ct M H ds ys := by
  unfold repbs at h
  exact h
theorem repbs_inv0 {M : Ads} {H : Hp} {vs : List V} (h : repbs K ct M H [] vs) : vs = [] := by
  unfold repbs at h
  exact h
theorem repbs_of {M : Ads} {H : Hp} : ∀ {ds : List Dv} {vs : List V}, reps K ct M H ds vs → repbs K ct M H ds vs
  | [], _, h => by rw [reps_inv0 h]; rfl
  | d :: ds, _, h => by
    obtain ⟨x, ys, e, h1, h2⟩ := reps_inv h
    exact ⟨x, ys, e, .inl h1, repbs_of h2⟩
theorem rml_b {bb : Bool} {M : Ads} {H H' : Hp} {er : Addr → Prop} {ds : List Dv} {vs : List V} (h : rml K ct bb M H H' er ds vs) : repbs K ct M H' ds vs := by
  cases bb with
  | true => exact h
  | false => exact repbs_of h
theorem da_nil : DA K ct ks E true false X [] tNil cNil := ⟨pa_nil, fun M W H δ σ er => Ev2.ret fun Q p => p [] H (Kp3.refl _ _) er (show reps K ct M H [] [] from reps_nil), fun δ xs δ' h => by cases h; rfl⟩
theorem da_nilb : DA K ct ks E true true X [] tNil cNil := ⟨pa_nil, fun M W H δ σ er => Ev2.ret fun Q p => p [] H (Kp3.refl _ _) er rfl, fun δ xs δ' h => by cases h; rfl⟩
theorem cCons_len {n : Nat} (hl : ∀ δ xs δ', dl δ = .ok xs δ' → xs.length = n) : ∀ δ xs δ', cCons d dl δ = .ok xs δ' → xs.length = n + 1 := fun δ xs δ' h => by
  obtain ⟨x, δ1, h1, h2⟩ := bnd_ok h
  obtain ⟨ys, δ2, h3, h4⟩ := bnd_ok h2
  cases h4
  rw [List.length_cons, hl _ _ _ h3]
theorem da_cons (h : DX K ct ks E q1 m X e t d) (hr : DA K ct ks E q2 false X es tl dl) (hm : m ≠ .b := by decide) (hs : starEach (e :: es) X.env = (false, eval e X.env) :: starEach es X.env := by rfl) :
    DA K ct ks E (q1 && q2) false X (e :: es) (tCons t tl) (cCons d dl) := ⟨pa_cons h.pe hr.pe hs, fun M W H δ σ er => by
  refine Ev2.bind ((h.ev M W H δ σ er).weak fun z hz => ⟨by rw [hz.1]; rfl, hz.2⟩) (fun _ h => h) (fun _ _ _ _ _ _ h => h) fun x δ1 u H1 k1 e1 r1 => ?_
  refine Ev2.bind ((hr.ev M W H1 δ1 σ e1).weak fun z hz => ⟨by rw [hz.1]; exact Bool.and_false _, hz.2⟩) (fun _ h => h) (fun _ _ _ _ _ _ h => h) fun xs δ2 us H2 k2 e2 r2 => ?_
  exact Ev2.ret fun Q p => p (u :: us) H2 (Kp3.refl _ _) e2 (reps_cons (rep_kp k2 (fun a z => e1.wm a z.2) (rm_v er.mt hm r1.1)) r2), cCons_len hr.len⟩
theorem da_consb (h : DX K ct ks E true m X e t d) (hr : DA K ct ks E true true X es tl dl) (hs : starEach (e :: es) X.env = (false, eval e X.env) :: starEach es X.env := by rfl) :
    DA K ct ks E true true X (e :: es) (tCons t tl) (cCons d dl) := ⟨pa_cons h.pe hr.pe hs, fun M W H δ σ er => by
  refine Ev2.bind (h.ev M W H δ σ er) (fun _ h => h) (fun _ _ _ _ _ _ h => h) fun x δ1 u H1 k1 e1 r1 => ?_
  refine Ev2.bind (hr.ev M W H1 δ1 σ e1) (fun _ h => h) (fun _ _ _ _ _ _ h => h) fun xs δ2 us H2 k2 e2 r2 => ?_
  exact Ev2.ret fun Q p => p (u :: us) H2 (Kp3.refl _ _) e2 ⟨u, us, rfl, repb_q (k2.mono fun a z => Wq.no z) (rm_b er.mt r1.1), r2⟩, cCons_len hr.len⟩
/-! displays -/
theorem Ev2.andP {M W S : Ads} {H : Hp} {σ : L2.St} {α β : Type} {R : Rl α β} {s : (β → Hp → Prop) → Prop} {r : Rs α} {P : α → Prop} (h : Ev2 K ct ks E R S M W H σ s r) (hp : ∀ x δ', r = .ok x δ' → P x) : Ev2 K ct ks E (fun M H H' er x v => P x ∧ R M H H' er x v) S M W H σ s r := fun Q p => h Q (by
  cases r with
  | ok v δ' => exact fun x H' k e r => p x H' k e ⟨hp _ _ rfl, r⟩
  | exc c ns ds δ' => exact p
  | stuck => exact p)
theorem dx_tup {x1} (h : DA K ct ks E q false X es tl dl) (hn : es.length ≤ sizeLine := by show List.length _ ≤ sizeLine; decide) : DX K ct ks E q .v X (.Tuple es x1 pos) (tTup tl) (cTup dl) := ⟨pe_tup h.pe, fun M W H δ σ er => by
  refine Ev2.bind ((h.ev M W H δ σ er).andP (P := fun xs => xs.length = es.length) fun xs δ' e => h.len δ xs δ' e) (fun _ h => h) (fun _ _ _ _ _ k h => re_anti k h) fun xs δ1 us H1 k1 e1 ⟨hl, r1⟩ => ?_
  exact Ev2.ret fun Q p => ⟨by rw [reps_len r1, hl]; exact hn, fun a ha => p _ _ (Kp3.new ha) (e1.q (Kp3.new ha)) (re_v (new_tup e1.mt ha r1))⟩⟩
theorem dx_lst (h : DA K ct ks E q false X es tl dl) (hn : es.length ≤ sizeLine := by show List.length _ ≤ sizeLine; decide) : DX K ct ks E q .f X (.List es pos) (tLst tl) (cLst dl) := ⟨pe_lst h.pe, fun M W H δ σ er => by
  refine Ev2.bind ((h.ev M W H δ σ er).andP (P := fun xs => xs.length = es.length) fun xs δ' e => h.len δ xs δ' e) (fun _ h => h) (fun _ _ _ _ _ k h => re_anti k h) fun xs δ1 us H1 k1 e1 ⟨hl, r1⟩ => ?_
  exact Ev2.ret fun Q p => ⟨by rw [reps_len r1, hl]; exact hn, fun a ha => p _ _ (Kp3.new ha) (e1.q (Kp3.new ha)) (re_of e1 (Same.new ha) (new_f ha r1))⟩⟩
/-! subscripts -/
def fIx : Dv → Dv → Option Dv
  | .lst ds, .int i => atI ds i
  | .tup ds, .int i => atI ds i
  | .str z, .int i => if z.length ≤ sizeLine then (atI z.cps.toList i).map fun c => .str ⟨#[c]⟩ else none
  | _, _ => none
theorem atI_reps {M : Ads} {H : Hp} {ds : List Dv} {xs : List V} {i : Int} {d : Dv} (h : reps K ct M H ds xs) (hd : atI ds i = some d) : ∃ v, atI xs i = some v ∧ rep K ct M H d v := by
  unfold atI at hd ⊢
  rw [reps_len h]
  cases hj : ixN ds.length i with
  | none => rw [hj] at hd; cases hd
  | some j =>
    rw [hj] at hd
    exact reps_get h hd
theorem ix_seqK (hK : X.K = K) : IxR X (rIx K) := by
  subst hK
  exact ix_seq
theorem opd_ix {b1 b2 : Bool} : OpD K ct b1 b2 .v (rIx K) fIx := fun M H x y u v d mt h1 h2 hf Q q => by
  unfold fIx at hf
  split at hf
  · obtain ⟨a, xs, rfl, s1, r1⟩ := repb_SqL (ev_if h1)
    obtain ⟨v', e1, e2⟩ := atI_reps r1 hf
    exact .inl ⟨a, xs, _, v', rfl, repb_int (ev_if h2), s1, e1, q _ H (Same.refl _) e2⟩
  · obtain ⟨a, xs, rfl, s1, r1⟩ := rep_SqT (repb_tup (ev_if h1))
    obtain ⟨v', e1, e2⟩ := atI_reps r1 hf
    exact .inr (.inl ⟨a, xs, _, v', rfl, repb_int (ev_if h2), s1, e1, q _ H (Same.refl _) e2⟩)
  · split at hf
    · rename_i z i hz
      cases hc : atI z.cps.toList i with
      | none => rw [hc] at hf; cases hf
      | some c =>
        rw [hc] at hf
        cases hf
        exact .inr (.inr ⟨z, i, c, repb_str (ev_if h1), repb_int (ev_if h2), hz, hc, q _ H (Same.refl _) rm_str⟩)
    · cases hf
  · cases hf
theorem dx_ix {r : R2} {f : Dv → Dv → Option Dv} (hp : IxR X r) (ho : OpD K ct m1.isB m2.isB m r f) (ha : DX K ct ks E q1 m1 X a ta da) (hb : DX K ct ks E q2 m2 X b tb db) (hs : PlainIx b := by exact fun _ _ => rfl) (hq : m1.isB = true → q2 = true := by decide) :
    DX K ct ks E (q1 && q2) m X (.Subscript a b pos) (tOp r ta tb) (cOp f da db) := ⟨pe_ix hp ha.pe hb.pe hs, ev_op ho ha hb hq⟩
/-! slices -/
def cPart (o : Option (Dl → Rs Dv)) : Dl → Rs (Option Int) := fun δ => match o with
  | none => .ok none δ
  | some a => bnd (a δ) fun x δ1 => match x with
    | .int i => .ok (some i) δ1
    | _ => .stuck
structure DP (K : PySem.W.Frag) (ct : Ct) (ks : Ky) (E : EX) (q : Bool) (X : Cx) (e : Option Expr) (t : TO) (d : Dl → Rs (Option Int)) : Prop where
  pe : PO X e t
  ev : DGs K ct ks E (fun _ _ _ _ b c => b = c) q t d
theorem dp_none : DP K ct ks E true X none tNoPart (cPart none) := ⟨po_none, fun M W H δ σ er => Ev2.ret fun Q p => p none H (Kp3.refl _ _) er rfl⟩
theorem dp_some (h : DX K ct ks E q .v X e t d) : DP K ct ks E q X (some e) (tPart t) (cPart (some d)) := ⟨po_some h.pe, fun M W H δ σ er => by
  refine Ev2.bind (h.ev M W H δ σ er) (fun _ h => h) (fun _ _ _ _ _ _ h => h) fun x δ1 u H1 k1 e1 r1 => ?_
  cases x with
  | int i =>
    cases rmv_int r1.1
    exact Ev2.ret fun Q p => ⟨i, rfl, p _ H1 (Kp3.refl _ _) e1 rfl⟩
  | non => exact Ev2.stuck
  | bl _ => exact Ev2.stuck
  | str _ => exact Ev2.stuck
  | tup _ => exact Ev2.stuck
  | lst _ => exact Ev2.stuck
  | obj _ _ _ => exact Ev2.stuck⟩
def cutD {α : Type} (xs : List α) (lo hi : Option Int) : List α := (xs.drop (HT.sIx xs.length 0 lo)).take (HT.sIx xs.length xs.length hi - HT.sIx xs.length 0 lo)
theorem reps_cut {M : Ads} {H : Hp} {ds : List Dv} {xs : List V} {lo hi : Option Int} (h : reps K ct M H ds xs) : reps K ct M H (cutD ds lo hi) (cutV xs lo hi) := by
  unfold cutD cutV
  rw [reps_len h]
  exact reps_take _ (reps_drop _ h)
def SlD (K : PySem.W.Frag) (ct : Ct) (bb : Bool) (m : Md) (r : V → Option Int → Option Int → Hp → VK → Prop) (f : Dv → Option Int → Option Int → Option Dv) : Prop :=
  ∀ (M : Ads) (H : Hp) (x : Dv) (u : V) (lo hi : Option Int) (d : Dv), (∀ a, M a → H a ≠ none) → (if bb then repb K ct M H x u else rep K ct M H x u) → f x lo hi = some d → ∀ Q : VK, (∀ z H', Same H H' → rm K ct m M H H' d z → Q z H') → r u lo hi H Q
def cSl (f : Dv → Option Int → Option Int → Option Dv) (a : Dl → Rs Dv) (lo hi : Dl → Rs (Option Int)) : Dl → Rs Dv := fun δ => bnd (a δ) fun x δ1 => bnd (lo δ1) fun l δ2 => bnd (hi δ2) fun h δ3 => opt (f x l h) δ3
theorem dx_slice {r : V → Option Int → Option Int → Hp → VK → Prop} {f : Dv → Option Int → Option Int → Option Dv} {lo hi : Option Expr} {to th : TO} {dlo dhi : Dl → Rs (Option Int)} {p2 : Pos} (hp : SlR X r) (ho : SlD K ct m1.isB m r f) (ha : DX K ct ks E q1 m1 X a ta da) (hl : DP K ct ks E true X lo to dlo) (hh : DP K ct ks E true X hi th dhi) :
    DX K ct ks E q1 m X (.Subscript a (.Slice lo hi none p2) pos) (tSl r ta to th) (cSl f da dlo dhi) := ⟨pe_slice hp ha.pe hl.pe hh.pe, fun M W H δ σ er => by
  refine Ev2.bind (ha.ev M W H δ σ er) (fun _ h => h) (fun _ _ _ _ _ k h => re_anti k h) fun x δ1 u H1 k1 e1 r1 => ?_
  intro Q p
  refine hl.ev M W H1 δ1 σ e1 _ ?_
  cases hy : dlo δ1 with
  | ok l δ2 =>
    rw [hy] at p
    intro l' H2 k2 e2 r2
    cases r2
    refine hh.ev M W H2 δ2 σ e2 _ ?_
    cases hz : dhi δ2 with
    | ok h δ3 =>
      have p1 : Pst K ct ks E (rmE K ct m) (Wq q1 W) M W H1 σ Q (bnd (dhi δ2) fun h δ3 => opt (f x l h) δ3) := p
      rw [hz] at p1
      intro h' H3 k3 e3 r3
      cases r3
      have p' : Pst K ct ks E (rmE K ct m) (Wq q1 W) M W H1 σ Q (opt (f x l h) δ3) := p1
      have kk : Kp3 (Ct.tabs ct) (Wq true W) H1 H3 := k2.trans k3
      have k' : Kp3 (Ct.tabs ct) (Wq q1 W) H1 H3 := kk.mono fun a z => (Wq.no z).elim
      exact ev_opt e3 (fun dd hd Q q => ho M H3 x u l h dd e3.mt (rm_hold e1.wm er.mt (fun _ => rfl) kk r1.1) hd Q q) Q (p'.kp k' fun _ _ _ _ _ k h => re_anti k h)
    | exc c ns ds δ3 =>
      have p1 : Pst K ct ks E (rmE K ct m) (Wq q1 W) M W H1 σ Q (bnd (dhi δ2) fun h δ3 => opt (f x l h) δ3) := p
      rw [hz] at p1
      exact fun xd H3 k3 e3 r3 => p1 xd H3 ((k2.trans k3).mono fun a z => (Wq.no z).elim) e3 r3
    | stuck =>
      have p1 : Pst K ct ks E (rmE K ct m) (Wq q1 W) M W H1 σ Q (bnd (dhi δ2) fun h δ3 => opt (f x l h) δ3) := p
      rw [hz] at p1
      exact p1
  | exc c ns ds δ2 =>
    rw [hy] at p
    exact fun xd H2 k2 e2 r2 => p xd H2 (k2.mono fun a z => (Wq.no z).elim) e2 r2
  | stuck =>
    rw [hy] at p
    exact p⟩
def slL : Dv → Option Int → Option Int → Option Dv
  | .lst ds, lo, hi => some (.lst (cutD ds lo hi))
  | _, _, _ => none
def whole (n : Nat) (lo hi : Option Int) : Bool := decide (HT.sIx n 0 lo = 0) && decide (HT.sIx n n hi = n)
def slT : Dv → Option Int → Option Int → Option Dv
  | .tup ds, lo, hi => if whole ds.length lo hi = true then none else some (.tup (cutD ds lo hi))
  | _, _, _ => none
theorem slT_some {x d : Dv} {lo hi : Option Int} (h : slT x lo hi = some d) : ∃ ds, x = .tup ds ∧ ¬ whole ds.length lo hi = true ∧ d = .tup (cutD ds lo hi) := by
  unfold slT at h
  split at h
  · split at h
    · cases h
    · cases h
      exact ⟨_, rfl, by assumption, rfl⟩
  · cases h
def slA : Dv → Option Int → Option Int → Option Dv
  | .lst ds, lo, hi => slL (.lst ds) lo hi
  | .tup ds, lo, hi => slT (.tup ds) lo hi
  | _, _, _ => none
def rSlA (K : PySem.W.Frag) : V → Option Int → Option Int → Hp → VK → Prop := fun x lo hi H Q => rSlL K x lo hi H Q ∨ rSlT K x lo hi H Q
theorem sl_any (hK : X.K = K) : SlR X (rSlA K) := by
  subst hK
  exact sl_list.or sl_tup
theorem sl_lstK (hK : X.K = K) : SlR X (rSlL K) := by
  subst hK
  exact sl_list
theorem sld_L {bb : Bool} : SlD K ct bb .f (rSlL K) slL := fun M H x u lo hi d mt h1 hf Q q => by
  unfold slL at hf
  split at hf
  · cases hf
    obtain ⟨a, xs, rfl, s1, r1⟩ := repb_SqL (ev_if h1)
    exact ⟨a, xs, rfl, s1, fun p hp => q _ _ (Same.new hp) (new_f hp (reps_cut r1))⟩
  · cases hf
theorem sld_A {bb : Bool} : SlD K ct bb .v (rSlA K) slA := fun M H x u lo hi d mt h1 hf Q q => by
  unfold slA at hf
  split at hf
  · exact .inl (sld_L M H _ u lo hi d mt h1 hf Q fun z H' e r => q z H' e (rm_v mt (by decide) r))
  · obtain ⟨ds, e, hw, rfl⟩ := slT_some hf
    cases e
    obtain ⟨a, xs, rfl, s1, r1⟩ := rep_SqT (repb_tup (ev_if h1))
    refine .inr ⟨a, xs, rfl, s1, fun z => hw ?_, fun p hp => q _ _ (Same.new hp) (new_tup mt hp (reps_cut r1))⟩
    unfold whole
    rw [← reps_len r1]
    rw [decide_eq_true z.1, decide_eq_true z.2]
    rfl
  · cases hf
/-! fields -/
def fFld (okA : Str → Str → Bool) (f : Str) : Dv → Option Dv
  | .obj c ns ds => if okA c f = true then (ns.zip ds).lookup f else none
  | _ => none
/-- the classes' attributes that are plain -/
def ClsT (K : PySem.W.Frag) (ct : Ct) (okA : Str → Str → Bool) : Prop := ∀ c f, okA c f = true → Cls K (ct c) ∧ NoAttr K (ct c) f
theorem pe_fldK {f : Str} (hK : X.K = K) (he : PE X e t) (hb : attributeBase e f X.env (eval e X.env) = eval e X.env) : PE X (.Attribute e f pos) (tFld K t f) := by
  subst hK
  exact pe_fld he hb
theorem dx_fld {okA : Str → Str → Bool} (T : ClsT K ct okA) {f : Str} (he : DX K ct ks E q m1 X e t d) (hK : X.K = K := by rfl) (hb : attributeBase e f X.env (eval e X.env) = eval e X.env := by rfl) : DX K ct ks E q .v X (.Attribute e f pos) (tFld K t f) (cUn (fFld okA f) d) :=
  ⟨pe_fldK hK he.pe hb, fun M W H δ σ er => by
    refine Ev2.bind (he.ev M W H δ σ er) (fun _ h => h) (fun _ _ _ _ _ k h => re_anti k h) fun x δ1 u H1 k1 e1 r1 => ?_
    refine ev_opt e1 fun d hd Q p => ?_
    cases x with
    | obj c ns ds =>
      have hd' : (if okA c f = true then (ns.zip ds).lookup f else none) = some d := hd
      by_cases hk : okA c f = true
      · rw [if_pos hk] at hd'
        obtain ⟨t1, t2⟩ := T c f hk
        obtain ⟨a, dx, xs, rfl, ha, hr⟩ := repb_obj (rm_b er.mt r1.1)
        obtain ⟨v, hv, rv⟩ := reps_zip hr hd'
        exact ⟨a, _, dx, _, v, rfl, ha, t1, t2, hv, p v H1 (Same.refl _) rv⟩
      · rw [if_neg hk] at hd'
        cases hd'
    | non => cases hd
    | bl _ => cases hd
    | int _ => cases hd
    | str _ => cases hd
    | tup _ => cases hd
    | lst _ => cases hd⟩
/-! calls of built-ins -/
def CalD (K : PySem.W.Frag) (ct : Ct) (m : Md) (r : List V → Hp → VK → Prop) (f : List Dv → Option Dv) : Prop :=
  ∀ (M : Ads) (H : Hp) (xs : List Dv) (us : List V) (d : Dv), (∀ a, M a → H a ≠ none) → repbs K ct M H xs us → f xs = some d → ∀ Q : VK, (∀ z H', Same H H' → rm K ct m M H H' d z → Q z H') → r us H Q
theorem ev_call {bb : Bool} {r : List V → Hp → VK → Prop} {f : List Dv → Option Dv} (ho : CalD K ct m r f) (h : DA K ct ks E q bb X es tl dl) : DGs K ct ks E (rmE K ct m) q (tCB r tl) (cCall f dl) := fun M W H δ σ er => by
  refine Ev2.bind (h.ev M W H δ σ er) (fun _ h => h) (fun _ _ _ _ _ k h => re_anti k h) fun xs δ1 us H1 k1 e1 r1 => ?_
  exact ev_opt e1 fun d hd Q p => ho M H1 xs us d e1.mt (rml_b r1) hd Q p
theorem dx_callB {bb : Bool} {id : String} {x : Str} {p : Pos} {r : List V → Hp → VK → Prop} {f : List Dv → Option Dv} (hc : CallR X (.builtin id) r) (ho : CalD K ct m r f) (hg : Gl X x) (hm : X.mg x = none) (hv : bootBuiltins x = some (.builtin id)) (h : DA K ct ks E q bb X (e :: es) tl dl)
    (hn : x ≠ "__name__" := by decide) (hdb : (x == ("__debug__" : Str)) = false := by decide) (he : starEach (e :: es) X.env = (false, eval e X.env) :: starEach es X.env := by rfl) (hpl : (backTo pos (starEach es X.env)).any (·.1) = false := by rfl) :
    DX K ct ks E q m X (.Call (.Name x p) (e :: es) [] pos) (tCB r tl) (cCall f dl) := ⟨pe_callB hc hg hm hv h.pe hn hdb he hpl, ev_call ho h⟩
theorem dx_callTy {bb : Bool} {T : String} {x : Str} {p : Pos} {r : List V → Hp → VK → Prop} {f : List Dv → Option Dv} (hc : CallR X (.type T) r) (ho : CalD K ct m r f) (hg : Gl X x) (hm : X.mg x = none) (hv : bootBuiltins x = some (.type T)) (h : DA K ct ks E q bb X (e :: es) tl dl)
    (hn : x ≠ "__name__" := by decide) (hdb : (x == ("__debug__" : Str)) = false := by decide) (he : starEach (e :: es) X.env = (false, eval e X.env) :: starEach es X.env := by rfl) (hpl : (backTo pos (starEach es X.env)).any (·.1) = false := by rfl) :
    DX K ct ks E q m X (.Call (.Name x p) (e :: es) [] pos) (tCB r tl) (cCall f dl) := ⟨pe_callTy hc hg hm hv h.pe hn hdb he hpl, ev_call ho h⟩
end
end Dn

/-! Built-ins by trees; == of plain trees; in; is None; truth; isinstance. -/
namespace Dn
open PySem PySem.Spec PyProof.Rows L2 LamX Q
/-! == -/
mutual
def toPy : Dv → Option PyData
  | .non => some .none
  | .bl b => some (.bool b)
  | .int i => some (.int i)
  | .str x => some (.str x)
  | .tup ds => (toPys ds).map PyData.tuple
  | .lst ds => (toPys ds).map PyData.list
  | .obj _ _ _ => none
def toPys : List Dv → Option (List PyData)
  | [] => some []
  | d :: ds => match toPy d with
    | none => none
    | some p => (toPys ds).map (p :: ·)
end
section
variable {K : PySem.W.Frag} {ct : Ct} {M : Ads} {H : Hp}
mutual
theorem rep_dp : ∀ {d : Dv} {v : V} {p : PyData}, rep K ct M H d v → toPy d = some p → Dp K H v p
  | .non, v, p, h, e => by
    cases e
    cases (rep_non (K := K) (ct := ct) (M := M) (H := H)).mp h
    exact .non
  | .bl b, v, p, h, e => by
    cases e
    cases (rep_bl (K := K) (ct := ct) (M := M) (H := H)).mp h
    exact .bl _
  | .int i, v, p, h, e => by
    cases e
    cases (rep_int (K := K) (ct := ct) (M := M) (H := H)).mp h
    exact .int _
  | .str x, v, p, h, e => by
    cases e
    cases (rep_str (K := K) (ct := ct) (M := M) (H := H)).mp h
    exact .str _
  | .tup ds, v, p, h, e => by
    obtain ⟨a, xs, rfl, s, r⟩ := rep_SqT h
    unfold toPy at e
    cases hq : toPys ds with
    | none => rw [hq] at e; cases e
    | some ps =>
      rw [hq] at e
      cases e
      exact .tup s (reps_dp r hq)
  | .lst ds, v, p, h, e => by
    obtain ⟨a, xs, rfl, s, r⟩ := rep_SqL h
    unfold toPy at e
    cases hq : toPys ds with
    | none => rw [hq] at e; cases e
    | some ps =>
      rw [hq] at e
      cases e
      exact .lst s (reps_dp r hq)
  | .obj _ _ _, v, p, h, e => by
    unfold toPy at e
    cases e
theorem reps_dp : ∀ {ds : List Dv} {vs : List V} {ps : List PyData}, reps K ct M H ds vs → toPys ds = some ps → DpAll K H vs ps
  | [], vs, ps, h, e => by
    cases e
    rw [reps_inv0 h]
    exact .nil
  | d :: ds, vs, ps, h, e => by
    obtain ⟨x, ys, rfl, h1, h2⟩ := reps_inv h
    unfold toPys at e
    cases hp : toPy d with
    | none => rw [hp] at e; cases e
    | some q =>
      rw [hp] at e
      cases hq : toPys ds with
      | none => rw [hq] at e; cases e
      | some qs =>
        rw [hq] at e
        cases e
        exact .cons (rep_dp h1 hp) (reps_dp h2 hq)
end
theorem repb_dp {d : Dv} {v : V} {p : PyData} (h : repb K ct M H d v) (e : toPy d = some p) : Dp K H v p := by
  rcases h with h | ⟨a, rfl, ⟨ds, xs, rfl, h4, h5⟩ | ⟨_, _, _, _, _, rfl, _⟩⟩
  · exact rep_dp h e
  · unfold toPy at e
    cases hq : toPys ds with
    | none => rw [hq] at e; cases e
    | some ps =>
      rw [hq] at e
      cases e
      exact .lst (.inl h4) (reps_dp h5 hq)
  · unfold toPy at e
    cases e
end
def eqD (x y : Dv) : Option Bool := match toPy x with
  | none => none
  | some p => match toPy y with
    | none => none
    | some q => if SeqAt.shaped p = true ∧ SeqAt.shaped q = true then some (PyData.eqv p q) else none
theorem eqD_some {x y : Dv} {b : Bool} (h : eqD x y = some b) : ∃ p q, toPy x = some p ∧ toPy y = some q ∧ SeqAt.shaped p = true ∧ SeqAt.shaped q = true ∧ b = PyData.eqv p q := by
  unfold eqD at h
  cases hp : toPy x with
  | none => rw [hp] at h; cases h
  | some p =>
    rw [hp] at h
    cases hq : toPy y with
    | none => rw [hq] at h; cases h
    | some q =>
      rw [hq] at h
      by_cases hs : SeqAt.shaped p = true ∧ SeqAt.shaped q = true
      · have h' : (if SeqAt.shaped p = true ∧ SeqAt.shaped q = true then some (PyData.eqv p q) else none) = some b := h
        rw [if_pos hs] at h'
        cases h'
        exact ⟨p, q, rfl, rfl, hs.1, hs.2, rfl⟩
      · have h' : (if SeqAt.shaped p = true ∧ SeqAt.shaped q = true then some (PyData.eqv p q) else none) = some b := h
        rw [if_neg hs] at h'
        cases h'
def eq2 (x y : Dv) : Option Dv := (eqD x y).map .bl
def ne2 (x y : Dv) : Option Dv := (eqD x y).map fun b => .bl (!b)
section
variable {X : Cx} {K : PySem.W.Frag} {ct : Ct} {b1 b2 : Bool}
theorem op_eqDK (hK : X.K = K) (hu : X.A.units + 64 < cLine) : OpR X (compareOp .Eq) (rEqD K) := by
  subst hK
  exact op_eqD hu
theorem op_neDK (hK : X.K = K) (hu : X.A.units + 64 < cLine) : OpR X (compareOp .NotEq) (rNeD K) := by
  subst hK
  exact op_neD hu
theorem opd_eq : OpD K ct b1 b2 .v (rEqD K) eq2 := fun M H x y u v d mt h1 h2 hf Q q => by
  unfold eq2 at hf
  cases he : eqD x y with
  | none => rw [he] at hf; cases hf
  | some b =>
    rw [he] at hf
    cases hf
    obtain ⟨p, r, e1, e2, s1, s2, rfl⟩ := eqD_some he
    exact ⟨p, r, repb_dp (ev_if h1) e1, repb_dp (ev_if h2) e2, s1, s2, q _ H (Same.refl _) rm_bl⟩
theorem opd_ne : OpD K ct b1 b2 .v (rNeD K) ne2 := fun M H x y u v d mt h1 h2 hf Q q => by
  unfold ne2 at hf
  cases he : eqD x y with
  | none => rw [he] at hf; cases hf
  | some b =>
    rw [he] at hf
    cases hf
    obtain ⟨p, r, e1, e2, s1, s2, rfl⟩ := eqD_some he
    exact ⟨p, r, repb_dp (ev_if h1) e1, repb_dp (ev_if h2) e2, s1, s2, q _ H (Same.refl _) rm_bl⟩
/-! is None -/
def isN : Dv → Bool
  | .non => true
  | _ => false
def is2 (x y : Dv) : Option Dv := if isN y = true then some (.bl (isN x)) else none
def isnt2 (x y : Dv) : Option Dv := if isN y = true then some (.bl (!isN x)) else none
theorem isN_rep {M : Ads} {H : Hp} {d : Dv} {v : V} (h : repb K ct M H d v) : decide (v = .non) = isN d := by
  cases d with
  | non => rw [repb_non h]; rfl
  | bl b => rw [repb_bl h]; rfl
  | int i => rw [repb_int h]; rfl
  | str x => rw [repb_str h]; rfl
  | tup ds =>
    obtain ⟨a, xs, e, _⟩ := rep_SqT (repb_tup h)
    rw [e]
    rfl
  | lst ds =>
    obtain ⟨a, xs, e, _⟩ := repb_SqL h
    rw [e]
    rfl
  | obj c ns ds =>
    obtain ⟨a, dx, xs, e, _⟩ := repb_obj h
    rw [e]
    rfl
theorem isN_of {d : Dv} (h : isN d = true) : d = .non := by
  cases d with
  | non => rfl
  | bl b => cases h
  | int i => cases h
  | str x => cases h
  | tup ds => cases h
  | lst ds => cases h
  | obj c ns ds => cases h
theorem opd_is : OpD K ct b1 b2 .v (fun x y H Q => y = .non ∧ Q (.bl (decide (x = .non))) H) is2 := fun M H x y u v d mt h1 h2 hf Q q => by
  unfold is2 at hf
  by_cases hy : isN y = true
  · rw [if_pos hy] at hf
    cases hf
    cases isN_of hy
    refine ⟨repb_non (ev_if h2), ?_⟩
    rw [isN_rep (ev_if h1)]
    exact q _ H (Same.refl _) rm_bl
  · rw [if_neg hy] at hf
    cases hf
theorem opd_isnt : OpD K ct b1 b2 .v (fun x y H Q => y = .non ∧ Q (.bl (!decide (x = .non))) H) isnt2 := fun M H x y u v d mt h1 h2 hf Q q => by
  unfold isnt2 at hf
  by_cases hy : isN y = true
  · rw [if_pos hy] at hf
    cases hf
    cases isN_of hy
    refine ⟨repb_non (ev_if h2), ?_⟩
    rw [isN_rep (ev_if h1)]
    exact q _ H (Same.refl _) rm_bl
  · rw [if_neg hy] at hf
    cases hf
/-! x in a list or tuple of plain scalars -/
def scD : Dv → Option V
  | .non => some .non
  | .bl b => some (.bl b)
  | .int i => some (.int i)
  | .str x => some (.str x)
  | _ => none
def scDs : List Dv → Option (List V)
  | [] => some []
  | d :: ds => match scD d with
    | none => none
    | some v => (scDs ds).map (v :: ·)
def seqOf : Dv → Option (List Dv)
  | .lst ds => some ds
  | .tup ds => some ds
  | _ => none
def inD (x y : Dv) : Option Bool := match seqOf y with
  | none => none
  | some ds => match scD x with
    | none => none
    | some v => (scDs ds).map fun vs => inV v vs
theorem scD_rep {M : Ads} {H : Hp} {d : Dv} {v w : V} (h : repb K ct M H d v) (e : scD d = some w) : v = w ∧ flatV v = true := by
  cases d with
  | non => cases e; rw [repb_non h]; exact ⟨rfl, rfl⟩
  | bl b => cases e; rw [repb_bl h]; exact ⟨rfl, rfl⟩
  | int i => cases e; rw [repb_int h]; exact ⟨rfl, rfl⟩
  | str x => cases e; rw [repb_str h]; exact ⟨rfl, rfl⟩
  | tup ds => cases e
  | lst ds => cases e
  | obj c ns ds => cases e
theorem scDs_rep {M : Ads} {H : Hp} : ∀ {ds : List Dv} {vs ws : List V}, reps K ct M H ds vs → scDs ds = some ws → vs = ws ∧ vs.all flatV = true
  | [], _, _, h, e => by cases e; rw [reps_inv0 h]; exact ⟨rfl, rfl⟩
  | d :: ds, vs, ws, h, e => by
    obtain ⟨x, ys, rfl, h1, h2⟩ := reps_inv h
    unfold scDs at e
    cases hd : scD d with
    | none => rw [hd] at e; cases e
    | some w =>
      rw [hd] at e
      cases hs : scDs ds with
      | none => rw [hs] at e; cases e
      | some zs =>
        rw [hs] at e
        cases e
        obtain ⟨e1, f1⟩ := scD_rep (.inl h1) hd
        obtain ⟨e2, f2⟩ := scDs_rep h2 hs
        rw [e1, e2]
        rw [e1] at f1
        rw [e2] at f2
        exact ⟨rfl, by rw [List.all_cons, f1, f2]; rfl⟩
theorem seq_rep {M : Ads} {H : Hp} {d : Dv} {ds : List Dv} {v : V} (h : repb K ct M H d v) (e : seqOf d = some ds) : ∃ a xs, v = .ref a ∧ (SqL K H a xs ∨ SqT K H a xs) ∧ reps K ct M H ds xs := by
  cases d with
  | lst es =>
    cases e
    obtain ⟨a, xs, e1, s, r⟩ := repb_SqL h
    exact ⟨a, xs, e1, .inl s, r⟩
  | tup es =>
    cases e
    obtain ⟨a, xs, e1, s, r⟩ := rep_SqT (repb_tup h)
    exact ⟨a, xs, e1, .inr s, r⟩
  | non => cases e
  | bl b => cases e
  | int i => cases e
  | str x => cases e
  | obj c ns ds => cases e
def in2 (x y : Dv) : Option Dv := (inD x y).map .bl
def notin2 (x y : Dv) : Option Dv := (inD x y).map fun b => .bl (!b)
theorem inD_rep {M : Ads} {H : Hp} {x y : Dv} {u v : V} {b : Bool} (h1 : repb K ct M H x u) (h2 : repb K ct M H y v) (e : inD x y = some b) : ∃ p xs, v = .ref p ∧ (SqL K H p xs ∨ SqT K H p xs) ∧ flatV u = true ∧ xs.all flatV = true ∧ b = inV u xs := by
  unfold inD at e
  cases hy : seqOf y with
  | none => rw [hy] at e; cases e
  | some ds =>
    rw [hy] at e
    cases hx : scD x with
    | none => rw [hx] at e; cases e
    | some w =>
      rw [hx] at e
      cases hs : scDs ds with
      | none =>
        have e' : (scDs ds).map (fun vs => inV w vs) = some b := e
        rw [hs] at e'
        cases e'
      | some ws =>
        have e' : (scDs ds).map (fun vs => inV w vs) = some b := e
        rw [hs] at e'
        cases e'
        obtain ⟨a, xs, e1, s, r⟩ := seq_rep h2 hy
        obtain ⟨e2, f2⟩ := scDs_rep r hs
        obtain ⟨e3, f3⟩ := scD_rep h1 hx
        exact ⟨a, xs, e1, s, f3, f2, by rw [e2, e3]⟩
theorem op_inK (hK : X.K = K) : OpR X (compareOp .In) (rIn K false) := by
  subst hK
  exact op_in_seq
theorem op_notinK (hK : X.K = K) : OpR X (compareOp .NotIn) (rIn K true) := by
  subst hK
  exact op_notIn_seq
theorem opd_in : OpD K ct b1 b2 .v (rIn K false) in2 := fun M H x y u v d mt h1 h2 hf Q q => by
  unfold in2 at hf
  cases he : inD x y with
  | none => rw [he] at hf; cases hf
  | some b =>
    rw [he] at hf
    cases hf
    obtain ⟨p, xs, e1, s, f1, f2, rfl⟩ := inD_rep (ev_if h1) (ev_if h2) he
    exact ⟨p, xs, e1, s, f1, f2, q _ H (Same.refl _) rm_bl⟩
theorem opd_notin : OpD K ct b1 b2 .v (rIn K true) notin2 := fun M H x y u v d mt h1 h2 hf Q q => by
  unfold notin2 at hf
  cases he : inD x y with
  | none => rw [he] at hf; cases hf
  | some b =>
    rw [he] at hf
    cases hf
    obtain ⟨p, xs, e1, s, f1, f2, rfl⟩ := inD_rep (ev_if h1) (ev_if h2) he
    exact ⟨p, xs, e1, s, f1, f2, q _ H (Same.refl _) rm_bl⟩
/-! calls -/
theorem repbs1 {M : Ads} {H : Hp} {x : Dv} {us : List V} (h : repbs K ct M H [x] us) : ∃ u, us = [u] ∧ repb K ct M H x u := by
  obtain ⟨u, ys, rfl, h1, h2⟩ := repbs_inv h
  rw [repbs_inv0 h2]
  exact ⟨u, rfl, h1⟩
theorem repbs2 {M : Ads} {H : Hp} {x y : Dv} {us : List V} (h : repbs K ct M H [x, y] us) : ∃ u v, us = [u, v] ∧ repb K ct M H x u ∧ repb K ct M H y v := by
  obtain ⟨u, ys, rfl, h1, h2⟩ := repbs_inv h
  obtain ⟨v, rfl, h3⟩ := repbs1 h2
  exact ⟨u, v, rfl, h1, h3⟩
def fLen : List Dv → Option Dv
  | [.lst ds] => some (.int ds.length)
  | [.tup ds] => some (.int ds.length)
  | [.str z] => if z.length ≤ sizeLine then some (.int z.length) else none
  | _ => none
def rLen4 (K : PySem.W.Frag) : List V → Hp → VK → Prop := fun xs H Q => ∃ x n, xs = [x] ∧ LenV K x H n ∧ Q (.int n) H
theorem call_len4 (hK : X.K = K) : CallR X (.builtin "len") (rLen4 K) := by
  subst hK
  exact call_len
theorem cald_len : CalD K ct .v (rLen4 K) fLen := fun M H xs us d mt h hf Q q => by
  unfold fLen at hf
  split at hf
  · cases hf
    obtain ⟨u, rfl, h1⟩ := repbs1 h
    obtain ⟨a, ys, rfl, s, r⟩ := repb_SqL h1
    rw [← reps_len r] at q
    exact ⟨.ref a, ys.length, rfl, .inl ⟨ys, s, rfl⟩, q _ H (Same.refl _) rm_int⟩
  · cases hf
    obtain ⟨u, rfl, h1⟩ := repbs1 h
    obtain ⟨a, ys, rfl, s, r⟩ := rep_SqT (repb_tup h1)
    rw [← reps_len r] at q
    exact ⟨.ref a, ys.length, rfl, .inr ⟨ys, s, rfl⟩, q _ H (Same.refl _) rm_int⟩
  · split at hf
    · rename_i hz
      cases hf
      obtain ⟨u, rfl, h1⟩ := repbs1 h
      cases repb_str h1
      exact ⟨.str _, _, rfl, ⟨hz, rfl⟩, q _ H (Same.refl _) rm_int⟩
    · cases hf
  · cases hf
def fAbs : List Dv → Option Dv
  | [.int i] => some (.int (if i < 0 then -i else i))
  | _ => none
theorem cald_abs : CalD K ct .v (fun xs H Q => ∃ i, xs = [.int i] ∧ Q (.int (if i < 0 then -i else i)) H) fAbs := fun M H xs us d mt h hf Q q => by
  unfold fAbs at hf
  split at hf
  · cases hf
    obtain ⟨u, rfl, h1⟩ := repbs1 h
    cases repb_int h1
    exact ⟨_, rfl, q _ H (Same.refl _) rm_int⟩
  · cases hf
def fInt : List Dv → Option Dv
  | [.int i] => some (.int i)
  | [.bl k] => some (.int (if k then 1 else 0))
  | _ => none
theorem cald_int : CalD K ct .v (fun xs H Q => (∃ i, xs = [.int i] ∧ Q (.int i) H) ∨ ∃ k, xs = [.bl k] ∧ Q (.int (if k then 1 else 0)) H) fInt := fun M H xs us d mt h hf Q q => by
  unfold fInt at hf
  split at hf
  · cases hf
    obtain ⟨u, rfl, h1⟩ := repbs1 h
    cases repb_int h1
    exact .inl ⟨_, rfl, q _ H (Same.refl _) rm_int⟩
  · cases hf
    obtain ⟨u, rfl, h1⟩ := repbs1 h
    cases repb_bl h1
    exact .inr ⟨_, rfl, q _ H (Same.refl _) rm_int⟩
  · cases hf
def fMax2 : List Dv → Option Dv
  | [.int i, .int j] => some (.int (if j > i then j else i))
  | _ => none
def fMin2 : List Dv → Option Dv
  | [.int i, .int j] => some (.int (if j < i then j else i))
  | _ => none
theorem cald_max2 : CalD K ct .v (fun xs H Q => ∃ i j, xs = [.int i, .int j] ∧ Q (.int (if j > i then j else i)) H) fMax2 := fun M H xs us d mt h hf Q q => by
  unfold fMax2 at hf
  split at hf
  · cases hf
    obtain ⟨u, v, rfl, h1, h2⟩ := repbs2 h
    cases repb_int h1
    cases repb_int h2
    exact ⟨_, _, rfl, q _ H (Same.refl _) rm_int⟩
  · cases hf
theorem cald_min2 : CalD K ct .v (fun xs H Q => ∃ i j, xs = [.int i, .int j] ∧ Q (.int (if j < i then j else i)) H) fMin2 := fun M H xs us d mt h hf Q q => by
  unfold fMin2 at hf
  split at hf
  · cases hf
    obtain ⟨u, v, rfl, h1, h2⟩ := repbs2 h
    cases repb_int h1
    cases repb_int h2
    exact ⟨_, _, rfl, q _ H (Same.refl _) rm_int⟩
  · cases hf
def fDivmod : List Dv → Option Dv
  | [.int i, .int j] => if bDiv i j = true then some (.tup [.int (i / j), .int (i % j)]) else none
  | _ => none
theorem reps2i {M : Ads} {H : Hp} {i j : Int} : reps K ct M H [.int i, .int j] [.int i, .int j] := reps_cons ((rep_int (K := K) (ct := ct) (M := M) (H := H)).mpr rfl) (reps_cons ((rep_int (K := K) (ct := ct) (M := M) (H := H)).mpr rfl) reps_nil)
theorem cald_divmod : CalD K ct .v (fun xs H Q => ∃ i j, xs = [.int i, .int j] ∧ CDiv i j ∧ ∀ p, H p = none → Q (.ref p) (upd H p (.tup [.int (i / j), .int (i % j)]))) fDivmod := fun M H xs us d mt h hf Q q => by
  unfold fDivmod at hf
  split at hf
  · split at hf
    · rename_i i j hc
      cases hf
      obtain ⟨u, v, rfl, h1, h2⟩ := repbs2 h
      cases repb_int h1
      cases repb_int h2
      exact ⟨_, _, rfl, show 0 < j ∧ j < 1073741824 from of_decide_eq_true hc, fun p hp => q _ _ (Same.new hp) (new_tup mt hp reps2i)⟩
    · cases hf
  · cases hf
/-! tuple(..), list(..) -/
def fTuple : List Dv → Option Dv
  | [.lst ds] => some (.tup ds)
  | [.tup ds] => some (.tup ds)
  | _ => none
def fList : List Dv → Option Dv
  | [.lst ds] => some (.lst ds)
  | [.tup ds] => some (.lst ds)
  | _ => none
def rTupleOf (K : PySem.W.Frag) : List V → Hp → VK → Prop := fun xs H Q => ∃ p ys, xs = [.ref p] ∧ ((SqL K H p ys ∧ ∀ l, H l = none → Q (.ref l) (upd H l (.tup ys))) ∨ (SqT K H p ys ∧ Q (.ref p) H))
def rListOf (K : PySem.W.Frag) : List V → Hp → VK → Prop := fun xs H Q => ∃ p ys, xs = [.ref p] ∧ (SqL K H p ys ∨ SqT K H p ys) ∧ ∀ l, H l = none → Q (.ref l) (upd H l (.lst ys))
theorem call_tupleK (hK : X.K = K) : CallR X (.type "tuple") (rTupleOf K) := by
  subst hK
  exact call_tuple_of
theorem call_listK (hK : X.K = K) : CallR X (.type "list") (rListOf K) := by
  subst hK
  exact call_list_of
theorem cald_tuple : CalD K ct .v (rTupleOf K) fTuple := fun M H xs us d mt h hf Q q => by
  unfold fTuple at hf
  split at hf
  · cases hf
    obtain ⟨u, rfl, h1⟩ := repbs1 h
    obtain ⟨a, ys, rfl, s, r⟩ := repb_SqL h1
    exact ⟨a, ys, rfl, .inl ⟨s, fun l hl => q _ _ (Same.new hl) (new_tup mt hl r)⟩⟩
  · cases hf
    obtain ⟨u, rfl, h1⟩ := repbs1 h
    obtain ⟨a, ys, rfl, s, r⟩ := rep_SqT (repb_tup h1)
    exact ⟨a, ys, rfl, .inr ⟨s, q _ H (Same.refl _) (repb_tup h1)⟩⟩
  · cases hf
theorem cald_list : CalD K ct .f (rListOf K) fList := fun M H xs us d mt h hf Q q => by
  unfold fList at hf
  split at hf
  · cases hf
    obtain ⟨u, rfl, h1⟩ := repbs1 h
    obtain ⟨a, ys, rfl, s, r⟩ := repb_SqL h1
    exact ⟨a, ys, rfl, .inl s, fun l hl => q _ _ (Same.new hl) (new_f hl r)⟩
  · cases hf
    obtain ⟨u, rfl, h1⟩ := repbs1 h
    obtain ⟨a, ys, rfl, s, r⟩ := rep_SqT (repb_tup h1)
    exact ⟨a, ys, rfl, .inr s, fun l hl => q _ _ (Same.new hl) (new_f hl r)⟩
  · cases hf
/-! sum, all, any of a list -/
def fSum : List Dv → Option Dv
  | [.lst ds] => (asInts ds).map fun ns => .int ns.sum
  | _ => none
def fAll : List Dv → Option Dv
  | [.lst ds] => (asBls ds).map fun bs => .bl (bs.all id)
  | _ => none
def fAny : List Dv → Option Dv
  | [.lst ds] => (asBls ds).map fun bs => .bl (bs.any id)
  | _ => none
theorem cr_sumK (hK : X.K = K) (hc : X.calm = true) : CallR X (.builtin "sum") (rSum K) := by
  subst hK
  exact cr_sum hc
theorem cr_allK (hK : X.K = K) (hc : X.calm = true) : CallR X (.builtin "all") (rAll K) := by
  subst hK
  exact cr_all hc
theorem cr_anyK (hK : X.K = K) (hc : X.calm = true) : CallR X (.builtin "any") (rAny K) := by
  subst hK
  exact cr_any hc
theorem cald_sum : CalD K ct .v (rSum K) fSum := fun M H xs us d mt h hf Q q => by
  unfold fSum at hf
  split at hf
  · rename_i ds
    cases hi : asInts ds with
    | none => rw [hi] at hf; cases hf
    | some ns =>
      rw [hi] at hf
      cases hf
      obtain ⟨u, rfl, h1⟩ := repbs1 h
      obtain ⟨a, ys, rfl, s, r⟩ := repb_SqL h1
      cases asInts_some hi
      cases reps_of_ints r
      exact ⟨a, ns, rfl, s, q _ H (Same.refl _) rm_int⟩
  · cases hf
theorem cald_all : CalD K ct .v (rAll K) fAll := fun M H xs us d mt h hf Q q => by
  unfold fAll at hf
  split at hf
  · rename_i ds
    cases hi : asBls ds with
    | none => rw [hi] at hf; cases hf
    | some ns =>
      rw [hi] at hf
      cases hf
      obtain ⟨u, rfl, h1⟩ := repbs1 h
      obtain ⟨a, ys, rfl, s, r⟩ := repb_SqL h1
      cases asBls_some hi
      cases reps_of_bls r
      exact ⟨a, ns, rfl, s, q _ H (Same.refl _) rm_bl⟩
  · cases hf
theorem cald_any : CalD K ct .v (rAny K) fAny := fun M H xs us d mt h hf Q q => by
  unfold fAny at hf
  split at hf
  · rename_i ds
    cases hi : asBls ds with
    | none => rw [hi] at hf; cases hf
    | some ns =>
      rw [hi] at hf
      cases hf
      obtain ⟨u, rfl, h1⟩ := repbs1 h
      obtain ⟨a, ys, rfl, s, r⟩ := repb_SqL h1
      cases asBls_some hi
      cases reps_of_bls r
      exact ⟨a, ns, rfl, s, q _ H (Same.refl _) rm_bl⟩
  · cases hf
end
/-! truth -/
def truD : Dv → Option Bool
  | .non => some false
  | .bl b => some b
  | .int i => some (i != 0)
  | .lst ds => some (!ds.isEmpty)
  | .tup ds => some (!ds.isEmpty)
  | _ => none
def cTru (a : Dl → Rs Dv) : Dl → Rs Bool := fun δ => bnd (a δ) fun x δ1 => opt (truD x) δ1
section
variable {K : PySem.W.Frag} {ct : Ct} {ks : Ky} {E : EX} {X : Cx} {q : Bool} {m : Md} {a : Expr} {ta : TE} {da : Dl → Rs Dv}
def tTruK (K : PySem.W.Frag) (ta : TE) : TT := fun σ H Q => ta σ H fun x H1 => ∃ k, TruV K x H1 k ∧ Q k H1
theorem pt_truthK (hK : X.K = K) (ha : PE X a ta) (he : ∀ whole, isTrue a X.env whole = (do let v ← whole; standAt a.pos; holding [v] (truthy v))) : PT X a (tTruK K ta) := by
  subst hK
  exact pt_truth ha he
theorem isEmpty_reps {M : Ads} {H : Hp} {ds : List Dv} {xs : List V} (r : reps K ct M H ds xs) : xs.isEmpty = ds.isEmpty := by
  have := reps_len r
  cases xs <;> cases ds <;> simp_all
theorem tru_rep {M : Ads} {H : Hp} {d : Dv} {v : V} {b : Bool} (h : repb K ct M H d v) (e : truD d = some b) : TruV K v H b := by
  cases d with
  | non => cases e; rw [repb_non h]; exact (rfl : false = false)
  | bl b => cases e; rw [repb_bl h]; exact (rfl : b = b)
  | int i => cases e; rw [repb_int h]; exact (rfl : (i != 0) = (i != 0))
  | str x => cases e
  | tup ds =>
    cases e
    obtain ⟨a, xs, rfl, s, r⟩ := rep_SqT (repb_tup h)
    exact .inr (.inl ⟨xs, s, by rw [isEmpty_reps r]⟩)
  | lst ds =>
    cases e
    obtain ⟨a, xs, rfl, s, r⟩ := repb_SqL h
    exact .inl ⟨xs, s, by rw [isEmpty_reps r]⟩
  | obj c ns ds => cases e
theorem dt_tru (ha : DX K ct ks E q m X a ta da) (hK : X.K = K := by rfl) (he : ∀ whole, isTrue a X.env whole = (do let v ← whole; standAt a.pos; holding [v] (truthy v)) := by intro _; rfl) : DT K ct ks E q X a (tTruK K ta) (cTru da) :=
  ⟨pt_truthK hK ha.pe he, fun M W H δ σ er => by
    refine Ev2.bind (ha.ev M W H δ σ er) (fun _ h => h) (fun _ _ _ _ _ _ h => h) fun x δ1 u H1 k1 e1 r1 => ?_
    cases hx : truD x with
    | none => exact Ev2.stuck
    | some b => exact Ev2.ret fun Q p => ⟨b, tru_rep (rm_b er.mt r1.1) hx, p b H1 (Kp3.refl _ _) e1 rfl⟩⟩
end
end Dn

/-! Statements. -/
namespace Dn
open PySem PySem.Spec PyProof.Rows L2 LamX Q
inductive Fl where
  | nx (δ : Dl) | ret (v : Dv) (δ : Dl) | brk (δ : Dl) | cnt (δ : Dl)
  | exc (c : Str) (ns : List Str) (ds : List Dv) (δ : Dl)
  | stuck
/-- what a piece of the def has moved -/
structure Mv3 (T : List (Addr × Str)) (ks : Ky) (M W : Ads) (H : Hp) (σ : L2.St) (M' W' : Ads) (H' : Hp) (σ' : L2.St) : Prop where
  m1 : ∀ a, M a → M' a
  m2 : ∀ a, M' a → M a ∨ H a = none
  w1 : ∀ a, W a → W' a
  w2 : ∀ a, W' a → W a ∨ H a = none
  kp : Kp3 T W H H'
  pp : ∀ i, ks i = .p → σ'[i]? = σ[i]?
section
variable {T : List (Addr × Str)} {ks : Ky} {M W M1 W1 M2 W2 : Ads} {H H1 H2 : Hp} {σ σ1 σ2 : L2.St}
theorem Mv3.refl : Mv3 T ks M W H σ M W H σ := ⟨fun _ h => h, fun _ h => .inl h, fun _ h => h, fun _ h => .inl h, Kp3.refl _ _, fun _ _ => rfl⟩
theorem Mv3.trans (a : Mv3 T ks M W H σ M1 W1 H1 σ1) (b : Mv3 T ks M1 W1 H1 σ1 M2 W2 H2 σ2) : Mv3 T ks M W H σ M2 W2 H2 σ2 where
  m1 := fun c h => b.m1 c (a.m1 c h)
  m2 := fun c h => (b.m2 c h).elim (a.m2 c) fun z => .inr (a.kp.free z)
  w1 := fun c h => b.w1 c (a.w1 c h)
  w2 := fun c h => (b.w2 c h).elim (a.w2 c) fun z => .inr (a.kp.free z)
  kp := ⟨fun c o h n t => b.kp.keep c o (a.kp.keep c o h n t) (fun z => (a.w2 c z).elim n fun y => by rw [h] at y; cases y) t, fun c h => b.kp.live c (a.kp.live c h), fun h => b.kp.tabs (a.kp.tabs h)⟩
  pp := fun i h => (b.pp i h).trans (a.pp i h)
theorem Mv3.kp1 (k : Kp3 T W H H1) : Mv3 T ks M W H σ M W H1 σ := ⟨fun _ h => h, fun _ h => .inl h, fun _ h => h, fun _ h => .inl h, k, fun _ _ => rfl⟩
end
/-- what is handed back: a value; a list of the def's own -/
def RetR (K : PySem.W.Frag) (ct : Ct) (ks : Ky) (mr : Md) (M M' W' : Ads) (H' : Hp) (v : Dv) (x : V) : Prop :=
  (mr ≠ .f ∧ rep K ct M H' v x) ∨ ∃ a, x = .ref a ∧ W' a ∧ ¬ ks.pc a ∧ mrep K ct M' H' v a ∧ (mr = .f → ∃ ds, v = .lst ds)
section
variable (K : PySem.W.Frag) (ct : Ct) (ks : Ky) (E : EX) (mr : Md)
def Psf (M W : Ads) (H : Hp) (σ : L2.St) (D : Ends) : Fl → Prop
  | .nx δ' => ∀ M' W' H' σ', Mv3 (Ct.tabs ct) ks M W H σ M' W' H' σ' → ER K ct ks M' W' H' δ' σ' → D.nx σ' H'
  | .brk δ' => ∀ M' W' H' σ', Mv3 (Ct.tabs ct) ks M W H σ M' W' H' σ' → ER K ct ks M' W' H' δ' σ' → D.bk σ' H'
  | .cnt δ' => ∀ M' W' H' σ', Mv3 (Ct.tabs ct) ks M W H σ M' W' H' σ' → ER K ct ks M' W' H' δ' σ' → D.ct σ' H'
  | .ret v δ' => ∀ M' W' H' σ' x, Mv3 (Ct.tabs ct) ks M W H σ M' W' H' σ' → ER K ct ks M' W' H' δ' σ' → RetR K ct ks mr M M' W' H' v x → D.rt x H'
  | .exc c ns ds δ' => ∀ M' W' H' σ' xd, Mv3 (Ct.tabs ct) ks M W H σ M' W' H' σ' → ER K ct ks M' W' H' δ' σ' → ExR K ct M H' ns ds xd → E (.ref (ct c)) xd H'
  | .stuck => False
def DSs (t : TS) (d : Dl → Fl) : Prop := ∀ M W H δ σ, ER K ct ks M W H δ σ → ∀ D : Ends, Psf K ct ks E mr M W H σ D (d δ) → t D σ H
/-- a statement -/
structure DS (X : Cx) (st : Stmt) (t : TS) (d : Dl → Fl) : Prop where
  ps : PS X st t
  ev : DSs K ct ks E mr t d
structure DSS (X : Cx) (sts : List Stmt) (t : TS) (d : Dl → Fl) : Prop where
  ps : PSs X sts t
  ev : DSs K ct ks E mr t d
end
def cSeq (a b : Dl → Fl) : Dl → Fl := fun δ => match a δ with
  | .nx δ1 => b δ1
  | r => r
def bnf {α : Type} (r : Rs α) (k : α → Dl → Fl) : Fl := match r with
  | .ok x δ => k x δ
  | .exc c ns ds δ => .exc c ns ds δ
  | .stuck => .stuck
def cSet (i : Nat) (a : Dl → Rs Dv) : Dl → Fl := fun δ => bnf (a δ) fun x δ1 => .nx (δ1.set i (some x))
def cRet (a : Dl → Rs Dv) : Dl → Fl := fun δ => bnf (a δ) fun x δ1 => .ret x δ1
def cDrop (a : Dl → Rs Dv) : Dl → Fl := fun δ => bnf (a δ) fun _ δ1 => .nx δ1
def cIfS (c : Dl → Rs Bool) (a b : Dl → Fl) : Dl → Fl := fun δ => bnf (c δ) fun x δ1 => if x = true then a δ1 else b δ1
section
variable {K : PySem.W.Frag} {ct : Ct} {ks : Ky} {E : EX} {mr : Md} {M W M1 W1 : Ads} {H H1 : Hp} {δ : Dl} {σ σ1 : L2.St} {D : Ends}
theorem RetR_mv {m : Md} {M2 W2 : Ads} {H2 : Hp} {d : Dv} {x : V} (v : Mv3 (Ct.tabs ct) ks M W H σ M1 W1 H1 σ1) (h : RetR K ct ks m M1 M2 W2 H2 d x) : RetR K ct ks m M M2 W2 H2 d x := h.imp (fun z => ⟨z.1, rep_step (S := fun _ => False) (Kp3.refl _ _) (fun _ z => z.elim) (fun a z => .inl (v.m1 a z)) z.2⟩) id
theorem rm_mv {m : Md} {H2 : Hp} {d : Dv} {x : V} (v : Mv3 (Ct.tabs ct) ks M W H σ M1 W1 H1 σ1) (h : rm K ct m M1 H1 H2 d x) : rm K ct m M H H2 d x := by
  cases m with
  | v => exact rep_step (S := fun _ => False) (Kp3.refl _ _) (fun _ z => z.elim) (fun a z => .inl (v.m1 a z)) h
  | b =>
    exact h.imp (rep_step (S := fun _ => False) (Kp3.refl _ _) (fun _ z => z.elim) fun a z => .inl (v.m1 a z)) fun ⟨a, e1, h1⟩ => ⟨a, e1, brep_step (S := fun _ => False) (Kp3.refl _ _) (fun _ z => z.elim) (fun a z => .inl (v.m1 a z)) (fun z => z) h1⟩
  | f =>
    obtain ⟨ds, a, xs, e1, e2, h1, h2, h3⟩ := h
    exact ⟨ds, a, xs, e1, e2, v.kp.free h1, h2, reps_step (S := fun _ => False) (Kp3.refl _ _) (fun _ z => z.elim) (fun b z => .inl (z.imp (v.m1 b) id)) h3⟩
theorem ExR_mv {H2 : Hp} {ns : List Str} {ds : List Dv} {xd : Option Addr} (v : Mv3 (Ct.tabs ct) ks M W H σ M1 W1 H1 σ1) (h : ExR K ct M1 H2 ns ds xd) : ExR K ct M H2 ns ds xd := by
  rcases h with h | ⟨a, vs, h1, h2, h3⟩
  · exact .inl h
  · exact .inr ⟨a, vs, h1, h2, reps_step (S := fun _ => False) (Kp3.refl _ _) (fun _ z => z.elim) (fun b z => .inl (v.m1 b z)) h3⟩
theorem Psf.mv {r : Fl} (p : Psf K ct ks E mr M W H σ D r) (v : Mv3 (Ct.tabs ct) ks M W H σ M1 W1 H1 σ1) : Psf K ct ks E mr M1 W1 H1 σ1 D r := by
  cases r with
  | nx δ' => exact fun M' W' H' σ' u e => p M' W' H' σ' (v.trans u) e
  | brk δ' => exact fun M' W' H' σ' u e => p M' W' H' σ' (v.trans u) e
  | cnt δ' => exact fun M' W' H' σ' u e => p M' W' H' σ' (v.trans u) e
  | ret x δ' => exact fun M' W' H' σ' y u e r => p M' W' H' σ' y (v.trans u) e (RetR_mv v r)
  | exc c ns ds δ' => exact fun M' W' H' σ' xd u e r => p M' W' H' σ' xd (v.trans u) e (ExR_mv v r)
  | stuck => exact p
/-- an expression, then a statement's end -/
theorem ev_bnf {α β : Type} {R : Rl α β} {q : Bool} {s : (β → Hp → Prop) → Prop} {r : Rs α} {k : α → Dl → Fl} {P : β → Hp → Prop} (h : Ev2 K ct ks E R (Wq q W) M W H σ s r) (p : Psf K ct ks E mr M W H σ D (bnf r k))
    (h2 : ∀ v δ1 x H1, Mv3 (Ct.tabs ct) ks M W H σ M W H1 σ → ER K ct ks M W H1 δ1 σ → R M H H1 (fun a => ER K ct ks (plus M a) (plus W a) H1 δ1 σ) v x → Psf K ct ks E mr M W H σ D (k v δ1) → P x H1) : s P := h _ (by
  cases r with
  | ok v δ1 => exact fun x H1 k1 e1 r1 => h2 v δ1 x H1 (Mv3.kp1 (k1.mono fun _ z => z.2)) e1 r1 p
  | exc c ns ds δ1 => exact fun xd H1 k1 e1 r1 => p M W H1 σ xd (Mv3.kp1 (k1.mono fun _ z => z.2)) e1 r1
  | stuck => exact p.elim)
theorem ER.setV (e : ER K ct ks M W H δ σ) {i : Nat} {d : Dv} {x : V} (hk : ks i = .v) (hr : rep K ct M H d x) : ER K ct ks M W H (δ.set i (some d)) (σ.set i (some x)) := by
  refine ⟨by rw [List.length_set, List.length_set]; exact e.len, fun j c hj => ?_, fun j k b dj dk hne oj ok hj hk' sj sk => ?_, e.wm, e.mt, e.wl, fun j b c oj hj sj => ?_, e.pw, e.bw, e.tb⟩
  · by_cases z : i = j
    · subst z
      have lt : i < δ.length := by
        have := (List.getElem?_eq_some_iff.mp hj).1
        rwa [List.length_set] at this
      rw [List.getElem?_set_self lt] at hj
      cases hj
      refine ⟨x, List.getElem?_set_self (by rw [e.len]; exact lt), ?_⟩
      rw [hk]
      exact hr
    · rw [List.getElem?_set_ne z] at hj
      obtain ⟨v, h1, h2⟩ := e.sl j c hj
      exact ⟨v, by rw [List.getElem?_set_ne z]; exact h1, h2⟩
  · have n1 : i ≠ j := fun z => by rw [← z, hk] at oj; cases oj
    have n2 : i ≠ k := fun z => by rw [← z, hk] at ok; cases ok
    rw [List.getElem?_set_ne n1] at hj sj
    rw [List.getElem?_set_ne n2] at hk' sk
    exact e.dis j k b dj dk hne oj ok hj hk' sj sk
  · have n1 : i ≠ j := fun z => by rw [← z, hk] at oj; cases oj
    rw [List.getElem?_set_ne n1] at hj sj
    exact e.oc j b c oj hj sj
/-- a new list comes to a slot of one's own -/
theorem ER.setO {a : Addr} {xs : List V} {ds : List Dv} (e : ER K ct ks M W H δ σ) (e' : ER K ct ks (plus M a) (plus W a) H δ σ) (nW : ¬ W a) {i : Nat} (hk : ks i = .o) (hH : H a = some (.lst xs)) (hr : reps K ct (plus M a) H ds xs) :
    ER K ct ks (plus M a) (plus W a) H (δ.set i (some (.lst ds))) (σ.set i (some (.ref a))) := by
  have own : ∀ j dj b, (ks j).own = true → δ[j]? = some (some dj) → σ[j]? = some (some (.ref b)) → b ≠ a := fun j dj b oj hj sj z => by
    obtain ⟨v, h1, h2⟩ := e.sl j dj hj
    rw [sj] at h1
    cases h1
    obtain ⟨_, q, hw, _⟩ := slr_own oj h2
    cases q
    exact nW (z ▸ hw)
  refine ⟨by rw [List.length_set, List.length_set]; exact e.len, fun j c hj => ?_, fun j k b dj dk hne oj ok hj hk' sj sk => ?_, e'.wm, e'.mt, e'.wl, fun j b c oj hj sj => ?_, e'.pw, e'.bw, e'.tb⟩
  · by_cases z : i = j
    · subst z
      have lt : i < δ.length := by
        have := (List.getElem?_eq_some_iff.mp hj).1
        rwa [List.length_set] at this
      rw [List.getElem?_set_self lt] at hj
      cases hj
      refine ⟨.ref a, List.getElem?_set_self (by rw [e.len]; exact lt), ?_⟩
      rw [hk]
      exact ⟨a, rfl, .inr rfl, .inl ⟨ds, xs, rfl, hH, hr⟩⟩
    · rw [List.getElem?_set_ne z] at hj
      obtain ⟨v, h1, h2⟩ := e'.sl j c hj
      exact ⟨v, by rw [List.getElem?_set_ne z]; exact h1, h2⟩
  · by_cases z1 : i = j
    · subst z1
      have n2 : i ≠ k := hne
      rw [List.getElem?_set_ne n2] at hk' sk
      have lt : i < σ.length := by
        have := (List.getElem?_eq_some_iff.mp sj).1
        rwa [List.length_set] at this
      rw [List.getElem?_set_self lt] at sj
      cases sj
      exact own k dk _ ok hk' sk rfl
    · rw [List.getElem?_set_ne z1] at hj sj
      by_cases z2 : i = k
      · subst z2
        have lt : i < σ.length := by
          have := (List.getElem?_eq_some_iff.mp sk).1
          rwa [List.length_set] at this
        rw [List.getElem?_set_self lt] at sk
        cases sk
        exact own j dj _ oj hj sj rfl
      · rw [List.getElem?_set_ne z2] at hk' sk
        exact e.dis j k b dj dk hne oj ok hj hk' sj sk
  · by_cases z1 : i = j
    · subst z1
      have lt : i < σ.length := by
        have := (List.getElem?_eq_some_iff.mp sj).1
        rwa [List.length_set] at this
      rw [List.getElem?_set_self lt] at sj
      cases sj
      exact fun z => nW (e.pw _ z)
    · rw [List.getElem?_set_ne z1] at hj sj
      exact e.oc j b c oj hj sj
end
section
variable {K : PySem.W.Frag} {ct : Ct} {ks : Ky} {E : EX} {mr : Md} {X : Cx} {q : Bool} {e : Expr} {st : Stmt} {sts : List Stmt} {t : TE} {ts us : TS} {d : Dl → Rs Dv} {ds df : Dl → Fl} {pos : Pos}
theorem dss_nil : DSS K ct ks E mr X [] tNext (fun δ => .nx δ) := ⟨pss_nil, fun M W H δ σ er D p => p M W H σ Mv3.refl er⟩
theorem dss_one (h : DS K ct ks E mr X st ts ds) : DSS K ct ks E mr X [st] ts ds := ⟨pss_one h.ps, h.ev⟩
theorem dss_cons (h : DS K ct ks E mr X st ts ds) (h2 : DSS K ct ks E mr X sts us df) : DSS K ct ks E mr X (st :: sts) (tSeq ts us) (cSeq ds df) := ⟨pss_cons h.ps h2.ps, fun M W H δ σ er D p => by
  refine h.ev M W H δ σ er { D with nx := us D } ?_
  have p' : Psf K ct ks E mr M W H σ D (match ds δ with
    | .nx δ1 => df δ1
    | r => r) := p
  cases hd : ds δ with
  | nx δ1 =>
    rw [hd] at p'
    exact fun M' W' H' σ' v e' => h2.ev M' W' H' δ1 σ' e' D (Psf.mv p' v)
  | brk δ1 => rw [hd] at p'; exact p'
  | cnt δ1 => rw [hd] at p'; exact p'
  | ret x δ1 => rw [hd] at p'; exact p'
  | exc c ns ds δ1 => rw [hd] at p'; exact p'
  | stuck => rw [hd] at p'; exact p'⟩
theorem ds_pass : DS K ct ks E mr X (.Pass pos) tNext (fun δ => .nx δ) := ⟨ps_pass, fun M W H δ σ er D p => p M W H σ Mv3.refl er⟩
theorem ds_doc {x j pos pos'} : DS K ct ks E mr X (.Expr (.Constant (.str x) j pos) pos') tNext (fun δ => .nx δ) := ⟨ps_doc, fun M W H δ σ er D p => p M W H σ Mv3.refl er⟩
theorem ds_break : DS K ct ks E mr X (.Break pos) tBreak (fun δ => .brk δ) := ⟨ps_break, fun M W H δ σ er D p => p M W H σ Mv3.refl er⟩
theorem ds_continue : DS K ct ks E mr X (.Continue pos) tCont (fun δ => .cnt δ) := ⟨ps_continue, fun M W H δ σ er D p => p M W H σ Mv3.refl er⟩
theorem mv_set {M W : Ads} {H : Hp} {σ : L2.St} {i : Nat} {x : Option V} (hk : ks i ≠ .p) : Mv3 (Ct.tabs ct) ks M W H σ M W H (σ.set i x) := ⟨fun _ h => h, fun _ h => .inl h, fun _ h => h, fun _ h => .inl h, Kp3.refl _ _, fun j hj => List.getElem?_set_ne fun z => hk (by rw [z]; exact hj)⟩
theorem ds_set {i : Nat} {x : Str} {pos' : Pos} (hk : ks i = .v) (hN : X.N.Nodup) (hi : X.N[i]? = some x) (hx : Loc X.env.scope x) (he : DX K ct ks E q .v X e t d) (hs : swapsWith e (some (.Name x pos')) pos.line X.env = pure false := by rfl) (hf : X.fn x = true ∨ X.env.scope.names.lookup x = some .local := by first | exact .inl rfl | exact .inr rfl | assumption) :
    DS K ct ks E mr X (.Assign [.Name x pos'] e pos) (tAsg t (gName i)) (cSet i d) := ⟨ps_set hN hi hx he.pe hs hf, fun M W H δ σ er D p => by
  refine ev_bnf (he.ev M W H δ σ er) p fun v δ1 y H1 v1 e1 r1 p1 => ?_
  exact p1 M W H1 _ (v1.trans (mv_set (by rw [hk]; decide))) (e1.setV hk r1.1)⟩
theorem ds_setO {i : Nat} {x : Str} {pos' : Pos} (hk : ks i = .o) (hN : X.N.Nodup) (hi : X.N[i]? = some x) (hx : Loc X.env.scope x) (he : DX K ct ks E q .f X e t d) (hs : swapsWith e (some (.Name x pos')) pos.line X.env = pure false := by rfl) (hf : X.fn x = true ∨ X.env.scope.names.lookup x = some .local := by first | exact .inl rfl | exact .inr rfl | assumption) :
    DS K ct ks E mr X (.Assign [.Name x pos'] e pos) (tAsg t (gName i)) (cSet i d) := ⟨ps_set hN hi hx he.pe hs hf, fun M W H δ σ er D p => by
  refine ev_bnf (he.ev M W H δ σ er) p fun v δ1 y H1 v1 e1 r1 p1 => ?_
  obtain ⟨⟨ds, a, xs, rfl, rfl, h1, h2, h3⟩, r2⟩ := r1
  obtain ⟨a', ea, e2⟩ := r2 rfl
  cases ea
  have nM : ¬ M a := fun z => er.mt a z h1
  refine p1 (plus M a) (plus W a) H1 _ ⟨fun _ z => .inl z, fun b z => z.imp id fun e => by rw [e]; exact h1, fun _ z => .inl z, fun b z => z.imp id fun e => by rw [e]; exact h1, v1.kp, fun j hj => List.getElem?_set_ne fun z => ?_⟩ (e1.setO e2 (fun z => nM (er.wm a z)) hk h2 h3)
  rw [z, hj] at hk
  cases hk⟩
theorem ds_ret (he : DX K ct ks E q .v X e t d) : DS K ct ks E .v X (.Return (some e) pos) (tRet t) (cRet d) := ⟨ps_ret he.pe, fun M W H δ σ er D p =>
  ev_bnf (he.ev M W H δ σ er) p fun v δ1 y H1 v1 e1 r1 p1 => p1 M W H1 σ y v1 e1 (.inl ⟨by decide, r1.1⟩)⟩
theorem ds_retF (he : DX K ct ks E q .f X e t d) : DS K ct ks E mr X (.Return (some e) pos) (tRet t) (cRet d) := ⟨ps_ret he.pe, fun M W H δ σ er D p => by
  refine ev_bnf (he.ev M W H δ σ er) p fun v δ1 y H1 v1 e1 r1 p1 => ?_
  obtain ⟨⟨ds, a, xs, rfl, rfl, h1, h2, h3⟩, r2⟩ := r1
  obtain ⟨a', ea, e2⟩ := r2 rfl
  cases ea
  exact p1 (plus M a) (plus W a) H1 σ _ ⟨fun _ z => .inl z, fun b z => z.imp id fun e => by rw [e]; exact h1, fun _ z => .inl z, fun b z => z.imp id fun e => by rw [e]; exact h1, v1.kp, fun j hj => rfl⟩ e2 (.inr ⟨a, rfl, .inr rfl, fun z => er.mt a (er.wm a (er.pw a z)) h1, .inl ⟨ds, xs, rfl, h2, h3⟩, fun _ => ⟨ds, rfl⟩⟩)⟩
def cRetO (mr : Md) (i : Nat) : Dl → Fl := fun δ => match δ[i]? with
  | some (some (.lst ds)) => .ret (.lst ds) δ
  | some (some d) => if mr = .f then .stuck else .ret d δ
  | _ => .stuck
/-- a list of one's own is handed back -/
theorem ds_retO (i : Nat) (hk : ks i = .o) (he : PE X e (tVar i)) : DS K ct ks E mr X (.Return (some e) pos) (tRet (tVar i)) (cRetO mr i) := ⟨ps_ret he, fun M W H δ σ er D p => by
  have p' : Psf K ct ks E mr M W H σ D (cRetO mr i δ) := p
  unfold cRetO at p'
  have fin : ∀ d, δ[i]? = some (some d) → (mr = .f → ∃ ds, d = .lst ds) → Psf K ct ks E mr M W H σ D (.ret d δ) → tRet (tVar i) D σ H := fun d hd hf q => by
    obtain ⟨v, h1, h2⟩ := er.sl i d hd
    rw [hk] at h2
    obtain ⟨a, rfl, hw, hm⟩ := h2
    exact ⟨_, h1, q M W H σ _ Mv3.refl er (.inr ⟨a, rfl, hw, er.oc i a _ hk hd h1, hm, hf⟩)⟩
  split at p'
  · rename_i ds hd
    exact fin _ hd (fun _ => ⟨ds, rfl⟩) p'
  · rename_i d _ hd
    by_cases hm : mr = .f
    · rw [if_pos hm] at p'
      exact p'.elim
    · rw [if_neg hm] at p'
      exact fin _ hd (fun z => absurd z hm) p'
  · exact p'.elim⟩
theorem ds_retN : DS K ct ks E .v X (.Return none pos) tRetN (fun δ => .ret .non δ) := ⟨ps_retN, fun M W H δ σ er D p => p M W H σ .non Mv3.refl er (.inl ⟨by decide, rm_non (K := K) (ct := ct) (M := M) (H := H) (H' := H)⟩)⟩
theorem ds_expr {m : Md} (he : DX K ct ks E q m X e t d) (hs : swapsWith e none pos.line X.env = pure false := by rfl) : DS K ct ks E mr X (.Expr e pos) (tDrop t) (cDrop d) := ⟨ps_expr he.pe hs, fun M W H δ σ er D p =>
  ev_bnf (he.ev M W H δ σ er) p fun v δ1 y H1 v1 e1 r1 p1 => p1 M W H1 σ v1 e1⟩
theorem ds_if {c : Expr} {a b : List Stmt} {tc : TT} {dc : Dl → Rs Bool} {ta tb : TS} {da db : Dl → Fl} (hc : DT K ct ks E q X c tc dc) (ha : DSS K ct ks E mr X a ta da) (hb : DSS K ct ks E mr X b tb db) : DS K ct ks E mr X (.If c a b pos) (tIfS tc ta tb) (cIfS dc da db) :=
  ⟨ps_if hc.pe ha.ps hb.ps, fun M W H δ σ er D p => by
  refine ev_bnf (hc.ev M W H δ σ er) p fun v δ1 y H1 v1 e1 r1 p1 => ?_
  cases r1
  cases v with
  | true => exact ha.ev M W H1 δ1 σ e1 D (Psf.mv p1 v1)
  | false => exact hb.ev M W H1 δ1 σ e1 D (Psf.mv p1 v1)⟩
end
end Dn

/-! Targets, stores into lists, loops. -/
namespace Dn
open PySem PySem.Spec PyProof.Rows L2 LamX Q
section
variable (K : PySem.W.Frag) (ct : Ct) (ks : Ky)
structure DG (X : Cx) (tg : Expr) (g : TG) (vs : List Nat) (gd : Dv → Dl → Option Dl) : Prop where
  pg : PG X tg g
  vk : ∀ i ∈ vs, ks i = .v
  ev : ∀ (M W : Ads) (H : Hp) (δ : Dl) (σ : L2.St) (x : V) (d : Dv) (δ' : Dl), ER K ct ks M W H δ σ → rep K ct M H d x → gd d δ = some δ' → ∀ Q : L2.St → Hp → Prop, (∀ σ', ER K ct ks M W H δ' σ' → σ'.length = σ.length → (∀ i, i ∉ vs → σ'[i]? = σ[i]?) → Q σ' H) → g x σ H Q
structure DGL (X : Cx) (tgs : List Expr) (g : TGs) (vs : List Nat) (gd : List Dv → Dl → Option Dl) : Prop where
  pg : PGs X tgs g
  vk : ∀ i ∈ vs, ks i = .v
  ev : ∀ (M W : Ads) (H : Hp) (δ : Dl) (σ : L2.St) (xs : List V) (ds : List Dv) (δ' : Dl), ER K ct ks M W H δ σ → reps K ct M H ds xs → gd ds δ = some δ' → ∀ Q : L2.St → Hp → Prop, (∀ σ', ER K ct ks M W H δ' σ' → σ'.length = σ.length → (∀ i, i ∉ vs → σ'[i]? = σ[i]?) → Q σ' H) → g xs σ H Q
end
def gN (i : Nat) : Dv → Dl → Option Dl := fun d δ => some (δ.set i (some d))
def gNil2 : List Dv → Dl → Option Dl := fun ds δ => match ds with
  | [] => some δ
  | _ :: _ => none
def gCons2 (a : Dv → Dl → Option Dl) (b : List Dv → Dl → Option Dl) : List Dv → Dl → Option Dl := fun ds δ => match ds with
  | [] => none
  | d :: r => match a d δ with
    | none => none
    | some δ1 => b r δ1
def gTup2 (n : Nat) (a : List Dv → Dl → Option Dl) : Dv → Dl → Option Dl := fun d δ => match d with
  | .tup ds => if ds.length = n then a ds δ else none
  | _ => none
def cAsg (g : Dv → Dl → Option Dl) (a : Dl → Rs Dv) : Dl → Fl := fun δ => bnf (a δ) fun x δ1 => match g x δ1 with
  | some δ2 => .nx δ2
  | none => .stuck
section
variable {K : PySem.W.Frag} {ct : Ct} {ks : Ky} {E : EX} {mr : Md} {X : Cx} {q q1 q2 q3 : Bool} {m : Md} {e : Expr} {st : Stmt} {sts : List Stmt} {t : TE} {ts us : TS} {d : Dl → Rs Dv} {ds df : Dl → Fl} {pos : Pos}
theorem dg_name {i : Nat} {x : Str} (hk : ks i = .v) (hN : X.N.Nodup) (hi : X.N[i]? = some x) (hx : Loc X.env.scope x) (hf : X.fn x = true ∨ X.env.scope.names.lookup x = some .local := by first | exact .inl rfl | exact .inr rfl | assumption) : DG K ct ks X (.Name x pos) (gName i) [i] (gN i) :=
  ⟨pg_name hN hi hx hf, fun j hj => by rw [List.mem_singleton.mp hj]; exact hk, fun M W H δ σ x d δ' er hr hg Q q => by
    cases hg
    exact q _ (er.setV hk hr) (List.length_set ..) fun j hj => List.getElem?_set_ne fun z => hj (by rw [z]; exact List.mem_singleton.mpr rfl)⟩
theorem dgl_nil : DGL K ct ks X [] gNil [] gNil2 := ⟨pgs_nil, fun j hj => by simp at hj, fun M W H δ σ xs ds δ' er hr hg Q q => by
    cases ds with
    | nil =>
      cases hg
      exact ⟨reps_inv0 hr, q σ er rfl fun _ _ => rfl⟩
    | cons _ _ => cases hg⟩
theorem dgl_cons {es : List Expr} {g : TG} {u : TGs} {v1 v2 : List Nat} {g1 : Dv → Dl → Option Dl} {g2 : List Dv → Dl → Option Dl} (h1 : DG K ct ks X e g v1 g1) (h2 : DGL K ct ks X es u v2 g2) (hs : (assignEach (e :: es) X.env).map (·.2) = assign e X.env :: (assignEach es X.env).map (·.2) := by rfl) :
    DGL K ct ks X (e :: es) (gCons g u) (v1 ++ v2) (gCons2 g1 g2) := ⟨pgs_cons h1.pg h2.pg hs, fun j hj => (List.mem_append.mp hj).elim (h1.vk j) (h2.vk j), fun M W H δ σ xs ds δ' er hr hg Q q => by
    cases ds with
    | nil => cases hg
    | cons d r =>
      obtain ⟨x, ys, rfl, r1, r2⟩ := reps_inv hr
      have hg' : (match g1 d δ with
        | none => none
        | some δ1 => g2 r δ1) = some δ' := hg
      cases he : g1 d δ with
      | none => rw [he] at hg'; cases hg'
      | some δ1 =>
        rw [he] at hg'
        refine ⟨x, ys, rfl, h1.ev M W H δ σ x d δ1 er r1 he _ fun σ1 e1 l1 k1 => ?_⟩
        refine h2.ev M W H δ1 σ1 ys r δ' e1 r2 hg' Q fun σ2 e2 l2 k2 => q σ2 e2 (l2.trans l1) fun i hi => ?_
        have hi' : ¬ (i ∈ v1 ∨ i ∈ v2) := fun z => hi (List.mem_append.mpr z)
        exact (k2 i fun z => hi' (.inr z)).trans (k1 i fun z => hi' (.inl z))⟩
theorem pg_tupK {es : List Expr} {k : Nat} {u : TGs} {n : Nat} (hK : X.K = K) (hc : X.calm = true) (h : PGs X es u)
    (hn : (assignEach es X.env).length = n := by rfl) (hst : (assignEach es X.env).findIdx? (·.1) = none := by rfl) : PG X (.Tuple es k pos) (gTup K n u) := by
  subst hK
  exact pg_tup hc h hn hst
theorem dg_tup {es : List Expr} {k : Nat} {u : TGs} {n : Nat} {vs : List Nat} {g2 : List Dv → Dl → Option Dl} (hc : X.calm = true) (h : DGL K ct ks X es u vs g2) (hK : X.K = K := by rfl) (hn : (assignEach es X.env).length = n := by rfl) (hst : (assignEach es X.env).findIdx? (·.1) = none := by rfl) :
    DG K ct ks X (.Tuple es k pos) (gTup K n u) vs (gTup2 n g2) := ⟨pg_tupK hK hc h.pg hn hst, h.vk, fun M W H δ σ x d δ' er hr hg Q q => by
    cases d with
    | tup ds =>
      have hg' : (if ds.length = n then g2 ds δ else none) = some δ' := hg
      by_cases hl : ds.length = n
      · rw [if_pos hl] at hg'
        obtain ⟨a, xs, rfl, s, r⟩ := rep_SqT hr
        exact ⟨a, xs, rfl, s, by rw [reps_len r, hl], h.ev M W H δ σ xs ds δ' er r hg' Q q⟩
      · rw [if_neg hl] at hg'
        cases hg'
    | non => cases hg
    | bl _ => cases hg
    | int _ => cases hg
    | str _ => cases hg
    | lst _ => cases hg
    | obj _ _ _ => cases hg⟩
theorem mv_tg {M W : Ads} {H : Hp} {σ σ' : L2.St} {vs : List Nat} (vk : ∀ i ∈ vs, ks i = .v) (k : ∀ i, i ∉ vs → σ'[i]? = σ[i]?) : Mv3 (Ct.tabs ct) ks M W H σ M W H σ' :=
  ⟨fun _ h => h, fun _ h => .inl h, fun _ h => h, fun _ h => .inl h, Kp3.refl _ _, fun j hj => k j fun z => by rw [vk j z] at hj; cases hj⟩
theorem ds_asg {tg : Expr} {g : TG} {vs : List Nat} {gd : Dv → Dl → Option Dl} (he : DX K ct ks E q .v X e t d) (hg : DG K ct ks X tg g vs gd) (hs : swapsWithSole [tg] e pos.line X.env = pure false := by rfl) (hw : swappedStores [tg] e X.env = pure none := by rfl)
    (h1 : (assignEach [tg] X.env).map (·.2) = [assign tg X.env] := by rfl) : DS K ct ks E mr X (.Assign [tg] e pos) (tAsg t g) (cAsg gd d) := ⟨ps_asg he.pe hg.pg hs hw h1, fun M W H δ σ er D p => by
  refine ev_bnf (he.ev M W H δ σ er) p fun v δ1 y H1 v1 e1 r1 p1 => ?_
  cases hd : gd v δ1 with
  | none =>
    rw [hd] at p1
    exact p1.elim
  | some δ2 =>
    rw [hd] at p1
    exact hg.ev M W H1 δ1 σ y v δ2 e1 r1.1 hd D.nx fun σ' e2 _ k2 => p1 M W H1 σ' (v1.trans (mv_tg hg.vk k2)) e2⟩
/-! a, b = x, y of plain names -/
def cPar (i j : Nat) (as : Dl → Rs (List Dv)) : Dl → Fl := fun δ => bnf (as δ) fun xs δ1 => match xs with
  | [x, y] => .nx ((δ1.set i (some x)).set j (some y))
  | _ => .stuck
theorem ds_par {i j : Nat} {x y : Str} {a b : Expr} {ta : TA} {da : Dl → Rs (List Dv)} {px py pt : Pos} {kt k2 pt2} (ki : ks i = .v) (kj : ks j = .v) (hc : X.calm = true) (hN : X.N.Nodup) (hi : X.N[i]? = some x) (hj : X.N[j]? = some y) (hij : i ≠ j)
    (hx : X.env.scope.names.lookup x = some .local) (hy : X.env.scope.names.lookup y = some .local) (ha : DA K ct ks E q false X [a, b] ta da)
    (hw : swappedStores [.Tuple [.Name x px, .Name y py] kt pt] (.Tuple [a, b] k2 pt2) X.env = pure (some [x, y]))
    (hs : swapsWithSole [.Tuple [.Name x px, .Name y py] kt pt] (.Tuple [a, b] k2 pt2) pos.line X.env = pure false := by rfl) :
    DS K ct ks E mr X (.Assign [.Tuple [.Name x px, .Name y py] kt pt] (.Tuple [a, b] k2 pt2) pos) (tPar i j ta) (cPar i j da) := ⟨ps_par hc hN hi hj hij hx hy ha.pe hw hs, fun M W H δ σ er D p => by
  refine ev_bnf (ha.ev M W H δ σ er) p fun ds δ1 vs H1 v1 e1 r1 p1 => ?_
  cases ds with
  | nil => exact p1.elim
  | cons d1 ds =>
    cases ds with
    | nil => exact p1.elim
    | cons d2 ds =>
      cases ds with
      | cons _ _ => exact p1.elim
      | nil =>
        obtain ⟨u, ys, rfl, g1, g2⟩ := reps_inv (show reps K ct M H1 [d1, d2] vs from r1)
        obtain ⟨w, zs, rfl, g3, g4⟩ := reps_inv g2
        rw [reps_inv0 g4]
        exact ⟨u, w, rfl, p1 M W H1 _ (v1.trans ((mv_set (by rw [ki]; decide)).trans (mv_set (by rw [kj]; decide)))) ((e1.setV ki g1).setV kj g3)⟩⟩
def cPar3 (i j l : Nat) (as : Dl → Rs (List Dv)) : Dl → Fl := fun δ => bnf (as δ) fun xs δ1 => match xs with
  | [x, y, z] => .nx (((δ1.set i (some x)).set j (some y)).set l (some z))
  | _ => .stuck
theorem ds_par3 {i j l : Nat} {x y z : Str} {a b c : Expr} {ta : TA} {da : Dl → Rs (List Dv)} {px py pz pt : Pos} {kt k2 pt2} (ki : ks i = .v) (kj : ks j = .v) (kl : ks l = .v) (hP : PS X (.Assign [.Tuple [.Name x px, .Name y py, .Name z pz] kt pt] (.Tuple [a, b, c] k2 pt2) pos) (tPar3 i j l ta)) (ha : DA K ct ks E q false X [a, b, c] ta da) :
    DS K ct ks E mr X (.Assign [.Tuple [.Name x px, .Name y py, .Name z pz] kt pt] (.Tuple [a, b, c] k2 pt2) pos) (tPar3 i j l ta) (cPar3 i j l da) := ⟨hP, fun M W H δ σ er D p => by
  refine ev_bnf (ha.ev M W H δ σ er) p fun ds δ1 vs H1 v1 e1 r1 p1 => ?_
  cases ds with
  | nil => exact p1.elim
  | cons d1 ds =>
    cases ds with
    | nil => exact p1.elim
    | cons d2 ds =>
      cases ds with
      | nil => exact p1.elim
      | cons d3 ds =>
        cases ds with
        | cons _ _ => exact p1.elim
        | nil =>
          obtain ⟨u, ys, rfl, g1, g2⟩ := reps_inv (show reps K ct M H1 [d1, d2, d3] vs from r1)
          obtain ⟨w, zs, rfl, g3, g4⟩ := reps_inv g2
          obtain ⟨v, zs', rfl, g5, g6⟩ := reps_inv g4
          rw [reps_inv0 g6]
          exact ⟨u, w, v, rfl, p1 M W H1 _ (v1.trans ((mv_set (by rw [ki]; decide)).trans ((mv_set (by rw [kj]; decide)).trans (mv_set (by rw [kl]; decide))))) (((e1.setV ki g1).setV kj g3).setV kl g5)⟩⟩
/-! stores into a list of one's own -/
def asL : Option (Option Dv) → Option (List Dv)
  | some (some (.lst ds)) => some ds
  | _ => none
theorem asL_some {o : Option (Option Dv)} {ds : List Dv} (h : asL o = some ds) : o = some (some (.lst ds)) := by
  unfold asL at h
  split at h
  · cases h; rfl
  · cases h
/-- the slot's list as it stands -/
theorem own_at {M W : Ads} {H : Hp} {δ : Dl} {σ : L2.St} {s : Nat} {ds : List Dv} (er : ER K ct ks M W H δ σ) (hk : (ks s).own = true) (h : asL δ[s]? = some ds) : ∃ a xs, σ[s]? = some (some (.ref a)) ∧ W a ∧ H a = some (.lst xs) ∧ reps K ct M H ds xs := by
  obtain ⟨v, h1, h2⟩ := er.sl s _ (asL_some h)
  obtain ⟨a, rfl, hw, hm⟩ := slr_own hk h2
  rcases hm with ⟨es, xs, e, ha, hr⟩ | ⟨_, _, _, _, _, e, _⟩
  · cases e
    exact ⟨a, xs, h1, hw, ha, hr⟩
  · cases e
def cSub (s : Nat) (a i : Dl → Rs Dv) : Dl → Fl := fun δ => bnf (a δ) fun x δ1 => match asL δ1[s]? with
  | none => .stuck
  | some _ => bnf (i δ1) fun k δ2 => match asL δ2[s]? with
    | none => .stuck
    | some ds => match k with
      | .int k => match ixN ds.length k with
        | some j => .nx (δ2.set s (some (.lst (ds.set j x))))
        | none => .stuck
      | _ => .stuck
theorem ds_sub {o i : Expr} {ti : TE} {di : Dl → Rs Dv} {p2 : Pos} (s : Nat) (hk : (ks s).own = true) (he : DX K ct ks E q .v X e t d) (ho : PE X o (tVar s)) (hi : DX K ct ks E q2 .v X i ti di)
    (hP : PS X (.Assign [.Subscript o i p2] e pos) (tAsg t (gSub (tVar s) ti rSetL))) : DS K ct ks E mr X (.Assign [.Subscript o i p2] e pos) (tAsg t (gSub (tVar s) ti rSetL)) (cSub s d di) := ⟨hP, fun M W H δ σ er D p => by
  refine ev_bnf (he.ev M W H δ σ er) p fun v δ1 y H1 v1 e1 r1 p1 => ?_
  cases h0 : asL δ1[s]? with
  | none => rw [h0] at p1; exact p1.elim
  | some ds0 =>
    rw [h0] at p1
    obtain ⟨a, xs0, s1, _, _, _⟩ := own_at e1 hk h0
    refine ⟨.ref a, s1, ?_⟩
    refine ev_bnf (hi.ev M W H1 δ1 σ e1) (Psf.mv p1 v1) fun k δ2 z H2 v2 e2 r2 p2 => ?_
    cases h2 : asL δ2[s]? with
    | none => rw [h2] at p2; exact p2.elim
    | some ds =>
      rw [h2] at p2
      obtain ⟨b, xs, s2, hw, hb, hr⟩ := own_at e2 hk h2
      rw [s1] at s2
      cases s2
      cases k with
      | int k =>
        cases hj : ixN ds.length k with
        | none =>
          have p3 : Psf K ct ks E mr M W H1 σ D (match ixN ds.length k with
            | some j => .nx (δ2.set s (some (.lst (ds.set j v))))
            | none => .stuck) := p2
          rw [hj] at p3
          exact p3.elim
        | some j =>
          have p3 : Psf K ct ks E mr M W H1 σ D (match ixN ds.length k with
            | some j => .nx (δ2.set s (some (.lst (ds.set j v))))
            | none => .stuck) := p2
          rw [hj] at p3
          cases rmv_int r2.1
          refine ⟨a, xs, k, j, rfl, rfl, hb, by rw [reps_len hr]; exact hj, ?_⟩
          obtain ⟨e3, k3⟩ := e2.writeL hk (asL_some h2) s1 (reps_set (rep_kp v2.kp e1.wm r1.1) j hr)
          exact p3 M W _ σ (v2.trans (Mv3.kp1 k3)) e3
      | non => exact p2.elim
      | bl _ => exact p2.elim
      | str _ => exact p2.elim
      | tup _ => exact p2.elim
      | lst _ => exact p2.elim
      | obj _ _ _ => exact p2.elim⟩
/-! xs[i] += e -/
def augGet (ds : List Dv) : Dv → Option (Int × Int)
  | .int k => if 0 ≤ k then (match ds[k.toNat]? with
    | some (.int x) => some (k, x)
    | _ => none) else none
  | _ => none
theorem augGet_some {ds : List Dv} {k : Dv} {kx : Int × Int} (h : augGet ds k = some kx) : k = .int kx.1 ∧ 0 ≤ kx.1 ∧ ds[kx.1.toNat]? = some (.int kx.2) := by
  unfold augGet at h
  split at h
  · split at h
    · rename_i k0 hk
      split at h
      · rename_i x hx
        cases h
        exact ⟨rfl, hk, hx⟩
      · cases h
    · cases h
  · cases h
def subEnd (s : Nat) (k : Int) (y : Dv) (δ2 : Dl) : Fl := match asL δ2[s]? with
  | some es => (match ixN es.length k with
    | some j => .nx (δ2.set s (some (.lst (es.set j y))))
    | none => .stuck)
  | none => .stuck
def augEnd (s : Nat) (f : Int → Int → Int) (kx : Int × Int) (y : Dv) (δ2 : Dl) : Fl := match y with
  | .int y => subEnd s kx.1 (.int (f kx.2 y)) δ2
  | _ => .stuck
def cAugSub (s : Nat) (f : Int → Int → Int) (i a : Dl → Rs Dv) : Dl → Fl := fun δ => match asL δ[s]? with
  | none => .stuck
  | some _ => bnf (i δ) fun k δ1 => match asL δ1[s]? with
    | none => .stuck
    | some ds => match augGet ds k with
      | none => .stuck
      | some kx => bnf (a δ1) fun y δ2 => augEnd s f kx y δ2
theorem sub_end {M W : Ads} {H : Hp} {δ : Dl} {σ : L2.St} {D : Ends} {s : Nat} {k : Int} {y : Dv} {v : V} {a : Addr} (er : ER K ct ks M W H δ σ) (hk : (ks s).own = true) (ha : σ[s]? = some (some (.ref a))) (hy : rep K ct M H y v) (p : Psf K ct ks E mr M W H σ D (subEnd s k y δ)) :
    rSetL (.ref a) (.int k) v H fun H' => D.nx σ H' := by
  unfold subEnd at p
  split at p
  · rename_i es he
    split at p
    · rename_i j hj
      obtain ⟨b, xs, s2, hw, hb, hr⟩ := own_at er hk he
      rw [ha] at s2
      cases s2
      refine ⟨a, xs, k, j, rfl, rfl, hb, by rw [reps_len hr]; exact hj, ?_⟩
      obtain ⟨e3, k3⟩ := er.writeL hk (asL_some he) ha (reps_set hy j hr)
      exact p M W _ σ (Mv3.kp1 k3) e3
    · exact p.elim
  · exact p.elim
theorem ds_augS {o i : Expr} {ti : TE} {di : Dl → Rs Dv} {p2 : Pos} {op : Operator} {f : Int → Int → Int} (s : Nat) (hk : (ks s).own = true) (ho : PE X o (tVar s)) (hi : DX K ct ks E q2 .v X i ti di) (he : DX K ct ks E q .v X e t d)
    (hP : PS X (.AugAssign (.Subscript o i p2) op e pos) (tAugS (tVar s) ti t (rGetL K) (ipI f) rSetL)) : DS K ct ks E mr X (.AugAssign (.Subscript o i p2) op e pos) (tAugS (tVar s) ti t (rGetL K) (ipI f) rSetL) (cAugSub s f di d) := ⟨hP, fun M W H δ σ er D p => by
  have p' : Psf K ct ks E mr M W H σ D (cAugSub s f di d δ) := p
  unfold cAugSub at p'
  cases h0 : asL δ[s]? with
  | none => rw [h0] at p'; exact p'.elim
  | some ds0 =>
    rw [h0] at p'
    obtain ⟨a, xs0, s1, _, _, _⟩ := own_at er hk h0
    refine ⟨.ref a, s1, ?_⟩
    refine ev_bnf (hi.ev M W H δ σ er) p' fun k δ1 z H1 v1 e1 r1 p1 => ?_
    cases h1 : asL δ1[s]? with
    | none => rw [h1] at p1; exact p1.elim
    | some ds =>
      rw [h1] at p1
      cases hg : augGet ds k with
      | none =>
        have p2 : Psf K ct ks E mr M W H σ D (match augGet ds k with
          | none => .stuck
          | some kx => bnf (d δ1) fun y δ2 => augEnd s f kx y δ2) := p1
        rw [hg] at p2
        exact p2.elim
      | some kx =>
        have p2 : Psf K ct ks E mr M W H σ D (match augGet ds k with
          | none => .stuck
          | some kx => bnf (d δ1) fun y δ2 => augEnd s f kx y δ2) := p1
        rw [hg] at p2
        obtain ⟨rfl, hk0, hx⟩ := augGet_some hg
        obtain ⟨b, xs, s2, hw, hb, hr⟩ := own_at e1 hk h1
        rw [s1] at s2
        cases s2
        cases rmv_int r1.1
        obtain ⟨vx, g1, g2⟩ := reps_get hr hx
        cases (rep_int (K := K) (ct := ct) (M := M) (H := H1)).mp g2
        refine ⟨a, xs, kx.1.toNat, .int kx.2, rfl, by rw [Int.toNat_of_nonneg hk0], SqL.of hb, g1, ?_⟩
        refine ev_bnf (he.ev M W H1 δ1 σ e1) (Psf.mv p2 v1) fun y δ2 w H2 v2 e2 r2 p3 => ?_
        cases y with
        | int y =>
          cases rmv_int r2.1
          exact ⟨kx.2, y, rfl, rfl, sub_end e2 hk s1 ((rep_int (K := K) (ct := ct) (M := M) (H := H2)).mpr rfl) (Psf.mv (show Psf K ct ks E mr M W H1 σ D (subEnd s kx.1 (.int (f kx.2 y)) δ2) from p3) v2)⟩
        | non => exact p3.elim
        | bl _ => exact p3.elim
        | str _ => exact p3.elim
        | tup _ => exact p3.elim
        | lst _ => exact p3.elim
        | obj _ _ _ => exact p3.elim⟩
/-! name op= e, of ints -/
def cAug (i : Nat) (f : Int → Int → Int) (a : Dl → Rs Dv) : Dl → Fl := fun δ => match δ[i]? with
  | some (some (.int x)) => bnf (a δ) fun y δ1 => match y with
    | .int y => .nx (δ1.set i (some (.int (f x y))))
    | _ => .stuck
  | _ => .stuck
theorem ds_aug {i : Nat} {x : Str} {op : Operator} {f : Int → Int → Int} {pos' : Pos} (hk : ks i = .v) (hP : PS X (.AugAssign (.Name x pos') op e pos) (tAug i t (ipI f))) (he : DX K ct ks E q .v X e t d) :
    DS K ct ks E mr X (.AugAssign (.Name x pos') op e pos) (tAug i t (ipI f)) (cAug i f d) := ⟨hP, fun M W H δ σ er D p => by
  have p' : Psf K ct ks E mr M W H σ D (cAug i f d δ) := p
  unfold cAug at p'
  split at p'
  · rename_i x hx
    obtain ⟨v, h1, h2⟩ := er.sl i _ hx
    rw [hk] at h2
    cases (rep_int (K := K) (ct := ct) (M := M) (H := H)).mp h2
    refine ⟨_, h1, ?_⟩
    refine ev_bnf (he.ev M W H δ σ er) p' fun y δ1 z H1 v1 e1 r1 p1 => ?_
    cases y with
    | int y =>
      cases rmv_int r1.1
      exact ⟨x, y, rfl, rfl, p1 M W H1 _ (v1.trans (mv_set (by rw [hk]; decide))) (e1.setV hk ((rep_int (K := K) (ct := ct) (M := M) (H := H1)).mpr rfl))⟩
    | non => exact p1.elim
    | bl _ => exact p1.elim
    | str _ => exact p1.elim
    | tup _ => exact p1.elim
    | lst _ => exact p1.elim
    | obj _ _ _ => exact p1.elim
  · exact p'.elim⟩
theorem re_non {M : Ads} {H H' : Hp} {er : Addr → Prop} : rmE K ct .v M H H' er .non .non := ⟨rm_non (K := K) (ct := ct) (M := M) (H := H) (H' := H'), fun z => by cases z⟩
/-! xs.append(e) -/
def cApp (s : Nat) (a : Dl → Rs Dv) : Dl → Rs Dv := fun δ => match asL δ[s]? with
  | none => .stuck
  | some _ => bnd (a δ) fun x δ1 => match asL δ1[s]? with
    | none => .stuck
    | some ds => if ds.length < sizeLine then .ok .non (δ1.set s (some (.lst (ds ++ [x])))) else .stuck
theorem dx_app {c : Expr} (s : Nat) (hk : (ks s).own = true) (hm : m ≠ .b) (he : DX K ct ks E q m X e t d) (hP : PE X c (tBM K "list" rAppend (tVar s) (tCons t tNil))) : DX K ct ks E false .v X c (tBM K "list" rAppend (tVar s) (tCons t tNil)) (cApp s d) := ⟨hP, fun M W H δ σ er => by
  intro Q p
  have p' : Pst K ct ks E (rmE K ct .v) (Wq false W) M W H σ Q (cApp s d δ) := p
  unfold cApp at p'
  cases h0 : asL δ[s]? with
  | none => rw [h0] at p'; exact p'.elim
  | some ds0 =>
    rw [h0] at p'
    obtain ⟨a, xs0, s1, _, ha0, _⟩ := own_at er hk h0
    refine ⟨.ref a, s1, .inl ⟨rfl, xs0, SqL.of ha0⟩, ?_⟩
    refine (he.ev M W H δ σ er) _ ?_
    cases hd : d δ with
    | stuck => rw [hd] at p'; exact p'.elim
    | exc c ns ds δ1 =>
      rw [hd] at p'
      exact fun xd H1 k1 e1 r1 => p' xd H1 (k1.mono fun b z => ⟨rfl, z.2⟩) e1 r1
    | ok x δ1 =>
      rw [hd] at p'
      intro y H1 k1 e1 r1
      have p2 : Pst K ct ks E (rmE K ct .v) (Wq false W) M W H σ Q (match asL δ1[s]? with
        | none => .stuck
        | some ds => if ds.length < sizeLine then .ok .non (δ1.set s (some (.lst (ds ++ [x])))) else .stuck) := p'
      cases h1 : asL δ1[s]? with
      | none => rw [h1] at p2; exact p2.elim
      | some ds =>
        rw [h1] at p2
        have p3 : Pst K ct ks E (rmE K ct .v) (Wq false W) M W H σ Q (if ds.length < sizeLine then .ok .non (δ1.set s (some (.lst (ds ++ [x])))) else .stuck) := p2
        by_cases hz : ds.length < sizeLine
        · rw [if_pos hz] at p3
          obtain ⟨b, xs, s2, hw, hb, hr⟩ := own_at e1 hk h1
          rw [s1] at s2
          cases s2
          obtain ⟨e3, k3⟩ := e1.writeL hk (asL_some h1) s1 (reps_app hr (reps_cons (rm_v er.mt hm r1.1) reps_nil))
          exact ⟨a, xs, y, rfl, rfl, hb, by rw [reps_len hr]; exact hz, p3 .non _ ((k1.mono fun b z => (⟨rfl, z.2⟩ : Wq false W b)).trans (k3.mono fun b z => Wq.f z)) e3 re_non⟩
        · rw [if_neg hz] at p3
          exact p3.elim⟩
end
end Dn

/-! What is walked; for; comprehensions. -/
namespace Dn
open PySem PySem.Spec PyProof.Rows L2 LamX Q
/-- the walk J gives the trees ds, whatever is written that is not theirs -/
def WalkD (K : PySem.W.Frag) (ct : Ct) (M W : Ads) (H : Hp) (J : It) (ds : List Dv) : Prop :=
  ∃ (G : Hp → Prop) (Y : Nat → Hp → V → Hp → Prop), Walk J ds.length G Y ∧ ∀ (M1 S : Ads) (H1 : Hp), (∀ a, S a → W a ∨ H a = none) → Kp3 (Ct.tabs ct) S H H1 → (∀ a, M1 a → M a ∨ H a = none) → (∀ a, M1 a → H1 a ≠ none) →
    G H1 ∧ ∀ i x H2 d, ds[i]? = some d → Y i H1 x H2 → Same H1 H2 ∧ rep K ct M1 H2 d x
section
variable (K : PySem.W.Frag) (ct : Ct) (ks : Ky) (E : EX)
structure DI (q : Bool) (X : Cx) (tg iter : Expr) (wi : TI) (d : Dl → Rs (List Dv)) : Prop where
  pi : PI X tg iter wi
  ev : ∀ M W H δ σ, ER K ct ks M W H δ σ → Ev2 K ct ks E (fun M _ H' _ ds J => WalkD K ct M W H' J ds) (Wq q W) M W H σ (fun Q => wi σ H Q) (d δ)
end
def forL (g : Dv → Dl → Option Dl) (b : Dl → Fl) : List Dv → Dl → Fl
  | [], δ => .nx δ
  | x :: xs, δ => match g x δ with
    | none => .stuck
    | some δ1 => match b δ1 with
      | .nx δ2 => forL g b xs δ2
      | .cnt δ2 => forL g b xs δ2
      | .brk δ2 => .nx δ2
      | .ret v δ2 => .ret v δ2
      | .exc c ns ds δ2 => .exc c ns ds δ2
      | .stuck => .stuck
def cFor (di : Dl → Rs (List Dv)) (g : Dv → Dl → Option Dl) (b : Dl → Fl) : Dl → Fl := fun δ => bnf (di δ) fun xs δ1 => forL g b xs δ1
section
variable {K : PySem.W.Frag} {ct : Ct} {ks : Ky} {E : EX} {mr : Md} {X : Cx} {q q1 q2 q3 : Bool} {m : Md} {e : Expr} {st : Stmt} {sts : List Stmt} {t : TE} {ts us : TS} {d : Dl → Rs Dv} {ds df : Dl → Fl} {pos : Pos}
theorem ds_for {tg iter : Expr} {body : List Stmt} {wi : TI} {di : Dl → Rs (List Dv)} {g : TG} {vs : List Nat} {gd : Dv → Dl → Option Dl} {tb : TS} {db : Dl → Fl} (hp : PassesOwn (model X.prog X.w) X.A X.env X.xe) (hc : X.calm = true) (hi : DI K ct ks E q X tg iter wi di) (hg : DG K ct ks X tg g vs gd) (hb : DSS K ct ks E mr X body tb db)
    (hs : ∀ x, foldedSetIterable iter X.env x = pure x := by intro _; rfl) : DS K ct ks E mr X (.For tg iter body [] pos) (tFor wi g tb) (cFor di gd db) := ⟨ps_for hp hc hi.pi hg.pg hb.ps hs, fun M W H δ σ er D p => by
  refine ev_bnf (hi.ev M W H δ σ er) p fun xs δ1 J H1 v1 e1 w p1 => ?_
  obtain ⟨G, Y, hw, hst⟩ := w
  have p2 : Psf K ct ks E mr M W H1 σ D (forL gd db xs δ1) := Psf.mv p1 v1
  have nx : ∀ {M1 W1 : Ads} {H2 : Hp} {σ1 : L2.St} {δ2 : Dl}, Mv3 (Ct.tabs ct) ks M W H1 σ M1 W1 H2 σ1 → ER K ct ks M1 W1 H2 δ2 σ1 → G H2 ∧ ∀ i x H3 dd, xs[i]? = some dd → Y i H2 x H3 → Same H2 H3 ∧ rep K ct M1 H3 dd x := fun {M1 W1 H2 σ1 δ2} v e => hst M1 W H2 (fun a z => .inl z) v.kp v.m2 e.mt
  refine for_it hw (fun i σ1 H2 => ∃ M1 W1 δ2, Mv3 (Ct.tabs ct) ks M W H1 σ M1 W1 H2 σ1 ∧ ER K ct ks M1 W1 H2 δ2 σ1 ∧ Psf K ct ks E mr M1 W1 H2 σ1 D (forL gd db (xs.drop i) δ2))
    ⟨M, W, δ1, Mv3.refl, e1, p2⟩ (fun i σ1 H2 _ ⟨M1, W1, δ2, v, e, _⟩ => (nx v e).1) ?_ ?_
  · rintro i x σ1 H2 H3 hi2 ⟨M1, W1, δ2, v, e, pp⟩ y
    have hx : xs[i]? = some xs[i] := List.getElem?_eq_getElem hi2
    obtain ⟨sm, hr⟩ := (nx v e).2 i x H3 xs[i] hx y
    rw [List.drop_eq_getElem_cons hi2] at pp
    unfold forL at pp
    cases hgd : gd xs[i] δ2 with
    | none => rw [hgd] at pp; exact pp.elim
    | some δ3 =>
      rw [hgd] at pp
      have k3 : Kp3 (Ct.tabs ct) (fun _ => False) H2 H3 := Kp3.same sm
      refine hg.ev M1 W1 H3 δ2 σ1 x xs[i] δ3 (e.q k3) hr hgd _ fun σ2 e2 _ k2 => ?_
      have v2 : Mv3 (Ct.tabs ct) ks M1 W1 H2 σ1 M1 W1 H3 σ2 := (Mv3.kp1 (k3.mono fun _ z => z.elim)).trans (mv_tg hg.vk k2)
      have pp2 : Psf K ct ks E mr M1 W1 H3 σ2 D (match db δ3 with
        | .nx δ2 => forL gd db (xs.drop (i + 1)) δ2
        | .cnt δ2 => forL gd db (xs.drop (i + 1)) δ2
        | .brk δ2 => .nx δ2
        | .ret v δ2 => .ret v δ2
        | .exc c ns ds δ2 => .exc c ns ds δ2
        | .stuck => .stuck) := Psf.mv pp v2
      refine hb.ev M1 W1 H3 δ3 σ2 e2 _ ?_
      cases hdb : db δ3 with
      | nx δ4 =>
        rw [hdb] at pp2
        exact fun M2 W2 H4 σ4 v4 e4 => ⟨M2, W2, δ4, v.trans (v2.trans v4), e4, Psf.mv pp2 v4⟩
      | cnt δ4 =>
        rw [hdb] at pp2
        exact fun M2 W2 H4 σ4 v4 e4 => ⟨M2, W2, δ4, v.trans (v2.trans v4), e4, Psf.mv pp2 v4⟩
      | brk δ4 =>
        rw [hdb] at pp2
        exact fun M2 W2 H4 σ4 v4 e4 => pp2 M2 W2 H4 σ4 v4 e4
      | ret v δ4 =>
        rw [hdb] at pp2
        exact pp2
      | exc c ns ds δ4 =>
        rw [hdb] at pp2
        exact pp2
      | stuck =>
        rw [hdb] at pp2
        exact pp2
  · rintro σ1 H2 ⟨M1, W1, δ2, v, e, pp⟩
    rw [List.drop_length] at pp
    exact pp M1 W1 H2 σ1 Mv3.refl e⟩
/-! what is walked -/
def iAny (K : PySem.W.Frag) (tl : TE) : TI := fun σ H R => tl σ H fun x H1 => ∃ b a xs, x = .ref a ∧ Sq b K H1 a xs ∧ R (Itq b K a) H1
theorem pi_any {tg l : Expr} {tl : TE} (hK : X.K = K) (hl : PE X l tl) : PI X tg l (iAny K tl) := by
  subst hK
  refine ⟨fun pins s σ H R I h => ?_⟩
  refine thn (hl.run pins s σ H _ I h) fun v s1 ⟨x, H1, I1, r1, q1⟩ => ?_
  obtain ⟨b, a, xs, e, hq, q⟩ := q1
  subst e
  cases r1
  cases b with
  | true =>
    obtain ⟨its, rv, p, hz⟩ := I1.list hq
    refine wpAny_pyIter_list p.isList ?_
    refine ⟨s1.heap.objs.size, [s1.heap.objs.size], _, _, H1, rfl, I1.kept (t' := s1.toks) fun b o e => Heap.get?_push_of_some _ e, turn_list a _, ⟨_, Heap.get?_push_size _ rfl, rfl, rfl⟩, fun b hb => ?_, q⟩
    have e : b = s1.heap.objs.size := by simpa using hb
    subst e
    exact I1.fpOk (Nat.le_refl _) (I1.hok.fresh (Nat.le_refl _))
  | false =>
    obtain ⟨its, rv, p, hz⟩ := I1.tuple hq
    refine wpAny_pyIter_tuple (show s1.heap.IsTuple a its.toArray from p) ?_
    refine ⟨s1.heap.objs.size, [s1.heap.objs.size], _, _, H1, rfl, I1.kept (t' := s1.toks) fun b o e => Heap.get?_push_of_some _ e, turn_tuple a _, ⟨_, Heap.get?_push_size _ rfl, rfl, rfl⟩, fun b hb => ?_, q⟩
    have e : b = s1.heap.objs.size := by simpa using hb
    subst e
    exact I1.fpOk (Nat.le_refl _) (I1.hok.fresh (Nat.le_refl _))
theorem walk_q {b : Bool} {a : Addr} {xs : List V} : Walk (Itq b K a) xs.length (fun H => Sq b K H a xs) (YAt xs) := by
  cases b with
  | true => exact walk_list
  | false => exact walk_tup
def cSeqOf (a : Dl → Rs Dv) : Dl → Rs (List Dv) := fun δ => bnd (a δ) fun x δ1 => opt (seqOf x) δ1
/-- a sequence that no one writes on -/
def Stay3 (T : List (Addr × Str)) (K : PySem.W.Frag) (M W : Ads) (H : Hp) (b : Bool) (a : Addr) (xs : List V) : Prop := ∀ (S : Ads) (H1 : Hp), (∀ a, S a → W a ∨ H a = none) → Kp3 T S H H1 → Sq b K H1 a xs
theorem stay_v {M W : Ads} {H : Hp} {d : Dv} {ds : List Dv} {v : V} (wm : ∀ a, W a → M a) (h : rep K ct M H d v) (e : seqOf d = some ds) : ∃ b a xs, v = .ref a ∧ Stay3 (Ct.tabs ct) K M W H b a xs ∧ reps K ct M H ds xs := by
  cases d with
  | lst es =>
    cases e
    obtain ⟨a, xs, rfl, s, r⟩ := rep_lst.mp h
    refine ⟨true, a, xs, rfl, fun S H1 hs k => ?_, r⟩
    rcases s with ⟨n, s⟩ | s
    · exact .inl (k.rd s (fun z => (hs a z).elim (fun y => n (wm a y)) fun y => Rd.live s y) fun _ z => by cases z)
    · exact .inr s
  | tup es =>
    cases e
    obtain ⟨a, xs, rfl, s, r⟩ := rep_tup.mp h
    refine ⟨false, a, xs, rfl, fun S H1 hs k => ?_, r⟩
    rcases s with ⟨n, s⟩ | s
    · exact .inl (k.rd s (fun z => (hs a z).elim (fun y => n (wm a y)) fun y => Rd.live s y) fun _ z => by cases z)
    · exact .inr s
  | non => cases e
  | bl b => cases e
  | int i => cases e
  | str x => cases e
  | obj c ns ds => cases e
theorem walkD_at {M W : Ads} {H : Hp} {b : Bool} {a : Addr} {xs : List V} {ds : List Dv} (st : Stay3 (Ct.tabs ct) K M W H b a xs) (r : reps K ct M H ds xs) (wm : ∀ a, W a → M a) : WalkD K ct M W H (Itq b K a) ds := by
  refine ⟨fun H => Sq b K H a xs, YAt xs, by rw [← reps_len r]; exact walk_q, fun M1 S H1 hs k hm mt => ⟨st S H1 hs k, fun i x H2 d hd y => ?_⟩⟩
  obtain ⟨rfl, hx⟩ := y
  obtain ⟨v, h1, h2⟩ := reps_get (reps_step k (fun a z => (hs a z).imp (wm a) id) hm r) hd
  rw [hx] at h1
  cases h1
  exact ⟨Same.refl _, h2⟩
theorem di_seq {tg : Expr} (he : DX K ct ks E q .v X e t d) (hK : X.K = K := by rfl) : DI K ct ks E q X tg e (iAny K t) (cSeqOf d) := ⟨pi_any hK he.pe, fun M W H δ σ er => by
  refine Ev2.bind (he.ev M W H δ σ er) (fun _ h => h) (fun _ _ _ _ _ _ h => h) fun x δ1 u H1 k1 e1 r1 => ?_
  cases hx : seqOf x with
  | none => exact Ev2.stuck
  | some ds =>
    refine Ev2.ret fun Q p => ?_
    obtain ⟨b, a, xs, rfl, st, r⟩ := stay_v e1.wm r1.1 hx
    exact ⟨b, a, xs, rfl, st (fun _ => False) H1 (fun _ z => z.elim) (Kp3.refl _ _), p _ H1 (Kp3.refl _ _) e1 (walkD_at st r e1.wm)⟩⟩
/-- over a parameter's list that is only read -/
theorem di_b {tg : Expr} (i : Nat) (hk : ks i = .b) (he : PE X e (tVar i)) (hK : X.K = K := by rfl) : DI K ct ks E true X tg e (iAny K (tVar i)) (cSeqOf (cVar i)) := ⟨pi_any hK he, fun M W H δ σ er => by
  unfold cSeqOf
  cases hd : δ[i]? with
  | none =>
    unfold cVar
    rw [hd]
    exact Ev2.stuck
  | some o =>
    cases o with
    | none =>
      unfold cVar
      rw [hd]
      exact Ev2.stuck
    | some d =>
      rw [cVar_ok hd]
      show Ev2 K ct ks E _ _ M W H σ _ (opt (seqOf d) δ)
      cases hx : seqOf d with
      | none => exact Ev2.stuck
      | some ds =>
        refine Ev2.ret fun Q p => ?_
        obtain ⟨v, h1, h2⟩ := er.sl i d hd
        rw [hk] at h2
        have : ∃ b a xs, v = .ref a ∧ Stay3 (Ct.tabs ct) K M W H b a xs ∧ reps K ct M H ds xs := by
          rcases h2 with h2 | ⟨a, rfl, hw, ⟨es, xs, rfl, hr, hs⟩ | ⟨_, _, _, _, _, rfl, _⟩⟩
          · exact stay_v er.wm h2 hx
          · cases hx
            exact ⟨true, a, xs, rfl, fun S H1 hs k => .inl (k.rd hr (fun z => (hs a z).elim (er.bw a hw).1 fun y => Rd.live hr y) fun _ z => by cases z), hs⟩
          · cases hx
        obtain ⟨b, a, xs, rfl, st, r⟩ := this
        exact ⟨_, h1, b, a, xs, rfl, st (fun _ => False) H (fun _ z => z.elim) (Kp3.refl _ _), p _ H (Kp3.refl _ _) er (walkD_at st r er.wm)⟩⟩
/-! range -/
def rngD (lo : Int) (n : Nat) : List Dv := (List.range n).map fun (i : Nat) => Dv.int (lo + (i : Int))
theorem rngD_at {lo : Int} {n i : Nat} {d : Dv} (h : (rngD lo n)[i]? = some d) : i < n ∧ d = .int (lo + i) := by
  unfold rngD at h
  rw [List.getElem?_map] at h
  cases hi : (List.range n)[i]? with
  | none => rw [hi] at h; cases h
  | some j =>
    rw [hi] at h
    cases h
    have hl := (List.getElem?_eq_some_iff.mp hi).1
    rw [List.length_range] at hl
    rw [List.getElem?_range hl] at hi
    cases hi
    exact ⟨hl, rfl⟩
theorem walkD_range {M W : Ads} {H : Hp} {lo : Int} {n : Nat} : WalkD K ct M W H (Itr lo n) (rngD lo n) := by
  refine ⟨fun _ => True, YFn fun i => .int (lo + i), by unfold rngD; rw [List.length_map, List.length_range]; exact walk_range, fun M1 S H1 hs k hm mt => ⟨trivial, fun i x H2 d hd y => ?_⟩⟩
  obtain ⟨rfl, rfl⟩ := y
  obtain ⟨_, rfl⟩ := rngD_at hd
  exact ⟨Same.refl _, (rep_int (K := K) (ct := ct) (M := M1) (H := H2)).mpr rfl⟩
def bRng (i : Int) : Bool := decide (-(2 ^ 62) ≤ i) && decide (i < 2 ^ 62)
theorem bRng_ok {i : Int} (h : bRng i = true) : -(2 ^ 62) ≤ i ∧ i < 2 ^ 62 := by
  unfold bRng at h
  rw [Bool.and_eq_true, decide_eq_true_iff, decide_eq_true_iff] at h
  exact h
def fRng1 : List Dv → Option (List Dv)
  | [.int j] => if bRng j = true then some (rngD 0 j.toNat) else none
  | _ => none
def fRng2 : List Dv → Option (List Dv)
  | [.int i, .int j] => if bRng i = true ∧ bRng j = true then some (rngD i (j - i).toNat) else none
  | _ => none
def cIt (f : List Dv → Option (List Dv)) (as : Dl → Rs (List Dv)) : Dl → Rs (List Dv) := fun δ => bnd (as δ) fun xs δ1 => opt (f xs) δ1
theorem di_range1 {bb : Bool} {tg a : Expr} {ta : TA} {da : Dl → Rs (List Dv)} {p pos : Pos} (hg : Gl X "range") (hm : X.mg "range" = none) (ha : DA K ct ks E q bb X [a] ta da) (hs : starEach [a] X.env = [(false, eval a X.env)] := by rfl) : DI K ct ks E q X tg (.Call (.Name "range" p) [a] [] pos) (iRng1 ta) (cIt fRng1 da) :=
  ⟨pi_range1 hg hm ha.pe hs, fun M W H δ σ er => by
    refine Ev2.bind (ha.ev M W H δ σ er) (fun _ h => h) (fun _ _ _ _ _ _ h => h) fun xs δ1 us H1 k1 e1 r1 => ?_
    cases hx : fRng1 xs with
    | none => exact Ev2.stuck
    | some ds =>
      refine Ev2.ret fun Q p => ?_
      unfold fRng1 at hx
      split at hx
      · split at hx
        · rename_i hb
          cases hx
          obtain ⟨u, rfl, h1⟩ := repbs1 (rml_b r1)
          cases repb_int h1
          exact ⟨_, rfl, (bRng_ok hb).1, (bRng_ok hb).2, p _ H1 (Kp3.refl _ _) e1 walkD_range⟩
        · cases hx
      · cases hx⟩
theorem di_range2 {bb : Bool} {tg a b : Expr} {ta : TA} {da : Dl → Rs (List Dv)} {p pos : Pos} (hg : Gl X "range") (hm : X.mg "range" = none) (ha : DA K ct ks E q bb X [a, b] ta da) (hs : starEach [a, b] X.env = [(false, eval a X.env), (false, eval b X.env)] := by rfl) (hs2 : starEach [b] X.env = [(false, eval b X.env)] := by rfl) :
    DI K ct ks E q X tg (.Call (.Name "range" p) [a, b] [] pos) (iRng2 ta) (cIt fRng2 da) :=
  ⟨pi_range2 hg hm ha.pe hs hs2, fun M W H δ σ er => by
    refine Ev2.bind (ha.ev M W H δ σ er) (fun _ h => h) (fun _ _ _ _ _ _ h => h) fun xs δ1 us H1 k1 e1 r1 => ?_
    cases hx : fRng2 xs with
    | none => exact Ev2.stuck
    | some ds =>
      refine Ev2.ret fun Q p => ?_
      unfold fRng2 at hx
      split at hx
      · split at hx
        · rename_i hb
          cases hx
          obtain ⟨u, v, rfl, h1, h2⟩ := repbs2 (rml_b r1)
          cases repb_int h1
          cases repb_int h2
          exact ⟨_, _, rfl, ⟨(bRng_ok hb.1).1, (bRng_ok hb.1).2, (bRng_ok hb.2).1, (bRng_ok hb.2).2⟩, p _ H1 (Kp3.refl _ _) e1 walkD_range⟩
        · cases hx
      · cases hx⟩
end
end Dn

/-! Comprehensions. -/
namespace Dn
open PySem PySem.Spec PyProof.Rows L2 LamX Q
def wipeD (δ : Dl) : List Nat → Dl
  | [] => δ
  | v :: vs => (wipeD δ vs).set v none
/-- the comprehension's loop: the slots of its names are empty at each turn -/
def compL (g : Dv → Dl → Option Dl) (tt : Dl → Rs Bool) (el : Dl → Rs Dv) (vs : List Nat) : List Dv → Dl → List Dv → Rs (List Dv)
  | [], δ, acc => .ok acc δ
  | x :: xs, δ, acc => match g x δ with
    | none => .stuck
    | some δ1 => match tt δ1 with
      | .ok true δ2 => (match el δ2 with
        | .ok y δ3 => compL g tt el vs xs (wipeD δ3 vs) (acc ++ [y])
        | _ => .stuck)
      | .ok false δ2 => compL g tt el vs xs (wipeD δ2 vs) acc
      | _ => .stuck
def cComp (di : Dl → Rs (List Dv)) (g : Dv → Dl → Option Dl) (tt : Dl → Rs Bool) (el : Dl → Rs Dv) (vs : List Nat) : Dl → Rs Dv := fun δ => bnd (di δ) fun xs δ1 => if xs.length ≤ 1000000 then (match compL g tt el vs xs (wipeD δ1 vs) [] with
  | .ok ys δ2 => .ok (.lst ys) δ2
  | _ => .stuck) else .stuck
theorem wipe_get {σ : L2.St} {i : Nat} : ∀ {vs : List Nat}, i ∉ vs → (wipe σ vs)[i]? = σ[i]?
  | [], _ => rfl
  | v :: vs, h => by
    have h1 : v ≠ i := fun z => h (by rw [z]; exact List.mem_cons_self)
    have h2 : i ∉ vs := fun z => h (List.mem_cons_of_mem _ z)
    unfold wipe
    rw [List.getElem?_set_ne h1]
    exact wipe_get h2
theorem wipe_in {σ : L2.St} {i : Nat} : ∀ {vs : List Nat}, i ∈ vs → i < σ.length → (wipe σ vs)[i]? = some none
  | v :: vs, h, hl => by
    unfold wipe
    by_cases z : v = i
    · subst z
      rw [List.getElem?_set_self (by rw [wipe_length]; exact hl)]
    · rw [List.getElem?_set_ne z]
      exact wipe_in ((List.mem_cons.mp h).resolve_left (Ne.symm z)) hl
theorem wipeD_length (δ : Dl) : ∀ vs : List Nat, (wipeD δ vs).length = δ.length
  | [] => rfl
  | v :: vs => by unfold wipeD; rw [List.length_set, wipeD_length δ vs]
theorem wipeD_get {δ : Dl} {i : Nat} : ∀ {vs : List Nat}, i ∉ vs → (wipeD δ vs)[i]? = δ[i]?
  | [], _ => rfl
  | v :: vs, h => by
    have h1 : v ≠ i := fun z => h (by rw [z]; exact List.mem_cons_self)
    have h2 : i ∉ vs := fun z => h (List.mem_cons_of_mem _ z)
    unfold wipeD
    rw [List.getElem?_set_ne h1]
    exact wipeD_get h2
theorem wipeD_in {δ : Dl} {i : Nat} : ∀ {vs : List Nat}, i ∈ vs → i < δ.length → (wipeD δ vs)[i]? = some none
  | v :: vs, h, hl => by
    unfold wipeD
    by_cases z : v = i
    · subst z
      rw [List.getElem?_set_self (by rw [wipeD_length]; exact hl)]
    · rw [List.getElem?_set_ne z]
      exact wipeD_in ((List.mem_cons.mp h).resolve_left (Ne.symm z)) hl
theorem wipeD_some {δ : Dl} {vs : List Nat} {i : Nat} {d : Dv} (h : (wipeD δ vs)[i]? = some (some d)) : i ∉ vs ∧ δ[i]? = some (some d) := by
  by_cases hi : i ∈ vs
  · have hl : i < δ.length := by
      have := (List.getElem?_eq_some_iff.mp h).1
      rwa [wipeD_length] at this
    rw [wipeD_in hi hl] at h
    cases h
  · rw [wipeD_get hi] at h
    exact ⟨hi, h⟩
section
variable {K : PySem.W.Frag} {ct : Ct} {ks : Ky} {M W : Ads} {H : Hp} {δ : Dl} {σ σ' : L2.St} {vs : List Nat}
/-- the slots that δ tells are all that matters of σ -/
theorem ER.slots (e : ER K ct ks M W H δ σ) (hl : σ'.length = σ.length) (h : ∀ (i : Nat) (d : Dv), δ[i]? = some (some d) → σ'[i]? = σ[i]?) : ER K ct ks M W H δ σ' :=
  ⟨hl.trans e.len, fun i d hd => by
    obtain ⟨v, h1, h2⟩ := e.sl i d hd
    exact ⟨v, (h i d hd).trans h1, h2⟩, fun i j a di dj hne oi oj hi hj si sj => e.dis i j a di dj hne oi oj hi hj ((h i di hi).symm.trans si) ((h j dj hj).symm.trans sj), e.wm, e.mt, e.wl, fun i a d hk hd hs => e.oc i a d hk hd ((h i d hd).symm.trans hs), e.pw, e.bw, e.tb⟩
theorem ER.wipe (e : ER K ct ks M W H δ σ) : ER K ct ks M W H (wipeD δ vs) σ :=
  ⟨by rw [wipeD_length]; exact e.len, fun i d hd => e.sl i d (wipeD_some hd).2, fun i j a di dj hne oi oj hi hj si sj => e.dis i j a di dj hne oi oj (wipeD_some hi).2 (wipeD_some hj).2 si sj, e.wm, e.mt, e.wl, fun i a d hk hd hs => e.oc i a d hk (wipeD_some hd).2 hs, e.pw, e.bw, e.tb⟩
/-- a write to a list that is no slot's -/
theorem ER.put {D : Addr} {xs ys : List V} (e : ER K ct ks M W H δ σ) (hD : H D = some (.lst xs)) (mD : M D) (nW : ¬ W D) (nB : ¬ ks.be D) : ER K ct ks M W (upd H D (.lst ys)) δ σ ∧ Kp3 (Ct.tabs ct) (fun b => b = D) H (upd H D (.lst ys)) := by
  have kp : Kp3 (Ct.tabs ct) (fun b => b = D) H (upd H D (.lst ys)) := mutO_tab (by rw [hD]; exact True.intro)
  have nWb : ∀ b, W b → b ≠ D := fun b h z => nW (by rw [← z]; exact h)
  refine ⟨⟨e.len, fun i d hd => ?_, e.dis, e.wm, fun b hb => kp.live b (e.mt b hb), fun b hb => ?_, e.oc, e.pw, fun b hb => ⟨(e.bw b hb).1, kp.live b (e.bw b hb).2⟩, Tabs.kp e.tb kp⟩, kp⟩
  · obtain ⟨v, h1, h2⟩ := e.sl i d hd
    refine ⟨v, h1, slr_step kp (fun b z => by rw [show b = D from z]; exact .inl mD) (fun _ z => .inl z) (fun _ z => z) (fun b hb (z : b = D) => nB (by rw [← z]; exact hb)) (fun ok a ha z => ?_) h2⟩
    obtain ⟨a', e1, hw, _⟩ := slr_own ok h2
    rw [ha] at e1
    cases e1
    exact nWb _ hw z
  · rw [upd_ne (nWb b hb)]
    exact e.wl b hb
/-- the smaller set to write on -/
theorem ER.less {D : Addr} (e : ER K ct ks M W H δ σ) (e' : ER K ct ks (plus M D) (plus W D) H δ σ) : ER K ct ks (plus M D) W H δ σ :=
  ⟨e.len, fun i d hd => by
    obtain ⟨v, h1, h2⟩ := e.sl i d hd
    obtain ⟨v', g1, g2⟩ := e'.sl i d hd
    rw [h1] at g1
    cases g1
    refine ⟨v, h1, ?_⟩
    revert h2 g2
    cases ks i with
    | v => exact fun _ g2 => g2
    | b => exact fun _ g2 => g2
    | o =>
      rintro ⟨a, f2, f3, f4⟩ ⟨a', g2, g3, g4⟩
      subst f2
      cases g2
      exact ⟨a, rfl, f3, g4⟩
    | p =>
      rintro ⟨a, f2, f3, f4⟩ ⟨a', g2, g3, g4⟩
      subst f2
      cases g2
      exact ⟨a, rfl, f3, g4⟩, e.dis, fun b hb => .inl (e.wm b hb), e'.mt, e.wl, e.oc, e.pw, e.bw, e.tb⟩
end
def cTrue : Dl → Rs Bool := fun δ => .ok true δ
section
variable (K : PySem.W.Frag) (ct : Ct) (ks : Ky) (E : EX)
structure DTs (q : Bool) (X : Cx) (ifs : List Expr) (t : TT) (d : Dl → Rs Bool) : Prop where
  pe : PTs X ifs t
  ev : DGs K ct ks E (fun _ _ _ _ b c => b = c) q t d
end
section
variable {K : PySem.W.Frag} {ct : Ct} {ks : Ky} {E : EX} {X : Cx} {q q1 q2 q3 : Bool} {pos : Pos}
theorem dts_nil : DTs K ct ks E true X [] tYes cTrue := ⟨pts_nil, fun M W H δ σ er => Ev2.ret fun Q p => p true H (Kp3.refl _ _) er rfl⟩
theorem dts_one {c : Expr} {t : TT} {d : Dl → Rs Bool} (h : DT K ct ks E q X c t d) : DTs K ct ks E q X [c] t d := ⟨pts_one h.pe, h.ev⟩
theorem wipe_eq {σ σ' : L2.St} {vs : List Nat} (hl : σ'.length = σ.length) (h : ∀ i, i ∉ vs → σ'[i]? = σ[i]?) : wipe σ' vs = wipe σ vs := by
  refine List.ext_getElem? fun i => ?_
  by_cases hi : i ∈ vs
  · by_cases hz : i < σ.length
    · rw [wipe_in hi hz, wipe_in hi (by rw [hl]; exact hz)]
    · rw [List.getElem?_eq_none (by rw [wipe_length]; omega), List.getElem?_eq_none (by rw [wipe_length]; omega)]
  · rw [wipe_get hi, wipe_get hi]
    exact h i hi
theorem ER.more {M W : Ads} {H : Hp} {δ : Dl} {σ : L2.St} {D : Addr} {zs : List V} (e : ER K ct ks (plus M D) W H δ σ) (hD : H D = some (.lst zs)) (nB : ¬ ks.be D) : ER K ct ks (plus M D) (plus W D) H δ σ :=
  ⟨e.len, fun i d hd => by
    obtain ⟨v, h1, h2⟩ := e.sl i d hd
    exact ⟨v, h1, slr_step (S := fun _ => False) (Kp3.refl _ _) (fun _ z => z.elim) (fun _ z => .inl z) (fun _ z => .inl z) (fun _ _ z => z) (fun _ _ _ z => z) h2⟩, e.dis, fun b hb => hb.elim (e.wm b) .inr, e.mt, fun b hb => by
    rcases hb with hb | rfl
    · exact e.wl b hb
    · rw [hD]
      exact True.intro, e.oc, fun b hb => .inl (e.pw b hb), fun b hb => ⟨fun z => z.elim (e.bw b hb).1 fun y => nB (y ▸ hb), (e.bw b hb).2⟩, e.tb⟩
theorem ER.lessM {M W : Ads} {H : Hp} {δ : Dl} {σ : L2.St} {D : Addr} (e : ER K ct ks (plus M D) W H δ σ) (wm : ∀ a, W a → M a) : ER K ct ks M W H δ σ :=
  ⟨e.len, fun i d hd => by
    obtain ⟨v, h1, h2⟩ := e.sl i d hd
    exact ⟨v, h1, slr_step (S := fun _ => False) (Kp3.refl _ _) (fun _ z => z.elim) plus_less (fun _ z => z) (fun _ _ z => z) (fun _ _ _ z => z) h2⟩, e.dis, wm, fun b hb => e.mt b (.inl hb), e.wl, e.oc, e.pw, e.bw, e.tb⟩
theorem Kp3.byD {W : Ads} {H1 H4 H5 : Hp} {D : Addr} (k : Kp3 (Ct.tabs ct) W H1 H4) (u : Kp3 (Ct.tabs ct) (fun b => b = D) H4 H5) (hD : H1 D = none) : Kp3 (Ct.tabs ct) W H1 H5 :=
  ⟨fun a o h n t => u.keep a o (k.keep a o h n t) (fun z => by rw [show a = D from z, hD] at h; cases h) t, fun a h => u.live a (k.live a h), fun h => u.tabs (k.tabs h)⟩
theorem million : 1000000 < sizeLine := by decide
/-- the loop of a comprehension, over any walk -/
theorem comp_run {M W : Ads} {H1 : Hp} {δ1 : Dl} {σ : L2.St} {J : It} {xs : List Dv} {g : TG} {vs : List Nat} {gd : Dv → Dl → Option Dl} {tt : TT} {dt : Dl → Rs Bool} {te : TE} {de : Dl → Rs Dv} {Qd : Addr → Hp → Prop} {ys : List Dv} {δ2 : Dl}
    (e1 : ER K ct ks M W H1 δ1 σ) (w : WalkD K ct M W H1 J xs) (hl : xs.length ≤ 1000000)
    (hg : ∀ (M W : Ads) (H : Hp) (δ : Dl) (σ : L2.St) (x : V) (d : Dv) (δ' : Dl), ER K ct ks M W H δ σ → rep K ct M H d x → gd d δ = some δ' → ∀ Q : L2.St → Hp → Prop, (∀ σ', ER K ct ks M W H δ' σ' → σ'.length = σ.length → (∀ i, i ∉ vs → σ'[i]? = σ[i]?) → Q σ' H) → g x σ H Q)
    (ht : DGs K ct ks E0 (fun _ _ _ _ b c => b = c) q1 tt dt) (he : DGs K ct ks E0 (rmE K ct .v) q2 te de)
    (hr : compL gd dt de vs xs (wipeD δ1 vs) [] = .ok ys δ2) (D : Addr) (hD : H1 D = none)
    (p : ∀ H' zs, Kp3 (Ct.tabs ct) W H1 H' → ER K ct ks M W H' δ2 σ → ER K ct ks (plus M D) (plus W D) H' δ2 σ → H' D = some (.lst zs) → reps K ct (plus M D) H' ys zs → Qd D H') :
    ∃ W : Nat → Nat → Hp → Prop, (∃ m, W 0 m (upd H1 D (.lst []))) ∧ ∀ i m H, W i m H →
      (J.stop i H ∧ Qd D H) ∨ (J.go i H ∧ ∃ Nx : Hp → Prop, (∀ H', Nx H' → ∃ m', m' < m ∧ W (i + 1) m' H') ∧ ∀ x H', J.yld i H x H' → g x (wipe σ vs) H' fun σ2 H2 => wipe σ2 vs = wipe σ vs ∧ tt σ2 H2 fun b H3 =>
        if b = true then te σ2 H3 fun y H4 => ∃ acc, H4 D = some (.lst acc) ∧ acc.length < sizeLine ∧ Nx (upd H4 D (.lst (acc ++ [y]))) else Nx H3) := by
  obtain ⟨G, Y, hw, hst⟩ := w
  have nM : ¬ M D := fun z => e1.mt D z hD
  have nW : ¬ W D := fun z => nM (e1.wm D z)
  have nB : ¬ ks.be D := fun z => (e1.bw D z).2 hD
  have sm : Same H1 (upd H1 D (.lst [])) := Same.new hD
  have eF : ER K ct ks (plus M D) (plus W D) (upd H1 D (.lst [])) δ1 σ := e1.fresh hD sm upd_same
  have eL : ER K ct ks (plus M D) W (upd H1 D (.lst [])) δ1 σ := (e1.q (Kp3.same sm)).less eF
  have wmD : ∀ a, W a → plus M D a := fun a z => .inl (e1.wm a z)
  refine lc_it hw (fun i Hi => ∃ δi acc zs, ER K ct ks (plus M D) W Hi (wipeD δi vs) (wipe σ vs) ∧ Hi D = some (.lst zs) ∧ reps K ct (plus M D) Hi acc zs ∧ Kp3 (Ct.tabs ct) W H1 Hi ∧ zs.length ≤ i ∧ compL gd dt de vs (xs.drop i) (wipeD δi vs) acc = .ok ys δ2) ?_ ?_ ?_ ?_
  · exact ⟨δ1, [], [], eL.wipe.slots (wipe_length _ _) fun i d h => wipe_get (wipeD_some h).1, upd_same, reps_nil, Kp3.same sm, Nat.zero_le _, hr⟩
  · rintro i Hi _ ⟨δi, acc, zs, er, hz, ha, kp, hlen, hc⟩
    exact (hst (plus M D) (plus W D) Hi (fun a z => z.imp id fun e => by rw [e]; exact hD) (kp.mono fun _ z => .inl z) (plus_ok hD) er.mt).1
  · rintro i x Hi H' hi ⟨δi, acc, zs, er, hz, ha, kp, hlen, hc⟩ y
    have hx : xs[i]? = some xs[i] := List.getElem?_eq_getElem hi
    obtain ⟨sm', hr'⟩ := (hst (plus M D) (plus W D) Hi (fun a z => z.imp id fun e => by rw [e]; exact hD) (kp.mono fun _ z => .inl z) (plus_ok hD) er.mt).2 i x H' xs[i] hx y
    rw [List.drop_eq_getElem_cons hi] at hc
    unfold compL at hc
    cases hgd : gd xs[i] (wipeD δi vs) with
    | none => rw [hgd] at hc; cases hc
    | some δ3 =>
      rw [hgd] at hc
      have hc1 : (match dt δ3 with
        | .ok true δ2 => (match de δ2 with
          | .ok y δ3 => compL gd dt de vs (xs.drop (i + 1)) (wipeD δ3 vs) (acc ++ [y])
          | _ => .stuck)
        | .ok false δ2 => compL gd dt de vs (xs.drop (i + 1)) (wipeD δ2 vs) acc
        | _ => .stuck) = Rs.ok ys δ2 := hc
      have eH' := er.q (Kp3.same sm')
      refine hg (plus M D) W H' (wipeD δi vs) (wipe σ vs) x xs[i] δ3 eH' hr' hgd _ fun σ2 e2 l2 k2 => ⟨wipe_eq (l2.trans (wipe_length _ _)) fun j hj => (k2 j hj).trans (wipe_get hj), ?_⟩
      have back : ∀ {H5 : Hp} {δ5 : Dl}, ER K ct ks (plus M D) W H5 δ5 σ2 → ER K ct ks (plus M D) W H5 (wipeD δ5 vs) (wipe σ vs) := fun {H5 δ5} e => e.wipe.slots l2.symm fun j d h => (k2 j (wipeD_some h).1).symm
      refine ht (plus M D) W H' δ3 σ2 e2 _ ?_
      cases hdt : dt δ3 with
      | stuck => rw [hdt] at hc1; cases hc1
      | exc c ns dd δ4 => rw [hdt] at hc1; cases hc1
      | ok b δ4 =>
        rw [hdt] at hc1
        intro c H3 k3 e3 r3
        cases r3
        have kp3 : Kp3 (Ct.tabs ct) W H1 H3 := kp.trans ((Kp3.same sm').trans (k3.mono fun _ z => z.2))
        have hz3 : H3 D = some (.lst zs) := k3.keep _ _ (sm' _ _ hz) (fun z => nW z.2) fun _ z => by cases z
        have ha3 : reps K ct (plus M D) H3 acc zs := reps_kp k3 (fun a z => wmD a z.2) (reps_same sm' ha)
        cases b with
        | false => exact iteF ⟨δ4, acc, zs, back e3, hz3, ha3, kp3, Nat.le_succ_of_le hlen, hc1⟩
        | true =>
          refine iteT ?_
          have hc2 : (match de δ4 with
            | .ok y δ3 => compL gd dt de vs (xs.drop (i + 1)) (wipeD δ3 vs) (acc ++ [y])
            | _ => .stuck) = Rs.ok ys δ2 := hc1
          refine he (plus M D) W H3 δ4 σ2 e3 _ ?_
          cases hde : de δ4 with
          | stuck => rw [hde] at hc2; cases hc2
          | exc c ns dd δ5 => rw [hde] at hc2; cases hc2
          | ok yd δ5 =>
            rw [hde] at hc2
            intro yv H4 k4 e4 r4
            have hz4 : H4 D = some (.lst zs) := k4.keep _ _ hz3 (fun z => nW z.2) fun _ z => by cases z
            have ha4 : reps K ct (plus M D) H4 acc zs := reps_kp k4 (fun a z => wmD a z.2) ha3
            obtain ⟨e5, k5⟩ := e4.put (ys := zs ++ [yv]) hz4 (.inr rfl) nW nB
            have mA : ∀ b, (fun b => b = D) b → plus M D b := fun b z => .inr z
            refine ⟨zs, hz4, Nat.lt_of_le_of_lt (Nat.le_trans hlen (Nat.le_trans (Nat.le_of_lt hi) hl)) million, δ5, acc ++ [yd], zs ++ [yv], back e5, upd_same, reps_kp k5 mA (reps_app ha4 (reps_cons r4.1 reps_nil)), (kp3.trans (k4.mono fun _ z => z.2)).byD k5 hD, ?_, hc2⟩
            rw [List.length_append]
            exact Nat.succ_le_succ hlen
  · rintro Hi ⟨δi, acc, zs, er, hz, ha, kp, hlen, hc⟩
    rw [List.drop_length] at hc
    have hc1 : (Rs.ok acc (wipeD δi vs) : Rs (List Dv)) = .ok ys δ2 := hc
    cases hc1
    have eo := er.slots (σ' := σ) (wipe_length _ _).symm fun i d h => (wipe_get (wipeD_some h).1).symm
    exact p Hi zs kp (eo.lessM e1.wm) (eo.more hz nB) hz ha
theorem dx_comp {elt tg iter : Expr} {ifs : List Expr} {scope : Scope} {own : List (Str × Nat)} {wi : TI} {di : Dl → Rs (List Dv)} {g : TG} {gd : Dv → Dl → Option Dl} {tt : TT} {dt : Dl → Rs Bool} {te : TE} {de : Dl → Rs Dv} (hc : X.calm = true) (hN : X.N.Nodup) (hi : DI K ct ks E q X tg iter wi di) (ok : BlkOk X.N X.env.scope scope own)
    (hg : ∀ (s : Shared) (H : Hp) (C : Addr) (cl : List (Str × Addr)) (fp : List Addr), DG K ct ks (X.blk s H scope (compEnvC scope cl C X.env) fp) tg g (own.map (·.2)) gd) (ht : ∀ (s : Shared) (H : Hp) (C : Addr) (cl : List (Str × Addr)) (fp : List Addr), DTs K ct ks E0 q1 (X.blk s H scope (compEnvC scope cl C X.env) fp) ifs tt dt)
    (he : ∀ (s : Shared) (H : Hp) (C : Addr) (cl : List (Str × Addr)) (fp : List Addr), DX K ct ks E0 q2 .v (X.blk s H scope (compEnvC scope cl C X.env) fp) elt te de) (hs : ∀ x, foldedSetIterable iter X.env x = pure x := by intro _; rfl) (s0 : Shared) (H0 : Hp) :
    DX K ct ks E false .f X (.ListComp elt [⟨tg, iter, ifs, 0⟩] scope pos) (tLc wi g tt te (own.map (·.2))) (cComp di gd dt de (own.map (·.2))) :=
  ⟨pe_lc hc hN hi.pi ok (fun s H C cl fp => (hg s H C cl fp).pg) (fun s H C cl fp => (ht s H C cl fp).pe) (fun s H C cl fp => (he s H C cl fp).pe) hs, fun M W H δ σ er => by
    refine Ev2.bind ((hi.ev M W H δ σ er).weak fun z hz => ⟨rfl, hz.2⟩) (fun _ h => h) (fun _ _ _ _ _ k h => re_anti k h) fun xs δ1 J H1 k1 e1 w => ?_
    by_cases hl : xs.length ≤ 1000000
    · rw [if_pos hl]
      cases hr : compL gd dt de (own.map (·.2)) xs (wipeD δ1 (own.map (·.2))) [] with
      | stuck => exact Ev2.stuck
      | exc c ns dd δ2 => exact Ev2.stuck
      | ok ys δ2 =>
        intro Q p
        have p' : Pst K ct ks E (rmE K ct .f) (Wq false W) M W H1 σ Q (.ok (.lst ys) δ2) := p
        exact fun D hD => comp_run (Qd := fun D H => Q (.ref D) H) e1 w hl (hg s0 H0 0 [] []).ev (ht s0 H0 0 [] []).ev (he s0 H0 0 [] []).ev hr D hD fun H' zs k' e0 e' hz hz2 =>
          p' (.ref D) H' (k'.mono fun _ z => Wq.f z) e0 ⟨⟨ys, D, zs, rfl, rfl, hD, hz, hz2⟩, fun _ => ⟨D, rfl, e'⟩⟩
    · rw [if_neg hl]
      exact Ev2.stuck⟩
end
end Dn

/-! A def's promise, by its body's function; its calls. -/
namespace Dn
open PySem PySem.Spec PyProof.Rows L2 LamX Q
def Pcs (kds : List Kd) (vs : List V) : Ads := fun a => ∃ j : Nat, kds[j]? = some .p ∧ vs[j]? = some (.ref a)
section
variable (K : PySem.W.Frag) (ct : Ct)
def ArgR (S M : Ads) (H : Hp) : Kd → Dv → V → Prop
  | .v, d, v => rep K ct M H d v
  | .b, d, v => rep K ct M H d v ∨ ∃ a, v = .ref a ∧ ¬ S a ∧ brep K ct M H d a
  | .p, d, v => ∃ a, v = .ref a ∧ M a ∧ mrep K ct M H d a
  | .o, _, _ => False
def MutsR (M : Ads) (H' : Hp) (kds : List Kd) (vs : List V) (δc : Dl) : Prop := ∀ (j : Nat) (a : Addr), kds[j]? = some .p → vs[j]? = some (.ref a) → ∃ d, δc[j]? = some (some d) ∧ mrep K ct M H' d a
def ResM (mr : Md) (M : Ads) (x : V) : Ads := match mr with
  | .f => (match x with
    | .ref a => plus M a
    | _ => M)
  | _ => M
/-- a def's promise: by df -/
def spD (kds : List Kd) (mr : Md) (df : List Dv → Rs Dv) : Sp := fun vs H Q E => ∃ (M : Ads) (ds : List Dv), vs.length = kds.length ∧ ds.length = kds.length ∧ Tabs ct.tabs H ∧ (∀ a, M a → H a ≠ none) ∧
  (∀ (j : Nat) (k : Kd) (d : Dv) (v : V), kds[j]? = some k → ds[j]? = some d → vs[j]? = some v → ArgR K ct (Pcs kds vs) M H k d v) ∧
  (∀ (i j : Nat) (a : Addr), i ≠ j → kds[i]? = some .p → kds[j]? = some .p → vs[i]? = some (.ref a) → vs[j]? = some (.ref a) → False) ∧
  match df ds with
  | .ok r δc => ∀ x H', Kp3 (Ct.tabs ct) (Pcs kds vs) H H' → MutsR K ct (ResM mr M x) H' kds vs δc → rm K ct mr M H H' r x → Q x H'
  | .exc c ns fs δc => ∀ xd H', Kp3 (Ct.tabs ct) (Pcs kds vs) H H' → MutsR K ct M H' kds vs δc → ExR K ct M H' ns fs xd → E (.ref (ct c)) xd H'
  | .stuck => False
end
def isSm : Option (Option Dv) → Bool
  | some (some _) => true
  | _ => false
/-- the written parameters still have their lists -/
def pOk (kds : List Kd) (δ : Dl) : Bool := (List.range kds.length).all fun j => match kds[j]? with
  | some .p => isSm δ[j]?
  | _ => true
def runD (kds : List Kd) (mr : Md) (n : Nat) (body : Dl → Fl) : List Dv → Rs Dv := fun ds => match body (ds.map some ++ List.replicate n none) with
  | .nx δ => if pOk kds δ = true ∧ mr = .v then .ok .non δ else .stuck
  | .ret v δ => if pOk kds δ = true then .ok v δ else .stuck
  | .exc c ns fs δ => if pOk kds δ = true then .exc c ns fs δ else .stuck
  | _ => .stuck
theorem pOk_at {kds : List Kd} {δ : Dl} (h : pOk kds δ = true) {j : Nat} (hj : kds[j]? = some .p) : ∃ d, δ[j]? = some (some d) := by
  unfold pOk at h
  have hl := (List.getElem?_eq_some_iff.mp hj).1
  have := List.all_eq_true.mp h j (List.mem_range.mpr hl)
  rw [hj] at this
  have h2 : isSm δ[j]? = true := this
  unfold isSm at h2
  split at h2
  · rename_i d hd
    exact ⟨d, hd⟩
  · cases h2
section
variable {P : Program} {w : World} {K : PySem.W.Frag} {mg : Str → Option Value} {base : Heap} {ct : Ct}
theorem mrep_more {M M2 : Ads} {H : Hp} {d : Dv} {a : Addr} (h : ∀ b, M2 b → M b) (r : mrep K ct M H d a) : mrep K ct M2 H d a := mrep_step (S := fun _ => False) (Kp3.refl _ _) (fun _ z => z.elim) (fun b z => .inl (h b z)) (fun z => z) r
theorem start_get {N : List Str} {vs : List V} {i : Nat} {v : V} (h : vs[i]? = some v) : (L2.start N vs)[i]? = some (some v) := by
  unfold L2.start
  rw [List.getElem?_append_left (by rw [List.length_map]; exact (List.getElem?_eq_some_iff.mp h).1), List.getElem?_map, h]
  rfl
theorem map_pad {ds : List Dv} {n i : Nat} {d : Dv} (h : (ds.map some ++ List.replicate n none)[i]? = some (some d)) : ds[i]? = some d := by
  by_cases hl : i < ds.length
  · rw [List.getElem?_append_left (by rw [List.length_map]; exact hl), List.getElem?_map] at h
    cases hd : ds[i]? with
    | none => rw [hd] at h; cases h
    | some e =>
      rw [hd] at h
      cases h
      rfl
  · rw [List.getElem?_append_right (by rw [List.length_map]; omega), List.getElem?_replicate] at h
    split at h <;> cases h
/-- THE RULE for a def -/
theorem fnD {x qual : Str} {st : Stmt} {f : Addr} {fd : FuncData} {N ps : List Str} {k n : Nat} {kds : List Kd} {kall : Nat → Kd} {mr : Md} {body : Dl → Fl} (F : Fun K x qual st f fd) (S : FnScope N ps (defScope st))
    (hl : kds.length = ps.length) (hn : N.length = ps.length + n) (hk : ∀ (j : Nat) (kd : Kd), kds[j]? = some kd → kall j = kd ∧ kd ≠ .o) (hm : mr ≠ .b)
    (hb : ∀ (cdv : Value) (A : Around) (outer : List Env) (s : Shared) (H : Hp) (E : XK) (pc be : Ads), Room k (A.deeper (envOfC qual (defScope st) s.heap.objs.size f cdv)) →
      ∃ t, DSS K ct ⟨kall, pc, be⟩ E mr (cxOf (L2.CX P w) P w K mg base N qual (defScope st) f cdv A outer s H E) (defBody st) t body) :
    FnOk P w K mg base (L2.CX P w) (k + 1) f fd ps (spD K ct kds mr (runD kds mr n body)) := by
  refine F.okX S (fun vs H Q E h => ?_) (fun cdv A outer s H vs Q E hr h => ?_)
  · obtain ⟨M, ds, h1, _⟩ := h
    exact h1.trans hl
  · obtain ⟨M, ds, h1, h2, tbs, mt, ha, hd, hq⟩ := h
    have dis : ∀ (i j : Nat) (a : Addr), i ≠ j → kds[i]? = some .p → kds[j]? = some .p → vs[i]? = some (.ref a) → vs[j]? = some (.ref a) → False := hd
    obtain ⟨t, hB⟩ := hb cdv A outer s H E (Pcs kds vs) (fun a => ¬ Pcs kds vs a ∧ ∃ d, brep K ct M H d a) hr
    refine ⟨t, hB.ps, ?_⟩
    have kat : ∀ {i : Nat} {d : Dv}, (ds.map some ++ List.replicate n none)[i]? = some (some d) → ∃ kd v, kds[i]? = some kd ∧ ds[i]? = some d ∧ vs[i]? = some v ∧ kall i = kd ∧ (L2.start N vs)[i]? = some (some v) := fun {i d} hi => by
      have h3 := map_pad hi
      have l3 := (List.getElem?_eq_some_iff.mp h3).1
      have hk1 : kds[i]? = some kds[i] := List.getElem?_eq_getElem (by omega)
      have hv1 : vs[i]? = some vs[i] := List.getElem?_eq_getElem (by omega)
      exact ⟨_, _, hk1, h3, hv1, (hk i _ hk1).1, start_get hv1⟩
    have pin : ∀ {j : Nat} {a : Addr}, kds[j]? = some .p → vs[j]? = some (.ref a) → ∃ d, ds[j]? = some d ∧ M a ∧ mrep K ct M H d a := fun {j a} hj hv => by
      have l3 := (List.getElem?_eq_some_iff.mp hj).1
      have hd1 : ds[j]? = some ds[j] := List.getElem?_eq_getElem (by omega)
      obtain ⟨b, e, hM, hm⟩ := ha j .p _ _ hj hd1 hv
      cases e
      exact ⟨_, hd1, hM, hm⟩
    have er : ER K ct ⟨kall, Pcs kds vs, fun a => ¬ Pcs kds vs a ∧ ∃ d, brep K ct M H d a⟩ M (Pcs kds vs) H (ds.map some ++ List.replicate n none) (L2.start N vs) := by
      refine ⟨?_, fun i d hi => ?_, fun i j a di dj hne oi oj hi hj si sj => ?_, fun a hp => ?_, mt, fun a hp => ?_, fun i a d ho hi si => ?_, fun _ z => z, fun a hb => ⟨hb.1, brep_live hb.2.choose_spec⟩, tbs⟩
      · unfold L2.start
        rw [List.length_append, List.length_append, List.length_map, List.length_map, List.length_replicate, List.length_replicate]
        omega
      · obtain ⟨kd, v, g1, g2, g3, g4, g5⟩ := kat hi
        refine ⟨v, g5, ?_⟩
        have r := ha i kd d v g1 g2 g3
        show slr K ct _ M _ H (kall i) d v
        rw [g4]
        cases kd with
        | v => exact r
        | b => exact r.imp id fun ⟨a, e1, e2, e3⟩ => ⟨a, e1, ⟨e2, d, e3⟩, e3⟩
        | o => exact r.elim
        | p =>
          obtain ⟨a, e1, e2, e3⟩ := r
          subst e1
          exact ⟨a, rfl, ⟨i, g1, g3⟩, e3⟩
      · obtain ⟨kd, v, g1, g2, g3, g4, g5⟩ := kat hi
        obtain ⟨kd', v', f1, f2, f3, f4, f5⟩ := kat hj
        have oi' : (kall i).own = true := oi
        have oj' : (kall j).own = true := oj
        rw [g4] at oi'
        rw [f4] at oj'
        rw [g5] at si
        rw [f5] at sj
        cases si
        cases sj
        have z1 : kd = .p := by
          cases kd with
          | v => cases oi'
          | b => cases oi'
          | o => exact absurd rfl (hk i _ g1).2
          | p => rfl
        have z2 : kd' = .p := by
          cases kd' with
          | v => cases oj'
          | b => cases oj'
          | o => exact absurd rfl (hk j _ f1).2
          | p => rfl
        subst z1 z2
        exact dis i j a hne g1 f1 g3 f3
      · obtain ⟨j, hj, hv⟩ := hp
        exact (pin hj hv).choose_spec.2.1
      · obtain ⟨j, hj, hv⟩ := hp
        exact mrep_mut (pin hj hv).choose_spec.2.2
      · obtain ⟨kd, v, g1, g2, g3, g4, g5⟩ := kat hi
        have ho' : kall i = .o := ho
        rw [g4] at ho'
        exact absurd ho' (hk i _ g1).2
    refine hB.ev M (Pcs kds vs) H _ _ er _ ?_
    -- the ends
    have muts : ∀ {M' W' : Ads} {H' : Hp} {σ' : L2.St} {δ' : Dl} {M2 : Ads}, Mv3 (Ct.tabs ct) ⟨kall, Pcs kds vs, fun a => ¬ Pcs kds vs a ∧ ∃ d, brep K ct M H d a⟩ M (Pcs kds vs) H (L2.start N vs) M' W' H' σ' → ER K ct ⟨kall, Pcs kds vs, fun a => ¬ Pcs kds vs a ∧ ∃ d, brep K ct M H d a⟩ M' W' H' δ' σ' → pOk kds δ' = true → (∀ b, M2 b → M' b) → MutsR K ct M2 H' kds vs δ' :=
      fun {M' W' H' σ' δ' M2} v e hp hM j a hj hv => by
      obtain ⟨d, hd⟩ := pOk_at hp hj
      obtain ⟨u, s1, s2⟩ := e.sl j d hd
      have kj : kall j = .p := (hk j _ hj).1
      have s1' : (L2.start N vs)[j]? = some (some u) := (v.pp j kj).symm.trans s1
      rw [start_get hv] at s1'
      cases s1'
      have s3 : slr K ct _ M' W' H' (kall j) d (.ref a) := s2
      rw [kj] at s3
      obtain ⟨b, eb, _, hm⟩ := s3
      cases eb
      exact ⟨d, hd, mrep_more hM hm⟩
    have hq2 := hq
    unfold runD at hq2
    cases hbd : body (ds.map some ++ List.replicate n none) with
    | nx δ' =>
      rw [hbd] at hq2
      by_cases hp : pOk kds δ' = true ∧ mr = .v
      · have hq3 : (match (if pOk kds δ' = true ∧ mr = .v then Rs.ok Dv.non δ' else .stuck : Rs Dv) with
          | .ok r δc => ∀ x H', Kp3 (Ct.tabs ct) (Pcs kds vs) H H' → MutsR K ct (ResM mr M x) H' kds vs δc → rm K ct mr M H H' r x → Q x H'
          | .exc c ns fs δc => ∀ xd H', Kp3 (Ct.tabs ct) (Pcs kds vs) H H' → MutsR K ct M H' kds vs δc → ExR K ct M H' ns fs xd → E (.ref (ct c)) xd H'
          | .stuck => False) := hq2
        rw [if_pos hp] at hq3
        intro M' W' H' σ' v e
        obtain ⟨hp1, hp2⟩ := hp
        subst hp2
        exact hq3 .non H' v.kp (muts v e hp1 v.m1) (rm_non (K := K) (ct := ct) (M := M) (H := H) (H' := H'))
      · have hq3 : (match (if pOk kds δ' = true ∧ mr = .v then Rs.ok Dv.non δ' else .stuck : Rs Dv) with
          | .ok r δc => ∀ x H', Kp3 (Ct.tabs ct) (Pcs kds vs) H H' → MutsR K ct (ResM mr M x) H' kds vs δc → rm K ct mr M H H' r x → Q x H'
          | .exc c ns fs δc => ∀ xd H', Kp3 (Ct.tabs ct) (Pcs kds vs) H H' → MutsR K ct M H' kds vs δc → ExR K ct M H' ns fs xd → E (.ref (ct c)) xd H'
          | .stuck => False) := hq2
        rw [if_neg hp] at hq3
        exact hq3.elim
    | ret r δ' =>
      rw [hbd] at hq2
      have hq3 : (match (if pOk kds δ' = true then Rs.ok r δ' else .stuck : Rs Dv) with
          | .ok r δc => ∀ x H', Kp3 (Ct.tabs ct) (Pcs kds vs) H H' → MutsR K ct (ResM mr M x) H' kds vs δc → rm K ct mr M H H' r x → Q x H'
          | .exc c ns fs δc => ∀ xd H', Kp3 (Ct.tabs ct) (Pcs kds vs) H H' → MutsR K ct M H' kds vs δc → ExR K ct M H' ns fs xd → E (.ref (ct c)) xd H'
          | .stuck => False) := hq2
      by_cases hp : pOk kds δ' = true
      · rw [if_pos hp] at hq3
        intro M' W' H' σ' x v e rr
        cases hmr : mr with
        | b => exact absurd hmr hm
        | v =>
          subst hmr
          refine hq3 x H' v.kp (muts v e hp v.m1) ?_
          rcases rr with ⟨_, rr⟩ | ⟨a, rfl, hw, npc, hmr, _⟩
          · exact rr
          · have ha0 : H a = none := (v.w2 a hw).resolve_left npc
            rcases hmr with ⟨es, xs, rfl, h3, h4⟩ | ⟨c, ns, es, dx, xs, rfl, _, h3, h4⟩
            · exact rep_lst.mpr ⟨a, xs, rfl, .inl ⟨fun z => mt a z ha0, .inl h3⟩, reps_step (S := fun _ => False) (Kp3.refl _ _) (fun _ z => z.elim) (fun b z => .inl (v.m1 b z)) h4⟩
            · exact rep_obj.mpr ⟨a, dx, xs, rfl, fun z => mt a z ha0, h3, reps_step (S := fun _ => False) (Kp3.refl _ _) (fun _ z => z.elim) (fun b z => .inl (v.m1 b z)) h4⟩
        | f =>
          subst hmr
          rcases rr with ⟨z, _⟩ | ⟨a, rfl, hw, npc, hmr, hf⟩
          · exact absurd rfl z
          · have ha0 : H a = none := (v.w2 a hw).resolve_left npc
            have sub : ∀ b, plus M a b → M' b := fun b z => z.elim (v.m1 b) fun y => by rw [y]; exact e.wm a hw
            refine hq3 (.ref a) H' v.kp (muts v e hp sub) ?_
            obtain ⟨es, rfl⟩ := hf rfl
            rcases hmr with ⟨es', xs, e1, h3, h4⟩ | ⟨_, _, _, _, _, e1, _⟩
            · cases e1
              exact ⟨es, a, xs, rfl, rfl, ha0, h3, reps_step (S := fun _ => False) (Kp3.refl _ _) (fun _ z => z.elim) (fun b z => .inl (sub b z)) h4⟩
            · cases e1
      · rw [if_neg hp] at hq3
        exact hq3.elim
    | exc c ns fs δ' =>
      rw [hbd] at hq2
      have hq3 : (match (if pOk kds δ' = true then Rs.exc c ns fs δ' else .stuck : Rs Dv) with
          | .ok r δc => ∀ x H', Kp3 (Ct.tabs ct) (Pcs kds vs) H H' → MutsR K ct (ResM mr M x) H' kds vs δc → rm K ct mr M H H' r x → Q x H'
          | .exc c ns fs δc => ∀ xd H', Kp3 (Ct.tabs ct) (Pcs kds vs) H H' → MutsR K ct M H' kds vs δc → ExR K ct M H' ns fs xd → E (.ref (ct c)) xd H'
          | .stuck => False) := hq2
      by_cases hp : pOk kds δ' = true
      · rw [if_pos hp] at hq3
        exact fun M' W' H' σ' xd v e rr => hq3 xd H' v.kp (muts v e hp v.m1) rr
      · rw [if_neg hp] at hq3
        exact hq3.elim
    | brk δ' =>
      rw [hbd] at hq2
      exact False.elim hq2
    | cnt δ' =>
      rw [hbd] at hq2
      exact False.elim hq2
    | stuck =>
      rw [hbd] at hq2
      exact False.elim hq2
end
end Dn

/-! Calls of defs. -/
namespace Dn
open PySem PySem.Spec PyProof.Rows L2 LamX Q
abbrev Sh := List (Option Nat)
section
variable (K : PySem.W.Frag) (ct : Ct)
/-- arguments: values, and slots whose lists are handed over -/
def shR (M : Ads) (H : Hp) (σ : L2.St) : Sh → List Dv → List V → Prop
  | [], xs, vs => xs = [] ∧ vs = []
  | none :: sh, xs, vs => ∃ d ds x ys, xs = d :: ds ∧ vs = x :: ys ∧ rep K ct M H d x ∧ shR M H σ sh ds ys
  | some i :: sh, xs, vs => ∃ x ys, vs = x :: ys ∧ σ[i]? = some (some x) ∧ shR M H σ sh xs ys
variable (ks : Ky) (E : EX)
structure DR (q : Bool) (sh : Sh) (X : Cx) (es : List Expr) (t : TA) (d : Dl → Rs (List Dv)) : Prop where
  pe : PA X es t
  ev : ∀ M W H δ σ, ER K ct ks M W H δ σ → Ev2 K ct ks E (fun M _ H' _ xs vs => shR K ct M H' σ sh xs vs) (Wq q W) M W H σ (t σ H) (d δ)
end
def fill : Sh → List Dv → Dl → Option (List Dv)
  | [], [], _ => some []
  | none :: sh, x :: xs, δ => (fill sh xs δ).map (x :: ·)
  | some i :: sh, xs, δ => match δ[i]? with
    | some (some d) => (fill sh xs δ).map (d :: ·)
    | _ => none
  | _, _, _ => none
def okSh (kds : List Kd) (kall : Nat → Kd) (sh : Sh) : Bool :=
  decide (kds.length = sh.length) && (List.range kds.length).all fun j => match kds[j]?, sh[j]? with
   | some .v, some none => true
   | some .b, some none => true
   | some .b, some (some i) => (List.range kds.length).all fun l => match kds[l]?, sh[l]? with
     | some .p, some (some m) => i != m
     | _, _ => true
   | some .p, some (some i) => (kall i).own && (List.range kds.length).all fun l => (l == j) || match kds[l]?, sh[l]? with
     | some .p, some (some m) => i != m
     | _, _ => true
   | _, _ => false
def upSl : List Kd → Sh → Dl → Dl → Dl
  | .p :: kds, some i :: sh, c :: δc, δ => upSl kds sh δc (δ.set i c)
  | _ :: kds, _ :: sh, _ :: δc, δ => upSl kds sh δc δ
  | _, _, _, δ => δ
def cSlot (i : Nat) (dl : Dl → Rs (List Dv)) : Dl → Rs (List Dv) := fun δ => match δ[i]? with
  | some (some _) => dl δ
  | _ => .stuck
def nop (kds : List Kd) : Bool := kds.all fun k => match k with
  | .p => false
  | _ => true
def cFn (kds : List Kd) (sh : Sh) (df : List Dv → Rs Dv) (as : Dl → Rs (List Dv)) : Dl → Rs Dv := fun δ => bnd (as δ) fun xs δ1 => match fill sh xs δ1 with
  | none => .stuck
  | some ds => match df ds with
    | .ok r δc => .ok r (upSl kds sh δc δ1)
    | .exc c ns fs δc => .exc c ns fs (upSl kds sh δc δ1)
    | .stuck => .stuck
theorem upSl_len : ∀ (kds : List Kd) (sh : Sh) (δc δ : Dl), (upSl kds sh δc δ).length = δ.length
  | [], _, _, _ => by simp [upSl]
  | .p :: kds, [], _, _ => by simp [upSl]
  | .v :: kds, [], _, _ => by simp [upSl]
  | .b :: kds, [], _, _ => by simp [upSl]
  | .o :: kds, [], _, _ => by simp [upSl]
  | .p :: kds, some i :: sh, [], _ => by simp [upSl]
  | .p :: kds, none :: sh, [], _ => by simp [upSl]
  | .v :: kds, _ :: sh, [], _ => by simp [upSl]
  | .b :: kds, _ :: sh, [], _ => by simp [upSl]
  | .o :: kds, _ :: sh, [], _ => by simp [upSl]
  | .p :: kds, some i :: sh, c :: δc, δ => by simp [upSl, upSl_len kds sh δc]
  | .p :: kds, none :: sh, c :: δc, δ => by simp [upSl, upSl_len kds sh δc]
  | .v :: kds, _ :: sh, c :: δc, δ => by simp [upSl, upSl_len kds sh δc]
  | .b :: kds, _ :: sh, c :: δc, δ => by simp [upSl, upSl_len kds sh δc]
  | .o :: kds, _ :: sh, c :: δc, δ => by simp [upSl, upSl_len kds sh δc]
theorem upSl_at {i : Nat} {d : Dv} : ∀ {kds : List Kd} {sh : Sh} {δc δ : Dl}, (upSl kds sh δc δ)[i]? = some (some d) →
    (δ[i]? = some (some d) ∧ ∀ j : Nat, kds[j]? = some .p → sh[j]? = some (some i) → δc.length ≤ j) ∨ ∃ j : Nat, kds[j]? = some .p ∧ sh[j]? = some (some i) ∧ δc[j]? = some (some d) := by
  intro kds
  induction kds with
  | nil => intro sh δc δ h; exact .inl ⟨by simpa [upSl] using h, fun j hj => by simp at hj⟩
  | cons k kds ih =>
    intro sh δc δ h
    cases sh with
    | nil => exact .inl ⟨by cases k <;> simpa [upSl] using h, fun j _ hj => by simp at hj⟩
    | cons s sh =>
      cases δc with
      | nil => exact .inl ⟨by cases k <;> cases s <;> simpa [upSl] using h, fun j _ _ => Nat.zero_le j⟩
      | cons c δc =>
        have other : (∀ i', k = .p → s = some i' → False) → upSl (k :: kds) (s :: sh) (c :: δc) δ = upSl kds sh δc δ := fun hn => by
          cases k <;> cases s <;> first | rfl | exact (hn _ rfl rfl).elim
        by_cases hp : ∃ i', k = .p ∧ s = some i'
        · obtain ⟨i', rfl, rfl⟩ := hp
          have h' : (upSl kds sh δc (δ.set i' c))[i]? = some (some d) := h
          rcases ih h' with ⟨h1, h2⟩ | ⟨j, h1, h2, h3⟩
          · by_cases z : i' = i
            · subst z
              have lt : i' < δ.length := by
                have := (List.getElem?_eq_some_iff.mp h1).1
                rwa [List.length_set] at this
              rw [List.getElem?_set_self lt] at h1
              exact .inr ⟨0, rfl, rfl, by simpa using h1⟩
            · rw [List.getElem?_set_ne z] at h1
              refine .inl ⟨h1, fun j hj hs => ?_⟩
              cases j with
              | zero => simp at hs; exact absurd hs z
              | succ j => exact Nat.succ_le_succ (h2 j (by simpa using hj) (by simpa using hs))
          · exact .inr ⟨j + 1, by simpa using h1, by simpa using h2, by simpa using h3⟩
        · rw [other fun i' h1 h2 => hp ⟨i', h1, h2⟩] at h
          rcases ih h with ⟨h1, h2⟩ | ⟨j, h1, h2, h3⟩
          · refine .inl ⟨h1, fun j hj hs => ?_⟩
            cases j with
            | zero =>
              simp at hj hs
              exact absurd ⟨i, hj, hs⟩ hp
            | succ j => exact Nat.succ_le_succ (h2 j (by simpa using hj) (by simpa using hs))
          · exact .inr ⟨j + 1, by simpa using h1, by simpa using h2, by simpa using h3⟩
section
variable {K : PySem.W.Frag} {ct : Ct} {ks : Ky} {E : EX} {X : Cx} {q q1 q2 : Bool} {m : Md} {e : Expr} {es : List Expr} {t : TE} {tl : TA} {d : Dl → Rs Dv} {dl : Dl → Rs (List Dv)} {pos : Pos} {M W S : Ads} {H H' : Hp} {δ : Dl} {σ : L2.St}
theorem dr_nil : DR K ct ks E true [] X [] tNil cNil := ⟨pa_nil, fun M W H δ σ er => Ev2.ret fun Q p => p [] H (Kp3.refl _ _) er ⟨rfl, rfl⟩⟩
theorem shR_step {S : Ads} (k : Kp3 (Ct.tabs ct) S H H') (hs : ∀ a, S a → M a) : ∀ {sh : Sh} {xs : List Dv} {vs : List V}, shR K ct M H σ sh xs vs → shR K ct M H' σ sh xs vs
  | [], _, _, h => h
  | none :: sh, _, _, ⟨d, ds, x, ys, e1, e2, r, h⟩ => ⟨d, ds, x, ys, e1, e2, rep_kp k hs r, shR_step k hs h⟩
  | some i :: sh, _, _, ⟨x, ys, e1, e2, h⟩ => ⟨x, ys, e1, e2, shR_step k hs h⟩
theorem dr_v {sh : Sh} (h : DX K ct ks E q1 m X e t d) (hr : DR K ct ks E q2 sh X es tl dl) (hm : m ≠ .b := by decide) (hs : starEach (e :: es) X.env = (false, eval e X.env) :: starEach es X.env := by rfl) :
    DR K ct ks E (q1 && q2) (none :: sh) X (e :: es) (tCons t tl) (cCons d dl) := ⟨pa_cons h.pe hr.pe hs, fun M W H δ σ er => by
  refine Ev2.bind ((h.ev M W H δ σ er).weak fun z hz => ⟨by rw [hz.1]; rfl, hz.2⟩) (fun _ h => h) (fun _ _ _ _ _ _ h => h) fun x δ1 u H1 k1 e1 r1 => ?_
  refine Ev2.bind ((hr.ev M W H1 δ1 σ e1).weak fun z hz => ⟨by rw [hz.1]; exact Bool.and_false _, hz.2⟩) (fun _ h => h) (fun _ _ _ _ _ _ h => h) fun xs δ2 us H2 k2 e2 r2 => ?_
  exact Ev2.ret fun Q p => p (u :: us) H2 (Kp3.refl _ _) e2 ⟨x, xs, u, us, rfl, rfl, rep_kp k2 (fun a z => e1.wm a z.2) (rm_v er.mt hm r1.1), r2⟩⟩
theorem dr_s {sh : Sh} (i : Nat) (h : PE X e (tVar i)) (hr : DR K ct ks E q2 sh X es tl dl) (hs : starEach (e :: es) X.env = (false, eval e X.env) :: starEach es X.env := by rfl) :
    DR K ct ks E q2 (some i :: sh) X (e :: es) (tCons (tVar i) tl) (cSlot i dl) := ⟨pa_cons h hr.pe hs, fun M W H δ σ er => by
  unfold cSlot
  cases hd : δ[i]? with
  | none => exact Ev2.stuck
  | some o =>
    cases o with
    | none => exact Ev2.stuck
    | some d =>
      obtain ⟨v, h1, _⟩ := er.sl i d hd
      intro Q p
      refine ⟨v, h1, ?_⟩
      refine hr.ev M W H δ σ er _ ?_
      have p' : Pst K ct ks E (fun M _ H' _ xs vs => shR K ct M H' σ (some i :: sh) xs vs) (Wq q2 W) M W H σ Q (dl δ) := p
      cases hl : dl δ with
      | ok xs δ1 =>
        rw [hl] at p'
        exact fun vs H1 k1 e1 r1 => p' (v :: vs) H1 k1 e1 ⟨v, vs, rfl, h1, r1⟩
      | exc c ns ds δ1 => rw [hl] at p'; exact p'
      | stuck => rw [hl] at p'; exact p'⟩
theorem sh_len : ∀ {sh : Sh} {xs ds : List Dv} {vs : List V}, shR K ct M H σ sh xs vs → fill sh xs δ = some ds → vs.length = sh.length ∧ ds.length = sh.length
  | [], xs, ds, vs, ⟨e1, e2⟩, hf => by
    subst e1 e2
    cases hf
    exact ⟨rfl, rfl⟩
  | none :: sh, xs, ds, vs, ⟨d, es, x, ys, e1, e2, r, h⟩, hf => by
    subst e1 e2
    have hf' : (fill sh es δ).map (d :: ·) = some ds := hf
    cases hg : fill sh es δ with
    | none => rw [hg] at hf'; cases hf'
    | some gs =>
      rw [hg] at hf'
      cases hf'
      have := sh_len h hg
      exact ⟨by rw [List.length_cons, this.1]; rfl, by rw [List.length_cons, this.2]; rfl⟩
  | some i :: sh, xs, ds, vs, ⟨x, ys, e2, hx, h⟩, hf => by
    subst e2
    unfold fill at hf
    split at hf
    · cases hg : fill sh xs δ with
      | none => rw [hg] at hf; cases hf
      | some gs =>
        rw [hg] at hf
        cases hf
        have := sh_len h hg
        exact ⟨by rw [List.length_cons, this.1]; rfl, by rw [List.length_cons, this.2]; rfl⟩
    · cases hf
theorem sh_at : ∀ {sh : Sh} {xs ds : List Dv} {vs : List V} {j : Nat} {dd : Dv} {v : V}, shR K ct M H σ sh xs vs → fill sh xs δ = some ds → ds[j]? = some dd → vs[j]? = some v →
    (sh[j]? = some none ∧ rep K ct M H dd v) ∨ ∃ i, sh[j]? = some (some i) ∧ δ[i]? = some (some dd) ∧ σ[i]? = some (some v)
  | [], xs, ds, vs, j, dd, v, ⟨e1, e2⟩, hf, hd, hv => by
    subst e2
    simp at hv
  | none :: sh, xs, ds, vs, j, dd, v, ⟨d, es, x, ys, e1, e2, r, h⟩, hf, hd, hv => by
    subst e1 e2
    have hf' : (fill sh es δ).map (d :: ·) = some ds := hf
    cases hg : fill sh es δ with
    | none => rw [hg] at hf'; cases hf'
    | some gs =>
      rw [hg] at hf'
      cases hf'
      cases j with
      | zero =>
        simp at hd hv
        subst hd hv
        exact .inl ⟨rfl, r⟩
      | succ j => exact (sh_at (j := j) h hg (by simpa using hd) (by simpa using hv)).imp (fun z => ⟨by simpa using z.1, z.2⟩) fun ⟨i, z⟩ => ⟨i, by simpa using z.1, z.2⟩
  | some i :: sh, xs, ds, vs, j, dd, v, ⟨x, ys, e2, hx, h⟩, hf, hd, hv => by
    subst e2
    unfold fill at hf
    split at hf
    · rename_i d0 hd0
      cases hg : fill sh xs δ with
      | none => rw [hg] at hf; cases hf
      | some gs =>
        rw [hg] at hf
        cases hf
        cases j with
        | zero =>
          simp at hd hv
          subst hd hv
          exact .inr ⟨i, rfl, hd0, hx⟩
        | succ j => exact (sh_at (j := j) h hg (by simpa using hd) (by simpa using hv)).imp (fun z => ⟨by simpa using z.1, z.2⟩) fun ⟨i, z⟩ => ⟨i, by simpa using z.1, z.2⟩
    · cases hf
def OkSh (kds : List Kd) (kall : Nat → Kd) (sh : Sh) : Prop := kds.length = sh.length ∧ ∀ (j : Nat) (k : Kd) (s : Option Nat), kds[j]? = some k → sh[j]? = some s →
    (k = .v ∧ s = none) ∨ (k = .b ∧ s = none) ∨ (∃ i, k = .b ∧ s = some i ∧ ∀ l m : Nat, kds[l]? = some .p → sh[l]? = some (some m) → i ≠ m) ∨ ∃ i, k = .p ∧ s = some i ∧ (kall i).own = true ∧ ∀ l m : Nat, l ≠ j → kds[l]? = some .p → sh[l]? = some (some m) → i ≠ m
theorem okSh_at {kds : List Kd} {kall : Nat → Kd} {sh : Sh} (h : okSh kds kall sh = true) : OkSh kds kall sh := by
  unfold okSh at h
  rw [Bool.and_eq_true, decide_eq_true_iff] at h
  obtain ⟨hl, ha⟩ := h
  refine ⟨hl, fun j k s hk hs => ?_⟩
  have hj := List.all_eq_true.mp ha j (List.mem_range.mpr (List.getElem?_eq_some_iff.mp hk).1)
  rw [hk, hs] at hj
  cases k with
  | o => cases s <;> cases hj
  | v =>
    cases s with
    | none => exact .inl ⟨rfl, rfl⟩
    | some i => cases hj
  | b =>
    cases s with
    | none => exact .inr (.inl ⟨rfl, rfl⟩)
    | some i =>
      refine .inr (.inr (.inl ⟨i, rfl, rfl, fun l m h1 h2 => ?_⟩))
      have hj' : ((List.range kds.length).all fun l => match kds[l]?, sh[l]? with
        | some .p, some (some m) => i != m
        | _, _ => true) = true := hj
      have := List.all_eq_true.mp hj' l (List.mem_range.mpr (List.getElem?_eq_some_iff.mp h1).1)
      rw [h1, h2] at this
      exact bne_iff_ne.mp this
  | p =>
    cases s with
    | none => cases hj
    | some i =>
      have hj' : ((kall i).own && (List.range kds.length).all fun l => (l == j) || match kds[l]?, sh[l]? with
        | some .p, some (some m) => i != m
        | _, _ => true) = true := hj
      rw [Bool.and_eq_true] at hj'
      refine .inr (.inr (.inr ⟨i, rfl, rfl, hj'.1, fun l m hne h1 h2 => ?_⟩))
      have := List.all_eq_true.mp hj'.2 l (List.mem_range.mpr (List.getElem?_eq_some_iff.mp h1).1)
      rw [h1, h2, Bool.or_eq_true] at this
      rcases this with z | z
      · exact absurd (by simpa using z) hne
      · exact bne_iff_ne.mp z
/-- the slots behind a call -/
theorem ER.call {S M2 : Ads} {δ' : Dl} (e : ER K ct ks M W H δ σ) (k : Kp3 (Ct.tabs ct) S H H') (sW : ∀ a, S a → W a) (mm : ∀ b, M b → M2 b) (m2 : ∀ b, M2 b → M b ∨ H b = none) (mt2 : ∀ b, M2 b → H' b ≠ none) (hS : ∀ a, S a → mutO (H' a)) (hl : δ'.length = δ.length)
    (h : ∀ (i : Nat) (d : Dv), δ'[i]? = some (some d) → (δ[i]? = some (some d) ∧ ((ks i).own = true → ∀ a, σ[i]? = some (some (.ref a)) → ¬ S a)) ∨ ((ks i).own = true ∧ (∃ d0, δ[i]? = some (some d0)) ∧ ∃ a, σ[i]? = some (some (.ref a)) ∧ W a ∧ mrep K ct M2 H' d a)) : ER K ct ks M2 W H' δ' σ := by
  have old : ∀ (i : Nat) (d : Dv), δ'[i]? = some (some d) → ∃ d0, δ[i]? = some (some d0) := fun i d hd => (h i d hd).elim (fun z => ⟨d, z.1⟩) fun z => z.2.1
  refine ⟨e.len.trans hl.symm, fun i d hd => ?_, fun i j a di dj hne oi oj hi hj si sj => ?_, fun a z => mm a (e.wm a z), mt2, fun a hw => ?_, fun i a d ho hd hs => ?_, e.pw, fun a hb => ⟨(e.bw a hb).1, k.live a (e.bw a hb).2⟩, Tabs.kp e.tb k⟩
  · rcases h i d hd with ⟨h1, h2⟩ | ⟨h1, _, a, h2, h3, h4⟩
    · obtain ⟨v, g1, g2⟩ := e.sl i d h1
      exact ⟨v, g1, slr_step k (fun a z => .inl (e.wm a (sW a z))) m2 (fun _ z => z) (fun a hb z => (e.bw a hb).1 (sW a z)) (fun ow a ha => h2 ow a (by rw [← ha]; exact g1)) g2⟩
    · exact ⟨_, h2, slr_mk h1 ⟨a, rfl, h3, h4⟩⟩
  · obtain ⟨d1, h1⟩ := old i di hi
    obtain ⟨d2, h2⟩ := old j dj hj
    exact e.dis i j a d1 d2 hne oi oj h1 h2 si sj
  · by_cases z : S a
    · exact hS a z
    · rw [mutO_keep k z (e.wl a hw)]
      exact e.wl a hw
  · obtain ⟨d1, h1⟩ := old i d hd
    exact e.oc i a d1 ho h1 hs
theorem nop_no {kds : List Kd} (h : nop kds = true) {j : Nat} : kds[j]? ≠ some .p := fun z => by
  unfold nop at h
  have := List.all_eq_true.mp h .p (List.mem_of_getElem? z)
  cases this
/-- a call by a promise: what lies between -/
theorem ev_fn {kds : List Kd} {sh : Sh} {mr : Md} {df : List Dv → Rs Dv} {xs : List Dv} {vs : List V} {ds : List Dv} (er : ER K ct ks M W H δ σ) (ok : OkSh kds ks sh) (hm : mr ≠ .b) (hr : shR K ct M H σ sh xs vs) (hf : fill sh xs δ = some ds) :
    Ev2 K ct ks E (rmE K ct mr) (Wq (nop kds) W) M W H σ (fun Q => spD K ct kds mr df vs H Q E) (match df ds with
      | .ok r δc => .ok r (upSl kds sh δc δ)
      | .exc c ns fs δc => .exc c ns fs (upSl kds sh δc δ)
      | .stuck => .stuck) := by
  obtain ⟨hl, okk⟩ := ok
  obtain ⟨l1, l2⟩ := sh_len hr hf
  -- a written parameter's slot
  have parg : ∀ {j : Nat} {a : Addr}, kds[j]? = some .p → vs[j]? = some (.ref a) → ∃ i dd, sh[j]? = some (some i) ∧ (ks i).own = true ∧ δ[i]? = some (some dd) ∧ σ[i]? = some (some (.ref a)) ∧ ds[j]? = some dd ∧ W a ∧ mrep K ct M H dd a ∧ ∀ l m : Nat, l ≠ j → kds[l]? = some .p → sh[l]? = some (some m) → i ≠ m := fun {j a} hj hv => by
    have lj := (List.getElem?_eq_some_iff.mp hj).1
    have hd : ds[j]? = some ds[j] := List.getElem?_eq_getElem (by omega)
    have hs : sh[j]? = some sh[j] := List.getElem?_eq_getElem (by omega)
    rcases okk j .p _ hj hs with ⟨z, _⟩ | ⟨z, _⟩ | ⟨i, z, _⟩ | ⟨i, _, hi, ow, ne⟩
    · cases z
    · cases z
    · cases z
    · rw [hi] at hs
      rcases sh_at hr hf hd hv with ⟨z, _⟩ | ⟨i', h1, h2, h3⟩
      · rw [hs] at z; cases z
      · rw [hs] at h1
        cases h1
        obtain ⟨u, g1, g2⟩ := er.sl i _ h2
        rw [h3] at g1
        cases g1
        obtain ⟨b, eb, hw, hmr⟩ := slr_own ow g2
        cases eb
        exact ⟨i, _, hs, ow, h2, h3, hd, hw, hmr, ne⟩
  have sW : ∀ a, Pcs kds vs a → W a := fun a ⟨j, h1, h2⟩ => by
    obtain ⟨_, _, _, _, _, _, _, hw, _⟩ := parg h1 h2
    exact hw
  have dis : ∀ (i j : Nat) (a : Addr), i ≠ j → kds[i]? = some .p → kds[j]? = some .p → vs[i]? = some (.ref a) → vs[j]? = some (.ref a) → False := fun i j a hne h1 h2 h3 h4 => by
    obtain ⟨m, d1, s1, o1, e1, f1, _, _, _, ne⟩ := parg h1 h3
    obtain ⟨l, d2, s2, o2, e2, f2, _⟩ := parg h2 h4
    exact er.dis m l a d1 d2 (ne j l (Ne.symm hne) h2 s2) o1 o2 e1 e2 f1 f2
  have args : ∀ (j : Nat) (k : Kd) (d : Dv) (v : V), kds[j]? = some k → ds[j]? = some d → vs[j]? = some v → ArgR K ct (Pcs kds vs) M H k d v := fun j k d v hk hd hv => by
    have lj := (List.getElem?_eq_some_iff.mp hk).1
    have hs : sh[j]? = some sh[j] := List.getElem?_eq_getElem (by omega)
    have at' := sh_at hr hf hd hv
    rcases okk j k _ hk hs with ⟨rfl, z⟩ | ⟨rfl, z⟩ | ⟨i, rfl, z, ne⟩ | ⟨i, rfl, z, ow, ne⟩
    · rw [z] at hs
      rcases at' with ⟨_, r⟩ | ⟨i, h1, _⟩
      · exact r
      · rw [hs] at h1; cases h1
    · rw [z] at hs
      rcases at' with ⟨_, r⟩ | ⟨i, h1, _⟩
      · exact .inl r
      · rw [hs] at h1; cases h1
    · rw [z] at hs
      rcases at' with ⟨h1, r⟩ | ⟨i', h1, h2, h3⟩
      · rw [hs] at h1; cases h1
      · rw [hs] at h1
        cases h1
        obtain ⟨u, g1, g2⟩ := er.sl i d h2
        rw [h3] at g1
        cases g1
        by_cases ow : (ks i).own = true
        · obtain ⟨a, rfl, hw, hmr⟩ := slr_own ow g2
          refine .inr ⟨a, rfl, fun ⟨l, p1, p2⟩ => ?_, mrep_b hmr⟩
          obtain ⟨m, d1, s1, o1, e1, f1, _⟩ := parg p1 p2
          exact er.dis i m a d d1 (ne l m p1 s1) ow o1 h2 e1 h3 f1
        · have g3 : slr K ct ks.be M W H (ks i) d v := g2
          cases hki : ks i with
          | v => rw [hki] at g3; exact .inl g3
          | b =>
            rw [hki] at g3
            exact g3.imp id fun ⟨a, e1, e2, e3⟩ => ⟨a, e1, fun z => (er.bw a e2).1 (sW a z), e3⟩
          | o => rw [hki] at ow; exact absurd rfl ow
          | p => rw [hki] at ow; exact absurd rfl ow
    · rw [z] at hs
      rcases at' with ⟨h1, r⟩ | ⟨i', h1, h2, h3⟩
      · rw [hs] at h1; cases h1
      · rw [hs] at h1
        cases h1
        obtain ⟨u, g1, g2⟩ := er.sl i d h2
        rw [h3] at g1
        cases g1
        obtain ⟨a, rfl, hw, hmr⟩ := slr_own ow g2
        exact ⟨a, rfl, er.wm a hw, hmr⟩
  have wq : ∀ a, Pcs kds vs a → Wq (nop kds) W a := fun a z => ⟨by
    cases hn : nop kds with
    | false => rfl
    | true =>
      obtain ⟨j, h1, _⟩ := z
      exact absurd h1 (nop_no hn), sW a z⟩
  -- the state behind
  have back : ∀ {H' : Hp} {M2 : Ads} {δc : Dl}, Kp3 (Ct.tabs ct) (Pcs kds vs) H H' → MutsR K ct M2 H' kds vs δc → (∀ b, M b → M2 b) → (∀ b, M2 b → M b ∨ H b = none) → (∀ b, M2 b → H' b ≠ none) → ER K ct ks M2 W H' (upSl kds sh δc δ) σ := fun {H' M2 δc} k mu mm m2 mt2 => by
    refine er.call k sW mm m2 mt2 (fun a ⟨j, h1, h2⟩ => ?_) (upSl_len _ _ _ _) fun i d hd => ?_
    · obtain ⟨dd, _, hmr⟩ := mu j a h1 h2
      exact mrep_mut hmr
    · rcases upSl_at hd with ⟨h1, h2⟩ | ⟨j, h1, h2, h3⟩
      · refine .inl ⟨h1, fun ow a ha ⟨j, p1, p2⟩ => ?_⟩
        obtain ⟨m, d1, s1, o1, e1, f1, _⟩ := parg p1 p2
        by_cases z : i = m
        · subst z
          have := h2 j p1 s1
          obtain ⟨dd, g, _⟩ := mu j a p1 p2
          exact absurd (List.getElem?_eq_some_iff.mp g).1 (by omega)
        · exact er.dis i m a d d1 z ow o1 h1 e1 ha f1
      · have lj := (List.getElem?_eq_some_iff.mp h1).1
        have hv : vs[j]? = some vs[j] := List.getElem?_eq_getElem (by omega)
        have hdj : ds[j]? = some ds[j] := List.getElem?_eq_getElem (by omega)
        obtain ⟨a, ea, _, _⟩ := args j .p _ _ h1 hdj hv
        rw [ea] at hv
        obtain ⟨m, d1, s1, o1, e1, f1, _, hw, _⟩ := parg h1 hv
        rw [h2] at s1
        cases s1
        obtain ⟨dd, g, hmr⟩ := mu j a h1 hv
        rw [h3] at g
        cases g
        exact .inr ⟨o1, ⟨d1, e1⟩, a, f1, hw, hmr⟩
  intro Q p
  refine ⟨M, ds, by omega, by omega, er.tb, er.mt, args, dis, ?_⟩
  cases hdf : df ds with
  | stuck => rw [hdf] at p; exact p.elim
  | exc c ns fs δc =>
    rw [hdf] at p
    exact fun xd H' k mu rr => p xd H' (k.mono wq) (back k mu (fun _ z => z) (fun _ z => .inl z) fun b z => k.live b (er.mt b z)) rr
  | ok r δc =>
    rw [hdf] at p
    intro x H' k mu rr
    cases mr with
    | b => exact absurd rfl hm
    | v => exact p x H' (k.mono wq) (back k mu (fun _ z => z) (fun _ z => .inl z) fun b z => k.live b (er.mt b z)) ⟨rr, fun z => by cases z⟩
    | f =>
      obtain ⟨es, a, ys, rfl, rfl, h1, h2, h3⟩ := rr
      have mu' : MutsR K ct (plus M a) H' kds vs δc := mu
      have e2 : ER K ct ks (plus M a) W H' (upSl kds sh δc δ) σ := back k mu' (fun _ z => .inl z) (fun b z => z.imp id fun y => by rw [y]; exact h1) fun b z => by
        rcases z with z | rfl
        · exact k.live b (er.mt b z)
        · rw [h2]; exact fun y => by cases y
      exact p (.ref a) H' (k.mono wq) (e2.lessM er.wm) ⟨⟨es, a, ys, rfl, rfl, h1, h2, h3⟩, fun _ => ⟨a, rfl, e2.more h2 fun z => (er.bw a z).2 h1⟩⟩
/-- f(e, ..) -/
theorem ev_call2 {kds : List Kd} {sh : Sh} {mr : Md} {df : List Dv → Rs Dv} (ok : okSh kds ks sh = true) (hm : mr ≠ .b) (h : DR K ct ks E q sh X es tl dl) :
    DGs K ct ks E (rmE K ct mr) (q && nop kds) (tCall (spD K ct kds mr df) [] E tl) (cFn kds sh df dl) := fun M W H δ σ er => by
  refine Ev2.bind ((h.ev M W H δ σ er).weak fun z hz => ⟨by rw [hz.1]; rfl, hz.2⟩) (fun _ h => h) (fun _ _ _ _ _ k h => re_anti k h) fun xs δ1 vs H1 k1 e1 r1 => ?_
  show Ev2 K ct ks E (rmE K ct mr) _ M W H1 σ (fun Q => spD K ct kds mr df (vs ++ []) H1 Q E) (match fill sh xs δ1 with
    | none => .stuck
    | some ds => match df ds with
      | .ok r δc => .ok r (upSl kds sh δc δ1)
      | .exc c ns fs δc => .exc c ns fs (upSl kds sh δc δ1)
      | .stuck => .stuck)
  rw [List.append_nil]
  cases hf : fill sh xs δ1 with
  | none => exact Ev2.stuck
  | some ds => exact (ev_fn e1 (okSh_at ok) hm r1 hf).weak fun z hz => ⟨by rw [hz.1]; exact Bool.and_false _, hz.2⟩
theorem dx_cal {x : Str} {p : Pos} {k : Nat} {ps : List Str} {kds : List Kd} {sh : Sh} {mr : Md} {df : List Dv → Rs Dv} (F : Cal X.prog X.w X.K X.mg X.base (L2.CX X.prog X.w) x k ps (spD K ct kds mr df)) (hr : Room k X.A) (hg : Gl X x) (hx : Passes (L2.CX X.prog X.w) X E)
    (ok : okSh kds ks sh = true) (hm : mr ≠ .b) (h : DR K ct ks E q sh X (e :: es) tl dl) (hdb : (x == ("__debug__" : Str)) = false := by decide) (he : starEach (e :: es) X.env = (false, eval e X.env) :: starEach es X.env := by rfl) (hpl : (backTo pos (starEach es X.env)).any (·.1) = false := by rfl) :
    DX K ct ks E (q && nop kds) mr X (.Call (.Name x p) (e :: es) [] pos) (tCall (spD K ct kds mr df) [] E tl) (cFn kds sh df dl) := ⟨pe_cal F hr hg hx h.pe hdb he hpl, ev_call2 ok hm h⟩
theorem dx_cal0 {x : Str} {p : Pos} {k : Nat} {ps : List Str} {mr : Md} {df : List Dv → Rs Dv} (F : Cal X.prog X.w X.K X.mg X.base (L2.CX X.prog X.w) x k ps (spD K ct [] mr df)) (hr : Room k X.A) (hg : Gl X x) (hx : Passes (L2.CX X.prog X.w) X E)
    (hm : mr ≠ .b) (hdb : (x == ("__debug__" : Str)) = false := by decide) :
    DX K ct ks E true mr X (.Call (.Name x p) [] [] pos) (tCall (spD K ct [] mr df) [] E tNil) (cFn [] [] df cNil) := ⟨pe_cal0 F hr hg hx hdb, ev_call2 (X := X) (q := true) (kds := []) (sh := []) rfl hm dr_nil⟩
end
end Dn

/-! Fields stored, errors raised, instances made. -/
namespace Dn
open PySem PySem.Spec PyProof.Rows L2 LamX Q
def putK (f : Str) : List Str → List Str
  | [] => [f]
  | g :: r => if g = f then g :: r else g :: putK f r
def putW {α : Type} (f : Str) (x : α) : List Str → List α → List α
  | [], _ => [x]
  | _ :: _, [] => [x]
  | g :: r, d :: ds => if g = f then x :: ds else d :: putW f x r ds
def putD (okA : Str → Str → Bool) (f : Str) (x : Dv) : Dv → Option Dv
  | .obj c ns ds => if okA c f = true ∧ ns.length < 1000 then some (.obj c (putK f ns) (putW f x ns ds)) else none
  | _ => none
def cFld (okA : Str → Str → Bool) (s : Nat) (f : Str) (a : Dl → Rs Dv) : Dl → Fl := fun δ => bnf (a δ) fun x δ1 => match δ1[s]? with
  | some (some t) => (match putD okA f x t with
    | some t' => .nx (δ1.set s (some t'))
    | none => .stuck)
  | _ => .stuck
def cExc (c : Str) (ns : List Str) (rev : List Dv → List Dv) (as : Dl → Rs (List Dv)) : Dl → Fl := fun δ => bnf (as δ) fun xs δ1 => .exc c ns (rev xs) δ1
section
variable {K : PySem.W.Frag} {ct : Ct} {ks : Ky} {E : EX} {mr : Md} {X : Cx} {q q1 q2 : Bool} {m : Md} {e : Expr} {es : List Expr} {t : TE} {tl : TA} {d : Dl → Rs Dv} {dl : Dl → Rs (List Dv)} {pos : Pos}
theorem put_zip {f : Str} {y : V} : ∀ {ns : List Str} {vs : List V}, ns.length = vs.length → putF f y (ns.zip vs) = (putK f ns).zip (putW f y ns vs)
  | [], [], _ => rfl
  | g :: r, v :: vs, h => by
    show (if g = f then (g, y) :: r.zip vs else (g, v) :: putF f y (r.zip vs)) = (if g = f then g :: r else g :: putK f r).zip (if g = f then y :: vs else v :: putW f y r vs)
    by_cases z : g = f
    · rw [if_pos z, if_pos z, if_pos z]
      rfl
    · rw [if_neg z, if_neg z, if_neg z, put_zip (by simpa using h)]
      rfl
  | [], _ :: _, h => by simp at h
  | _ :: _, [], h => by simp at h
theorem put_reps {f : Str} {x : Dv} {y : V} {M : Ads} {H : Hp} (hx : rep K ct M H x y) : ∀ {ns : List Str} {ds : List Dv} {vs : List V}, reps K ct M H ds vs → reps K ct M H (putW f x ns ds) (putW f y ns vs)
  | [], _, _, _ => reps_cons hx reps_nil
  | g :: r, [], vs, h => by
    rw [reps_inv0 h]
    exact reps_cons hx reps_nil
  | g :: r, d :: ds, vs, h => by
    obtain ⟨u, us, rfl, h1, h2⟩ := reps_inv h
    show reps K ct M H (if g = f then x :: ds else d :: putW f x r ds) (if g = f then y :: us else u :: putW f y r us)
    by_cases z : g = f
    · rw [if_pos z, if_pos z]
      exact reps_cons hx h2
    · rw [if_neg z, if_neg z]
      exact reps_cons h1 (put_reps hx h2)
theorem put_len {α : Type} {f : Str} {x : α} : ∀ {ns : List Str} {ds : List α}, ns.length = ds.length → (putK f ns).length = (putW f x ns ds).length
  | [], _, _ => rfl
  | g :: r, d :: ds, h => by
    show (if g = f then g :: r else g :: putK f r).length = (if g = f then x :: ds else d :: putW f x r ds).length
    by_cases z : g = f
    · rw [if_pos z, if_pos z, List.length_cons, List.length_cons]
      simpa using h
    · rw [if_neg z, if_neg z, List.length_cons, List.length_cons, put_len (by simpa using h)]
  | _ :: _, [], h => by simp at h
theorem ps_fldK {o value : Expr} {f : Str} {ta tv : TE} {pos' : Pos} (hK : X.K = K) (ha : PE X o ta) (hv : PE X value tv) (hs : swapsWith value (some (.Attribute o f pos')) pos.line X.env = pure false) : PS X (.Assign [.Attribute o f pos'] value pos) (sFld K ta tv f) := by
  subst hK
  exact ps_fld ha hv hs
theorem ds_fld {o value : Expr} {f : Str} {tv : TE} {dv : Dl → Rs Dv} {pos' : Pos} {okA : Str → Str → Bool} (T : ClsT K ct okA) (s : Nat) (hk : (ks s).own = true) (ha : PE X o (tVar s)) (hv : DX K ct ks E q .v X value tv dv) (hK : X.K = K := by rfl) (hs : swapsWith value (some (.Attribute o f pos')) pos.line X.env = pure false := by rfl) :
    DS K ct ks E mr X (.Assign [.Attribute o f pos'] value pos) (sFld K (tVar s) tv f) (cFld okA s f dv) := ⟨ps_fldK hK ha hv.pe hs, fun M W H δ σ er D p => by
  refine ev_bnf (hv.ev M W H δ σ er) p fun x δ1 y H1 v1 e1 r1 p1 => ?_
  split at p1
  · rename_i t ht
    split at p1
    · rename_i t' ht'
      obtain ⟨u, h1, h2⟩ := e1.sl s t ht
      obtain ⟨a, rfl, hw, hm⟩ := slr_own hk h2
      refine ⟨_, h1, ?_⟩
      cases t with
      | obj c ns ds =>
        have ht2 : (if okA c f = true ∧ ns.length < 1000 then some (Dv.obj c (putK f ns) (putW f x ns ds)) else none) = some t' := ht'
        by_cases hc : okA c f = true ∧ ns.length < 1000
        · rw [if_pos hc] at ht2
          cases ht2
          rcases hm with ⟨_, _, e, _⟩ | ⟨c', ns', ds', dx, xs, e, hl, hh, hr⟩
          · cases e
          · cases e
            obtain ⟨t1, t2⟩ := T c f hc.1
            have hl2 : ns.length = xs.length := by rw [hl, reps_len hr]
            refine ⟨a, ct c, dx, ns.zip xs, rfl, hh, t1, t2, by rw [List.length_zip]; omega, ?_⟩
            rw [put_zip hl2]
            have km : Kp3 (Ct.tabs ct) (fun b => b = a) H1 (upd H1 a (.ins (ct c) dx ((putK f ns).zip (putW f y ns xs)))) := mutO_tab (e1.wl a hw)
            obtain ⟨e3, k3⟩ := e1.write (d' := .obj c (putK f ns) (putW f x ns ds)) (o' := .ins (ct c) dx ((putK f ns).zip (putW f y ns xs))) hk ht h1
              (.inr ⟨c, _, _, dx, putW f y ns xs, rfl, put_len hl, upd_same, reps_kp km (fun b z => by rw [show b = a from z]; exact e1.wm a hw) (put_reps r1.1 hr)⟩)
            exact p1 M W _ σ (v1.trans (Mv3.kp1 k3)) e3
        · rw [if_neg hc] at ht2
          cases ht2
      | non => cases ht'
      | bl _ => cases ht'
      | int _ => cases ht'
      | str _ => cases ht'
      | tup _ => cases ht'
      | lst _ => cases ht'
    · exact p1.elim
  · exact p1.elim⟩
/-! errors -/
theorem ds_raise0 {c : Str} {C : Addr} {st : Stmt} (hC : ct c = C) (hP : PS X st (fun _ _ H => E (.ref C) none H)) : DS K ct ks E mr X st (fun _ _ H => E (.ref C) none H) (fun δ => .exc c [] [] δ) :=
  ⟨hP, fun M W H δ σ er D p => by
    subst hC
    exact p M W H σ none Mv3.refl er (.inl ⟨rfl, rfl⟩)⟩
theorem ds_raise1 {c f : Str} {C : Addr} {st : Stmt} (hC : ct c = C) (hP : PS X st (fun _ σ H => tMkO C (spInit1 C f) [] tl σ H fun cls d H' => E cls d H')) (ha : DA K ct ks E q false X [e] tl dl) :
    DS K ct ks E mr X st (fun _ σ H => tMkO C (spInit1 C f) [] tl σ H fun cls d H' => E cls d H') (cExc c [f] id dl) := ⟨hP, fun M W H δ σ er D p => by
  subst hC
  refine ev_bnf ((ha.ev M W H δ σ er).andP (P := fun xs => xs.length = 1) fun xs δ' z => ha.len δ xs δ' z) p fun xs δ1 us H1 v1 e1 ⟨hl, r1⟩ p1 => ?_
  have r2 : reps K ct M H1 xs us := r1
  match xs, hl with
  | [x], _ =>
    obtain ⟨u, ys, rfl, g1, g2⟩ := reps_inv r2
    cases reps_inv0 g2
    refine ⟨by show 1 ≤ 1000; decide, mk1 fun d hd => ?_⟩
    have sm := Same.new (o := .xd [(f, u)]) hd
    exact p1 M W _ σ (some d) (v1.trans (Mv3.kp1 (Kp3.same sm))) (e1.q (Kp3.same sm)) (.inr ⟨d, [u], rfl, upd_same, reps_same sm r2⟩)⟩
theorem ds_raise2 {c f g : Str} {e2 : Expr} {C : Addr} {st : Stmt} (hC : ct c = C) (hP : PS X st (fun _ σ H => tMkO C (spInit2 C f g) [] tl σ H fun cls d H' => E cls d H')) (ha : DA K ct ks E q false X [e, e2] tl dl) :
    DS K ct ks E mr X st (fun _ σ H => tMkO C (spInit2 C f g) [] tl σ H fun cls d H' => E cls d H') (cExc c [g, f] List.reverse dl) := ⟨hP, fun M W H δ σ er D p => by
  subst hC
  refine ev_bnf ((ha.ev M W H δ σ er).andP (P := fun xs => xs.length = 2) fun xs δ' z => ha.len δ xs δ' z) p fun xs δ1 us H1 v1 e1 ⟨hl, r1⟩ p1 => ?_
  have r2 : reps K ct M H1 xs us := r1
  match xs, hl with
  | [x, y], _ =>
    obtain ⟨u, ys, rfl, g1, g2⟩ := reps_inv r2
    obtain ⟨v, zs, rfl, g3, g4⟩ := reps_inv g2
    cases reps_inv0 g4
    refine ⟨by show 2 ≤ 1000; decide, mk2 fun d hd => ?_⟩
    have sm := Same.new (o := .xd [(g, v), (f, u)]) hd
    exact p1 M W _ σ (some d) (v1.trans (Mv3.kp1 (Kp3.same sm))) (e1.q (Kp3.same sm)) (.inr ⟨d, [v, u], rfl, upd_same, reps_same sm (reps_cons g3 (reps_cons g1 reps_nil))⟩)⟩
/-! an instance without __init__ -/
theorem dx_bare {c : Str} {C : Addr} {ex : Expr} (hC : ct c = C) (hP : PE X ex (fun σ H Q => ∀ y dx, H y = none → H dx = none → dx ≠ y → Q (.ref y) (upd (upd H dx (.own y)) y (.ins C dx [])))) :
    DX K ct ks E true .v X ex (fun σ H Q => ∀ y dx, H y = none → H dx = none → dx ≠ y → Q (.ref y) (upd (upd H dx (.own y)) y (.ins C dx []))) (cC (.obj c [] [])) := ⟨hP, fun M W H δ σ er => Ev2.ret fun Q p y dx hy hd ne => by
  subst hC
  have s1 : Same H (upd H dx (.own y)) := Same.new hd
  have s2 : Same (upd H dx (.own y)) (upd (upd H dx (.own y)) y (.ins (ct c) dx [])) := Same.new (by rw [upd_ne (Ne.symm ne)]; exact hy)
  have sm := s1.trans s2
  exact p _ _ (Kp3.same sm) (er.q (Kp3.same sm)) (re_v (rep_obj.mpr ⟨y, dx, [], rfl, fun z => er.mt y z hy, by rw [upd_same]; rfl, reps_nil⟩))⟩
/-! an instance made by its __init__ -/
def mkEnd (kds : List Kd) (sh : Sh) (δ1 : Dl) : Rs Dv → Rs Dv
  | .ok .non (some (.obj c' ns es) :: δc') => .ok (.obj c' ns es) (upSl kds sh δc' δ1)
  | .exc c ns fs (some _ :: δc') => .exc c ns fs (upSl kds sh δc' δ1)
  | _ => .stuck
def cMk (c : Str) (kds : List Kd) (sh : Sh) (df : List Dv → Rs Dv) (as : Dl → Rs (List Dv)) : Dl → Rs Dv := fun δ => bnd (as δ) fun xs δ1 => match fill sh xs δ1 with
  | none => .stuck
  | some ds => mkEnd kds sh δ1 (df (.obj c [] [] :: ds))
/-- the slots and one more -/
def Ky.more (ks : Ky) (L : Nat) : Ky := ⟨fun i => if i = L then .o else ks i, ks.pc, ks.be⟩
theorem ER.ext {M W : Ads} {H H1 : Hp} {δ : Dl} {σ : L2.St} {x : Addr} {d : Dv} (e : ER K ct ks M W H δ σ) (s : Same H H1) (hx : H x = none) (hm : mrep K ct (plus M x) H1 d x) : ER K ct (ks.more δ.length) (plus M x) (plus W x) H1 (δ ++ [some d]) (σ ++ [some (.ref x)]) := by
  have k : Kp3 (Ct.tabs ct) (fun _ => False) H H1 := Kp3.same s
  have kne : ∀ {i : Nat}, i ≠ δ.length → (ks.more δ.length) i = ks i := fun {i} h => if_neg h
  have keq : (ks.more δ.length) δ.length = .o := if_pos rfl
  have at' : ∀ {i : Nat} {dd : Dv}, (δ ++ [some d])[i]? = some (some dd) → (i ≠ δ.length ∧ δ[i]? = some (some dd) ∧ (σ ++ [some (.ref x)])[i]? = σ[i]?) ∨ (i = δ.length ∧ dd = d ∧ (σ ++ [some (.ref x)])[i]? = some (some (.ref x))) := fun {i dd} h => by
    by_cases hi : i < δ.length
    · rw [List.getElem?_append_left hi] at h
      exact .inl ⟨by omega, h, List.getElem?_append_left (by rw [e.len]; exact hi)⟩
    · have hz : i = δ.length := by
        have := (List.getElem?_eq_some_iff.mp h).1
        rw [List.length_append, List.length_singleton] at this
        omega
      subst hz
      rw [List.getElem?_append_right (Nat.le_refl _), Nat.sub_self] at h
      have h' : some (some d) = some (some dd) := h
      cases h'
      refine .inr ⟨rfl, rfl, ?_⟩
      rw [← e.len, List.getElem?_append_right (Nat.le_refl _), Nat.sub_self]
      rfl
  have nx : ∀ {i : Nat} {dd : Dv}, (ks i).own = true → δ[i]? = some (some dd) → σ[i]? ≠ some (some (.ref x)) := fun {i dd} ow hd hs => by
    obtain ⟨v, h1, h2⟩ := e.sl i dd hd
    rw [hs] at h1
    cases h1
    obtain ⟨a, ea, hw, _⟩ := slr_own ow h2
    cases ea
    exact e.mt x (e.wm x hw) hx
  refine ⟨by rw [List.length_append, List.length_append, e.len]; rfl, fun i dd hd => ?_, fun i j a di dj hne oi oj hi hj si sj => ?_, fun b hb => hb.imp (e.wm b) id, fun b hb => ?_, fun b hb => ?_, fun i a dd ho hd hs => ?_, fun b hb => .inl (e.pw b hb), fun b hb => ⟨fun z => z.elim (e.bw b hb).1 fun y => (e.bw b hb).2 (by rw [y]; exact hx), k.live b (e.bw b hb).2⟩, Tabs.kp e.tb k⟩
  · rcases at' hd with ⟨n, h1, h2⟩ | ⟨rfl, rfl, h2⟩
    · obtain ⟨v, g1, g2⟩ := e.sl i dd h1
      refine ⟨v, h2.trans g1, ?_⟩
      rw [kne n]
      exact slr_step k (fun _ z => z.elim) (plus_ok hx) (fun _ z => .inl z) (fun _ _ z => z) (fun _ _ _ z => z) g2
    · refine ⟨_, h2, ?_⟩
      rw [keq]
      exact ⟨x, rfl, .inr rfl, hm⟩
  · rcases at' hi with ⟨n1, h1, h2⟩ | ⟨n1, rfl, h2⟩
    · rcases at' hj with ⟨n2, g1, g2⟩ | ⟨n2, rfl, g2⟩
      · rw [kne n1] at oi
        rw [kne n2] at oj
        exact e.dis i j a di dj hne oi oj h1 g1 (h2.symm.trans si) (g2.symm.trans sj)
      · rw [kne n1] at oi
        rw [g2] at sj
        cases sj
        exact nx oi h1 (h2.symm.trans si)
    · rcases at' hj with ⟨n2, g1, g2⟩ | ⟨n2, rfl, g2⟩
      · rw [kne n2] at oj
        rw [h2] at si
        cases si
        exact nx oj g1 (g2.symm.trans sj)
      · exact absurd (n1.trans n2.symm) hne
  · rcases hb with hb | rfl
    · exact k.live b (e.mt b hb)
    · intro z
      have := mrep_mut hm
      rw [z] at this
      exact this
  · rcases hb with hb | rfl
    · rw [mutO_keep k (fun z => z) (e.wl b hb)]
      exact e.wl b hb
    · exact mrep_mut hm
  · rcases at' hd with ⟨n, h1, h2⟩ | ⟨n, rfl, h2⟩
    · rw [kne n] at ho
      exact e.oc i a dd ho h1 (h2.symm.trans hs)
    · rw [h2] at hs
      cases hs
      exact fun z => e.mt x (e.wm x (e.pw x z)) hx
/-- back to the slots -/
theorem ER.unext {M W : Ads} {H : Hp} {δ : Dl} {σ : L2.St} {x : Addr} {d : Dv} (e : ER K ct (ks.more δ.length) (plus M x) (plus W x) H (δ ++ [some d]) (σ ++ [some (.ref x)])) (hl : σ.length = δ.length) (wm : ∀ a, W a → M a) (wl : ∀ a, ks.pc a → W a) (bw : ∀ a, ks.be a → ¬ W a) :
    ER K ct ks M W H δ σ ∧ mrep K ct (plus M x) H d x := by
  have kne : ∀ {i : Nat}, i ≠ δ.length → (ks.more δ.length) i = ks i := fun {i} h => if_neg h
  have keq : (ks.more δ.length) δ.length = .o := if_pos rfl
  have up : ∀ {i : Nat} {dd : Dv}, δ[i]? = some (some dd) → i ≠ δ.length ∧ (δ ++ [some d])[i]? = some (some dd) ∧ (σ ++ [some (.ref x)])[i]? = σ[i]? := fun {i dd} h => by
    have lt := (List.getElem?_eq_some_iff.mp h).1
    exact ⟨by omega, by rw [List.getElem?_append_left lt]; exact h, List.getElem?_append_left (by rw [hl]; exact lt)⟩
  have last : (δ ++ [some d])[δ.length]? = some (some d) := by rw [List.getElem?_append_right (Nat.le_refl _), Nat.sub_self]; rfl
  have lastσ : (σ ++ [some (V.ref x)])[δ.length]? = some (some (.ref x)) := by rw [← hl, List.getElem?_append_right (Nat.le_refl _), Nat.sub_self]; rfl
  refine ⟨⟨hl, fun i dd hd => ?_, fun i j a di dj hne oi oj hi hj si sj => ?_, wm, fun b hb => e.mt b (.inl hb), fun b hb => e.wl b (.inl hb), fun i a dd ho hd hs => ?_, wl, fun b hb => ⟨bw b hb, (e.bw b hb).2⟩, e.tb⟩, ?_⟩
  · obtain ⟨n, h1, h2⟩ := up hd
    obtain ⟨v, g1, g2⟩ := e.sl i dd h1
    rw [kne n] at g2
    rw [h2] at g1
    refine ⟨v, g1, ?_⟩
    have st : ∀ {W' : Ads}, slr K ct ks.be (plus M x) W' H (ks i) dd v → slr K ct ks.be M W' H (ks i) dd v := fun h => slr_step (S := fun _ => False) (Kp3.refl _ _) (fun _ z => z.elim) plus_less (fun _ z => z) (fun _ _ z => z) (fun _ _ _ z => z) h
    by_cases ow : (ks i).own = true
    · obtain ⟨a, rfl, hw, hm⟩ := slr_own ow g2
      refine slr_mk ow ⟨a, rfl, hw.resolve_right fun z => ?_, mrep_more (fun b hb => .inl hb) hm⟩
      subst z
      exact e.dis i δ.length a dd d n (by rw [kne n]; exact ow) (by rw [keq]; rfl) h1 last (h2.trans g1) lastσ
    · have g3 := st g2
      revert g3 ow
      cases ks i with
      | v => exact fun _ h => h
      | b => exact fun _ h => h
      | o => exact fun ow => absurd rfl ow
      | p => exact fun ow => absurd rfl ow
  · obtain ⟨n1, h1, h2⟩ := up hi
    obtain ⟨n2, g1, g2⟩ := up hj
    exact e.dis i j a di dj hne (by rw [kne n1]; exact oi) (by rw [kne n2]; exact oj) h1 g1 (h2.trans si) (g2.trans sj)
  · obtain ⟨n, h1, h2⟩ := up hd
    exact e.oc i a dd (by rw [kne n]; exact ho) h1 (h2.trans hs)
  · obtain ⟨v, g1, g2⟩ := e.sl δ.length d last
    rw [lastσ] at g1
    cases g1
    rw [keq] at g2
    obtain ⟨a, ea, _, hm⟩ := g2
    cases ea
    exact hm
end
end Dn

/-! Instances made; own operators. -/
namespace Dn
open PySem PySem.Spec PyProof.Rows L2 LamX Q
section
variable {K : PySem.W.Frag} {ct : Ct} {ks : Ky} {E : EX} {mr : Md} {X : Cx} {q q1 q2 : Bool} {m m1 m2 : Md} {e a b : Expr} {es : List Expr} {t ta tb : TE} {tl : TA} {d da db : Dl → Rs Dv} {dl : Dl → Rs (List Dv)} {pos : Pos} {M W : Ads} {H H1 : Hp} {δ : Dl} {σ : L2.St}
theorem sh_lt : ∀ {sh : Sh} {xs : List Dv} {vs : List V} {j i : Nat}, shR K ct M H σ sh xs vs → sh[j]? = some (some i) → i < σ.length
  | [], _, _, _, _, _, h => by simp at h
  | none :: sh, _, _, j, i, ⟨d, ds, x, ys, e1, e2, r, h⟩, hj => by
    cases j with
    | zero => simp at hj
    | succ j => exact sh_lt (j := j) h (by simpa using hj)
  | some l :: sh, _, _, j, i, ⟨x, ys, e1, e2, h⟩, hj => by
    cases j with
    | zero =>
      simp at hj
      subst hj
      exact (List.getElem?_eq_some_iff.mp e2).1
    | succ j => exact sh_lt (j := j) h (by simpa using hj)
theorem shR_ext {x : Addr} (s : Same H H1) (hx : H x = none) : ∀ {sh : Sh} {xs : List Dv} {vs : List V}, shR K ct M H σ sh xs vs → shR K ct (plus M x) H1 (σ ++ [some (.ref x)]) sh xs vs
  | [], _, _, h => h
  | none :: sh, _, _, ⟨d, ds, y, ys, e1, e2, r, h⟩ => ⟨d, ds, y, ys, e1, e2, rep_step (Kp3.same (S := fun _ => False) s) (fun _ z => z.elim) (plus_ok hx) r, shR_ext s hx h⟩
  | some i :: sh, _, _, ⟨y, ys, e1, e2, h⟩ => ⟨y, ys, e1, by rw [List.getElem?_append_left (List.getElem?_eq_some_iff.mp e2).1]; exact e2, shR_ext s hx h⟩
theorem fill_ext {o : Option Dv} : ∀ {sh : Sh} {xs ds : List Dv}, fill sh xs δ = some ds → fill sh xs (δ ++ [o]) = some ds
  | [], xs, ds, h => by
    cases xs with
    | nil => exact h
    | cons _ _ => cases h
  | none :: sh, xs, ds, h => by
    cases xs with
    | nil => cases h
    | cons x xs =>
      have h' : (fill sh xs δ).map (x :: ·) = some ds := h
      cases hg : fill sh xs δ with
      | none => rw [hg] at h'; cases h'
      | some gs =>
        rw [hg] at h'
        cases h'
        show (fill sh xs (δ ++ [o])).map (x :: ·) = _
        rw [fill_ext hg]
        rfl
  | some i :: sh, xs, ds, h => by
    unfold fill at h
    split at h
    · rename_i d hd
      cases hg : fill sh xs δ with
      | none => rw [hg] at h; cases h
      | some gs =>
        rw [hg] at h
        cases h
        unfold fill
        rw [List.getElem?_append_left (List.getElem?_eq_some_iff.mp hd).1, hd]
        show (fill sh xs (δ ++ [o])).map (d :: ·) = _
        rw [fill_ext hg]
        rfl
    · cases h
theorem upSl_ext {o : Option Dv} : ∀ {kds : List Kd} {sh : Sh} {δc δ : Dl}, (∀ (j i : Nat), sh[j]? = some (some i) → i < δ.length) → upSl kds sh δc (δ ++ [o]) = upSl kds sh δc δ ++ [o] := by
  intro kds
  induction kds with
  | nil => intro sh δc δ _; simp [upSl]
  | cons k kds ih =>
    intro sh δc δ h
    cases sh with
    | nil => cases k <;> simp [upSl]
    | cons s sh =>
      have hs : ∀ (j i : Nat), sh[j]? = some (some i) → i < δ.length := fun j i hj => h (j + 1) i (by simpa using hj)
      cases δc with
      | nil => cases k <;> cases s <;> simp [upSl]
      | cons c δc =>
        cases k with
        | p =>
          cases s with
          | none => exact ih hs
          | some i =>
            have hi := h 0 i rfl
            show upSl kds sh δc ((δ ++ [o]).set i c) = upSl kds sh δc (δ.set i c) ++ [o]
            rw [List.set_append_left _ _ hi]
            exact ih fun j l hj => by rw [List.length_set]; exact hs j l hj
        | v => exact ih hs
        | b => exact ih hs
        | o => exact ih hs
theorem OkSh.more {kds : List Kd} {sh : Sh} {L : Nat} (ok : OkSh kds ks sh) (h : ∀ (j i : Nat), sh[j]? = some (some i) → i < L) : OkSh (.p :: kds) (ks.more L) (some L :: sh) := by
  obtain ⟨hl, hk⟩ := ok
  have kne : ∀ {i : Nat}, i ≠ L → (ks.more L) i = ks i := fun {i} h => if_neg h
  refine ⟨by rw [List.length_cons, List.length_cons, hl], fun j k s hj hs => ?_⟩
  cases j with
  | zero =>
    simp at hj hs
    subst hj hs
    refine .inr (.inr (.inr ⟨L, rfl, rfl, by rw [show (ks.more L) L = .o from if_pos rfl]; rfl, fun l m hne h1 h2 => ?_⟩))
    cases l with
    | zero => exact absurd rfl hne
    | succ l => exact Nat.ne_of_gt (h l m (by simpa using h2))
  | succ j =>
    have hj' : kds[j]? = some k := by simpa using hj
    have hs' : sh[j]? = some s := by simpa using hs
    rcases hk j k s hj' hs' with z | z | ⟨i, e1, e2, ne⟩ | ⟨i, e1, e2, ow, ne⟩
    · exact .inl z
    · exact .inr (.inl z)
    · subst e1 e2
      refine .inr (.inr (.inl ⟨i, rfl, rfl, fun l m h1 h2 => ?_⟩))
      cases l with
      | zero =>
        simp at h2
        subst h2
        exact Nat.ne_of_lt (h j i hs')
      | succ l => exact ne l m (by simpa using h1) (by simpa using h2)
    · subst e1 e2
      have hi := Nat.ne_of_lt (h j i hs')
      refine .inr (.inr (.inr ⟨i, rfl, rfl, by rw [kne hi]; exact ow, fun l m hne h1 h2 => ?_⟩))
      cases l with
      | zero =>
        simp at h2
        subst h2
        exact hi
      | succ l => exact ne l m (fun z => hne (by rw [z])) (by simpa using h1) (by simpa using h2)
theorem dx_mk {c : Str} {C : Addr} {kds : List Kd} {sh : Sh} {df : List Dv → Rs Dv} {ex : Expr} (hC : ct c = C) (ok : okSh kds ks sh = true) (h : DR K ct ks E q sh X es tl dl) (hP : PE X ex (tMake C (spD K ct (.p :: kds) .v df) [] E tl)) :
    DX K ct ks E false .v X ex (tMake C (spD K ct (.p :: kds) .v df) [] E tl) (cMk c kds sh df dl) := ⟨hP, fun M W H δ σ er => by
  subst hC
  refine Ev2.bind ((h.ev M W H δ σ er).weak fun z hz => ⟨rfl, hz.2⟩) (fun _ h => h) (fun _ _ _ _ _ k h => re_anti k h) fun xs δ1 vs H1 k1 e1 r1 => ?_
  cases hf : fill sh xs δ1 with
  | none => exact Ev2.stuck
  | some ds =>
    intro Q p x dx hx hd ne
    have s1 : Same H1 (upd H1 dx (.own x)) := Same.new hd
    have s2 : Same (upd H1 dx (.own x)) (upd (upd H1 dx (.own x)) x (.ins (ct c) dx [])) := Same.new (by rw [upd_ne (Ne.symm ne)]; exact hx)
    have sm := s1.trans s2
    have hm0 : mrep K ct (plus M x) (upd (upd H1 dx (.own x)) x (.ins (ct c) dx [])) (.obj c [] []) x := .inr ⟨c, [], [], dx, [], rfl, rfl, by rw [upd_same]; rfl, reps_nil⟩
    have ex' := e1.ext sm hx hm0
    have lt : ∀ (j i : Nat), sh[j]? = some (some i) → i < δ1.length := fun j i hj => by rw [← e1.len]; exact sh_lt r1 hj
    have ok' := (okSh_at ok).more lt
    have hr' : shR K ct (plus M x) (upd (upd H1 dx (.own x)) x (.ins (ct c) dx [])) (σ ++ [some (.ref x)]) (some δ1.length :: sh) xs (.ref x :: vs) :=
      ⟨.ref x, vs, rfl, by rw [← e1.len, List.getElem?_append_right (Nat.le_refl _), Nat.sub_self]; rfl, shR_ext sm hx r1⟩
    have hf' : fill (some δ1.length :: sh) xs (δ1 ++ [some (Dv.obj c [] [])]) = some (.obj c [] [] :: ds) := by
      unfold fill
      rw [List.getElem?_append_right (Nat.le_refl _), Nat.sub_self]
      show (fill sh xs (δ1 ++ [some (Dv.obj c [] [])])).map (Dv.obj c [] [] :: ·) = _
      rw [fill_ext hf]
      rfl
    rw [List.append_nil]
    refine ev_fn (df := df) ex' ok' (by decide) hr' hf' _ ?_
    have p' : Pst K ct ks E (rmE K ct .v) (Wq false W) M W H1 σ Q (mkEnd kds sh δ1 (df (.obj c [] [] :: ds))) := p
    have kback : ∀ {H' : Hp}, Kp3 (Ct.tabs ct) (Wq (nop (.p :: kds)) (plus W x)) (upd (upd H1 dx (.own x)) x (.ins (ct c) dx [])) H' → Kp3 (Ct.tabs ct) W H1 H' := fun {H'} k =>
      ⟨fun a o h n t => k.keep a o (sm a o h) (fun z => z.2.elim n fun y => by rw [y, hx] at h; cases h) t, fun a h => k.live a (Same.live sm h), fun h => k.tabs fun p hp => TabS.ext (h p hp) sm⟩
    have uns : ∀ {H' : Hp} {δc' : Dl} {d0 : Dv}, ER K ct (ks.more δ1.length) (plus M x) (plus W x) H' (upSl kds sh δc' (δ1 ++ [some d0])) (σ ++ [some (.ref x)]) → ER K ct ks M W H' (upSl kds sh δc' δ1) σ ∧ mrep K ct (plus M x) H' d0 x := fun {H' δc' d0} e => by
      rw [upSl_ext lt] at e
      have hl := upSl_len kds sh δc' δ1
      rw [← hl] at e
      exact e.unext (by rw [hl]; exact e1.len) e1.wm e1.pw fun a hb => (e1.bw a hb).1
    have setL : ∀ {d0 : Dv}, (δ1 ++ [some (Dv.obj c [] [])]).set δ1.length (some d0) = δ1 ++ [some d0] := fun {d0} => by
      rw [List.set_append_right _ _ (Nat.le_refl _), Nat.sub_self]
      rfl
    cases hdf : df (.obj c [] [] :: ds) with
    | stuck => rw [hdf] at p'; exact p'.elim
    | exc c2 ns fs δc =>
      rw [hdf] at p'
      cases δc with
      | nil => exact p'.elim
      | cons c0 δc' =>
        cases c0 with
        | none => exact p'.elim
        | some d0 =>
          intro xd H' k e rr
          have e' : ER K ct (ks.more δ1.length) (plus M x) (plus W x) H' (upSl kds sh δc' ((δ1 ++ [some (Dv.obj c [] [])]).set δ1.length (some d0))) (σ ++ [some (.ref x)]) := e
          rw [setL] at e'
          have rr' : ExR K ct M H' ns fs xd := rr.imp id fun ⟨a, vs, h1, h2, h3⟩ => ⟨a, vs, h1, h2, reps_less h3⟩
          exact p' xd H' ((kback k).mono fun a z => ⟨rfl, z⟩) (uns e').1 rr'
    | ok r δc =>
      rw [hdf] at p'
      cases r with
      | non =>
        cases δc with
        | nil => exact p'.elim
        | cons c0 δc' =>
          cases c0 with
          | none => exact p'.elim
          | some d0 =>
            cases d0 with
            | obj c' ns fs =>
              intro v H' k e rr
              have e' : ER K ct (ks.more δ1.length) (plus M x) (plus W x) H' (upSl kds sh δc' ((δ1 ++ [some (Dv.obj c [] [])]).set δ1.length (some (Dv.obj c' ns fs)))) (σ ++ [some (.ref x)]) := e
              rw [setL] at e'
              obtain ⟨e2, hm2⟩ := uns e'
              refine ⟨(rep_non (K := K) (ct := ct) (M := plus M x) (H := H')).mp rr.1, p' (.ref x) H' ((kback k).mono fun a z => ⟨rfl, z⟩) e2 (re_v ?_)⟩
              rcases hm2 with ⟨_, _, e, _⟩ | ⟨c3, ns3, es3, dx3, ys, e, _, h3, h4⟩
              · cases e
              · cases e
                exact rep_obj.mpr ⟨x, dx3, ys, rfl, fun z => e1.mt x z hx, h3, reps_less h4⟩
            | non => exact p'.elim
            | bl _ => exact p'.elim
            | int _ => exact p'.elim
            | str _ => exact p'.elim
            | tup _ => exact p'.elim
            | lst _ => exact p'.elim
      | bl _ => exact p'.elim
      | int _ => exact p'.elim
      | str _ => exact p'.elim
      | tup _ => exact p'.elim
      | lst _ => exact p'.elim
      | obj _ _ _ => exact p'.elim⟩
end
end Dn

/-! zip, enumerate; isinstance; own operators. -/
namespace Dn
open PySem PySem.Spec PyProof.Rows L2 LamX Q
def zip2D : List Dv → List Dv → List Dv
  | x :: xs, y :: ys => .tup [x, y] :: zip2D xs ys
  | _, _ => []
def zip3D : List Dv → List Dv → List Dv → List Dv
  | x :: xs, y :: ys, z :: zs => .tup [x, y, z] :: zip3D xs ys zs
  | _, _, _ => []
def enumD : Nat → List Dv → List Dv
  | n, x :: xs => .tup [.int (n : Nat), x] :: enumD (n + 1) xs
  | _, [] => []
theorem zip2D_len : ∀ xs ys : List Dv, (zip2D xs ys).length = min xs.length ys.length
  | x :: xs, y :: ys => by
    show (zip2D xs ys).length + 1 = min (xs.length + 1) (ys.length + 1)
    rw [zip2D_len xs ys]
    omega
  | [], ys => by simp [zip2D]
  | x :: xs, [] => by simp [zip2D]
theorem zip2D_at : ∀ {xs ys : List Dv} {i : Nat} {d : Dv}, (zip2D xs ys)[i]? = some d → ∃ x y, xs[i]? = some x ∧ ys[i]? = some y ∧ d = .tup [x, y]
  | x :: xs, y :: ys, 0, d, h => by
    have h' : some (Dv.tup [x, y]) = some d := h
    cases h'
    exact ⟨x, y, rfl, rfl, rfl⟩
  | x :: xs, y :: ys, i + 1, d, h => by
    obtain ⟨a, b, h1, h2, h3⟩ := zip2D_at (xs := xs) (ys := ys) (i := i) h
    exact ⟨a, b, h1, h2, h3⟩
  | [], ys, i, d, h => by simp [zip2D] at h
  | x :: xs, [], i, d, h => by simp [zip2D] at h
theorem zip3D_len : ∀ {xs ys zs : List Dv}, ys.length = xs.length → zs.length = xs.length → (zip3D xs ys zs).length = xs.length
  | x :: xs, y :: ys, z :: zs, h1, h2 => by
    show (zip3D xs ys zs).length + 1 = xs.length + 1
    rw [zip3D_len (by simpa using h1) (by simpa using h2)]
  | [], ys, zs, _, _ => by simp [zip3D]
  | x :: xs, [], _, h, _ => by simp at h
  | x :: xs, y :: ys, [], _, h => by simp at h
theorem zip3D_at : ∀ {xs ys zs : List Dv} {i : Nat} {d : Dv}, (zip3D xs ys zs)[i]? = some d → ∃ x y z, xs[i]? = some x ∧ ys[i]? = some y ∧ zs[i]? = some z ∧ d = .tup [x, y, z]
  | x :: xs, y :: ys, z :: zs, 0, d, h => by
    have h' : some (Dv.tup [x, y, z]) = some d := h
    cases h'
    exact ⟨x, y, z, rfl, rfl, rfl, rfl⟩
  | x :: xs, y :: ys, z :: zs, i + 1, d, h => by
    obtain ⟨a, b, c, h1, h2, h3, h4⟩ := zip3D_at (xs := xs) (ys := ys) (zs := zs) (i := i) h
    exact ⟨a, b, c, h1, h2, h3, h4⟩
  | [], ys, zs, i, d, h => by simp [zip3D] at h
  | x :: xs, [], zs, i, d, h => by simp [zip3D] at h
  | x :: xs, y :: ys, [], i, d, h => by simp [zip3D] at h
theorem enumD_len : ∀ (n : Nat) (xs : List Dv), (enumD n xs).length = xs.length
  | _, [] => rfl
  | n, x :: xs => by
    show (enumD (n + 1) xs).length + 1 = _
    rw [enumD_len (n + 1) xs]
    rfl
theorem enumD_at : ∀ {n : Nat} {xs : List Dv} {i : Nat} {d : Dv}, (enumD n xs)[i]? = some d → ∃ x, xs[i]? = some x ∧ d = .tup [.int ((n + i : Nat) : Int), x]
  | n, x :: xs, 0, d, h => by
    have h' : some (Dv.tup [.int (n : Nat), x]) = some d := h
    cases h'
    exact ⟨x, rfl, rfl⟩
  | n, x :: xs, i + 1, d, h => by
    obtain ⟨a, h1, h2⟩ := enumD_at (n := n + 1) (xs := xs) (i := i) h
    exact ⟨a, h1, by rw [h2, show n + 1 + i = n + (i + 1) by omega]⟩
  | n, [], i, d, h => by simp [enumD] at h
section
variable {K : PySem.W.Frag} {ct : Ct} {ks : Ky} {E : EX} {mr : Md} {X : Cx} {q q1 q2 : Bool} {m m1 m2 : Md} {e a b : Expr} {es : List Expr} {t ta tb : TE} {tl : TA} {d da db : Dl → Rs Dv} {dl : Dl → Rs (List Dv)} {pos : Pos} {M W : Ads} {H H1 : Hp} {δ : Dl} {σ : L2.St}
theorem stay_q {M W : Ads} {b : Bool} {a : Addr} {xs : List V} (st : Stay3 (Ct.tabs ct) K M W H b a xs) : Sq b K H a xs := st (fun _ => False) H (fun _ z => z.elim) (Kp3.refl _ _)
theorem new_of {M1 : Ads} {T : Addr} {ds : List Dv} {xs : List V} (mt : ∀ a, M1 a → H a ≠ none) (hT : H T = none) (r : reps K ct M1 H ds xs) : Same H (upd H T (.tup xs)) ∧ rep K ct M1 (upd H T (.tup xs)) (.tup ds) (.ref T) := ⟨Same.new hT, new_tup mt hT r⟩
/-! zip of three -/
def fZip3 : List Dv → Option (List Dv)
  | [x, y, z] => match seqOf x, seqOf y, seqOf z with
    | some xs, some ys, some zs => if ys.length = xs.length ∧ zs.length = xs.length then some (zip3D xs ys zs) else none
    | _, _, _ => none
  | _ => none
theorem fZip3_some {l ds : List Dv} (h : fZip3 l = some ds) : ∃ x y z xs ys zs, l = [x, y, z] ∧ seqOf x = some xs ∧ seqOf y = some ys ∧ seqOf z = some zs ∧ ys.length = xs.length ∧ zs.length = xs.length ∧ ds = zip3D xs ys zs := by
  unfold fZip3 at h
  split at h
  · split at h
    · split at h
      · rename_i hl
        cases h
        exact ⟨_, _, _, _, _, _, rfl, by assumption, by assumption, by assumption, hl.1, hl.2, rfl⟩
      · cases h
    · cases h
  · cases h
theorem pi_zip3K {elts : List Expr} {kk : Nat} {e e2 e3 : Expr} {ta : TA} {p pos tpos : Pos} (hK : X.K = K) (h : PI X (.Tuple elts kk tpos) (.Call (.Name "zip" p) [e, e2, e3] [] pos) (iZip3 X.K ta)) : PI X (.Tuple elts kk tpos) (.Call (.Name "zip" p) [e, e2, e3] [] pos) (iZip3 K ta) := by
  subst hK
  exact h
theorem di_zip3 {tg iter : Expr} (hP : PI X tg iter (iZip3 K tl)) (ha : DA K ct ks E q false X es tl dl) : DI K ct ks E q X tg iter (iZip3 K tl) (cIt fZip3 dl) := ⟨hP, fun M W H δ σ er => by
  refine Ev2.bind (ha.ev M W H δ σ er) (fun _ h => h) (fun _ _ _ _ _ _ h => h) fun l δ1 us H1 k1 e1 r1 => ?_
  cases hx : fZip3 l with
  | none => exact Ev2.stuck
  | some ds =>
    obtain ⟨x, y, z, xs, ys, zs, rfl, hxs, hys, hzs, l1, l2, rfl⟩ := fZip3_some hx
    have r2 : reps K ct M H1 [x, y, z] us := r1
    obtain ⟨u1, us1, rfl, g1, r3⟩ := reps_inv r2
    obtain ⟨u2, us2, rfl, g2, r4⟩ := reps_inv r3
    obtain ⟨u3, us3, rfl, g3, r5⟩ := reps_inv r4
    cases reps_inv0 r5
    obtain ⟨b1, a1, vs1, rfl, s1, h1⟩ := stay_v e1.wm g1 hxs
    obtain ⟨b2, a2, vs2, rfl, s2, h2⟩ := stay_v e1.wm g2 hys
    obtain ⟨b3, a3, vs3, rfl, s3, h3⟩ := stay_v e1.wm g3 hzs
    have n1 := reps_len h1
    have n2 := reps_len h2
    have n3 := reps_len h3
    refine Ev2.ret fun Q p => ⟨b1, b2, b3, a1, a2, a3, vs1, vs2, vs3, rfl, (stay_q s1), (stay_q s2), (stay_q s3), p _ H1 (Kp3.refl _ _) e1 ⟨fun H => Sq b1 K H a1 vs1 ∧ Sq b2 K H a2 vs2 ∧ Sq b3 K H a3 vs3, Y3 vs1 vs2 vs3, ?_, fun M1 S H2 hs k hm mt => ⟨⟨s1 S H2 hs k, s2 S H2 hs k, s3 S H2 hs k⟩, fun i v H3 dd hd y => ?_⟩⟩⟩
    · rw [zip3D_len l1 l2, ← n1]
      exact walk_zip3 (by omega) (by omega)
    · obtain ⟨T, v1, v2, v3, rfl, hT, rfl, w1, w2, w3⟩ := y
      obtain ⟨d1, d2, d3, c1, c2, c3, rfl⟩ := zip3D_at hd
      have sb := fun a z => (hs a z).imp (e1.wm a) id
      obtain ⟨v1', f1, q1⟩ := reps_get (reps_step k sb hm h1) c1
      obtain ⟨v2', f2, q2⟩ := reps_get (reps_step k sb hm h2) c2
      obtain ⟨v3', f3, q3⟩ := reps_get (reps_step k sb hm h3) c3
      rw [w1] at f1
      rw [w2] at f2
      rw [w3] at f3
      cases f1
      cases f2
      cases f3
      exact new_of mt hT (reps_cons q1 (reps_cons q2 (reps_cons q3 reps_nil)))⟩
/-! zip of two lists, of two tuples -/
def fZip2 : List Dv → Option (List Dv)
  | [.lst xs, .lst ys] => some (zip2D xs ys)
  | [.tup xs, .tup ys] => if ys.length = xs.length then some (zip2D xs ys) else none
  | _ => none
theorem fZip2_some {l ds : List Dv} (h : fZip2 l = some ds) : (∃ xs ys, l = [.lst xs, .lst ys] ∧ ds = zip2D xs ys) ∨ ∃ xs ys, l = [.tup xs, .tup ys] ∧ ys.length = xs.length ∧ ds = zip2D xs ys := by
  unfold fZip2 at h
  split at h
  · cases h
    exact .inl ⟨_, _, rfl, rfl⟩
  · split at h
    · cases h
      exact .inr ⟨_, _, rfl, by assumption, rfl⟩
    · cases h
  · cases h
theorem pair_at {i : Nat} {xs ys : List Dv} {vs1 vs2 : List V} {dd : Dv} {M1 M W S : Ads} {H1 H2 H3 : Hp} {v : V} (mt : ∀ a, M1 a → H2 a ≠ none) (g1 : reps K ct M1 H2 xs vs1) (g2 : reps K ct M1 H2 ys vs2) (hd : (zip2D xs ys)[i]? = some dd)
    (y : YPair (fun i => vs1[i]?) (fun i => vs2[i]?) i H2 v H3) : Same H2 H3 ∧ rep K ct M1 H3 dd v := by
  obtain ⟨T, v1, v2, rfl, hT, rfl, w1, w2⟩ := y
  obtain ⟨d1, d2, c1, c2, rfl⟩ := zip2D_at hd
  obtain ⟨v1', f1, q1⟩ := reps_get g1 c1
  obtain ⟨v2', f2, q2⟩ := reps_get g2 c2
  have w1' : vs1[i]? = some v1 := w1
  have w2' : vs2[i]? = some v2 := w2
  rw [w1'] at f1
  rw [w2'] at f2
  cases f1
  cases f2
  exact new_of mt hT (reps_cons q1 (reps_cons q2 reps_nil))
theorem di_zip2 {tg iter : Expr} (hP : PI X tg iter (RZ.iZipA K tl)) (ha : DA K ct ks E q false X es tl dl) : DI K ct ks E q X tg iter (RZ.iZipA K tl) (cIt fZip2 dl) := ⟨hP, fun M W H δ σ er => by
  refine Ev2.bind (ha.ev M W H δ σ er) (fun _ h => h) (fun _ _ _ _ _ _ h => h) fun l δ1 us H1 k1 e1 r1 => ?_
  cases hx : fZip2 l with
  | none => exact Ev2.stuck
  | some ds =>
    have r2 : reps K ct M H1 l us := r1
    refine Ev2.ret fun Q p => ?_
    rcases fZip2_some hx with ⟨xs, ys, rfl, rfl⟩ | ⟨xs, ys, rfl, hl, rfl⟩
    · obtain ⟨u1, us1, rfl, g1, r3⟩ := reps_inv r2
      obtain ⟨u2, us2, rfl, g2, r4⟩ := reps_inv r3
      cases reps_inv0 r4
      have lp : ∀ {es : List Dv} {u : V}, rep K ct M H1 (.lst es) u → ∃ a vs, u = .ref a ∧ Stay3 (Ct.tabs ct) K M W H1 true a vs ∧ reps K ct M H1 es vs := fun {es u} g => by
        obtain ⟨a, vs, rfl, s, r⟩ := rep_lst.mp g
        refine ⟨a, vs, rfl, fun S H2 hs k => ?_, r⟩
        rcases s with ⟨n, s⟩ | s
        · exact .inl (k.rd s (fun z => (hs a z).elim (fun y => n (e1.wm a y)) fun y => Rd.live s y) fun _ z => by cases z)
        · exact .inr s
      obtain ⟨a1, vs1', rfl, st1, h1'⟩ := lp g1
      obtain ⟨a2, vs2', rfl, st2, h2'⟩ := lp g2
      refine ⟨a1, a2, vs1', vs2', rfl, .inl ⟨(stay_q st1), (stay_q st2), p _ H1 (Kp3.refl _ _) e1 ⟨fun H => SqL K H a1 vs1' ∧ SqL K H a2 vs2', YPair (fun i => vs1'[i]?) (fun i => vs2'[i]?), ?_, fun M1 S H2 hs k hm mt => ⟨⟨st1 S H2 hs k, st2 S H2 hs k⟩, fun i v H3 dd hd y => ?_⟩⟩⟩⟩
      · rw [zip2D_len]
        exact walk_zip (by rw [reps_len h1', reps_len h2'])
      · have sb := fun a z => (hs a z).imp (e1.wm a) id
        exact pair_at (M := M) (W := W) (S := S) (H1 := H1) mt (reps_step k sb hm h1') (reps_step k sb hm h2') hd y
    · obtain ⟨u1, us1, rfl, g1, r3⟩ := reps_inv r2
      obtain ⟨u2, us2, rfl, g2, r4⟩ := reps_inv r3
      cases reps_inv0 r4
      have tp : ∀ {es : List Dv} {u : V}, rep K ct M H1 (.tup es) u → ∃ a vs, u = .ref a ∧ Stay3 (Ct.tabs ct) K M W H1 false a vs ∧ reps K ct M H1 es vs := fun {es u} g => by
        obtain ⟨a, vs, rfl, s, r⟩ := rep_tup.mp g
        refine ⟨a, vs, rfl, fun S H2 hs k => ?_, r⟩
        rcases s with ⟨n, s⟩ | s
        · exact .inl (k.rd s (fun z => (hs a z).elim (fun y => n (e1.wm a y)) fun y => Rd.live s y) fun _ z => by cases z)
        · exact .inr s
      obtain ⟨a1, vs1, rfl, s1, h1⟩ := tp g1
      obtain ⟨a2, vs2, rfl, s2, h2⟩ := tp g2
      have n1 := reps_len h1
      have n2 := reps_len h2
      refine ⟨a1, a2, vs1, vs2, rfl, .inr ⟨(stay_q s1), (stay_q s2), p _ H1 (Kp3.refl _ _) e1 ⟨fun H => SqT K H a1 vs1 ∧ SqT K H a2 vs2, YPair (fun i => vs1[i]?) (fun i => vs2[i]?), ?_, fun M1 S H2 hs k hm mt => ⟨⟨s1 S H2 hs k, s2 S H2 hs k⟩, fun i v H3 dd hd y => ?_⟩⟩⟩⟩
      · rw [zip2D_len, hl, Nat.min_self, ← n1]
        exact walk_zipT (by omega)
      · have sb := fun a z => (hs a z).imp (e1.wm a) id
        exact pair_at (M := M) (W := W) (S := S) (H1 := H1) mt (reps_step k sb hm h1) (reps_step k sb hm h2) hd y⟩
/-! enumerate -/
def iEnA (K : PySem.W.Frag) (ta : TA) : TI := fun σ H R => ta σ H fun vs G => ∃ b a xs, vs = [.ref a] ∧ Sq b K G a xs ∧ R (ItN K b a) G
theorem pi_enA {e : Expr} {ta : TA} {p pos tpos : Pos} {elts : List Expr} {kk : Nat} (hK : X.K = K) (hg : Gl X "enumerate") (hm : X.mg "enumerate" = none) (ha : PA X [e] ta) (hs : starEach [e] X.env = [(false, eval e X.env)] := by rfl) :
    PI X (.Tuple elts kk tpos) (.Call (.Name "enumerate" p) [e] [] pos) (iEnA K ta) := by
  subst hK
  refine ⟨fun pins s σ H R I h => ?_⟩
  refine Call_ (ld_blt I hg hm boot_enumerate (PyProof.Rows.callWith_type1 (thn (ha.run pos pins s σ H _ I h) fun us s1 hh => ?_) hs rfl))
  obtain ⟨vs, G, I1, r1, b, a, xs, ex, hq, q⟩ := hh
  subst ex
  cases r1 with
  | cons r rr =>
    cases rr
    cases r
    obtain ⟨its, rv, p', lt⟩ := sqr_of I1 hq
    refine call_enumB p' fun h' he hit hk => wpAny_pyIter_enum he ?_
    have I2 : Inv X pins σ G { s1 with heap := h' } := I1.kept (t' := s1.toks) hk
    refine ⟨s1.heap.objs.size + 1, [s1.heap.objs.size + 1, s1.heap.objs.size], _, _, G, rfl, I2, turn_enumB a s1.heap.objs.size lt, ⟨⟨.none, he⟩, hit⟩, fun c hc => ?_, q⟩
    have hle : s1.heap.objs.size ≤ c := by
      have e' : c = s1.heap.objs.size + 1 ∨ c = s1.heap.objs.size := by simpa using hc
      rcases e' with z | z <;> (rw [z]; first | exact Nat.le_add_right _ _ | exact Nat.le_refl _)
    exact I1.fpOk hle (I1.hok.fresh hle)
def fEnum : List Dv → Option (List Dv)
  | [x] => (seqOf x).map (enumD 0)
  | _ => none
theorem di_enum {tg iter : Expr} (hP : PI X tg iter (iEnA K tl)) (ha : DA K ct ks E q false X es tl dl) : DI K ct ks E q X tg iter (iEnA K tl) (cIt fEnum dl) := ⟨hP, fun M W H δ σ er => by
  refine Ev2.bind (ha.ev M W H δ σ er) (fun _ h => h) (fun _ _ _ _ _ _ h => h) fun l δ1 us H1 k1 e1 r1 => ?_
  cases l with
  | nil => exact Ev2.stuck
  | cons x l =>
    cases l with
    | cons _ _ => exact Ev2.stuck
    | nil =>
      show Ev2 K ct ks E _ _ M W H1 σ _ (opt ((seqOf x).map (enumD 0)) δ1)
      cases hx : seqOf x with
      | none => exact Ev2.stuck
      | some xs =>
        have r2 : reps K ct M H1 [x] us := r1
        obtain ⟨u1, us1, rfl, g1, r3⟩ := reps_inv r2
        cases reps_inv0 r3
        obtain ⟨b1, a1, vs1, rfl, s1, h1⟩ := stay_v e1.wm g1 hx
        refine Ev2.ret fun Q p => ⟨b1, a1, vs1, rfl, (stay_q s1), p _ H1 (Kp3.refl _ _) e1 ⟨fun H => Sq b1 K H a1 vs1, YPair (fun i => some (.int (i : Nat))) (fun i => vs1[i]?), ?_, fun M1 S H2 hs k hm mt => ⟨s1 S H2 hs k, fun i v H3 dd hd y => ?_⟩⟩⟩
        · rw [enumD_len, ← reps_len h1]
          exact walk_enB
        · obtain ⟨T, v1, v2, rfl, hT, rfl, w1, w2⟩ := y
          obtain ⟨d1, c1, rfl⟩ := enumD_at hd
          have sb := fun a z => (hs a z).imp (e1.wm a) id
          obtain ⟨v1', f1, q1⟩ := reps_get (reps_step k sb hm h1) c1
          have w2' : vs1[i]? = some v2 := w2
          rw [w2'] at f1
          cases f1
          have w1' : some (V.int (i : Nat)) = some v1 := w1
          cases w1'
          rw [Nat.zero_add]
          exact new_of mt hT (reps_cons ((rep_int (K := K) (ct := ct) (M := M1) (H := H2)).mpr rfl) (reps_cons q1 reps_nil))⟩
/-! isinstance of an instance and an own class -/
def IsT (K : PySem.W.Frag) (ct : Ct) (okI : Str → Str → Option Bool) : Prop := ∀ c' c b, okI c' c = some b → OwnC K (ct c') ∧ PySem.W.kitOne K (.ref (ct c')) (.ref (ct c)) = some b
def fIs (okI : Str → Str → Option Bool) (c : Str) : Dv → Option Dv
  | .obj c' _ _ => (okI c' c).map .bl
  | _ => none
theorem call_isiC (hK : X.K = K) : CallR X (.builtin "isinstance") (rIsi K) := by
  subst hK
  exact call_isi
theorem dx_is {okI : Str → Str → Option Bool} (T : IsT K ct okI) {c : Str} {C : Addr} {ex : Expr} (hC : ct c = C) (he : DX K ct ks E q m X e t d) (hP : PE X ex (tCB (rIsi K) (tCons t (tCons (tC (.ref C)) tNil)))) :
    DX K ct ks E q .v X ex (tCB (rIsi K) (tCons t (tCons (tC (.ref C)) tNil))) (cUn (fIs okI c) d) := ⟨hP, fun M W H δ σ er => by
  subst hC
  refine Ev2.bind (he.ev M W H δ σ er) (fun _ h => h) (fun _ _ _ _ _ k h => re_anti k h) fun x δ1 u H1 k1 e1 r1 => ?_
  refine ev_opt e1 fun dd hd Q p => ?_
  cases x with
  | obj c' ns ds =>
    have hd' : (okI c' c).map Dv.bl = some dd := hd
    cases hk : okI c' c with
    | none => rw [hk] at hd'; cases hd'
    | some b =>
      rw [hk] at hd'
      cases hd'
      obtain ⟨o, kk⟩ := T c' c b hk
      obtain ⟨a, dx, xs, rfl, ha, hr⟩ := repb_obj (rm_b er.mt r1.1)
      exact ⟨.ref a, .ref (ct c), _, _, b, rfl, .own (ct c), .base (.ins ha o.cl o.ha o.hn o.htk o.hm), kk, p _ H1 (Same.refl _) rm_bl⟩
  | non => cases hd
  | bl _ => cases hd
  | int _ => cases hd
  | str _ => cases hd
  | tup _ => cases hd
  | lst _ => cases hd⟩
/-! == and in by an own def -/
def blOut (g : Bool → Bool) : Rs Dv → Dl → Rs Dv
  | .ok (.bl b) _, δ => .ok (.bl (g b)) δ
  | _, _ => .stuck
def isObjOf (c : Str) : Dv → Bool
  | .obj c' _ _ => decide (c' = c)
  | _ => false
def cOwn (c : Str) (df : List Dv → Rs Dv) (g : Bool → Bool) (a b : Dl → Rs Dv) : Dl → Rs Dv := fun δ => bnd (a δ) fun x δ1 => bnd (b δ1) fun y δ2 => if isObjOf c x = true ∧ isObjOf c y = true then blOut g (df [x, y]) δ2 else .stuck
def cInO (c : Str) (df : List Dv → Rs Dv) (a b : Dl → Rs Dv) : Dl → Rs Dv := fun δ => bnd (a δ) fun x δ1 => bnd (b δ1) fun y δ2 => if isObjOf c y = true then blOut id (df [y, x]) δ2 else .stuck
theorem isObjOf_some {c : Str} {d : Dv} (h : isObjOf c d = true) : ∃ ns ds, d = .obj c ns ds := by
  cases d with
  | obj c' ns ds =>
    cases of_decide_eq_true h
    exact ⟨ns, ds, rfl⟩
  | non => cases h
  | bl _ => cases h
  | int _ => cases h
  | str _ => cases h
  | tup _ => cases h
  | lst _ => cases h
theorem okvv : OkSh [.v, .v] ks [none, none] := okSh_at (by rfl)
/-- two values given to a promise that answers with a bool -/
theorem ev_own2 {df : List Dv → Rs Dv} {g : Bool → Bool} {x y : Dv} {u v : V} (e1 : ER K ct ks M W H δ σ) (hx : rep K ct M H x u) (hy : rep K ct M H y v) :
    Ev2 K ct ks E (rmE K ct .v) (Wq true W) M W H σ (fun Q => spD K ct [.v, .v] .v df [u, v] H (fun w H' => ∃ r, w = .bl r ∧ Q (.bl (g r)) H') E) (blOut g (df [x, y]) δ) := fun Q p => by
  refine ev_fn (df := df) (xs := [x, y]) (ds := [x, y]) e1 okvv (by decide) ⟨x, [y], u, [v], rfl, rfl, hx, y, [], v, [], rfl, rfl, hy, rfl, rfl⟩ rfl _ ?_
  cases hd : df [x, y] with
  | stuck => rw [hd] at p; exact p.elim
  | exc c ns fs δc => rw [hd] at p; exact p.elim
  | ok r δc =>
    rw [hd] at p
    cases r with
    | bl bb =>
      intro w H' k e rr
      have up : upSl [.v, .v] [none, none] δc δ = δ := by
        cases δc with
        | nil => rfl
        | cons c δc =>
          cases δc with
          | nil => rfl
          | cons c δc => rfl
      rw [up] at e
      exact ⟨bb, (rep_bl (K := K) (ct := ct) (M := M) (H := H')).mp rr.1, p _ H' k e ⟨rm_bl (K := K) (ct := ct) (M := M) (H := H) (H' := H'), fun z => by cases z⟩⟩
    | non => exact p.elim
    | int _ => exact p.elim
    | str _ => exact p.elim
    | tup _ => exact p.elim
    | lst _ => exact p.elim
    | obj _ _ _ => exact p.elim
theorem ev_ownop {c : Str} {df : List Dv → Rs Dv} {g : Bool → Bool} (ha : DX K ct ks E q1 m1 X a ta da) (hb : DX K ct ks E q2 m2 X b tb db) (n1 : m1 ≠ .b) (n2 : m2 ≠ .b) : DGs K ct ks E (rmE K ct .v) (q1 && q2) (tOp (rOwn (ct c) (spD K ct [.v, .v] .v df) E g) ta tb) (cOwn c df g da db) := fun M W H δ σ er => by
  refine Ev2.bind ((ha.ev M W H δ σ er).weak (fun z hz => ⟨by rw [hz.1]; rfl, hz.2⟩)) (fun _ h => h) (fun _ _ _ _ _ k h => re_anti k h) fun x δ1 u H1 k1 e1 r1 => ?_
  refine Ev2.bind ((hb.ev M W H1 δ1 σ e1).weak (fun z hz => ⟨by rw [hz.1]; exact Bool.and_false _, hz.2⟩)) (fun _ h => h) (fun _ _ _ _ _ k h => re_anti k h) fun y δ2 v H2 k2 e2 r2 => ?_
  by_cases hc : isObjOf c x = true ∧ isObjOf c y = true
  · rw [if_pos hc]
    have rx : rep K ct M H2 x u := rep_kp k2 (fun a z => er.wm a z.2) (rm_v er.mt n1 r1.1)
    have ry : rep K ct M H2 y v := rm_v e1.mt n2 r2.1
    obtain ⟨ns, ds, rfl⟩ := isObjOf_some hc.1
    obtain ⟨ns', ds', rfl⟩ := isObjOf_some hc.2
    obtain ⟨a1, dx1, xs1, rfl, _, h1, _⟩ := rep_obj.mp rx
    obtain ⟨a2, dx2, xs2, rfl, _, h2, _⟩ := rep_obj.mp ry
    intro Q p
    refine ⟨a1, a2, dx1, dx2, _, _, rfl, rfl, h1, h2, ?_⟩
    exact ((ev_own2 (g := g) e2 rx ry).weak fun z hz => (Wq.no hz).elim) Q p
  · rw [if_neg hc]
    exact Ev2.stuck
theorem dx_own {op : CmpOp} {c : Str} {C : Addr} {df : List Dv → Rs Dv} {g : Bool → Bool} (hC : ct c = C) (hp : OpR X (compareOp op) (rOwn C (spD K ct [.v, .v] .v df) E g)) (ha : DX K ct ks E q1 m1 X a ta da) (hb : DX K ct ks E q2 m2 X b tb db) (hm : behindInMarks op b = false) (n1 : m1 ≠ .b := by decide) (n2 : m2 ≠ .b := by decide) :
    DX K ct ks E (q1 && q2) .v X (.Compare a [op] [b] pos) (tOp (rOwn C (spD K ct [.v, .v] .v df) E g) ta tb) (cOwn c df g da db) := by
  subst hC
  exact ⟨pe_cmpR hp ha.pe hb.pe hm, ev_ownop ha hb n1 n2⟩
theorem dt_own {op : CmpOp} {c : Str} {C : Addr} {df : List Dv → Rs Dv} {g : Bool → Bool} (hC : ct c = C) (hp : OpR X (compareOp op) (rOwn C (spD K ct [.v, .v] .v df) E g)) (ha : DX K ct ks E q1 m1 X a ta da) (hb : DX K ct ks E q2 m2 X b tb db) (hm : behindInMarks op b = false) (n1 : m1 ≠ .b := by decide) (n2 : m2 ≠ .b := by decide) :
    DT K ct ks E (q1 && q2) X (.Compare a [op] [b] pos) (tTest (tOp (rOwn C (spD K ct [.v, .v] .v df) E g) ta tb)) (cTest (cOwn c df g da db)) := by
  subst hC
  exact ⟨pt_cmpR hp ha.pe hb.pe hm, ev_test (ev_ownop ha hb n1 n2)⟩
theorem ev_inop {c : Str} {df : List Dv → Rs Dv} (ha : DX K ct ks E q1 m1 X a ta da) (hb : DX K ct ks E q2 m2 X b tb db) (n1 : m1 ≠ .b) (n2 : m2 ≠ .b) : DGs K ct ks E (rmE K ct .v) (q1 && q2) (tOp (rInO (ct c) (spD K ct [.v, .v] .v df) E) ta tb) (cInO c df da db) := fun M W H δ σ er => by
  refine Ev2.bind ((ha.ev M W H δ σ er).weak (fun z hz => ⟨by rw [hz.1]; rfl, hz.2⟩)) (fun _ h => h) (fun _ _ _ _ _ k h => re_anti k h) fun x δ1 u H1 k1 e1 r1 => ?_
  refine Ev2.bind ((hb.ev M W H1 δ1 σ e1).weak (fun z hz => ⟨by rw [hz.1]; exact Bool.and_false _, hz.2⟩)) (fun _ h => h) (fun _ _ _ _ _ k h => re_anti k h) fun y δ2 v H2 k2 e2 r2 => ?_
  by_cases hc : isObjOf c y = true
  · rw [if_pos hc]
    have rx : rep K ct M H2 x u := rep_kp k2 (fun a z => er.wm a z.2) (rm_v er.mt n1 r1.1)
    have ry : rep K ct M H2 y v := rm_v e1.mt n2 r2.1
    obtain ⟨ns', ds', rfl⟩ := isObjOf_some hc
    obtain ⟨a2, dx2, xs2, rfl, _, h2, _⟩ := rep_obj.mp ry
    intro Q p
    refine ⟨a2, dx2, _, rfl, h2, ?_⟩
    exact ((ev_own2 (g := id) e2 ry rx).weak fun z hz => (Wq.no hz).elim) Q p
  · rw [if_neg hc]
    exact Ev2.stuck
theorem dt_in {op : CmpOp} {c : Str} {C : Addr} {df : List Dv → Rs Dv} (hC : ct c = C) (hp : OpR X (compareOp op) (rInO C (spD K ct [.v, .v] .v df) E)) (ha : DX K ct ks E q1 m1 X a ta da) (hb : DX K ct ks E q2 m2 X b tb db) (hm : behindInMarks op b = false) (n1 : m1 ≠ .b := by decide) (n2 : m2 ≠ .b := by decide) :
    DT K ct ks E (q1 && q2) X (.Compare a [op] [b] pos) (tTest (tOp (rInO C (spD K ct [.v, .v] .v df) E) ta tb)) (cTest (cInO c df da db)) := by
  subst hC
  exact ⟨pt_cmpR hp ha.pe hb.pe hm, ev_test (ev_inop ha hb n1 n2)⟩
theorem dx_in {op : CmpOp} {c : Str} {C : Addr} {df : List Dv → Rs Dv} (hC : ct c = C) (hp : OpR X (compareOp op) (rInO C (spD K ct [.v, .v] .v df) E)) (ha : DX K ct ks E q1 m1 X a ta da) (hb : DX K ct ks E q2 m2 X b tb db) (hm : behindInMarks op b = false) (n1 : m1 ≠ .b := by decide) (n2 : m2 ≠ .b := by decide) :
    DX K ct ks E (q1 && q2) .v X (.Compare a [op] [b] pos) (tOp (rInO C (spD K ct [.v, .v] .v df) E) ta tb) (cInO c df da db) := by
  subst hC
  exact ⟨pe_cmpR hp ha.pe hb.pe hm, ev_inop ha hb n1 n2⟩
end
end Dn

/-! Chains; short words for what stands often. -/
namespace Dn
open PySem PySem.Spec PyProof.Rows L2 LamX Q
def neg1 : Dv → Option Dv
  | .int i => some (.int (-i))
  | _ => none
def cChain (f f' : Dv → Dv → Option Dv) (a b c : Dl → Rs Dv) : Dl → Rs Dv := fun δ => bnd (a δ) fun x δ1 => bnd (b δ1) fun y δ2 => match (f x y).bind cBl with
  | some true => bnd (c δ2) fun z δ3 => opt (f' y z) δ3
  | some false => .ok (.bl false) δ2
  | none => .stuck
section
variable {K : PySem.W.Frag} {ct : Ct} {ks : Ky} {E : EX} {mr : Md} {X : Cx} {q q1 q2 q3 : Bool} {m m1 m2 m3 : Md} {e a b c : Expr} {es : List Expr} {t ta tb tc : TE} {tl : TA} {d da db dc : Dl → Rs Dv} {dl : Dl → Rs (List Dv)} {pos : Pos} {M W : Ads} {H H1 : Hp} {δ : Dl} {σ : L2.St}
theorem und_neg {bb : Bool} : UnD K ct bb .v (rU fun i => .int (-i)) neg1 := fun M H x u d mt h hf Q q => by
  cases x with
  | int i =>
    cases hf
    exact ⟨i, repb_int (ev_if h), q _ H (Same.refl _) rm_int⟩
  | non => cases hf
  | bl _ => cases hf
  | str _ => cases hf
  | tup _ => cases hf
  | lst _ => cases hf
  | obj _ _ _ => cases hf
/-- Python's not of a bool, by trees -/
theorem ev_chain {r r' : R2} {f f' : Dv → Dv → Option Dv} (ho : OpD K ct m1.isB m2.isB .v r f) (ho' : OpD K ct m2.isB m3.isB .v r' f') (ha : DX K ct ks E q1 m1 X a ta da) (hb : DX K ct ks E q2 m2 X b tb db) (hc : DX K ct ks E q3 m3 X c tc dc) (hq : m1.isB = true → q2 = true) (hq' : m2.isB = true → q3 = true) :
    DGs K ct ks E (rmE K ct .v) (q1 && (q2 && q3)) (tChain r r' ta tb tc) (cChain f f' da db dc) := fun M W H δ σ er => by
  refine Ev2.bind ((ha.ev M W H δ σ er).weak (fun z hz => ⟨by rw [hz.1]; rfl, hz.2⟩)) (fun _ h => h) (fun _ _ _ _ _ k h => re_anti k h) fun x δ1 u H1 k1 e1 r1 => ?_
  intro Q p
  refine hb.ev M W H1 δ1 σ e1 _ ?_
  cases hy : db δ1 with
  | exc cc ns ds δ2 =>
    rw [hy] at p
    exact fun xd H2 k2 e2 r2 => p xd H2 (k2.mono fun z hz => ⟨by rw [hz.1]; simp, hz.2⟩) e2 r2
  | stuck =>
    rw [hy] at p
    exact p
  | ok y δ2 =>
    intro v H2 k2 e2 r2
    rw [hy] at p
    have k2' : Kp3 (Ct.tabs ct) (Wq (q1 && (q2 && q3)) W) H1 H2 := k2.mono fun z hz => ⟨by rw [hz.1]; simp, hz.2⟩
    have p1 : Pst K ct ks E (rmE K ct .v) (Wq (q1 && (q2 && q3)) W) M W H2 σ Q (match (f x y).bind cBl with
      | some true => bnd (dc δ2) fun z δ3 => opt (f' y z) δ3
      | some false => .ok (.bl false) δ2
      | none => .stuck) := Pst.kp p k2' fun _ _ _ _ _ k h => re_anti k h
    cases hf : f x y with
    | none => rw [hf] at p1; exact p1.elim
    | some dd =>
      rw [hf] at p1
      have p2 : Pst K ct ks E (rmE K ct .v) (Wq (q1 && (q2 && q3)) W) M W H2 σ Q (match cBl dd with
        | some true => bnd (dc δ2) fun z δ3 => opt (f' y z) δ3
        | some false => .ok (.bl false) δ2
        | none => .stuck) := p1
      refine ho M H2 x y u v dd e2.mt (rm_hold e1.wm er.mt hq k2 r1.1) (rm_now e1.mt r2.1) hf _ fun z H3 s3 r3 => ?_
      have e3 := e2.q (Kp3.same s3)
      cases hd : cBl dd with
      | none => rw [hd] at p2; exact p2.elim
      | some bb =>
        rw [hd] at p2
        cases cBl_some hd
        cases (rep_bl (K := K) (ct := ct) (M := M) (H := H3)).mp r3
        refine ⟨bb, rfl, ?_⟩
        have k3 : Kp3 (Ct.tabs ct) (Wq (q1 && (q2 && q3)) W) H2 H3 := Kp3.same s3
        cases bb with
        | false => exact iteF (p2 _ H3 k3 e3 ⟨rm_bl (K := K) (ct := ct) (M := M) (H := H2) (H' := H3), fun z => by cases z⟩)
        | true =>
          refine iteT ?_
          have p3 : Pst K ct ks E (rmE K ct .v) (Wq (q1 && (q2 && q3)) W) M W H3 σ Q (bnd (dc δ2) fun z δ3 => opt (f' y z) δ3) := Pst.kp p2 k3 fun _ _ _ _ _ k h => re_anti k h
          refine hc.ev M W H3 δ2 σ e3 _ ?_
          cases hz : dc δ2 with
          | exc cc ns ds δ3 =>
            rw [hz] at p3
            exact fun xd H4 k4 e4 r4 => p3 xd H4 (k4.mono fun z hz => ⟨by rw [hz.1]; simp, hz.2⟩) e4 r4
          | stuck =>
            rw [hz] at p3
            exact p3
          | ok zz δ3 =>
            intro w H4 k4 e4 r4
            rw [hz] at p3
            have k4' : Kp3 (Ct.tabs ct) (Wq (q1 && (q2 && q3)) W) H3 H4 := k4.mono fun z hz => ⟨by rw [hz.1]; simp, hz.2⟩
            have ry : if m2.isB then repb K ct M H3 y v else rep K ct M H3 y v := by
              have h0 := rm_now e1.mt r2.1
              revert h0
              cases m2.isB with
              | true => exact fun h => repb_q (Kp3.same s3) h
              | false => exact fun h => rep_same s3 h
            have ry4 : if m2.isB then repb K ct M H4 y v else rep K ct M H4 y v := by
              revert ry hq'
              cases m2.isB with
              | true =>
                intro hq' h
                cases hq' rfl
                exact repb_q (k4.mono fun a z => Wq.no z) h
              | false => exact fun _ h => rep_kp k4 (fun a z => e3.wm a z.2) h
            exact ev_opt e4 (fun dd hd Q q => ho' M H4 y zz v w dd e4.mt ry4 (rm_now e3.mt r4.1) hd Q q) Q (Pst.kp p3 k4' fun _ _ _ _ _ k h => re_anti k h)
theorem dx_chain {op op' : CmpOp} {r r' : R2} {f f' : Dv → Dv → Option Dv} (hp : OpR X (compareOp op) r) (ho : OpD K ct m1.isB m2.isB .v r f) (hp' : OpR X (compareOp op') r') (ho' : OpD K ct m2.isB m3.isB .v r' f') (ha : DX K ct ks E q1 m1 X a ta da) (hb : DX K ct ks E q2 m2 X b tb db) (hc : DX K ct ks E q3 m3 X c tc dc)
    (hq : m1.isB = true → q2 = true := by decide) (hq' : m2.isB = true → q3 = true := by decide) (hm : lastMarks [op, op'] [b, c] = false := by with_unfolding_all rfl) : DX K ct ks E (q1 && (q2 && q3)) .v X (.Compare a [op, op'] [b, c] pos) (tChain r r' ta tb tc) (cChain f f' da db dc) := ⟨pe_chain hp hp' ha.pe hb.pe hc.pe hm, ev_chain ho ho' ha hb hc hq hq'⟩
theorem dt_chain {op op' : CmpOp} {r r' : R2} {f f' : Dv → Dv → Option Dv} (hp : OpR X (compareOp op) r) (ho : OpD K ct m1.isB m2.isB .v r f) (hp' : OpR X (compareOp op') r') (ho' : OpD K ct m2.isB m3.isB .v r' f') (ha : DX K ct ks E q1 m1 X a ta da) (hb : DX K ct ks E q2 m2 X b tb db) (hc : DX K ct ks E q3 m3 X c tc dc)
    (hq : m1.isB = true → q2 = true := by decide) (hq' : m2.isB = true → q3 = true := by decide) (hm : lastMarks [op, op'] [b, c] = false := by with_unfolding_all rfl) : DT K ct ks E (q1 && (q2 && q3)) X (.Compare a [op, op'] [b, c] pos) (tTest (tChain r r' ta tb tc)) (cTest (cChain f f' da db dc)) := ⟨pt_chain hp hp' ha.pe hb.pe hc.pe hm, ev_test (ev_chain ho ho' ha hb hc hq hq')⟩
/-! short words -/
theorem dx_mak {c : Str} {C : Addr} {kds : List Kd} {sh : Sh} {df : List Dv → Rs Dv} {x : Str} {p : Pos} {k : Nat} {ps : List Str} (F : Mak X.prog X.w X.K X.mg X.base (L2.CX X.prog X.w) x C k ps (spD K ct (.p :: kds) .v df)) (hr : Room (k + 1) X.A) (hg : Gl X x) (hx : Passes (L2.CX X.prog X.w) X E)
    (hC : ct c = C) (ok : okSh kds ks sh = true) (h : DR K ct ks E q sh X (e :: es) tl dl) (hdb : (x == ("__debug__" : Str)) = false := by decide) (he : starEach (e :: es) X.env = (false, eval e X.env) :: starEach es X.env := by rfl) (hpl : (backTo pos (starEach es X.env)).any (·.1) = false := by rfl) :
    DX K ct ks E false .v X (.Call (.Name x p) (e :: es) [] pos) (tMake C (spD K ct (.p :: kds) .v df) [] E tl) (cMk c kds sh df dl) := dx_mk hC ok h (pe_mak F hr hg hx h.pe hdb he hpl)
theorem dx_bar {c : Str} {C : Addr} {x : Str} {p : Pos} (M : Bare X.K X.mg x C) (hg : Gl X x) (hC : ct c = C) (hdb : (x == ("__debug__" : Str)) = false := by decide) :
    DX K ct ks E true .v X (.Call (.Name x p) [] [] pos) (fun σ H Q => ∀ y dx, H y = none → H dx = none → dx ≠ y → Q (.ref y) (upd (upd H dx (.own y)) y (.ins C dx []))) (cC (.obj c [] [])) := dx_bare hC (pe_bare M hg hdb)
theorem dx_isi {okI : Str → Str → Option Bool} (T : IsT K ct okI) {c x : Str} {C : Addr} {p p2 : Pos} (he : DX K ct ks E q m X e t d) (hm : X.mg "isinstance" = none) (hC : X.mg x = some (.ref C)) (hc : ct c = C) (hg : Gl X "isinstance" := by rfl) (hgx : Gl X x := by rfl) (hK : X.K = K := by rfl) (hdb : (x == ("__debug__" : Str)) = false := by decide)
    (hs : starEach [e, .Name x p2] X.env = (false, eval e X.env) :: starEach [.Name x p2] X.env := by rfl) (hs2 : starEach [.Name x p2] X.env = (false, eval (.Name x p2) X.env) :: starEach [] X.env := by rfl) (hpl : (backTo pos (starEach [.Name x p2] X.env)).any (·.1) = false := by rfl) :
    DX K ct ks E q .v X (.Call (.Name "isinstance" p) [e, .Name x p2] [] pos) (tCB (rIsi K) (tCons t (tCons (tC (.ref C)) tNil))) (cUn (fIs okI c) d) :=
  dx_is T hc he (pe_callB (call_isiC hK) hg hm (by decide +kernel) (pa_cons he.pe (pa_cons (pe_glob (v := .ref C) hgx hC rfl hdb) pa_nil hs2) hs) (by decide) (by decide) hs hpl)
theorem ds_rais0 {c x : Str} {C : Addr} {bmB : List Value} {B newId initId : String} {p pos' : Pos} (hc : X.calm = true) (tk : Takes X (fun cls d _ H => E cls d H)) (F : ExcBaseFacts B newId initId bmB) (qe : PySem.W.excIn X.K C bmB newId = true) (gC : X.mg x = some (.ref C)) (kC : PySem.W.keepIn X.K (.ref C) = true) (r : Raises X (.ref C)) (hC : ct c = C) (hg : Gl X x) (hdb : (x == ("__debug__" : Str)) = false := by decide) :
    DS K ct ks E mr X (.Raise (some (.Call (.Name x p) [] [] pos')) none pos) (fun _ _ H => E (.ref C) none H) (fun δ => .exc c [] [] δ) := ds_raise0 hC (ps_raise hc tk (pmk_own0 F qe gC kC r hg hdb))
theorem ds_rais1 {c x f : Str} {C : Addr} {k : Nat} {ps : List Str} {p pos' : Pos} (hc : X.calm = true) (tk : Takes X (fun cls d _ H => E cls d H)) (F : Err X.prog X.w X.K X.mg X.base x C k ps (spInit1 C f)) (hr : Room (k + 1) X.A) (hg : Gl X x) (hC : ct c = C) (ha : DA K ct ks E q false X [e] tl dl) (hdb : (x == ("__debug__" : Str)) = false := by decide)
    (he : starEach [e] X.env = (false, eval e X.env) :: starEach [] X.env := by rfl) (hpl : (backTo pos' (starEach [] X.env)).any (·.1) = false := by rfl) :
    DS K ct ks E mr X (.Raise (some (.Call (.Name x p) [e] [] pos')) none pos) (fun _ σ H => tMkO C (spInit1 C f) [] tl σ H fun cls d H' => E cls d H') (cExc c [f] id dl) := ds_raise1 hC (ps_raise hc tk (pmk_err F hr hg ha.pe hdb he hpl)) ha
theorem ds_rais2 {c x f g : Str} {e2 : Expr} {C : Addr} {k : Nat} {ps : List Str} {p pos' : Pos} (hc : X.calm = true) (tk : Takes X (fun cls d _ H => E cls d H)) (F : Err X.prog X.w X.K X.mg X.base x C k ps (spInit2 C f g)) (hr : Room (k + 1) X.A) (hg : Gl X x) (hC : ct c = C) (ha : DA K ct ks E q false X [e, e2] tl dl) (hdb : (x == ("__debug__" : Str)) = false := by decide)
    (he : starEach [e, e2] X.env = (false, eval e X.env) :: starEach [e2] X.env := by rfl) (hpl : (backTo pos' (starEach [e2] X.env)).any (·.1) = false := by rfl) :
    DS K ct ks E mr X (.Raise (some (.Call (.Name x p) [e, e2] [] pos')) none pos) (fun _ σ H => tMkO C (spInit2 C f g) [] tl σ H fun cls d H' => E cls d H') (cExc c [g, f] List.reverse dl) := ds_raise2 hC (ps_raise hc tk (pmk_err F hr hg ha.pe hdb he hpl)) ha
/-- name = a comprehension -/
theorem ds_setE {i : Nat} {st : Stmt} (hk : ks i = .v) (hP : PS X st (tAsg t (gName i))) (he : DX K ct ks E q .f X e t d) : DS K ct ks E mr X st (tAsg t (gName i)) (cSet i d) := ⟨hP, fun M W H δ σ er D p => by
  refine ev_bnf (he.ev M W H δ σ er) p fun v δ1 y H1 v1 e1 r1 p1 => ?_
  exact p1 M W H1 _ (v1.trans (mv_set (by rw [hk]; decide))) (e1.setV hk (rm_v er.mt (by decide) r1.1))⟩
theorem ds_setEO {i : Nat} {st : Stmt} (hk : ks i = .o) (hP : PS X st (tAsg t (gName i))) (he : DX K ct ks E q .f X e t d) : DS K ct ks E mr X st (tAsg t (gName i)) (cSet i d) := ⟨hP, fun M W H δ σ er D p => by
  refine ev_bnf (he.ev M W H δ σ er) p fun v δ1 y H1 v1 e1 r1 p1 => ?_
  obtain ⟨⟨ds, a, xs, rfl, rfl, h1, h2, h3⟩, r2⟩ := r1
  obtain ⟨a', ea, e2⟩ := r2 rfl
  cases ea
  have nM : ¬ M a := fun z => er.mt a z h1
  refine p1 (plus M a) (plus W a) H1 _ ⟨fun _ z => .inl z, fun b z => z.imp id fun e => by rw [e]; exact h1, fun _ z => .inl z, fun b z => z.imp id fun e => by rw [e]; exact h1, v1.kp, fun j hj => List.getElem?_set_ne fun z => ?_⟩ (e1.setO e2 (fun z => nM (er.wm a z)) hk h2 h3)
  rw [z, hj] at hk
  cases hk⟩
end
end Dn
namespace Dn
open PySem PySem.Spec PyProof.Rows L2 LamX Q
section
variable {K : PySem.W.Frag} {ct : Ct} {ks : Ky} {E : EX} {mr : Md} {X : Cx} {q q1 q2 : Bool}
theorem ds_setC {i : Nat} {y : Str} {py : Pos} {elt tg iter : Expr} {ifs : List Expr} {scope : Scope} {own : List (Str × Nat)} {pos spos : Pos} {wi : TI} {di : Dl → Rs (List Dv)} {g : TG} {gd : Dv → Dl → Option Dl} {tt : TT} {dt : Dl → Rs Bool} {te : TE} {de : Dl → Rs Dv} (hk : ks i = .v) (hc : X.calm = true) (hN : X.N.Nodup) (hy : X.N[i]? = some y) (hyl : X.env.scope.names.lookup y = some .local)
    (hsw : swapsWith (.ListComp elt [⟨tg, iter, ifs, 0⟩] scope pos) (some (.Name y py)) spos.line X.env = pure true) (hi : DI K ct ks E q X tg iter wi di) (ok : BlkOk X.N X.env.scope scope own)
    (hg : ∀ (s : Shared) (H : Hp) (C : Addr) (cl : List (Str × Addr)) (fp : List Addr), DG K ct ks (X.blk s H scope (compEnvC scope cl C X.env) fp) tg g (own.map (·.2)) gd) (ht : ∀ (s : Shared) (H : Hp) (C : Addr) (cl : List (Str × Addr)) (fp : List Addr), DTs K ct ks E0 q1 (X.blk s H scope (compEnvC scope cl C X.env) fp) ifs tt dt)
    (he : ∀ (s : Shared) (H : Hp) (C : Addr) (cl : List (Str × Addr)) (fp : List Addr), DX K ct ks E0 q2 .v (X.blk s H scope (compEnvC scope cl C X.env) fp) elt te de) (s0 : Shared) (H0 : Hp) (hs : ∀ x, foldedSetIterable iter X.env x = pure x := by intro _; rfl) :
    DS K ct ks E mr X (.Assign [.Name y py] (.ListComp elt [⟨tg, iter, ifs, 0⟩] scope pos) spos) (tAsg (tLc wi g tt te (own.map (·.2))) (gName i)) (cSet i (cComp di gd dt de (own.map (·.2)))) :=
  ds_setE hk (ps_setLc hc hN hy hyl hsw hi.pi ok (fun s H C cl fp => (hg s H C cl fp).pg) (fun s H C cl fp => (ht s H C cl fp).pe) (fun s H C cl fp => (he s H C cl fp).pe) hs) (dx_comp (pos := pos) hc hN hi ok hg ht he hs s0 H0)
theorem ds_setCO {i : Nat} {y : Str} {py : Pos} {elt tg iter : Expr} {ifs : List Expr} {scope : Scope} {own : List (Str × Nat)} {pos spos : Pos} {wi : TI} {di : Dl → Rs (List Dv)} {g : TG} {gd : Dv → Dl → Option Dl} {tt : TT} {dt : Dl → Rs Bool} {te : TE} {de : Dl → Rs Dv} (hk : ks i = .o) (hc : X.calm = true) (hN : X.N.Nodup) (hy : X.N[i]? = some y) (hyl : X.env.scope.names.lookup y = some .local)
    (hsw : swapsWith (.ListComp elt [⟨tg, iter, ifs, 0⟩] scope pos) (some (.Name y py)) spos.line X.env = pure true) (hi : DI K ct ks E q X tg iter wi di) (ok : BlkOk X.N X.env.scope scope own)
    (hg : ∀ (s : Shared) (H : Hp) (C : Addr) (cl : List (Str × Addr)) (fp : List Addr), DG K ct ks (X.blk s H scope (compEnvC scope cl C X.env) fp) tg g (own.map (·.2)) gd) (ht : ∀ (s : Shared) (H : Hp) (C : Addr) (cl : List (Str × Addr)) (fp : List Addr), DTs K ct ks E0 q1 (X.blk s H scope (compEnvC scope cl C X.env) fp) ifs tt dt)
    (he : ∀ (s : Shared) (H : Hp) (C : Addr) (cl : List (Str × Addr)) (fp : List Addr), DX K ct ks E0 q2 .v (X.blk s H scope (compEnvC scope cl C X.env) fp) elt te de) (s0 : Shared) (H0 : Hp) (hs : ∀ x, foldedSetIterable iter X.env x = pure x := by intro _; rfl) :
    DS K ct ks E mr X (.Assign [.Name y py] (.ListComp elt [⟨tg, iter, ifs, 0⟩] scope pos) spos) (tAsg (tLc wi g tt te (own.map (·.2))) (gName i)) (cSet i (cComp di gd dt de (own.map (·.2)))) :=
  ds_setEO hk (ps_setLc hc hN hy hyl hsw hi.pi ok (fun s H C cl fp => (hg s H C cl fp).pg) (fun s H C cl fp => (ht s H C cl fp).pe) (fun s H C cl fp => (he s H C cl fp).pe) hs) (dx_comp (pos := pos) hc hN hi ok hg ht he hs s0 H0)
/-- the reading of a comprehension whatever names its block has -/
theorem dx_lc {elt tg iter : Expr} {ifs : List Expr} {scope : Scope} {own : List (Str × Nat)} {pos : Pos} {wi : TI} {di : Dl → Rs (List Dv)} {g : TG} {gd : Dv → Dl → Option Dl} {tt : TT} {dt : Dl → Rs Bool} {te : TE} {de : Dl → Rs Dv} (hc : X.calm = true) (hN : X.N.Nodup) (hi : DI K ct ks E q X tg iter wi di) (ok : BlkOk X.N X.env.scope scope own)
    (hg : ∀ (s : Shared) (H : Hp) (C : Addr) (cl : List (Str × Addr)) (fp : List Addr), DG K ct ks (X.blk s H scope (compEnvC scope cl C X.env) fp) tg g (own.map (·.2)) gd) (ht : ∀ (s : Shared) (H : Hp) (C : Addr) (cl : List (Str × Addr)) (fp : List Addr), DTs K ct ks E0 q1 (X.blk s H scope (compEnvC scope cl C X.env) fp) ifs tt dt)
    (he : ∀ (s : Shared) (H : Hp) (C : Addr) (cl : List (Str × Addr)) (fp : List Addr), DX K ct ks E0 q2 .v (X.blk s H scope (compEnvC scope cl C X.env) fp) elt te de) (s0 : Shared) (H0 : Hp) (hs : ∀ x, foldedSetIterable iter X.env x = pure x := by intro _; rfl) :
    DX K ct ks E false .f X (.ListComp elt [⟨tg, iter, ifs, 0⟩] scope pos) (tLc wi g tt te (own.map (·.2))) (cComp di gd dt de (own.map (·.2))) := dx_comp hc hN hi ok hg ht he hs s0 H0
end
end Dn

/-! A lambda handed to a def that calls it. -/
namespace Dn
open PySem PySem.Spec PyProof.Rows L2 LamX Q
/-- a code object is filed in its maker's table -/
theorem kp_table {T : List (Addr × Str)} {H : Hp} {P c' : Addr} {ps : Array Value} {q : Str} {u v : Value} (hP : H P = some (.tbl ps)) (nC : H c' = none) (hu : ∀ p ∈ T, p.1 = P → p.2 = q)
    (snoc : TriplesOk ps.toList → TriplesOk (ps.toList ++ [u, v, .ref c'])) (am : ∀ (pos : Pos) (cv : Value), TriplesOk ps.toList → codeAmong pos (ps.toList ++ [u, v, .ref c']) = some cv → codeAmong pos ps.toList = some cv ∨ cv = .ref c') :
    Kp3 T (fun _ => False) H (upd (upd H P (.tbl (ps ++ #[u, v, .ref c']))) c' (CodeO c' q)) := by
  have old : ∀ b o, H b = some o → (∀ rs, o ≠ .tbl rs) → upd (upd H P (.tbl (ps ++ #[u, v, .ref c']))) c' (CodeO c' q) b = some o := fun b o e n => by
    have nP : b ≠ P := fun z => by rw [z, hP] at e; exact n _ (Option.some.inj e).symm
    rw [upd_ne (ne_of_none e nC), upd_ne nP]
    exact e
  refine ⟨fun b o e _ n => old b o e n, fun b hb z => ?_, fun tt p hp => ?_⟩
  · by_cases e1 : b = c'
    · exact hb (by rw [e1]; exact nC)
    · by_cases e2 : b = P
      · rw [upd_ne e1, e2, upd_same] at z
        cases z
      · rw [upd_ne e1, upd_ne e2] at z
        exact hb z
  · obtain ⟨rs, g1, g2, g3⟩ := tt p hp
    by_cases e : p.1 = P
    · rw [e, hP] at g1
      cases g1
      rw [e, hu p hp e]
      refine ⟨ps ++ #[u, v, .ref c'], by rw [upd_ne (ne_of_none hP nC), upd_same], by rw [Array.toList_append]; exact snoc g2, fun pos cv hc => ?_⟩
      rw [Array.toList_append] at hc
      rcases am pos cv g2 hc with z | z
      · obtain ⟨c0, k1, k2⟩ := g3 pos cv z
        rw [hu p hp e] at k2
        exact ⟨c0, k1, old _ _ k2 codeO_ne⟩
      · exact ⟨c', z, upd_same⟩
    · refine ⟨rs, by rw [upd_ne (ne_of_none g1 nC), upd_ne e]; exact g1, g2, fun pos cv hc => ?_⟩
      obtain ⟨c0, k1, k2⟩ := g3 pos cv hc
      exact ⟨c0, k1, old _ _ k2 codeO_ne⟩
section
variable {X : Cx} {pins : List (Addr × Obj)} {σ : L2.St} {H : Hp} {s : Shared}
/-- the lambda of the text is made, and all else is kept -/
theorem lam_new {T : List (Addr × Str)} {c P : Addr} {params : Arguments} {body : Expr} {scope : Scope} {pos : Pos} {E : Value → Shared → Prop} {Q : Value → Shared → Prop} (I : Inv X pins σ H s) (TB : TabB X.base X.mg c P) (hcode : X.env.code = .ref c)
    (hm : (P, X.env.qual ++ "<lambda>") ∈ T) (hu : ∀ p ∈ T, p.1 = P → p.2 = X.env.qual ++ "<lambda>") (hT : Tabs T H) (hdef : defaultsOf params X.env = ([], [])) (hfree : ∀ y ∈ scope.names, y.2 = .free → ∃ c, X.env.cells.lookup y.1 = some c)
    (h : ∀ (f c' : Addr) (pm ctv : Value) (H1 : Hp) (s' : Shared), Inv X pins σ H1 s' → Kp3 T (fun _ => False) H H1 →
      s'.heap.get? f = some (PySem.W.kla_obj "<lambda>" (X.env.qual ++ "<lambda>") params body scope (cloFrom X.env.cells scope.names []) pm c' ctv) → H1 f = none → f ∉ frs X.stack → H1 c' = some (CodeO c' (X.env.qual ++ "<lambda>")) → Q (.ref f) s') :
    wpAny (model X.prog X.w) X.A (eval (.Lambda params body scope pos) X.env) Q E s := by
  obtain ⟨ps, hP, tr, co⟩ := hT _ hm
  have out : ∀ f, s.heap.objs.size ≤ f → f ∉ frs X.stack := fun f hf z => by
    rcases List.mem_cons.mp (I.stkSub _ z) with e | e
    · exact absurd (show f < s.heap.objs.size by rw [e]; exact I.lt) (Nat.not_lt.mpr hf)
    · exact I.nofs hf e
  have atP : s.heap.get? P = some { cls := .none, data := .fields ps } := I.hok P _ hP
  refine PySem.W.kla_eval hdef ?_
  cases hc : codeAmong pos ps.toList with
  | some cv =>
    obtain ⟨c', rfl, hco⟩ := co pos cv hc
    refine PySem.W.kla_makeFunctionHit (mg := X.mg) (c := c) (P := P) (ps := ps) (closure_ok hfree) I.ok.glob (I.mod.glob.keeps I.bk) hcode (TB.code.keeps I.bk) atP tr hc (TB.bm.keeps I.bk) fun ctv h' tk hx hsz => ?_
    exact h h'.objs.size c' _ ctv H _ (I.kept fun b o e => Heap.get?_push_of_some _ (hx b o e)) (Kp3.refl _ _) (Heap.get?_push_size _ rfl) (I.hok.fresh hsz) (out _ hsz) hco
  | none =>
    refine PySem.W.kla_makeFunction (mg := X.mg) (c := c) (P := P) (ps := ps) (closure_ok hfree) I.ok.glob (I.mod.glob.keeps I.bk) hcode (TB.code.keeps I.bk) atP tr hc TB.gP (TB.bm.keeps I.bk) fun c' ctv h' tk hx hge hlt hrec htb => ?_
    obtain ⟨c2, oc, vs, t, e2, hoc, hd, hv⟩ := hrec
    cases e2
    have nC : H c' = none := I.hok.fresh hge
    have hsz : s.heap.objs.size ≤ h'.objs.size := by omega
    have nP : h'.objs.size ≠ P := fun z => absurd (Nat.lt_of_lt_of_le (Heap.lt_size atP) hsz) (by rw [z]; exact Nat.lt_irrefl _)
    refine h h'.objs.size c' _ ctv _ _ (inv_table (t' := tk) (more := #[rawInt pos.line, rawInt pos.col, .ref c'])
        (h' := h'.push (PySem.W.kla_obj "<lambda>" (X.env.qual ++ "<lambda>") params body scope (cloFrom X.env.cells scope.names []) ((X.mg "__name__").getD .none) c' ctv)) I hP
        (fun b o n e => Heap.get?_push_of_some _ (hx b o n e)) (Heap.get?_push_of_some _ htb) hge ⟨oc, vs, t, Heap.get?_push_of_some _ hoc, hd, hv⟩)
      (kp_table hP nC hu (fun z => PySem.TriplesOk_snoc _ _ _ _ z) (fun pos cv z e => among_app _ z e)) (Heap.get?_push_size _ rfl) ?_ (out _ hsz) upd_same
    rw [upd_ne (Nat.ne_of_gt hlt), upd_ne nP]
    exact I.hok.fresh hsz
end
def tLamD (T : List (Addr × Str)) (TT : (XK → Hp → VK → Prop) → Hp → VK → Prop) (t : XK → TE) : TE := fun σ H Q => Tabs T H ∧ ∀ H1, Kp3 T (fun _ => False) H H1 → TT (fun E H' Q' => t E σ H' Q') H1 Q
section
variable {X : Cx}
theorem pe_lamD {T : List (Addr × Str)} {TT : (XK → Hp → VK → Prop) → Hp → VK → Prop} {x a : Str} {g c P : Addr} {k : Nat} {pg : Arguments} {bg : List Stmt} {sg : Scope} {dV kV doc pm cdv ct oc : Value} {an od : Option Addr} {osl : Array (Option Value)} {Ng : List Str}
    {params : Arguments} {body : Expr} {scope : Scope} {t : XK → TE} {p lpos pos : Pos} (hg : Gl X x) (hm : X.mg x = some (.ref g)) (hk : PySem.W.keepIn X.K (.ref g) = true)
    (lk : X.K.lookup g = some ⟨oc, od, .func (PySem.W.fnOf x x pg bg sg dV kV doc pm an cdv ct), osl⟩) (hcg : PySem.W.codeIn X.K cdv x = true)
    (hb : L2.Binds X.K (PySem.W.fnOf x x pg bg sg dV kV doc pm an cdv ct) [a] []) (Sg : FnScope Ng [a] sg) (hNg : Ng[0]? = some a) (hva : Vis sg a)
    (hG : Gives X Ng x sg g cdv bg a (X.env.qual ++ "<lambda>") TT)
    (TB : TabB X.base X.mg c P) (hcode : X.env.code = .ref c) (hmT : (P, X.env.qual ++ "<lambda>") ∈ T) (hu : ∀ p ∈ T, p.1 = P → p.2 = X.env.qual ++ "<lambda>") (hr : Room (k + 2) X.A) (L : LamS X.env.scope scope)
    (hdef : defaultsOf params X.env = ([], []))
    (hbi : ∀ (q : Str) (cl : List (Str × Addr)) (pm cv ctv : Value), bindArgs (PySem.W.kla_fn "<lambda>" q params body scope cl pm cv ctv) ⟨[], []⟩ = pure [])
    (hbo : ∀ (E : XK) (A : Around) (outer : List Env) (s : Shared) (H : Hp) (f c' : Addr), Room k (A.deeper (lamEnv X scope s.heap.objs.size f c')) → PE (lamCx X A outer s H E scope f c') body (t E))
    (hdb : (x == ("__debug__" : Str)) = false := by decide) (hd : (a == ("__debug__" : Str)) = false := by decide) (hcd : (a == ("__classdict__" : Str)) = false := by decide) :
    PE X (.Call (.Name x p) [.Lambda params body scope lpos] [] pos) (tLamD T TT t) := by
  refine ⟨fun pz s σ H R I h => ?_⟩
  obtain ⟨hT, h2⟩ := h
  refine wpAny_Call_Name_kw (ld_glob I hg hm ?_ hdb)
  refine PySem.W.callWith_K (h₀ := X.base) I.ok.mod.kin hk ?_ (by rfl) (by rfl)
  show wpAny _ _ (spliced ((false, eval (.Lambda params body scope lpos) X.env) :: backTo pos (starEach [] X.env))) _ _ s
  refine Calls.spliced_cons (lam_new I TB hcode hmT hu hT hdef (L.has I.ok) fun f c' pm1 ctv H1 s1 I1 eN hf hfn hfr hco => ?_)
  refine Calls.spliced_nil ⟨I1.kIn, ?_⟩
  have rc : codeAny (model X.prog X.w) X.A (.call (.ref g) ⟨[.ref f], []⟩) (CR C8.CX0 X.stack X.prog X.w H1 s1 R C8.E0) s1 := by
    refine run_ofS (N := Ng) (ps := [a]) (us := [.ref f]) (vs := [.ref f]) lk hcg Sg hr I1.env0 (hb s1 [.ref f] I1.kIn rfl) (.cons rfl .nil) rfl fun hr1 => ?_
    obtain ⟨t1, ht1, hq1⟩ := hG f c' s1 H1 R (fun E G Q' => t E σ G Q')
      (fun W pn xe p1 p2 tk => pe_actS (i := 0) I1 L hf hfn hfr (hbi _ _ _ _ _) tk hr1 (fun E A outer s H hr2 => hbo E A outer s H f c' hr2) hNg hva hd hcd) hco (h2 H1 eN)
    exact ⟨t1, ht1.nox, hq1⟩
  refine wpAny_call (codeAny_mono rc fun r s2 hq => ?_)
  cases r with
  | error e => exact (show False from hq).elim
  | ok fl =>
    cases fl with
    | ret u => exact I1.after hq
    | next => exact False.elim hq
    | brk => exact False.elim hq
    | cont => exact False.elim hq
end
/-- whether a call ends in an error of the class c -/
def TRfs (ct : Ct) (c : Str) : (XK → Hp → VK → Prop) → Hp → VK → Prop := fun tl H R => ∀ (E' : XK) (R' : VK), (∀ v H1, R (.bl false) H1 → R' v H1) → (∀ xd H1, R (.bl true) H1 → E' (.ref (ct c)) xd H1) → tl E' H R'
def cRfs (c : Str) (d : Dl → Rs Dv) : Dl → Rs Dv := fun δ => match d δ with
  | .ok _ δ1 => .ok (.bl false) δ1
  | .exc c' _ _ δ1 => if c' = c then .ok (.bl true) δ1 else .stuck
  | .stuck => .stuck
section
variable {K : PySem.W.Frag} {ct : Ct} {ks : Ky} {E : EX} {q : Bool} {c : Str} {t : XK → TE} {d : Dl → Rs Dv}
theorem ev_rfs (h : ∀ E', DGs K ct ks E' (rmE K ct .v) q (t E') d) : DGs K ct ks E (rmE K ct .v) q (tLamD ct.tabs (TRfs ct c) t) (cRfs c d) := fun M W H δ σ er Q p => by
  refine ⟨er.tb, fun H1 k1 E' R' kR kE => ?_⟩
  have kk : Kp3 (Ct.tabs ct) (Wq q W) H H1 := k1.mono fun _ z => z.elim
  refine h E' M W H1 δ σ (er.q k1) R' ?_
  unfold cRfs at p
  cases hd : d δ with
  | ok v δ1 =>
    rw [hd] at p
    exact fun x H2 k2 e2 r2 => kR x H2 (p (.bl false) H2 (kk.trans k2) e2 ⟨rm_bl (K := K) (ct := ct) (M := M) (H := H) (H' := H2), fun z => by cases z⟩)
  | exc c' ns ds δ1 =>
    rw [hd] at p
    have p1 : Pst K ct ks E (rmE K ct .v) (Wq q W) M W H σ Q (if c' = c then Rs.ok (.bl true) δ1 else .stuck) := p
    by_cases hc : c' = c
    · rw [if_pos hc] at p1
      intro xd H2 k2 e2 r2
      rw [hc]
      exact kE xd H2 (p1 (.bl true) H2 (kk.trans k2) e2 ⟨rm_bl (K := K) (ct := ct) (M := M) (H := H) (H' := H2), fun z => by cases z⟩)
    · rw [if_neg hc] at p1
      exact p1.elim
  | stuck =>
    rw [hd] at p
    exact p.elim
end
section
variable {P : Program} {w : World} {K : PySem.W.Frag} {mg : Str → Option Value} {base : Heap} {ct : Ct}
/-- the rule for a def whose code makes lambdas -/
theorem fnDc {x qual : Str} {st : Stmt} {f c : Addr} {oc kV doc pm cv : Value} {od an : Option Addr} {osl : Array (Option Value)} {N ps : List Str} {k n : Nat} {kds : List Kd} {kall : Nat → Kd} {mr : Md} {body : Dl → Fl} (lk : K.lookup f = some ⟨oc, od, .func (PySem.W.fnOf x qual (defArgs st) (defBody st) (defScope st) .none kV doc pm an (.ref c) cv), osl⟩) (hcd : PySem.W.codeIn K (.ref c) qual = true) (S : FnScope N ps (defScope st))
    (hl : kds.length = ps.length) (hn : N.length = ps.length + n) (hk : ∀ (j : Nat) (kd : Kd), kds[j]? = some kd → kall j = kd ∧ kd ≠ .o) (hm : mr ≠ .b)
    (hb : ∀ (A : Around) (outer : List Env) (s : Shared) (H : Hp) (E : XK) (pc be : Ads), Room k (A.deeper (envOfC qual (defScope st) s.heap.objs.size f (.ref c))) →
      ∃ t, DSS K ct ⟨kall, pc, be⟩ E mr (cxOf (L2.CX P w) P w K mg base N qual (defScope st) f (.ref c) A outer s H E) (defBody st) t body) :
    FnOk P w K mg base (L2.CX P w) (k + 1) f (PySem.W.fnOf x qual (defArgs st) (defBody st) (defScope st) .none kV doc pm an (.ref c) cv) ps (spD K ct kds mr (runD kds mr n body)) := by
  refine fn_of lk hcd S (fun vs H Q E h => ?_) (fun A outer s H vs Q E hr h => ?_)
  · obtain ⟨M, ds, h1, _⟩ := h
    exact h1.trans hl
  · obtain ⟨M, ds, h1, h2, tbs, mt, ha, hd, hq⟩ := h
    have dis : ∀ (i j : Nat) (a : Addr), i ≠ j → kds[i]? = some .p → kds[j]? = some .p → vs[i]? = some (.ref a) → vs[j]? = some (.ref a) → False := hd
    obtain ⟨t, hB⟩ := hb A outer s H E (Pcs kds vs) (fun a => ¬ Pcs kds vs a ∧ ∃ d, brep K ct M H d a) hr
    refine ⟨t, hB.ps, ?_⟩
    have kat : ∀ {i : Nat} {d : Dv}, (ds.map some ++ List.replicate n none)[i]? = some (some d) → ∃ kd v, kds[i]? = some kd ∧ ds[i]? = some d ∧ vs[i]? = some v ∧ kall i = kd ∧ (L2.start N vs)[i]? = some (some v) := fun {i d} hi => by
      have h3 := map_pad hi
      have l3 := (List.getElem?_eq_some_iff.mp h3).1
      have hk1 : kds[i]? = some kds[i] := List.getElem?_eq_getElem (by omega)
      have hv1 : vs[i]? = some vs[i] := List.getElem?_eq_getElem (by omega)
      exact ⟨_, _, hk1, h3, hv1, (hk i _ hk1).1, start_get hv1⟩
    have pin : ∀ {j : Nat} {a : Addr}, kds[j]? = some .p → vs[j]? = some (.ref a) → ∃ d, ds[j]? = some d ∧ M a ∧ mrep K ct M H d a := fun {j a} hj hv => by
      have l3 := (List.getElem?_eq_some_iff.mp hj).1
      have hd1 : ds[j]? = some ds[j] := List.getElem?_eq_getElem (by omega)
      obtain ⟨b, e, hM, hm⟩ := ha j .p _ _ hj hd1 hv
      cases e
      exact ⟨_, hd1, hM, hm⟩
    have er : ER K ct ⟨kall, Pcs kds vs, fun a => ¬ Pcs kds vs a ∧ ∃ d, brep K ct M H d a⟩ M (Pcs kds vs) H (ds.map some ++ List.replicate n none) (L2.start N vs) := by
      refine ⟨?_, fun i d hi => ?_, fun i j a di dj hne oi oj hi hj si sj => ?_, fun a hp => ?_, mt, fun a hp => ?_, fun i a d ho hi si => ?_, fun _ z => z, fun a hb => ⟨hb.1, brep_live hb.2.choose_spec⟩, tbs⟩
      · unfold L2.start
        rw [List.length_append, List.length_append, List.length_map, List.length_map, List.length_replicate, List.length_replicate]
        omega
      · obtain ⟨kd, v, g1, g2, g3, g4, g5⟩ := kat hi
        refine ⟨v, g5, ?_⟩
        have r := ha i kd d v g1 g2 g3
        show slr K ct _ M _ H (kall i) d v
        rw [g4]
        cases kd with
        | v => exact r
        | b => exact r.imp id fun ⟨a, e1, e2, e3⟩ => ⟨a, e1, ⟨e2, d, e3⟩, e3⟩
        | o => exact r.elim
        | p =>
          obtain ⟨a, e1, e2, e3⟩ := r
          subst e1
          exact ⟨a, rfl, ⟨i, g1, g3⟩, e3⟩
      · obtain ⟨kd, v, g1, g2, g3, g4, g5⟩ := kat hi
        obtain ⟨kd', v', f1, f2, f3, f4, f5⟩ := kat hj
        have oi' : (kall i).own = true := oi
        have oj' : (kall j).own = true := oj
        rw [g4] at oi'
        rw [f4] at oj'
        rw [g5] at si
        rw [f5] at sj
        cases si
        cases sj
        have z1 : kd = .p := by
          cases kd with
          | v => cases oi'
          | b => cases oi'
          | o => exact absurd rfl (hk i _ g1).2
          | p => rfl
        have z2 : kd' = .p := by
          cases kd' with
          | v => cases oj'
          | b => cases oj'
          | o => exact absurd rfl (hk j _ f1).2
          | p => rfl
        subst z1 z2
        exact dis i j a hne g1 f1 g3 f3
      · obtain ⟨j, hj, hv⟩ := hp
        exact (pin hj hv).choose_spec.2.1
      · obtain ⟨j, hj, hv⟩ := hp
        exact mrep_mut (pin hj hv).choose_spec.2.2
      · obtain ⟨kd, v, g1, g2, g3, g4, g5⟩ := kat hi
        have ho' : kall i = .o := ho
        rw [g4] at ho'
        exact absurd ho' (hk i _ g1).2
    refine hB.ev M (Pcs kds vs) H _ _ er _ ?_
    -- the ends
    have muts : ∀ {M' W' : Ads} {H' : Hp} {σ' : L2.St} {δ' : Dl} {M2 : Ads}, Mv3 (Ct.tabs ct) ⟨kall, Pcs kds vs, fun a => ¬ Pcs kds vs a ∧ ∃ d, brep K ct M H d a⟩ M (Pcs kds vs) H (L2.start N vs) M' W' H' σ' → ER K ct ⟨kall, Pcs kds vs, fun a => ¬ Pcs kds vs a ∧ ∃ d, brep K ct M H d a⟩ M' W' H' δ' σ' → pOk kds δ' = true → (∀ b, M2 b → M' b) → MutsR K ct M2 H' kds vs δ' :=
      fun {M' W' H' σ' δ' M2} v e hp hM j a hj hv => by
      obtain ⟨d, hd⟩ := pOk_at hp hj
      obtain ⟨u, s1, s2⟩ := e.sl j d hd
      have kj : kall j = .p := (hk j _ hj).1
      have s1' : (L2.start N vs)[j]? = some (some u) := (v.pp j kj).symm.trans s1
      rw [start_get hv] at s1'
      cases s1'
      have s3 : slr K ct _ M' W' H' (kall j) d (.ref a) := s2
      rw [kj] at s3
      obtain ⟨b, eb, _, hm⟩ := s3
      cases eb
      exact ⟨d, hd, mrep_more hM hm⟩
    have hq2 := hq
    unfold runD at hq2
    cases hbd : body (ds.map some ++ List.replicate n none) with
    | nx δ' =>
      rw [hbd] at hq2
      by_cases hp : pOk kds δ' = true ∧ mr = .v
      · have hq3 : (match (if pOk kds δ' = true ∧ mr = .v then Rs.ok Dv.non δ' else .stuck : Rs Dv) with
          | .ok r δc => ∀ x H', Kp3 (Ct.tabs ct) (Pcs kds vs) H H' → MutsR K ct (ResM mr M x) H' kds vs δc → rm K ct mr M H H' r x → Q x H'
          | .exc c ns fs δc => ∀ xd H', Kp3 (Ct.tabs ct) (Pcs kds vs) H H' → MutsR K ct M H' kds vs δc → ExR K ct M H' ns fs xd → E (.ref (ct c)) xd H'
          | .stuck => False) := hq2
        rw [if_pos hp] at hq3
        intro M' W' H' σ' v e
        obtain ⟨hp1, hp2⟩ := hp
        subst hp2
        exact hq3 .non H' v.kp (muts v e hp1 v.m1) (rm_non (K := K) (ct := ct) (M := M) (H := H) (H' := H'))
      · have hq3 : (match (if pOk kds δ' = true ∧ mr = .v then Rs.ok Dv.non δ' else .stuck : Rs Dv) with
          | .ok r δc => ∀ x H', Kp3 (Ct.tabs ct) (Pcs kds vs) H H' → MutsR K ct (ResM mr M x) H' kds vs δc → rm K ct mr M H H' r x → Q x H'
          | .exc c ns fs δc => ∀ xd H', Kp3 (Ct.tabs ct) (Pcs kds vs) H H' → MutsR K ct M H' kds vs δc → ExR K ct M H' ns fs xd → E (.ref (ct c)) xd H'
          | .stuck => False) := hq2
        rw [if_neg hp] at hq3
        exact hq3.elim
    | ret r δ' =>
      rw [hbd] at hq2
      have hq3 : (match (if pOk kds δ' = true then Rs.ok r δ' else .stuck : Rs Dv) with
          | .ok r δc => ∀ x H', Kp3 (Ct.tabs ct) (Pcs kds vs) H H' → MutsR K ct (ResM mr M x) H' kds vs δc → rm K ct mr M H H' r x → Q x H'
          | .exc c ns fs δc => ∀ xd H', Kp3 (Ct.tabs ct) (Pcs kds vs) H H' → MutsR K ct M H' kds vs δc → ExR K ct M H' ns fs xd → E (.ref (ct c)) xd H'
          | .stuck => False) := hq2
      by_cases hp : pOk kds δ' = true
      · rw [if_pos hp] at hq3
        intro M' W' H' σ' x v e rr
        cases hmr : mr with
        | b => exact absurd hmr hm
        | v =>
          subst hmr
          refine hq3 x H' v.kp (muts v e hp v.m1) ?_
          rcases rr with ⟨_, rr⟩ | ⟨a, rfl, hw, npc, hmr, _⟩
          · exact rr
          · have ha0 : H a = none := (v.w2 a hw).resolve_left npc
            rcases hmr with ⟨es, xs, rfl, h3, h4⟩ | ⟨c, ns, es, dx, xs, rfl, _, h3, h4⟩
            · exact rep_lst.mpr ⟨a, xs, rfl, .inl ⟨fun z => mt a z ha0, .inl h3⟩, reps_step (S := fun _ => False) (Kp3.refl _ _) (fun _ z => z.elim) (fun b z => .inl (v.m1 b z)) h4⟩
            · exact rep_obj.mpr ⟨a, dx, xs, rfl, fun z => mt a z ha0, h3, reps_step (S := fun _ => False) (Kp3.refl _ _) (fun _ z => z.elim) (fun b z => .inl (v.m1 b z)) h4⟩
        | f =>
          subst hmr
          rcases rr with ⟨z, _⟩ | ⟨a, rfl, hw, npc, hmr, hf⟩
          · exact absurd rfl z
          · have ha0 : H a = none := (v.w2 a hw).resolve_left npc
            have sub : ∀ b, plus M a b → M' b := fun b z => z.elim (v.m1 b) fun y => by rw [y]; exact e.wm a hw
            refine hq3 (.ref a) H' v.kp (muts v e hp sub) ?_
            obtain ⟨es, rfl⟩ := hf rfl
            rcases hmr with ⟨es', xs, e1, h3, h4⟩ | ⟨_, _, _, _, _, e1, _⟩
            · cases e1
              exact ⟨es, a, xs, rfl, rfl, ha0, h3, reps_step (S := fun _ => False) (Kp3.refl _ _) (fun _ z => z.elim) (fun b z => .inl (sub b z)) h4⟩
            · cases e1
      · rw [if_neg hp] at hq3
        exact hq3.elim
    | exc c ns fs δ' =>
      rw [hbd] at hq2
      have hq3 : (match (if pOk kds δ' = true then Rs.exc c ns fs δ' else .stuck : Rs Dv) with
          | .ok r δc => ∀ x H', Kp3 (Ct.tabs ct) (Pcs kds vs) H H' → MutsR K ct (ResM mr M x) H' kds vs δc → rm K ct mr M H H' r x → Q x H'
          | .exc c ns fs δc => ∀ xd H', Kp3 (Ct.tabs ct) (Pcs kds vs) H H' → MutsR K ct M H' kds vs δc → ExR K ct M H' ns fs xd → E (.ref (ct c)) xd H'
          | .stuck => False) := hq2
      by_cases hp : pOk kds δ' = true
      · rw [if_pos hp] at hq3
        exact fun M' W' H' σ' xd v e rr => hq3 xd H' v.kp (muts v e hp v.m1) rr
      · rw [if_neg hp] at hq3
        exact hq3.elim
    | brk δ' =>
      rw [hbd] at hq2
      exact False.elim hq2
    | cnt δ' =>
      rw [hbd] at hq2
      exact False.elim hq2
    | stuck =>
      rw [hbd] at hq2
      exact False.elim hq2
end
section
variable {X : Cx} {K : PySem.W.Frag} {ct : Ct} {ks : Ky} {E : EX} {q : Bool}
theorem dx_rfs {ce : Str} {d : Dl → Rs Dv} {x a : Str} {g c P : Addr} {k : Nat} {fdg : FuncData} {st : Stmt} {Ng : List Str} {params : Arguments} {body : Expr} {scope : Scope} {t : XK → TE} {p lpos pos : Pos} (F : Fun X.K x x st g fdg) (hm : X.mg x = some (.ref g)) (hb : L2.Binds X.K fdg [a] []) (Sg : FnScope Ng [a] (defScope st)) (hNg : Ng[0]? = some a) (hva : Vis (defScope st) a)
    (hG : ∀ cdv, Gives X Ng x (defScope st) g cdv (defBody st) a (X.env.qual ++ "<lambda>") (TRfs ct ce))
    (TB : TabB X.base X.mg c P) (hcode : X.env.code = .ref c) (hmT : (P, X.env.qual ++ "<lambda>") ∈ ct.tabs) (hu : ∀ p ∈ ct.tabs, p.1 = P → p.2 = X.env.qual ++ "<lambda>") (hg : Gl X x) (hr : Room (k + 2) X.A) (L : LamS X.env.scope scope)
    (hdef : defaultsOf params X.env = ([], []))
    (hbi : ∀ (q : Str) (cl : List (Str × Addr)) (pm cv ctv : Value), bindArgs (PySem.W.kla_fn "<lambda>" q params body scope cl pm cv ctv) ⟨[], []⟩ = pure [])
    (hbo : ∀ (E' : XK) (A : Around) (outer : List Env) (s : Shared) (H : Hp) (f c' : Addr), Room k (A.deeper (lamEnv X scope s.heap.objs.size f c')) → DX K ct ks E' q .v (lamCx X A outer s H E' scope f c') body (t E') d) (s0 : Shared) (H0 : Hp)
    (hdb : (x == ("__debug__" : Str)) = false := by decide) (hd : (a == ("__debug__" : Str)) = false := by decide) (hcd : (a == ("__classdict__" : Str)) = false := by decide) :
    DX K ct ks E q .v X (.Call (.Name x p) [.Lambda params body scope lpos] [] pos) (tLamD ct.tabs (TRfs ct ce) t) (cRfs ce d) := by
  obtain ⟨ocO, odO, kVO, docO, pmO, anO, cdvO, ctO, oslO, rfl, lkO, hcO⟩ := F.ex
  refine ⟨pe_lamD hg hm F.kp lkO hcO hb Sg hNg hva (hG cdvO) TB hcode hmT hu hr L hdef hbi (fun E' A outer s H f c' hr2 => (hbo E' A outer s H f c' hr2).pe) hdb hd hcd, ?_⟩
  exact ev_rfs fun E' => (hbo E' X.A [] s0 H0 g g ((hr.mono (Nat.le_succ _)).deeper _)).ev
end
end Dn

/-! Several new lists of one's own at once. -/
namespace Dn
open PySem PySem.Spec PyProof.Rows L2 LamX Q
section
variable {X : Cx} {K : PySem.W.Frag} {ct : Ct} {ks : Ky} {E : EX} {mr : Md} {M W : Ads} {H : Hp} {δ : Dl} {σ : L2.St} {q1 q2 q3 : Bool}
/-- a list that the values avoid becomes a slot's own -/
theorem ER.addO {a : Addr} {xs : List V} {ds : List Dv} (e : ER K ct ks M W H δ σ) (mA : M a) (nW : ¬ W a) (nB : ¬ ks.be a) {i : Nat} (hk : ks i = .o) (hH : H a = some (.lst xs)) (hr : reps K ct M H ds xs) :
    ER K ct ks M (plus W a) H (δ.set i (some (.lst ds))) (σ.set i (some (.ref a))) := by
  have own : ∀ j dj b, (ks j).own = true → δ[j]? = some (some dj) → σ[j]? = some (some (.ref b)) → W b := fun j dj b oj hj sj => by
    obtain ⟨v, h1, h2⟩ := e.sl j dj hj
    rw [sj] at h1
    cases h1
    obtain ⟨_, q, hw, _⟩ := slr_own oj h2
    cases q
    exact hw
  have at_ : ∀ {j : Nat} {c : Dv}, (δ.set i (some (.lst ds)))[j]? = some (some c) → (j = i ∧ c = .lst ds ∧ (σ.set i (some (.ref a)))[j]? = some (some (.ref a))) ∨ (j ≠ i ∧ δ[j]? = some (some c) ∧ (σ.set i (some (.ref a)))[j]? = σ[j]?) := fun {j c} h => by
    by_cases z : j = i
    · subst z
      have hl : j < δ.length := by
        have := (List.getElem?_eq_some_iff.mp h).1
        rwa [List.length_set] at this
      rw [List.getElem?_set_self hl] at h
      cases h
      exact .inl ⟨rfl, rfl, List.getElem?_set_self (by rw [e.len]; exact hl)⟩
    · rw [List.getElem?_set_ne (Ne.symm z)] at h
      exact .inr ⟨z, h, List.getElem?_set_ne (Ne.symm z)⟩
  refine ⟨by rw [List.length_set, List.length_set]; exact e.len, fun j c hj => ?_, fun j k b dj dk hne oj ok hj hk' sj sk => ?_, fun b hb => hb.elim (e.wm b) fun y => by rw [y]; exact mA, e.mt, fun b hb => ?_, fun j b c oj hj sj => ?_, fun b hb => .inl (e.pw b hb),
    fun b hb => ⟨fun z => z.elim (e.bw b hb).1 fun y => nB (y ▸ hb), (e.bw b hb).2⟩, e.tb⟩
  · rcases at_ hj with ⟨rfl, rfl, s⟩ | ⟨_, h, s⟩
    · refine ⟨_, s, ?_⟩
      show slr K ct ks.be M (plus W a) H (ks j) (.lst ds) (.ref a)
      exact slr_mk (by rw [hk]; rfl) ⟨a, rfl, .inr rfl, .inl ⟨ds, xs, rfl, hH, hr⟩⟩
    · obtain ⟨v, h1, h2⟩ := e.sl j c h
      exact ⟨v, s.trans h1, slr_step (S := fun _ => False) (Kp3.refl _ _) (fun _ z => z.elim) (fun _ z => .inl z) (fun _ z => .inl z) (fun _ _ z => z) (fun _ _ _ z => z) h2⟩
  · rcases at_ hj with ⟨rfl, rfl, s⟩ | ⟨n1, h, s⟩ <;> rcases at_ hk' with ⟨z, rfl, s'⟩ | ⟨n2, h', s'⟩
    · exact hne z.symm
    · rw [s] at sj
      cases sj
      exact nW (own k dk a ok h' (s'.symm.trans sk))
    · subst z
      rw [s'] at sk
      cases sk
      exact nW (own j dj a oj h (s.symm.trans sj))
    · exact e.dis j k b dj dk hne oj ok h h' (s.symm.trans sj) (s'.symm.trans sk)
  · rcases hb with hb | rfl
    · exact e.wl b hb
    · rw [hH]
      exact True.intro
  · rcases at_ hj with ⟨rfl, rfl, s⟩ | ⟨_, h, s⟩
    · rw [s] at sj
      cases sj
      exact fun z => nW (e.pw _ z)
    · exact e.oc j b c oj h (s.symm.trans sj)
def cParO3 (i j l : Nat) (a b c : Dl → Rs Dv) : Dl → Fl := fun δ => bnf (a δ) fun x δ1 => bnf (b δ1) fun y δ2 => bnf (c δ2) fun z δ3 => .nx (((δ3.set i (some x)).set j (some y)).set l (some z))
theorem mv_wide {H1 : Hp} {a : Addr} (k : Kp3 (Ct.tabs ct) W H H1) (n : H a = none) : Mv3 (Ct.tabs ct) ks M W H σ (plus M a) W H1 σ := ⟨fun _ z => .inl z, fun b z => z.imp id fun e => by rw [e]; exact n, fun _ z => z, fun _ z => .inl z, k, fun _ _ => rfl⟩
theorem ds_parO3 {i j l : Nat} {st : Stmt} {a b c : Expr} {ta tb tc : TE} {da db dc : Dl → Rs Dv} (ki : ks i = .o) (kj : ks j = .o) (kl : ks l = .o) (ha : DX K ct ks E q1 .f X a ta da) (hb : DX K ct ks E q2 .f X b tb db) (hc : DX K ct ks E q3 .f X c tc dc)
    (hP : PS X st (tPar3 i j l (tCons ta (tCons tb (tCons tc tNil))))) : DS K ct ks E mr X st (tPar3 i j l (tCons ta (tCons tb (tCons tc tNil)))) (cParO3 i j l da db dc) := ⟨hP, fun M W H δ σ er D p => by
  show ta σ H fun x H1 => tCons tb (tCons tc tNil) σ H1 fun xs H2 => ∃ u v w, x :: xs = [u, v, w] ∧ D.nx (((σ.set i (some u)).set j (some v)).set l (some w)) H2
  refine ev_bnf (ha.ev M W H δ σ er) p fun x δ1 u1 H1 v1 e1 r1 p1 => ?_
  obtain ⟨⟨ds1, a1, xs1, rfl, rfl, n1, h1, g1⟩, f1⟩ := r1
  obtain ⟨a', ea, f1⟩ := f1 rfl
  cases ea
  have E1 := e1.less f1
  refine hb.ev (plus M a1) W H1 δ1 σ E1 _ ?_
  cases hy : db δ1 with
  | stuck => rw [hy] at p1; exact p1.elim
  | exc cc ns es δ2 =>
    rw [hy] at p1
    exact fun xd H2 k2 e2 rr => p1 (plus M a1) W H2 σ xd ((mv_wide v1.kp n1).trans (Mv3.kp1 (k2.mono fun _ z => z.2))) e2 (ExR_mv (ks := ks) (W := W) (σ := σ) (mv_wide v1.kp n1) rr)
  | ok y δ2 =>
    rw [hy] at p1
    intro u2 H2 k2 e2 r2
    have k2 : Kp3 (Ct.tabs ct) W H1 H2 := k2.mono fun _ z => z.2
    obtain ⟨⟨ds2, a2, xs2, rfl, rfl, n2, h2, g2⟩, f2⟩ := r2
    obtain ⟨a', ea, f2⟩ := f2 rfl
    cases ea
    have E2 := e2.less f2
    refine hc.ev (plus (plus M a1) a2) W H2 δ2 σ E2 _ ?_
    have p2 : Psf K ct ks E mr M W H σ D (bnf (dc δ2) fun z δ3 => .nx (((δ3.set i (some (.lst ds1))).set j (some (.lst ds2))).set l (some z))) := p1
    have m2 : Mv3 (Ct.tabs ct) ks M W H σ (plus (plus M a1) a2) W H2 σ := (mv_wide v1.kp n1).trans (mv_wide k2 n2)
    cases hz : dc δ2 with
    | stuck => rw [hz] at p2; exact p2.elim
    | exc cc ns es δ3 =>
      rw [hz] at p2
      exact fun xd H3 k3 e3 rr => p2 _ W H3 σ xd (m2.trans (Mv3.kp1 (k3.mono fun _ z => z.2))) e3 (ExR_mv (ks := ks) m2 rr)
    | ok z δ3 =>
      rw [hz] at p2
      intro u3 H3 k3 e3 r3
      have k3 : Kp3 (Ct.tabs ct) W H2 H3 := k3.mono fun _ z => z.2
      obtain ⟨⟨ds3, a3, xs3, rfl, rfl, n3, h3, g3⟩, f3⟩ := r3
      obtain ⟨a', ea, f3⟩ := f3 rfl
      cases ea
      have E3 := e3.less f3
      have m3 : Mv3 (Ct.tabs ct) ks M W H σ (plus (plus (plus M a1) a2) a3) W H3 σ := m2.trans (mv_wide k3 n3)
      have w1 : ¬ W a1 := fun z => er.mt a1 (er.wm a1 z) n1
      have w2 : ¬ W a2 := fun z => E1.mt a2 (E1.wm a2 z) n2
      have w3 : ¬ W a3 := fun z => E2.mt a3 (E2.wm a3 z) n3
      have b1 : ¬ ks.be a1 := fun z => (er.bw a1 z).2 n1
      have b2 : ¬ ks.be a2 := fun z => (E1.bw a2 z).2 n2
      have b3 : ¬ ks.be a3 := fun z => (E2.bw a3 z).2 n3
      have d12 : a2 ≠ a1 := fun z => by rw [z, h1] at n2; cases n2
      have h1' : H2 a1 = some (.lst xs1) := k2.keep _ _ h1 w1 fun _ z => by cases z
      have d13 : a3 ≠ a1 := fun z => by rw [z, h1'] at n3; cases n3
      have d23 : a3 ≠ a2 := fun z => by rw [z, h2] at n3; cases n3
      have h1'' := k3.keep _ _ h1' w1 fun _ z => by cases z
      have h2'' := k3.keep _ _ h2 w2 fun _ z => by cases z
      have wq : ∀ {N : Ads} {G : Hp} {τ : L2.St} {ε : Dl}, ER K ct ks N W G ε τ → ∀ b, W b → N b ∨ G b = none := fun e b z => .inl (e.wm b z)
      have g1' : reps K ct (plus (plus (plus M a1) a2) a3) H3 ds1 xs1 := reps_step k3 (fun b z => .inl (.inl (.inl (er.wm b z)))) (fun b z => z.imp id fun y => by rw [y]; exact n3)
        (reps_step k2 (fun b z => .inl (.inl (er.wm b z))) (fun b z => z.imp id fun y => by rw [y]; exact n2) g1)
      have g2' : reps K ct (plus (plus (plus M a1) a2) a3) H3 ds2 xs2 := reps_step k3 (fun b z => .inl (.inl (.inl (er.wm b z)))) (fun b z => z.imp id fun y => by rw [y]; exact n3) g2
      have F1 := E3.addO (.inl (.inl (.inr rfl))) w1 b1 ki h1'' g1'
      have F2 := F1.addO (.inl (.inr rfl)) (fun z => z.elim w2 d12) b2 kj h2'' g2'
      have F3 := F2.addO (.inr rfl) (fun z => z.elim (fun z => z.elim w3 d13) d23) b3 kl h3 g3
      refine ⟨_, _, _, rfl, p2 _ _ H3 _ ⟨m3.m1, m3.m2, fun b z => .inl (.inl (.inl z)), fun b z => ?_, m3.kp, fun m hm => ?_⟩ F3⟩
      · rcases z with ((z | z) | z) | z
        · exact .inl z
        · exact .inr (by rw [z]; exact n1)
        · exact .inr (by rw [z]; exact v1.kp.free n2)
        · exact .inr (by rw [z]; exact v1.kp.free (k2.free n3))
      · rw [List.getElem?_set_ne (fun z => by rw [z, hm] at kl; cases kl), List.getElem?_set_ne (fun z => by rw [z, hm] at kj; cases kj), List.getElem?_set_ne (fun z => by rw [z, hm] at ki; cases ki)]⟩
theorem pi_zip2K {elts : List Expr} {kk : Nat} {e e2 : Expr} {ta : TA} {p pos tpos : Pos} (hK : X.K = K) (h : PI X (.Tuple elts kk tpos) (.Call (.Name "zip" p) [e, e2] [] pos) (RZ.iZipA X.K ta)) : PI X (.Tuple elts kk tpos) (.Call (.Name "zip" p) [e, e2] [] pos) (RZ.iZipA K ta) := by
  subst hK
  exact h
theorem get_listK (hK : X.K = K) : PGet X (rGetL K) := by
  subst hK
  exact get_list
end
end Dn

/-! Words for the generated texts. -/
namespace Dn
open PySem PySem.Spec PyProof.Rows L2 LamX Q
theorem hk_take {kds L : List Kd} {n : Nat} (he : kds = L.take n) (h : (L.take n).all (fun k => !decide (k = .o)) = true) : ∀ (j : Nat) (kd : Kd), kds[j]? = some kd → L.getD j .v = kd ∧ kd ≠ .o := fun j kd hj => by
  subst he
  have hm := List.mem_of_getElem? hj
  have h2 := List.all_eq_true.mp h kd hm
  refine ⟨?_, by simpa using h2⟩
  rw [List.getElem?_take] at hj
  split at hj
  · rw [List.getD_eq_getElem?_getD, hj]
    rfl
  · cases hj
end Dn
namespace Dn
open PySem PySem.Spec PyProof.Rows L2 LamX Q
/-- an own error class without fields -/
structure Xcl (K : PySem.W.Frag) (mg : Str → Option Value) (x : Str) (C : Addr) : Prop where
  q : PySem.W.excIn K C [.type "ValueError", .type "Exception", .type "BaseException", .type "object"] "ValueError.__new__" = true
  g : mg x = some (.ref C)
  k : PySem.W.keepIn K (.ref C) = true
  h1 : PySem.W.subIn K (.ref C) (.type "BaseException") = some true
  h2 : PySem.W.typeIn K (.ref C) = some (.type "type")
/-- a def that no one needs here -/
theorem fn_stuck {P : Program} {w : World} {K : PySem.W.Frag} {ct : Ct} {mg : Str → Option Value} {base : Heap} {x qual : Str} {st : Stmt} {f : Addr} {fd : FuncData} {N ps : List Str} {k : Nat} {kds : List Kd} {mr : Md} (F : Fun K x qual st f fd) (S : FnScope N ps (defScope st)) (hl : kds.length = ps.length) :
    FnOk P w K mg base (L2.CX P w) (k + 1) f fd ps (spD K ct kds mr fun _ => .stuck) := by
  refine F.okX S (fun vs H Q E h => ?_) (fun cdv A outer s H vs Q E hr h => ?_)
  · obtain ⟨M, ds, h1, _⟩ := h
    exact h1.trans hl
  · obtain ⟨M, ds, _, _, _, _, _, _, h⟩ := h
    exact h.elim
section
variable {X : Cx} {K : PySem.W.Frag} {ct : Ct} {ks : Ky} {E : EX} {mr m : Md} {q q1 q2 q3 : Bool} {e a b c o i : Expr} {t ta tb tc ti : TE} {d da db dc di : Dl → Rs Dv} {pos : Pos} {es : List Expr} {tl : TA} {dl : Dl → Rs (List Dv)}
theorem dx_appF {p1 : Pos} (s : Nat) (hk : (ks s).own = true) (hm : m ≠ .b) (he : DX K ct ks E q m X e t d) (hP : PE X e t → PE X (.Call (.Attribute o "append" p1) [e] [] pos) (tBM K "list" rAppend (tVar s) (tCons t tNil))) :
    DX K ct ks E false .v X (.Call (.Attribute o "append" p1) [e] [] pos) (tBM K "list" rAppend (tVar s) (tCons t tNil)) (cApp s d) := dx_app s hk hm he (hP he.pe)
theorem di_enumF {elts : List Expr} {kk : Nat} {p tpos : Pos} (ha : DA K ct ks E q false X [e] tl dl) (hP : PA X [e] tl → PI X (.Tuple elts kk tpos) (.Call (.Name "enumerate" p) [e] [] pos) (iEnA K tl)) :
    DI K ct ks E q X (.Tuple elts kk tpos) (.Call (.Name "enumerate" p) [e] [] pos) (iEnA K tl) (cIt fEnum dl) := di_enum (hP ha.pe) ha
theorem di_zip2F {elts : List Expr} {kk : Nat} {p tpos : Pos} (ha : DA K ct ks E q false X [a, b] tl dl) (hP : PA X [a, b] tl → PI X (.Tuple elts kk tpos) (.Call (.Name "zip" p) [a, b] [] pos) (RZ.iZipA K tl)) :
    DI K ct ks E q X (.Tuple elts kk tpos) (.Call (.Name "zip" p) [a, b] [] pos) (RZ.iZipA K tl) (cIt fZip2 dl) := di_zip2 (hP ha.pe) ha
theorem di_zip3F {elts : List Expr} {kk : Nat} {p tpos : Pos} (ha : DA K ct ks E q false X [a, b, c] tl dl) (hP : PA X [a, b, c] tl → PI X (.Tuple elts kk tpos) (.Call (.Name "zip" p) [a, b, c] [] pos) (iZip3 K tl)) :
    DI K ct ks E q X (.Tuple elts kk tpos) (.Call (.Name "zip" p) [a, b, c] [] pos) (iZip3 K tl) (cIt fZip3 dl) := di_zip3 (hP ha.pe) ha
theorem ds_parO3F {i j l : Nat} {x y z : Str} {px py pz pt : Pos} {kt k2 pt2} (ki : ks i = .o) (kj : ks j = .o) (kl : ks l = .o) (ha : DX K ct ks E q1 .f X a ta da) (hb : DX K ct ks E q2 .f X b tb db) (hc : DX K ct ks E q3 .f X c tc dc)
    (hP : PE X a ta → PE X b tb → PE X c tc → PS X (.Assign [.Tuple [.Name x px, .Name y py, .Name z pz] kt pt] (.Tuple [a, b, c] k2 pt2) pos) (tPar3 i j l (tCons ta (tCons tb (tCons tc tNil))))) :
    DS K ct ks E mr X (.Assign [.Tuple [.Name x px, .Name y py, .Name z pz] kt pt] (.Tuple [a, b, c] k2 pt2) pos) (tPar3 i j l (tCons ta (tCons tb (tCons tc tNil)))) (cParO3 i j l da db dc) := ds_parO3 ki kj kl ha hb hc (hP ha.pe hb.pe hc.pe)
theorem ds_par3F {i j l : Nat} {x y z : Str} {px py pz pt : Pos} {kt k2 pt2} (ki : ks i = .v) (kj : ks j = .v) (kl : ks l = .v) (ha : DA K ct ks E q false X [a, b, c] tl dl)
    (hP : PA X [a, b, c] tl → PS X (.Assign [.Tuple [.Name x px, .Name y py, .Name z pz] kt pt] (.Tuple [a, b, c] k2 pt2) pos) (tPar3 i j l tl)) :
    DS K ct ks E mr X (.Assign [.Tuple [.Name x px, .Name y py, .Name z pz] kt pt] (.Tuple [a, b, c] k2 pt2) pos) (tPar3 i j l tl) (cPar3 i j l dl) := ds_par3 ki kj kl (hP ha.pe) ha
theorem ds_subF {p2 : Pos} (s : Nat) (hk : (ks s).own = true) (he : DX K ct ks E q .v X e t d) (ho : PE X o (tVar s)) (hi : DX K ct ks E q2 .v X i ti di)
    (hP : PE X e t → PE X i ti → PS X (.Assign [.Subscript o i p2] e pos) (tAsg t (gSub (tVar s) ti rSetL))) : DS K ct ks E mr X (.Assign [.Subscript o i p2] e pos) (tAsg t (gSub (tVar s) ti rSetL)) (cSub s d di) := ds_sub s hk he ho hi (hP he.pe hi.pe)
theorem ds_augSF {p2 : Pos} {op : Operator} {f : Int → Int → Int} (s : Nat) (hk : (ks s).own = true) (ho : PE X o (tVar s)) (hi : DX K ct ks E q2 .v X i ti di) (he : DX K ct ks E q .v X e t d)
    (hP : PE X i ti → PE X e t → PS X (.AugAssign (.Subscript o i p2) op e pos) (tAugS (tVar s) ti t (rGetL K) (ipI f) rSetL)) : DS K ct ks E mr X (.AugAssign (.Subscript o i p2) op e pos) (tAugS (tVar s) ti t (rGetL K) (ipI f) rSetL) (cAugSub s f di d) := ds_augS s hk ho hi he (hP hi.pe he.pe)
theorem ds_augF {i : Nat} {x : Str} {op : Operator} {f : Int → Int → Int} {pos' : Pos} (hk : ks i = .v) (he : DX K ct ks E q .v X e t d) (hP : PE X e t → PS X (.AugAssign (.Name x pos') op e pos) (tAug i t (ipI f))) :
    DS K ct ks E mr X (.AugAssign (.Name x pos') op e pos) (tAug i t (ipI f)) (cAug i f d) := ds_aug hk (hP he.pe) he
theorem dx_sliceQ {ql qh : Bool} {r : V → Option Int → Option Int → Hp → VK → Prop} {f : Dv → Option Int → Option Int → Option Dv} {lo hi : Option Expr} {to th : TO} {dlo dhi : Dl → Rs (Option Int)} {p2 : Pos} {m1 : Md} (hp : SlR X r) (ho : SlD K ct m1.isB m r f) (ha : DX K ct ks E q1 m1 X a ta da) (hl : DP K ct ks E ql X lo to dlo) (hh : DP K ct ks E qh X hi th dhi) (h1 : ql = true := by decide) (h2 : qh = true := by decide) :
    DX K ct ks E q1 m X (.Subscript a (.Slice lo hi none p2) pos) (tSl r ta to th) (cSl f da dlo dhi) := by
  subst h1 h2
  exact dx_slice hp ho ha hl hh
theorem dx_repLQ (ha : DX K ct ks E q1 .f X a ta da) (hb : DX K ct ks E q2 .v X b tb db) (h : q2 = true := by decide) : DX K ct ks E (q1 && true) .f X (.BinOp a .Mult b pos) (tOp rRep ta tb) (cOp repL da db) := by
  subst h
  exact dx_repL ha hb
end
/-- a def that calls what it gets -/
structure Ask (K : PySem.W.Frag) (mg : Str → Option Value) (x : Str) (st : Stmt) (a : Str) : Prop where
  ex : ∃ (g : Addr) (fd : FuncData), Fun K x x st g fd ∧ mg x = some (.ref g) ∧ L2.Binds K fd [a] []
/-- the lambdas of the code at c are filed under the name q -/
structure Lmk (base : Heap) (mg : Str → Option Value) (T : List (Addr × Str)) (c : Addr) (q : Str) : Prop where
  ex : ∃ P : Addr, TabB base mg c P ∧ (P, q) ∈ T ∧ ∀ p ∈ T, p.1 = P → p.2 = q
section
variable {X : Cx} {K : PySem.W.Frag} {ct : Ct} {ks : Ky} {E : EX} {q : Bool}
theorem dx_ask {ce q0 : Str} {d : Dl → Rs Dv} {x a : Str} {c : Addr} {k : Nat} {st : Stmt} {Ng : List Str} {params : Arguments} {body : Expr} {scope : Scope} {t : XK → TE} {p lpos pos : Pos} (Z : Ask X.K X.mg x st a) (Sg : FnScope Ng [a] (defScope st))
    (hG : ∀ g cdv, Gives X Ng x (defScope st) g cdv (defBody st) a (X.env.qual ++ "<lambda>") (TRfs ct ce))
    (hL : Lmk X.base X.mg ct.tabs c q0) (hr : Room (k + 2) X.A) (L : LamS X.env.scope scope)
    (hbo : ∀ (E' : XK) (A : Around) (outer : List Env) (s : Shared) (H : Hp) (f c' : Addr), Room k (A.deeper (lamEnv X scope s.heap.objs.size f c')) → DX K ct ks E' q .v (lamCx X A outer s H E' scope f c') body (t E') d) (s0 : Shared) (H0 : Hp)
    (hq : q0 = X.env.qual ++ "<lambda>" := by rfl) (hcode : X.env.code = .ref c := by rfl) (hNg : Ng[0]? = some a := by rfl) (hva : Vis (defScope st) a := by exact Or.inl rfl) (hg : Gl X x := by rfl)
    (hdef : defaultsOf params X.env = ([], []) := by rfl)
    (hbi : ∀ (q : Str) (cl : List (Str × Addr)) (pm cv ctv : Value), bindArgs (PySem.W.kla_fn "<lambda>" q params body scope cl pm cv ctv) ⟨[], []⟩ = pure [] := by exact fun _ _ _ _ _ => rfl)
    (hdb : (x == ("__debug__" : Str)) = false := by decide) (hd : (a == ("__debug__" : Str)) = false := by decide) (hcd : (a == ("__classdict__" : Str)) = false := by decide) :
    DX K ct ks E q .v X (.Call (.Name x p) [.Lambda params body scope lpos] [] pos) (tLamD ct.tabs (TRfs ct ce) t) (cRfs ce d) := by
  obtain ⟨g, fdg, F, hm, hb⟩ := Z.ex
  obtain ⟨P, TB, hmT, hu⟩ := hL.ex
  subst hq
  exact dx_rfs F hm hb Sg hNg hva (hG g) TB hcode hmT hu hg hr L hdef hbi hbo s0 H0 hdb hd hcd
end
end Dn

/-! The end of a law over the layer of trees. -/
namespace Dn
open PySem PySem.Spec PyProof.Rows L2 LamX Q
theorem law_sp {K : PySem.W.Frag} {ct : Ct} {H : Hp} {a : Addr} {ns : List Int} {m : List Dv → Rs Dv} (hT : Tabs ct.tabs H) (hS : SqL K H a (ns.map V.int)) (hm : ∃ δ, m [.lst (ns.map .int)] = .ok (.bl true) δ) :
    spD K ct [.v] .v m [.ref a] H (fun v _ => v = .bl true) (fun _ _ _ => False) := by
  obtain ⟨δ, hm⟩ := hm
  refine ⟨fun _ => False, [.lst (ns.map .int)], rfl, rfl, hT, fun _ z => z.elim, fun j k d v h1 h2 h3 => ?_, fun i j b _ h => ?_, ?_⟩
  · cases j with
    | zero =>
      cases h1
      cases h2
      cases h3
      show rep K ct _ H _ _
      rw [rep_lst]
      refine ⟨a, _, rfl, ?_, reps_ints⟩
      rcases hS with h | h
      · exact .inl ⟨fun z => z, h⟩
      · exact .inr h
    | succ j => cases h1
  · cases i with
    | zero => cases h
    | succ i => cases h
  · rw [hm]
    exact fun x H' _ _ r => (rep_bl (K := K) (ct := ct) (M := fun _ => False) (H := H')).mp r
def ctOf (l : List (Str × Addr)) : Str → Addr := fun x => (l.lookup x).getD 0
theorem clsT_mk {K : PySem.W.Frag} {ct : Ct} {L : List (Str × Str)} (h : ∀ p ∈ L, Cls K (ct p.1) ∧ NoAttr K (ct p.1) p.2) : ClsT K ct (fun c f => L.contains (c, f)) := fun c f e => h (c, f) (by simpa using e)
theorem lookup_mem {α β : Type} [BEq α] [LawfulBEq α] {x : α} {b : β} : ∀ {l : List (α × β)}, l.lookup x = some b → (x, b) ∈ l
  | [], h => by cases h
  | (y, c) :: l, h => by
    by_cases e : x = y
    · subst e
      rw [List.lookup_cons, beq_self_eq_true] at h
      cases h
      exact List.mem_cons_self
    · rw [List.lookup_cons, show (x == y) = false from beq_eq_false_iff_ne.mpr e] at h
      exact List.mem_cons_of_mem _ (lookup_mem h)
theorem isT_mk {K : PySem.W.Frag} {ct : Ct} {L : List ((Str × Str) × Bool)} (h : ∀ p ∈ L, OwnC K (ct p.1.1) ∧ PySem.W.kitOne K (.ref (ct p.1.1)) (.ref (ct p.1.2)) = some p.2) : IsT K ct (fun c d => L.lookup (c, d)) := fun c d b e => h ((c, d), b) (lookup_mem e)
theorem fa_nil {α : Type} {p : α → Prop} : ∀ x ∈ ([] : List α), p x := fun x h => by cases h
theorem fa_cons {α : Type} {p : α → Prop} {a : α} {l : List α} (h : p a) (t : ∀ x ∈ l, p x) : ∀ x ∈ a :: l, p x := fun x hx => by
  rcases List.mem_cons.mp hx with rfl | hx
  · exact h
  · exact t x hx
end Dn

/-! What the functions of trees answer: words. -/
namespace Dn
open PySem L2
/-- a piece, then the next -/
def sqF (r : Fl) (b : Dl → Fl) : Fl := match r with
  | .nx δ => b δ
  | .ret v δ => .ret v δ
  | .brk δ => .brk δ
  | .cnt δ => .cnt δ
  | .exc c ns ds δ => .exc c ns ds δ
  | .stuck => .stuck
theorem bnd_cg {α β : Type} {r r' : Rs α} {k : α → Dl → Rs β} (h : r = r') : bnd r k = bnd r' k := by rw [h]
theorem bnf_cg {α : Type} {r r' : Rs α} {k : α → Dl → Fl} (h : r = r') : bnf r k = bnf r' k := by rw [h]
theorem sqF_cg {r r' : Fl} {b : Dl → Fl} (h : r = r') : sqF r b = sqF r' b := by rw [h]
theorem bnd_okS {α β : Type} (v : α) (δ : Dl) (k : α → Dl → Rs β) : bnd (.ok v δ) k = k v δ := id rfl
theorem bnf_okS {α : Type} (v : α) (δ : Dl) (k : α → Dl → Fl) : bnf (.ok v δ) k = k v δ := id rfl
theorem bnd_exS {α β : Type} (c : Str) (ns : List Str) (ds : List Dv) (δ : Dl) (k : α → Dl → Rs β) : bnd (.exc c ns ds δ) k = .exc c ns ds δ := id rfl
theorem bnf_exS {α : Type} (c : Str) (ns : List Str) (ds : List Dv) (δ : Dl) (k : α → Dl → Fl) : bnf (.exc c ns ds δ) k = .exc c ns ds δ := id rfl
theorem sqF_nx (δ : Dl) (b : Dl → Fl) : sqF (.nx δ) b = b δ := id rfl
theorem sqF_ret (v : Dv) (δ : Dl) (b : Dl → Fl) : sqF (.ret v δ) b = .ret v δ := id rfl
theorem sqF_exc (c : Str) (ns : List Str) (ds : List Dv) (δ : Dl) (b : Dl → Fl) : sqF (.exc c ns ds δ) b = .exc c ns ds δ := id rfl
theorem opt_some {α : Type} (v : α) (δ : Dl) : opt (some v) δ = .ok v δ := id rfl
section
variable {i j n s : Nat} {δ δ1 δ2 : Dl} {d x y z : Dv} {a b c : Dl → Rs Dv} {f f' : Dv → Dv → Option Dv} {as : Dl → Rs (List Dv)} {xs : List Dv} {t u : Dl → Rs Bool} {g : Dv → Dl → Option Dl} {p q : Dl → Fl}
/-- a slot is read -/
def gtK (δ : Dl) : Option (Option Dv) → Rs Dv
  | some (some d) => .ok d δ
  | _ => .stuck
theorem gtK_s : gtK δ (some (some d)) = .ok d δ := id rfl
theorem cVar_eq : cVar i δ = gtK δ δ[i]? := id rfl
theorem cC_eq : cC d δ = .ok d δ := id rfl
theorem cNil_eq : cNil δ = .ok [] δ := id rfl
theorem cTrue_eq : cTrue δ = .ok true δ := id rfl
theorem cOp_eq : cOp f a b δ = bnd (a δ) fun x δ1 => bnd (b δ1) fun y δ2 => opt (f x y) δ2 := id rfl
theorem cUn_eq {f : Dv → Option Dv} : cUn f a δ = bnd (a δ) fun x δ1 => opt (f x) δ1 := id rfl
theorem cCons_eq : cCons a as δ = bnd (a δ) fun x δ1 => bnd (as δ1) fun xs δ2 => .ok (x :: xs) δ2 := id rfl
theorem cTup_eq : cTup as δ = bnd (as δ) fun xs δ1 => .ok (.tup xs) δ1 := id rfl
theorem cLst_eq : cLst as δ = bnd (as δ) fun xs δ1 => .ok (.lst xs) δ1 := id rfl
theorem cCall_eq {f : List Dv → Option Dv} : cCall f as δ = bnd (as δ) fun xs δ1 => opt (f xs) δ1 := id rfl
theorem cIt_eq {f : List Dv → Option (List Dv)} : cIt f as δ = bnd (as δ) fun xs δ1 => opt (f xs) δ1 := id rfl
theorem cSeqOf_eq : cSeqOf a δ = bnd (a δ) fun x δ1 => opt (seqOf x) δ1 := id rfl
theorem cTest_eq : cTest a δ = bnd (a δ) fun x δ1 => opt (cBl x) δ1 := id rfl
theorem cTru_eq : cTru a δ = bnd (a δ) fun x δ1 => opt (truD x) δ1 := id rfl
theorem cNot_eq : cNot t δ = bnd (t δ) fun x δ1 => .ok (!x) δ1 := id rfl
theorem cAnd_eq : cAnd t u δ = bnd (t δ) fun x δ1 => if x = true then u δ1 else .ok false δ1 := id rfl
theorem cOr_eq : cOr t u δ = bnd (t δ) fun x δ1 => if x = true then .ok true δ1 else u δ1 := id rfl
theorem cIf_eq {α : Type} {a b : Dl → Rs α} : cIf t a b δ = bnd (t δ) fun x δ1 => if x = true then a δ1 else b δ1 := id rfl
theorem cChain_eq : cChain f f' a b c δ = bnd (a δ) fun x δ1 => bnd (b δ1) fun y δ2 => match (f x y).bind cBl with
  | some true => bnd (c δ2) fun z δ3 => opt (f' y z) δ3
  | some false => .ok (.bl false) δ2
  | none => .stuck := id rfl
theorem cSet_eq : cSet i a δ = bnf (a δ) fun x δ1 => .nx (δ1.set i (some x)) := id rfl
theorem cRet_eq : cRet a δ = bnf (a δ) fun x δ1 => .ret x δ1 := id rfl
theorem cDrop_eq : cDrop a δ = bnf (a δ) fun _ δ1 => .nx δ1 := id rfl
theorem cIfS_eq : cIfS t p q δ = bnf (t δ) fun x δ1 => if x = true then p δ1 else q δ1 := id rfl
theorem cSeq_eq : cSeq p q δ = sqF (p δ) q := by
  unfold cSeq sqF
  cases p δ <;> rfl
theorem cFor_eq {di : Dl → Rs (List Dv)} : cFor di g p δ = bnf (di δ) fun xs δ1 => forL g p xs δ1 := id rfl
theorem cAsg_eq : cAsg g a δ = bnf (a δ) fun x δ1 => match g x δ1 with
  | some δ2 => .nx δ2
  | none => .stuck := id rfl
theorem cPar_eq : cPar i j as δ = bnf (as δ) fun xs δ1 => match xs with
  | [x, y] => .nx ((δ1.set i (some x)).set j (some y))
  | _ => .stuck := id rfl
theorem cPar3_eq {l : Nat} : cPar3 i j l as δ = bnf (as δ) fun xs δ1 => match xs with
  | [x, y, z] => .nx (((δ1.set i (some x)).set j (some y)).set l (some z))
  | _ => .stuck := id rfl
theorem cParO3_eq {l : Nat} : cParO3 i j l a b c δ = bnf (a δ) fun x δ1 => bnf (b δ1) fun y δ2 => bnf (c δ2) fun z δ3 => .nx (((δ3.set i (some x)).set j (some y)).set l (some z)) := id rfl
theorem cSub_eq : cSub s a b δ = bnf (a δ) fun x δ1 => match asL δ1[s]? with
  | none => .stuck
  | some _ => bnf (b δ1) fun k δ2 => match asL δ2[s]? with
    | none => .stuck
    | some ds => match k with
      | .int k => match ixN ds.length k with
        | some j => .nx (δ2.set s (some (.lst (ds.set j x))))
        | none => .stuck
      | _ => .stuck := id rfl
/-- one's own list is there -/
def hvK {α : Type} (k : Rs α) : Option (Option Dv) → Rs α
  | some (some _) => k
  | _ => .stuck
theorem hvK_s {α : Type} {k : Rs α} : hvK k (some (some d)) = k := id rfl
theorem hvK_cg {α : Type} {k : Rs α} {o o' : Option (Option Dv)} (h : o = o') : hvK k o = hvK k o' := by rw [h]
def hlK {α : Type} (k : Rs α) : Option (List Dv) → Rs α
  | some _ => k
  | none => .stuck
theorem hlK_s {α : Type} {k : Rs α} : hlK k (some xs) = k := id rfl
theorem hlK_cg {α : Type} {k : Rs α} {o o' : Option (List Dv)} (h : o = o') : hlK k o = hlK k o' := by rw [h]
theorem cApp_eq : cApp s a δ = hlK (bnd (a δ) fun x δ1 => match asL δ1[s]? with
    | none => .stuck
    | some ds => if ds.length < sizeLine then .ok .non (δ1.set s (some (.lst (ds ++ [x])))) else .stuck) (asL δ[s]?) := by
  unfold cApp hlK
  cases asL δ[s]? <;> rfl
theorem cSlot_eq : cSlot i as δ = hvK (as δ) δ[i]? := id rfl
theorem cExc_eq {c : Str} {ns : List Str} {rev : List Dv → List Dv} : cExc c ns rev as δ = bnf (as δ) fun xs δ1 => .exc c ns (rev xs) δ1 := id rfl
/-- a call's end -/
def fnK (kds : List Kd) (sh : Sh) (δ1 : Dl) : Rs Dv → Rs Dv
  | .ok r δc => .ok r (upSl kds sh δc δ1)
  | .exc c ns fs δc => .exc c ns fs (upSl kds sh δc δ1)
  | .stuck => .stuck
theorem cFn_eq {kds : List Kd} {sh : Sh} {df : List Dv → Rs Dv} : cFn kds sh df as δ = bnd (as δ) fun xs δ1 => match fill sh xs δ1 with
  | none => .stuck
  | some ds => fnK kds sh δ1 (df ds) := by
  show bnd _ _ = bnd _ _
  congr 1
theorem cMk_eq {c : Str} {kds : List Kd} {sh : Sh} {df : List Dv → Rs Dv} : cMk c kds sh df as δ = bnd (as δ) fun xs δ1 => match fill sh xs δ1 with
  | none => .stuck
  | some ds => mkEnd kds sh δ1 (df (.obj c [] [] :: ds)) := id rfl
theorem fnK_ok {kds : List Kd} {sh : Sh} {δc : Dl} : fnK kds sh δ (.ok d δc) = .ok d (upSl kds sh δc δ) := id rfl
theorem fnK_ex {c : Str} {ns : List Str} {kds : List Kd} {sh : Sh} {δc : Dl} : fnK kds sh δ (.exc c ns xs δc) = .exc c ns xs (upSl kds sh δc δ) := id rfl
theorem fill0 : fill [] [] δ = some [] := id rfl
theorem fillN {sh : Sh} : fill (none :: sh) (x :: xs) δ = (fill sh xs δ).map (x :: ·) := id rfl
def flK (r : Option (List Dv)) : Option (Option Dv) → Option (List Dv)
  | some (some d) => r.map (d :: ·)
  | _ => none
theorem flK_s {r : List Dv} : flK (some r) (some (some d)) = some (d :: r) := id rfl
theorem fillS {sh : Sh} : fill (some i :: sh) xs δ = flK (fill sh xs δ) δ[i]? := by
  cases xs <;> rfl
theorem up0 {sh : Sh} {δc : Dl} : upSl [] sh δc δ = δ := by
  cases sh <;> rfl
theorem upV {kds : List Kd} {sh : Sh} {o : Option Nat} {c : Option Dv} {δc : Dl} : upSl (.v :: kds) (o :: sh) (c :: δc) δ = upSl kds sh δc δ := id rfl
theorem upB {kds : List Kd} {sh : Sh} {o : Option Nat} {c : Option Dv} {δc : Dl} : upSl (.b :: kds) (o :: sh) (c :: δc) δ = upSl kds sh δc δ := id rfl
theorem upP {kds : List Kd} {sh : Sh} {c : Option Dv} {δc : Dl} : upSl (.p :: kds) (some i :: sh) (c :: δc) δ = upSl kds sh δc (δ.set i c) := id rfl
end
theorem add2_int (i j : Int) : add2 (.int i) (.int j) = some (.int (i + j)) := id rfl
theorem sub2_int (i j : Int) : sub2 (.int i) (.int j) = some (.int (i - j)) := id rfl
theorem lt2_int (i j : Int) : lt2 (.int i) (.int j) = some (.bl (decide (i < j))) := id rfl
theorem le2_int (i j : Int) : le2 (.int i) (.int j) = some (.bl (decide (i ≤ j))) := id rfl
theorem gt2_int (i j : Int) : gt2 (.int i) (.int j) = some (.bl (decide (j < i))) := id rfl
theorem ge2_int (i j : Int) : ge2 (.int i) (.int j) = some (.bl (decide (j ≤ i))) := id rfl
theorem mul2_int {i j : Int} (h : bMul i j = true) : mul2 (.int i) (.int j) = some (.int (i * j)) := if_pos h
theorem mod2_int {i j : Int} (h : 0 < j) : mod2 (.int i) (.int j) = some (.int (i % j)) := if_pos (decide_eq_true h)
theorem fdiv2_int {i j : Int} (h : 0 < j) (h2 : j < 1073741824) : fdiv2 (.int i) (.int j) = some (.int (i / j)) := if_pos (decide_eq_true ⟨h, h2⟩)
theorem bMul_l {i j : Int} (h : -(2 ^ 64) < i ∧ i < 2 ^ 64) : bMul i j = true := by
  unfold bMul
  rw [decide_eq_true h]
  rfl
theorem bMul_r {i j : Int} (h : -(2 ^ 64) < j ∧ j < 2 ^ 64) : bMul i j = true := by
  unfold bMul
  rw [decide_eq_true h, Bool.or_true]
theorem cBl_bl (b : Bool) : cBl (.bl b) = some b := id rfl
theorem fIx_l {ds : List Dv} {i : Int} : fIx (.lst ds) (.int i) = atI ds i := id rfl
theorem fIx_t {ds : List Dv} {i : Int} : fIx (.tup ds) (.int i) = atI ds i := id rfl
theorem asL_l {ds : List Dv} : asL (some (some (.lst ds))) = some ds := id rfl
theorem fLen_l {ds : List Dv} : fLen [.lst ds] = some (.int ds.length) := id rfl
theorem fLen_t {ds : List Dv} : fLen [.tup ds] = some (.int ds.length) := id rfl
theorem fTup_l {ds : List Dv} : fTuple [.lst ds] = some (.tup ds) := id rfl
theorem fTup_t {ds : List Dv} : fTuple [.tup ds] = some (.tup ds) := id rfl
theorem fLst_l {ds : List Dv} : fList [.lst ds] = some (.lst ds) := id rfl
theorem fLst_t {ds : List Dv} : fList [.tup ds] = some (.lst ds) := id rfl
theorem seqOf_l {ds : List Dv} : seqOf (.lst ds) = some ds := id rfl
theorem seqOf_t {ds : List Dv} : seqOf (.tup ds) = some ds := id rfl
theorem atI_at {α : Type} {xs : List α} {i : Int} {x : α} (h : xs[i.toNat]? = some x) (h0 : 0 ≤ i) : atI xs i = some x := by
  have hl := (List.getElem?_eq_some_iff.mp h).1
  unfold atI ixN
  rw [if_pos h0, if_pos (by omega)]
  exact h
theorem atI_0 {α : Type} {x : α} {xs : List α} : atI (x :: xs) 0 = some x := atI_at (i := 0) rfl (by decide)
theorem atI_1 {α : Type} {x y : α} {xs : List α} : atI (x :: y :: xs) 1 = some y := atI_at (i := 1) rfl (by decide)
theorem atI_2 {α : Type} {x y z : α} {xs : List α} : atI (x :: y :: z :: xs) 2 = some z := atI_at (i := 2) rfl (by decide)
theorem atI_3 {α : Type} {x y z w : α} {xs : List α} : atI (x :: y :: z :: w :: xs) 3 = some w := atI_at (i := 3) rfl (by decide)
theorem atI_last {α : Type} {xs : List α} {x : α} : atI (xs ++ [x]) (-1) = some x := by
  unfold atI ixN
  rw [if_neg (by decide), if_pos (by simp; omega)]
  show (xs ++ [x])[(-1 + ((xs ++ [x]).length : Int)).toNat]? = some x
  have e : (-1 + ((xs ++ [x]).length : Int)).toNat = xs.length := by rw [List.length_append]; simp; omega
  rw [e]
  simp
theorem ixN_nat {n k : Nat} (h : k < n) : ixN n (k : Int) = some k := by
  unfold ixN
  rw [if_pos (by omega), if_pos (by omega)]
  simp
theorem pOk_0 {δ : Dl} : pOk [] δ = true := id rfl
theorem pOk_c {k : Kd} {kds : List Kd} {o : Option Dv} {δ : Dl} (h : k = .p → ∃ d, o = some d) : pOk (k :: kds) (o :: δ) = pOk kds δ := by
  unfold pOk
  rw [List.length_cons, List.range_succ_eq_map, List.all_cons, List.all_map]
  cases k with
  | p =>
    obtain ⟨d, rfl⟩ := h rfl
    show (true && _) = _
    rw [Bool.true_and]
    rfl
  | v =>
    show (true && _) = _
    rw [Bool.true_and]
    rfl
  | b =>
    show (true && _) = _
    rw [Bool.true_and]
    rfl
  | o =>
    show (true && _) = _
    rw [Bool.true_and]
    rfl
theorem pOk_p {kds : List Kd} {d : Dv} {δ : Dl} : pOk (.p :: kds) (some d :: δ) = pOk kds δ := pOk_c fun _ => ⟨d, rfl⟩
theorem pOk_v {kds : List Kd} {o : Option Dv} {δ : Dl} : pOk (.v :: kds) (o :: δ) = pOk kds δ := pOk_c fun z => by cases z
theorem pOk_b {kds : List Kd} {o : Option Dv} {δ : Dl} : pOk (.b :: kds) (o :: δ) = pOk kds δ := pOk_c fun z => by cases z
def enK (kds : List Kd) (mr : Md) : Fl → Rs Dv
  | .nx δ => if pOk kds δ = true ∧ mr = .v then .ok .non δ else .stuck
  | .ret v δ => if pOk kds δ = true then .ok v δ else .stuck
  | .exc c ns fs δ => if pOk kds δ = true then .exc c ns fs δ else .stuck
  | _ => .stuck
theorem runD_eq {kds : List Kd} {mr : Md} {n : Nat} {body : Dl → Fl} {ds : List Dv} : runD kds mr n body ds = enK kds mr (body (ds.map some ++ List.replicate n none)) := by
  unfold runD enK
  cases body (ds.map some ++ List.replicate n none) <;> rfl
theorem enK_nx {kds : List Kd} {δ : Dl} : enK kds .v (.nx δ) = if pOk kds δ = true then .ok .non δ else .stuck := by
  show (if pOk kds δ = true ∧ Md.v = Md.v then Rs.ok Dv.non δ else .stuck) = _
  by_cases h : pOk kds δ = true
  · rw [if_pos h, if_pos ⟨h, rfl⟩]
  · rw [if_neg h, if_neg fun z => h z.1]
theorem enK_ret {kds : List Kd} {mr : Md} {v : Dv} {δ : Dl} : enK kds mr (.ret v δ) = if pOk kds δ = true then .ok v δ else .stuck := id rfl
theorem enK_exc {kds : List Kd} {mr : Md} {c : Str} {ns : List Str} {fs : List Dv} {δ : Dl} : enK kds mr (.exc c ns fs δ) = if pOk kds δ = true then .exc c ns fs δ else .stuck := id rfl
/-- a list with another element at an index -/
def puI (ds : List Dv) (k : Dv) (x : Dv) : Option (List Dv) := match k with
  | .int k => (ixN ds.length k).map fun j => ds.set j x
  | _ => none
def stS (δ : Dl) (s : Nat) : Option (List Dv) → Fl
  | some ds => .nx (δ.set s (some (.lst ds)))
  | none => .stuck
theorem stS_s {δ : Dl} {s : Nat} {ds : List Dv} : stS δ s (some ds) = .nx (δ.set s (some (.lst ds))) := id rfl
theorem cSubE {s : Nat} {a b : Dl → Rs Dv} {δ : Dl} : cSub s a b δ = bnf (a δ) fun x δ1 => match asL δ1[s]? with
  | none => .stuck
  | some _ => bnf (b δ1) fun k δ2 => match asL δ2[s]? with
    | none => .stuck
    | some ds => stS δ2 s (puI ds k x) := by
  rw [cSub_eq]
  congr 1
  funext x δ1
  cases asL δ1[s]? with
  | none => rfl
  | some _ =>
    show bnf _ _ = bnf _ _
    congr 1
    funext k δ2
    cases asL δ2[s]? with
    | none => rfl
    | some ds =>
      cases k with
      | int k =>
        show (match ixN ds.length k with
        | some j => Fl.nx (δ2.set s (some (.lst (ds.set j x))))
        | none => .stuck) = stS δ2 s ((ixN ds.length k).map fun j => ds.set j x)
        cases ixN ds.length k <;> rfl
      | _ => rfl
theorem puI_at {ds : List Dv} {k : Int} {x : Dv} (h0 : 0 ≤ k) (h : k < ds.length) : puI ds (.int k) x = some (ds.set k.toNat x) := by
  show (ixN ds.length k).map (fun j => ds.set j x) = _
  unfold ixN
  rw [if_pos h0, if_pos h]
  rfl
theorem puI_0 {d x : Dv} {ds : List Dv} : puI (d :: ds) (.int 0) x = some (x :: ds) := puI_at (by decide) (by simp only [List.length_cons]; omega)
theorem puI_1 {d e x : Dv} {ds : List Dv} : puI (d :: e :: ds) (.int 1) x = some (d :: x :: ds) := puI_at (by decide) (by simp only [List.length_cons]; omega)
theorem puI_2 {d e f x : Dv} {ds : List Dv} : puI (d :: e :: f :: ds) (.int 2) x = some (d :: e :: x :: ds) := puI_at (by decide) (by simp only [List.length_cons]; omega)
end Dn

/-! What the functions of trees answer: loops, comprehensions; programs as trees. -/
namespace Dn
open PySem L2 Q
theorem forL_nx {g : Dv → Dl → Option Dl} {b : Dl → Fl} (I : Nat → Dl → Prop) : ∀ {xs : List Dv} {δ : Dl} {k : Nat}, I k δ → (∀ i x δ, xs[i]? = some x → I (k + i) δ → ∃ δ1, g x δ = some δ1 ∧ ∃ δ2, b δ1 = .nx δ2 ∧ I (k + i + 1) δ2) → ∃ δ', forL g b xs δ = .nx δ' ∧ I (k + xs.length) δ'
  | [], δ, k, h, _ => ⟨δ, rfl, h⟩
  | x :: xs, δ, k, h, st => by
    obtain ⟨δ1, e1, δ2, e2, h2⟩ := st 0 x δ rfl h
    obtain ⟨δ', e3, h3⟩ := forL_nx I (xs := xs) (k := k + 1) h2 fun i y δ hy hi => by
      have e : k + (i + 1) = k + 1 + i := by omega
      have := st (i + 1) y δ (by simpa using hy) (by rw [e]; exact hi)
      rw [e] at this
      exact this
    refine ⟨δ', ?_, by rw [List.length_cons, Nat.add_comm xs.length, ← Nat.add_assoc]; exact h3⟩
    rw [forL, e1]
    show (match b δ1 with
      | .nx δ2 => forL g b xs δ2
      | .cnt δ2 => forL g b xs δ2
      | .brk δ2 => .nx δ2
      | .ret v δ2 => .ret v δ2
      | .exc c ns ds δ2 => .exc c ns ds δ2
      | .stuck => .stuck) = _
    rw [e2]
    exact e3
/-- a loop from the start -/
theorem forL_ok {g : Dv → Dl → Option Dl} {b : Dl → Fl} (I : Nat → Dl → Prop) {xs : List Dv} {δ : Dl} (h0 : I 0 δ) (st : ∀ i x δ, xs[i]? = some x → I i δ → ∃ δ1, g x δ = some δ1 ∧ ∃ δ2, b δ1 = .nx δ2 ∧ I (i + 1) δ2) : ∃ δ', forL g b xs δ = .nx δ' ∧ I xs.length δ' := by
  have := forL_nx I (k := 0) h0 (xs := xs) (g := g) (b := b) fun i x δ hx hi => by
    rw [Nat.zero_add] at hi ⊢
    exact st i x δ hx hi
  rw [Nat.zero_add] at this
  exact this
theorem compL_nx {g : Dv → Dl → Option Dl} {tt : Dl → Rs Bool} {el : Dl → Rs Dv} {vs : List Nat} (I : Nat → Dl → List Dv → Prop) : ∀ {xs : List Dv} {δ : Dl} {acc : List Dv} {k : Nat}, I k δ acc →
    (∀ i x δ acc, xs[i]? = some x → I (k + i) δ acc → ∃ δ1, g x δ = some δ1 ∧ ((∃ δ2 y δ3, tt δ1 = .ok true δ2 ∧ el δ2 = .ok y δ3 ∧ I (k + i + 1) (wipeD δ3 vs) (acc ++ [y])) ∨ (∃ δ2, tt δ1 = .ok false δ2 ∧ I (k + i + 1) (wipeD δ2 vs) acc))) →
    ∃ ys δ', compL g tt el vs xs δ acc = .ok ys δ' ∧ I (k + xs.length) δ' ys
  | [], δ, acc, k, h, _ => ⟨acc, δ, rfl, h⟩
  | x :: xs, δ, acc, k, h, st => by
    obtain ⟨δ1, e1, h2⟩ := st 0 x δ acc rfl h
    have st' : ∀ i y δ acc, xs[i]? = some y → I (k + 1 + i) δ acc → ∃ δ1, g y δ = some δ1 ∧ ((∃ δ2 z δ3, tt δ1 = .ok true δ2 ∧ el δ2 = .ok z δ3 ∧ I (k + 1 + i + 1) (wipeD δ3 vs) (acc ++ [z])) ∨ (∃ δ2, tt δ1 = .ok false δ2 ∧ I (k + 1 + i + 1) (wipeD δ2 vs) acc)) := fun i y δ acc hy hi => by
      have e : k + (i + 1) = k + 1 + i := by omega
      have := st (i + 1) y δ acc (by simpa using hy) (by rw [e]; exact hi)
      rw [e] at this
      exact this
    have len : k + (x :: xs).length = k + 1 + xs.length := by rw [List.length_cons]; omega
    rw [len]
    rcases h2 with ⟨δ2, y, δ3, e2, e3, h3⟩ | ⟨δ2, e2, h3⟩
    · obtain ⟨ys, δ', e4, h4⟩ := compL_nx I (xs := xs) (k := k + 1) h3 st'
      refine ⟨ys, δ', ?_, h4⟩
      rw [compL, e1]
      simp only [e2, e3]
      exact e4
    · obtain ⟨ys, δ', e4, h4⟩ := compL_nx I (xs := xs) (k := k + 1) h3 st'
      refine ⟨ys, δ', ?_, h4⟩
      rw [compL, e1]
      simp only [e2]
      exact e4
theorem compL_ok {g : Dv → Dl → Option Dl} {tt : Dl → Rs Bool} {el : Dl → Rs Dv} {vs : List Nat} (I : Nat → Dl → List Dv → Prop) {xs : List Dv} {δ : Dl} (h0 : I 0 δ [])
    (st : ∀ i x δ acc, xs[i]? = some x → I i δ acc → ∃ δ1, g x δ = some δ1 ∧ ((∃ δ2 y δ3, tt δ1 = .ok true δ2 ∧ el δ2 = .ok y δ3 ∧ I (i + 1) (wipeD δ3 vs) (acc ++ [y])) ∨ (∃ δ2, tt δ1 = .ok false δ2 ∧ I (i + 1) (wipeD δ2 vs) acc))) :
    ∃ ys δ', compL g tt el vs xs δ [] = .ok ys δ' ∧ I xs.length δ' ys := by
  have := compL_nx I (k := 0) h0 (xs := xs) (g := g) (tt := tt) (el := el) (vs := vs) fun i x δ acc hx hi => by
    rw [Nat.zero_add] at hi ⊢
    exact st i x δ acc hx hi
  rw [Nat.zero_add] at this
  exact this
/-- a comprehension from what its loop gives -/
theorem cComp_ok {di : Dl → Rs (List Dv)} {g : Dv → Dl → Option Dl} {tt : Dl → Rs Bool} {el : Dl → Rs Dv} {vs : List Nat} {δ δ1 δ' : Dl} {xs ys : List Dv} (h : di δ = .ok xs δ1) (hl : xs.length ≤ 1000000) (h2 : compL g tt el vs xs (wipeD δ1 vs) [] = .ok ys δ') : cComp di g tt el vs δ = .ok (Dv.lst ys) δ' := by
  unfold cComp
  rw [h]
  show (if xs.length ≤ 1000000 then (match compL g tt el vs xs (wipeD δ1 vs) [] with
    | .ok ys δ2 => Rs.ok (Dv.lst ys) δ2
    | _ => .stuck) else .stuck) = _
  rw [if_pos hl, h2]
/-! programs as trees -/
abbrev intD (ns : List Int) : List Dv := ns.map .int
def memD (ns : List Int) : Dv := .obj "Memory" ["sizes"] [.tup (intD ns)]
def cmdD : Cmd → Dv
  | .store l w n => .obj "Store" ["line", "word", "number"] [.int l, .int w, .int n]
  | .flush l => .obj "Flush" ["line"] [.int l]
  | .fence => .obj "Fence" [] []
def specD : Cmd → Dv
  | .store l w n => .tup [.str "store", .int l, .int w, .int n]
  | .flush l => .tup [.str "flush", .int l]
  | .fence => .tup [.str "fence"]
def progD (ns : List Int) (cs : List Cmd) : Dv := .obj "Program" ["memory", "commands"] [memD ns, .tup (cs.map cmdD)]
def rowD (x : Pg) : Dv := .tup [.tup (intD x.d), .tup (intD x.s)]
def bndD (x : Pg) : Dv := .tup [.tup (intD x.s), .tup (intD x.d)]
def rowsD (f : Pg → Dv) (n : Nat) (cs : List Cmd) (k : Nat) : List Dv := (List.range k).map fun t => f (pat n cs t)
theorem rowsD_succ {f : Pg → Dv} {n : Nat} {cs : List Cmd} {k : Nat} : rowsD f n cs (k + 1) = rowsD f n cs k ++ [f (pat n cs k)] := by
  unfold rowsD
  rw [List.range_succ, List.map_append]
  rfl
theorem ints_at {ns : List Int} {i : Nat} {n : Int} (h : ns[i]? = some n) : (intD ns)[i]? = some (.int n) := by
  rw [List.getElem?_map, h]
  rfl
theorem cmd_at {α β : Type} {f : α → β} {cs : List α} {i : Nat} {x : β} (h : (cs.map f)[i]? = some x) : ∃ c, cs[i]? = some c ∧ x = f c := by
  rw [List.getElem?_map] at h
  cases hc : cs[i]? with
  | none => rw [hc] at h; cases h
  | some c =>
    rw [hc] at h
    cases h
    exact ⟨c, rfl, rfl⟩
theorem rng_at {i n : Nat} {x : Dv} (h : (rngD 0 n)[i]? = some x) : i < n ∧ x = .int i := by
  obtain ⟨h1, h2⟩ := rngD_at h
  exact ⟨h1, by rw [h2, Int.zero_add]⟩
theorem rng_len {n : Nat} : (rngD 0 n).length = n := by simp [rngD]
theorem fRng1_at {j : Int} (h : 0 ≤ j) (h2 : j < 1000000) : fRng1 [.int j] = some (rngD 0 j.toNat) := by
  show (if bRng j = true then some (rngD 0 j.toNat) else none) = _
  have e : bRng j = true := by
    unfold bRng
    rw [Bool.and_eq_true, decide_eq_true_iff, decide_eq_true_iff]
    omega
  rw [if_pos e]
theorem len_int {ns : List Int} : (intD ns).length = ns.length := by simp
theorem eqD_int (i j : Int) : eqD (.int i) (.int j) = some (decide (i = j)) := by
  show (if SeqAt.shaped (.int i) = true ∧ SeqAt.shaped (.int j) = true then some (PyData.eqv (.int i) (.int j)) else none) = _
  rw [if_pos ⟨rfl, rfl⟩]
  rfl
theorem ne2_int (i j : Int) : ne2 (.int i) (.int j) = some (.bl (!decide (i = j))) := by
  unfold ne2
  rw [eqD_int]
  rfl
theorem eq2_int (i j : Int) : eq2 (.int i) (.int j) = some (.bl (decide (i = j))) := by
  unfold eq2
  rw [eqD_int]
  rfl
/-- a list or a tuple of ints -/
def IsSq (a : Dv) (xs : List Int) : Prop := a = .lst (intD xs) ∨ a = .tup (intD xs)
theorem IsSq.len {a : Dv} {xs : List Int} (h : IsSq a xs) : fLen [a] = some (.int xs.length) := by
  rcases h with rfl | rfl
  · rw [fLen_l, len_int]
  · rw [fLen_t, len_int]
theorem IsSq.seq {a : Dv} {xs : List Int} (h : IsSq a xs) : seqOf a = some (intD xs) := by
  rcases h with rfl | rfl <;> rfl
theorem cFld_eq {okA : Str → Str → Bool} {s : Nat} {f : Str} {a : Dl → Rs Dv} {δ : Dl} : cFld okA s f a δ = bnf (a δ) fun x δ1 => match δ1[s]? with
  | some (some t) => (match putD okA f x t with
    | some t' => .nx (δ1.set s (some t'))
    | none => .stuck)
  | _ => .stuck := id rfl
theorem mkEnd_ok {kds : List Kd} {sh : Sh} {δ1 δc : Dl} {c : Str} {ns : List Str} {es : List Dv} : mkEnd kds sh δ1 (.ok .non (some (.obj c ns es) :: δc)) = .ok (.obj c ns es) (upSl kds sh δc δ1) := id rfl
end Dn

/-! == of trees that hold instances of own classes. -/
namespace Dn
open PySem PySem.Spec PyProof.Rows L2 LamX Q
/-- scalars that differ -/
def scNe : Dv → Dv → Bool
  | .int i, .int j => decide (i ≠ j)
  | .str x, .str y => decide (x ≠ y)
  | .bl a, .bl b => decide (a ≠ b)
  | _, _ => false
/-- surely two things: a field tells -/
def apart : Dv → Dv → Bool
  | .obj _ ks ds, .obj _ ks' ds' => ks.any fun f => match (ks.zip ds).lookup f, (ks'.zip ds').lookup f with
    | some a, some b => scNe a b
    | _, _ => false
  | _, _ => false
def eqsX (f : Dv → Dv → Option Bool) : List Dv → List Dv → Option (List Bool)
  | x :: xs, y :: ys => match f x y with
    | none => none
    | some b => (eqsX f xs ys).map (b :: ·)
  | _, _ => some []
abbrev OcT := Str → Option (List Dv → Rs Dv)
/-- the answer of an own == -/
def ownA (df : List Dv → Rs Dv) (x y : Dv) : Option Bool := match df [x, y] with
  | .ok (.bl true) _ => some true
  | .ok (.bl false) _ => if apart x y = true then some false else none
  | _ => none
/-- of lists and tuples -/
def sqX (f : Dv → Dv → Option Bool) (x y : Dv) : Option Bool := match x, y with
  | .lst xs, .lst ys => if xs.length = ys.length then (eqsX f xs ys).map (fun bs => bs.all id) else some false
  | .tup xs, .tup ys => (eqsX f xs ys).map (fun bs => bs.all id && xs.length == ys.length)
  | _, _ => none
/-- of instances of one class -/
def obX (oc : OcT) (x y : Dv) : Option Bool := match x, y with
  | .obj c ks ds, .obj c' ks' ds' => if c = c' then match oc c with
    | some df => ownA df (.obj c ks ds) (.obj c' ks' ds')
    | none => none else none
  | _, _ => none
/-- == of trees, n levels deep -/
def eqX (oc : OcT) : Nat → Dv → Dv → Option Bool
  | 0, _, _ => none
  | n + 1, x, y => (eqD x y).or ((sqX (eqX oc n) x y).or (obX oc x y))
section
variable {K : PySem.W.Frag} {ct : Ct} {M : Ads} {H : Hp}
theorem scNe_ne {x y : Dv} {u v : V} (h : scNe x y = true) (h1 : rep K ct M H x u) (h2 : rep K ct M H y v) : u ≠ v := by
  unfold scNe at h
  split at h
  · rw [rep_int] at h1 h2
    rw [h1, h2]
    intro z
    cases z
    exact absurd rfl (of_decide_eq_true h)
  · rw [rep_str] at h1 h2
    rw [h1, h2]
    intro z
    cases z
    exact absurd rfl (of_decide_eq_true h)
  · rw [rep_bl] at h1 h2
    rw [h1, h2]
    intro z
    cases z
    exact absurd rfl (of_decide_eq_true h)
  · cases h
theorem apart_ne {x y : Dv} {u v : V} (h : apart x y = true) (h1 : rep K ct M H x u) (h2 : rep K ct M H y v) : u ≠ v := by
  unfold apart at h
  split at h
  · rename_i c ks ds c' ks' ds'
    obtain ⟨f, _, hf⟩ := List.any_eq_true.mp h
    obtain ⟨a, dx, xs, rfl, _, g1, r1⟩ := rep_obj.mp h1
    obtain ⟨b, dy, ys, rfl, _, g2, r2⟩ := rep_obj.mp h2
    intro z
    cases z
    rw [g1] at g2
    cases e1 : (ks.zip ds).lookup f with
    | none => rw [e1] at hf; cases hf
    | some p =>
      cases e2 : (ks'.zip ds').lookup f with
      | none => rw [e1, e2] at hf; cases hf
      | some q =>
        rw [e1, e2] at hf
        obtain ⟨v1, k1, q1⟩ := reps_zip r1 e1
        obtain ⟨v2, k2, q2⟩ := reps_zip r2 e2
        have ez : ks.zip xs = ks'.zip ys := by
          injection g2 with g2
          injection g2
        rw [ez, k2] at k1
        cases k1
        exact scNe_ne hf q1 q2 rfl
  · cases h
theorem eqsX_get {f : Dv → Dv → Option Bool} : ∀ {xs ys : List Dv} {bs : List Bool}, eqsX f xs ys = some bs → bs.length = min xs.length ys.length ∧ ∀ (i : Nat) x y, xs[i]? = some x → ys[i]? = some y → ∃ b, bs[i]? = some b ∧ f x y = some b
  | [], ys, bs, h => by
    cases h
    exact ⟨by simp, fun i x y h _ => by simp at h⟩
  | x :: xs, [], bs, h => by
    cases h
    exact ⟨by simp, fun i x y _ h => by simp at h⟩
  | x :: xs, y :: ys, bs, h => by
    unfold eqsX at h
    cases hb : f x y with
    | none => rw [hb] at h; cases h
    | some b =>
      rw [hb] at h
      have h' : (eqsX f xs ys).map (b :: ·) = some bs := h
      cases hr : eqsX f xs ys with
      | none => rw [hr] at h'; cases h'
      | some cs =>
        rw [hr] at h'
        cases h'
        obtain ⟨l, g⟩ := eqsX_get hr
        refine ⟨by rw [List.length_cons, List.length_cons, List.length_cons, l]; omega, fun i x' y' h1 h2 => ?_⟩
        cases i with
        | zero =>
          simp at h1 h2
          subst h1 h2
          exact ⟨b, rfl, hb⟩
        | succ i =>
          obtain ⟨b', e1, e2⟩ := g i x' y' (by simpa using h1) (by simpa using h2)
          exact ⟨b', by simpa using e1, e2⟩
end
theorem andAt_all : ∀ (bs : List Bool) (i k : Nat), bs.length = i + k → GB.andAt (fun j => bs.getD j false) i k = (bs.drop i).all id
  | bs, i, 0, h => by rw [List.drop_of_length_le (by omega)]; rfl
  | bs, i, k + 1, h => by
    have hi : i < bs.length := by omega
    rw [GB.andAt_succ, andAt_all bs (i + 1) k (by omega), List.drop_eq_getElem_cons hi, List.all_cons]
    have : bs.getD i false = bs[i] := by rw [List.getD_eq_getElem?_getD, List.getElem?_eq_getElem hi]; rfl
    rw [this]
    cases bs[i] <;> simp
theorem andAt0 {bs : List Bool} {n : Nat} (h : bs.length = n) : GB.andAt (fun j => bs.getD j false) 0 n = bs.all id := by
  rw [andAt_all bs 0 n (by omega), List.drop_zero]
/-- the own =='s of the classes, at level k at most -/
def EqTabP (P : Program) (w : World) (K : PySem.W.Frag) (mg : Str → Option Value) (base : Heap) (ct : Ct) (k : Nat) (oc : OcT) : Prop := ∀ c df, oc c = some df → ∃ k' ps, k' ≤ k ∧ Dun P w K mg base (L2.CX P w) (ct c) "__eq__" k' ps (spD K ct [.v, .v] .v df)
/-- what stands after: more, and all that stood -/
abbrev Aft (X : Cx) (ct : Ct) (pins : List (Addr × Obj)) (σ : L2.St) (H : Hp) (s' : Shared) : Prop := ∃ H', Inv X pins σ H' s' ∧ Kp3 ct.tabs (fun _ => False) H H'
section
variable {X : Cx} {ct : Ct} {E : XK} {k : Nat} {oc : OcT}
def EqB (X : Cx) (ct : Ct) (m : Nat) (f : Dv → Dv → Option Bool) : Prop := ∀ (x y : Dv) (b : Bool) (A : Around) (pins : List (Addr × Obj)) (s : Shared) (σ : L2.St) (H : Hp) (M : Ads) (u v : V) (u' v' : Value), f x y = some b → Sub X m A → Inv X pins σ H s → Tabs ct.tabs H → (∀ a, M a → H a ≠ none) →
  rep X.K ct M H x u → rep X.K ct M H y v → RelV u u' → RelV v v' → wpAny (model X.prog X.w) A (eqBool u' v') (fun r s' => r = b ∧ Aft X ct pins σ H s') X.xe s
/-- how the items answer -/
theorem turnX {m : Nat} {f : Dv → Dv → Option Bool} (h : EqB X ct m f) {A : Around} (sb : Sub X (m + 1) A) {pins : List (Addr × Obj)} {σ : L2.St} {H : Hp} {M : Ads} {xs ys : List Dv} {bs : List Bool} {us vs : List V} {its its2 : List Value} (e : eqsX f xs ys = some bs) (t : Tabs ct.tabs H) (mt : ∀ a, M a → H a ≠ none)
    (r1 : reps X.K ct M H xs us) (r2 : reps X.K ct M H ys vs) (v1 : Vals us its) (v2 : Vals vs its2) (i : Nat) (h1 : i < its.toArray.size) (h2 : i < its2.toArray.size) (s' : Shared) (l : Aft X ct pins σ H s') :
    wpAny (model X.prog X.w) A.in1 (eqBool its.toArray[i] its2.toArray[i]) (fun r s2 => r = bs.getD i false ∧ Aft X ct pins σ H s2) X.xe s' := by
  obtain ⟨H1, I1, k1⟩ := l
  have g1 : its[i]? = some its.toArray[i] := by
    have h1' : i < its.length := by simpa using h1
    rw [List.getElem?_eq_getElem h1'] <;> simp
  have g2 : its2[i]? = some its2.toArray[i] := by
    have h2' : i < its2.length := by simpa using h2
    rw [List.getElem?_eq_getElem h2'] <;> simp
  have l1 : i < xs.length := by rw [← reps_len r1, v1.length]; simpa using h1
  have l2 : i < ys.length := by rw [← reps_len r2, v2.length]; simpa using h2
  obtain ⟨b, eb, ef⟩ := (eqsX_get e).2 i _ _ (List.getElem?_eq_getElem l1) (List.getElem?_eq_getElem l2)
  obtain ⟨u, hu, ru⟩ := reps_get r1 (List.getElem?_eq_getElem l1)
  obtain ⟨v, hv, rv⟩ := reps_get r2 (List.getElem?_eq_getElem l2)
  obtain ⟨u', hu', ru'⟩ := v1.get hu
  obtain ⟨v', hv', rv'⟩ := v2.get hv
  rw [g1] at hu'
  rw [g2] at hv'
  rw [Option.some.inj hu', Option.some.inj hv']
  have eg : bs.getD i false = b := by rw [List.getD_eq_getElem?_getD, eb]; rfl
  rw [eg]
  refine wpAny_mono (h _ _ b A.in1 pins s' σ H1 M u v u' v' ef sb.in1 I1 (k1.tabs t) (fun a z => k1.live a (mt a z)) (rep_kp k1 (fun _ z => z.elim) ru) (rep_kp k1 (fun _ z => z.elim) rv) ru' rv') (fun r s2 q => ?_) fun _ _ x => x
  obtain ⟨hr, H2, I2, k2⟩ := q
  exact ⟨hr, H2, I2, k1.trans k2⟩
/-- rich comparison of two things by their trees -/
def RcB (X : Cx) (ct : Ct) (m : Nat) (f : Dv → Dv → Option Bool) (op : CmpOp) (g : Bool → Bool) : Prop := ∀ (x y : Dv) (b : Bool) (A : Around) (pins : List (Addr × Obj)) (s : Shared) (σ : L2.St) (H : Hp) (M : Ads) (u v : V) (u' v' : Value), f x y = some b → Sub X m A → Inv X pins σ H s → Tabs ct.tabs H → (∀ a, M a → H a ≠ none) →
  rep X.K ct M H x u → rep X.K ct M H y v → RelV u u' → RelV v v' → wpAny (model X.prog X.w) A (richCompare op u' v') (fun r s' => r = .bool (g b) ∧ Aft X ct pins σ H s') X.xe s
theorem sqL_kp {H H1 : Hp} {K : PySem.W.Frag} {a : Addr} {us : List V} (s1 : SqL K H a us) (k1 : Kp3 ct.tabs (fun _ => False) H H1) : SqL K H1 a us := s1.elim (fun z => .inl (k1.rd z (fun y => y) fun _ y => by cases y)) .inr
theorem list_at {pins : List (Addr × Obj)} {σ : L2.St} {H : Hp} {s : Shared} {a : Addr} {us : List V} (I : Inv X pins σ H s) (h : SqL X.K H a us) : ∃ (its : List Value) (n : Nat) (dd : Option Addr) (sl : Array (Option Value)), Vals us its ∧ s.heap.get? a = some { cls := .type "list", dict := dd, data := .seq its.toArray n, slots := sl } := by
  obtain ⟨its, w1, ⟨⟨cls, dd, data, sl⟩, n, ho, hc, hd, hs⟩, z1⟩ := I.list h
  simp only at hc hs
  subst hc hs
  exact ⟨its, n, dd, sl, w1, ho⟩
theorem sqX_rc {m : Nat} {f : Dv → Dv → Option Bool} (h : EqB X ct m f) : RcB X ct (m + 1) (sqX f) .Eq id := by
  intro x y b A pins s σ H M u v u' v' e sb I t mt r1 r2 ru rv
  unfold sqX at e
  split at e
  · rename_i xs ys
    obtain ⟨a1, us, rfl, s1, q1⟩ := rep_SqL r1
    obtain ⟨a2, vs, rfl, s2, q2⟩ := rep_SqL r2
    cases ru
    cases rv
    split at e
    · rename_i hl
      cases he : eqsX f xs ys with
      | none => rw [he] at e; cases e
      | some bs =>
        rw [he] at e
        cases e
        refine GB.rc_listB (N := xs.length) sb.room.units0 (fun j => bs.getD j false) (fun s' => Aft X ct pins σ H s') (fun s' q => ?_) (fun s' q => ⟨?_, q⟩) ⟨H, I, Kp3.refl _ _⟩
        · obtain ⟨H1, I1, k1⟩ := id q
          obtain ⟨its, n, dd, sl, w1, ho⟩ := list_at I1 (sqL_kp s1 k1)
          obtain ⟨its2, n2, dd2, sl2, w2, ho2⟩ := list_at I1 (sqL_kp s2 k1)
          refine ⟨_, _, _, _, _, _, _, _, ho, ho2, by rw [List.size_toArray, ← w1.length, reps_len q1], by rw [List.size_toArray, ← w2.length, reps_len q2, hl], fun i h1 h2 => ?_⟩
          exact turnX h sb he t mt q1 q2 w1 w2 i h1 h2 s' q
        · rw [andAt0 (by rw [(eqsX_get he).1, hl]; omega)]
          try rfl
    · rename_i hl
      cases e
      obtain ⟨its, n, dd, sl, w1, ho⟩ := list_at I s1
      obtain ⟨its2, n2, dd2, sl2, w2, ho2⟩ := list_at I s2
      exact GB.rc_listN sb.room.units0 (by rw [List.size_toArray, ← w1.length, reps_len q1, List.size_toArray, ← w2.length, reps_len q2]; exact hl) ho ho2 ⟨rfl, H, I, Kp3.refl _ _⟩
  · rename_i xs ys
    obtain ⟨a1, us, rfl, s1, q1⟩ := rep_SqT r1
    obtain ⟨a2, vs, rfl, s2, q2⟩ := rep_SqT r2
    cases ru
    cases rv
    cases he : eqsX f xs ys with
    | none => rw [he] at e; cases e
    | some bs =>
      rw [he] at e
      cases e
      obtain ⟨its, w1, p1, _⟩ := I.tuple s1
      obtain ⟨its2, w2, p2, _⟩ := I.tuple s2
      have z1 : its.toArray.size = xs.length := by rw [List.size_toArray, ← w1.length, reps_len q1]
      have z2 : its2.toArray.size = ys.length := by rw [List.size_toArray, ← w2.length, reps_len q2]
      refine GB.rc_tupB sb.room.units0 (fun j => bs.getD j false) (fun s' => Aft X ct pins σ H s') p1 p2 (fun i h1 h2 s' q => turnX h sb he t mt q1 q2 w1 w2 i h1 h2 s' q) (fun s' q => ⟨?_, q⟩) ⟨H, I, Kp3.refl _ _⟩
      rw [z1, z2, andAt0 (eqsX_get he).1]
      try rfl
  · cases e
theorem sqX_rn {m : Nat} {f : Dv → Dv → Option Bool} (h : EqB X ct m f) : RcB X ct (m + 1) (sqX f) .NotEq not := by
  intro x y b A pins s σ H M u v u' v' e sb I t mt r1 r2 ru rv
  unfold sqX at e
  split at e
  · rename_i xs ys
    obtain ⟨a1, us, rfl, s1, q1⟩ := rep_SqL r1
    obtain ⟨a2, vs, rfl, s2, q2⟩ := rep_SqL r2
    cases ru
    cases rv
    split at e
    · rename_i hl
      cases he : eqsX f xs ys with
      | none => rw [he] at e; cases e
      | some bs =>
        rw [he] at e
        cases e
        refine GB.rn_listB (N := xs.length) sb.room.units0 (fun j => bs.getD j false) (fun s' => Aft X ct pins σ H s') (fun s' q => ?_) (fun s' q => ⟨?_, q⟩) ⟨H, I, Kp3.refl _ _⟩
        · obtain ⟨H1, I1, k1⟩ := id q
          obtain ⟨its, n, dd, sl, w1, ho⟩ := list_at I1 (sqL_kp s1 k1)
          obtain ⟨its2, n2, dd2, sl2, w2, ho2⟩ := list_at I1 (sqL_kp s2 k1)
          refine ⟨_, _, _, _, _, _, _, _, ho, ho2, by rw [List.size_toArray, ← w1.length, reps_len q1], by rw [List.size_toArray, ← w2.length, reps_len q2, hl], fun i h1 h2 => ?_⟩
          exact turnX h sb he t mt q1 q2 w1 w2 i h1 h2 s' q
        · rw [andAt0 (by rw [(eqsX_get he).1, hl]; omega)]
          try rfl
    · rename_i hl
      cases e
      obtain ⟨its, n, dd, sl, w1, ho⟩ := list_at I s1
      obtain ⟨its2, n2, dd2, sl2, w2, ho2⟩ := list_at I s2
      exact GB.rn_listN sb.room.units0 (by rw [List.size_toArray, ← w1.length, reps_len q1, List.size_toArray, ← w2.length, reps_len q2]; exact hl) ho ho2 ⟨rfl, H, I, Kp3.refl _ _⟩
  · rename_i xs ys
    obtain ⟨a1, us, rfl, s1, q1⟩ := rep_SqT r1
    obtain ⟨a2, vs, rfl, s2, q2⟩ := rep_SqT r2
    cases ru
    cases rv
    cases he : eqsX f xs ys with
    | none => rw [he] at e; cases e
    | some bs =>
      rw [he] at e
      cases e
      obtain ⟨its, w1, p1, _⟩ := I.tuple s1
      obtain ⟨its2, w2, p2, _⟩ := I.tuple s2
      have z1 : its.toArray.size = xs.length := by rw [List.size_toArray, ← w1.length, reps_len q1]
      have z2 : its2.toArray.size = ys.length := by rw [List.size_toArray, ← w2.length, reps_len q2]
      refine GB.rn_tupB sb.room.units0 (fun j => bs.getD j false) (fun s' => Aft X ct pins σ H s') p1 p2 (fun i h1 h2 s' q => turnX h sb he t mt q1 q2 w1 w2 i h1 h2 s' q) (fun s' q => ⟨?_, q⟩) ⟨H, I, Kp3.refl _ _⟩
      rw [z1, z2, andAt0 (eqsX_get he).1]
      try rfl
  · cases e
theorem ownA_some {df : List Dv → Rs Dv} {x y : Dv} {b : Bool} (h : ownA df x y = some b) : (∃ δ, df [x, y] = .ok (.bl b) δ) ∧ (b = false → apart x y = true) := by
  unfold ownA at h
  split at h
  · rename_i δ e
    cases h
    exact ⟨⟨δ, e⟩, fun z => by cases z⟩
  · rename_i δ e
    split at h
    · rename_i ha
      cases h
      exact ⟨⟨δ, e⟩, fun _ => ha⟩
    · cases h
  · cases h
theorem pcs_vv {u v : V} {a : Addr} (h : Pcs [.v, .v] [u, v] a) : False := by
  obtain ⟨j, hj, _⟩ := h
  match j, hj with
  | 0, hj => cases hj
  | 1, hj => cases hj
  | j + 2, hj => simp at hj
theorem obX_rc (D : EqTabP X.prog X.w X.K X.mg X.base ct k oc) (hx : Passes (L2.CX X.prog X.w) X E) : RcB X ct k (obX oc) .Eq id := by
  intro x y b A pins s σ H M u v u' v' e sb I t mt r1 r2 ru rv
  unfold obX at e
  split at e
  · rename_i c ks ds c' ks' ds'
    split at e
    · rename_i hc
      subst hc
      cases ho : oc c with
      | none => rw [ho] at e; cases e
      | some df =>
        rw [ho] at e
        obtain ⟨⟨δ, ed⟩, _⟩ := ownA_some e
        obtain ⟨k', ps, hk, DD⟩ := D c df ho
        obtain ⟨f, fd, F, hs, hf, hb⟩ := DD.ex
        obtain ⟨a, dx, xs, rfl, _, ha, q1⟩ := id (rep_obj.mp r1)
        obtain ⟨a2, dy, ys, rfl, _, ha2, q2⟩ := id (rep_obj.mp r2)
        cases ru
        cases rv
        obtain ⟨mA, J, _⟩ := ins_get I.hok ha
        obtain ⟨mB, J2, _⟩ := ins_get I.hok ha2
        obtain ⟨od, J, _⟩ := J.look
        obtain ⟨od2, J2, _⟩ := J2.look
        obtain ⟨m, hF⟩ := I.fr
        refine PySem.W.cmp_K (op := .Eq) (tb := .ref (ct c)) sb.room.units0 hF I.ok.mod.kin J J2.type (by simp [PySem.W.notFirst]) hs hf ?_
        have h : spD X.K ct [.v, .v] .v df [V.ref a, V.ref a2] H (fun w H' => w = .bl b ∧ Kp3 ct.tabs (fun _ => False) H H') E := by
          refine ⟨M, [.obj c ks ds, .obj c ks' ds'], rfl, rfl, t, mt, fun j kd d w h1 h2 h3 => ?_, fun i j a _ hi _ _ _ => ?_, ?_⟩
          · match j, h1, h2, h3 with
            | 0, h1, h2, h3 =>
              cases h1
              cases h2
              cases h3
              exact r1
            | 1, h1, h2, h3 =>
              cases h1
              cases h2
              cases h3
              exact r2
            | j + 2, h1, _, _ => simp at h1
          · match i, hi with
            | 0, hi => cases hi
            | 1, hi => cases hi
            | i + 2, hi => simp at hi
          · rw [ed]
            intro x H' k1 _ hr
            exact ⟨(rep_bl (K := X.K) (ct := ct) (M := M) (H := H')).mp hr, k1.mono fun z hz => pcs_vv hz⟩
        refine wpAny_mono (run_at sb.fr F (sb.room.mono hk) hb hx I (show Vals [V.ref a, V.ref a2] [Value.ref a, Value.ref a2] from .cons rfl (.cons rfl .nil)) h) (fun w sx hq => ?_) fun _ _ e => e
        obtain ⟨z, H', I', rz, ez, k1⟩ := hq
        subst ez
        cases rz
        exact ⟨rfl, H', I', k1⟩
    · cases e
  · cases e
/-- one thing is equal to itself -/
def SelfT (X : Cx) (ct : Ct) (f : Dv → Dv → Option Bool) : Prop := ∀ (x y : Dv) (b : Bool) (pins : List (Addr × Obj)) (s : Shared) (σ : L2.St) (H : Hp) (M : Ads) (u : V) (u' : Value), Inv X pins σ H s → RelV u u' → f x y = some b → rep X.K ct M H x u → rep X.K ct M H y u → b = true
def RefT (X : Cx) (ct : Ct) (f : Dv → Dv → Option Bool) : Prop := ∀ (x y : Dv) (b : Bool) (H : Hp) (M : Ads) (u v : V), f x y = some b → rep X.K ct M H x u → rep X.K ct M H y v → ∃ p q, u = .ref p ∧ v = .ref q
/-- inside a list or tuple -/
theorem eqB_ref {m : Nat} {f : Dv → Dv → Option Bool} (h : RcB X ct m f .Eq id) (hr : RefT X ct f) (hs : SelfT X ct f) : EqB X ct m f := by
  intro x y b A pins s σ H M u v u' v' e sb I t mt r1 r2 ru rv
  obtain ⟨p, q, rfl, rfl⟩ := hr x y b H M u v e r1 r2
  cases ru
  cases rv
  by_cases hpq : p = q
  · subst hpq
    have hb := hs x y b pins s σ H M (.ref p) (.ref p) I rfl e r1 r2
    exact SeqAt.EqAt.same (A := A) (s := s) (.ref p) X.prog X.w X.xe _ ⟨hb.symm, H, I, Kp3.refl _ _⟩
  · refine GQ.eqBool_refG hpq (wpAny_mono (h x y b A pins s σ H M (.ref p) (.ref q) _ _ e sb I t mt r1 r2 rfl rfl) (fun r s' q => ?_) fun _ _ x => x)
    obtain ⟨hr', q⟩ := q
    exact ⟨b, hr', rfl, q⟩
theorem flat_eqB {m : Nat} : EqB X ct m eqD := by
  intro x y b A pins s σ H M u v u' v' e sb I t mt r1 r2 ru rv
  obtain ⟨p, q, e1, e2, s1, s2, rfl⟩ := eqD_some e
  obtain ⟨as, g1⟩ := Dp.reads I p u u' (rep_dp r1 e1) ru
  obtain ⟨bs, g2⟩ := Dp.reads I q v v' (rep_dp r2 e2) rv
  exact SeqAt.eqAt_reads p q A s u' v' as bs g1 g2 (SeqAt.canLay_of_shaped s1) (SeqAt.canLay_of_shaped s2) (SeqAt.room_of_shaped s1 sb.room.units) X.prog X.w X.xe _ ⟨rfl, H, I, Kp3.refl _ _⟩
theorem flat_rc {m : Nat} : RcB X ct m eqD .Eq id := by
  intro x y b A pins s σ H M u v u' v' e sb I t mt r1 r2 ru rv
  obtain ⟨p, q, e1, e2, s1, s2, rfl⟩ := eqD_some e
  obtain ⟨as, g1⟩ := Dp.reads I p u u' (rep_dp r1 e1) ru
  obtain ⟨bs, g2⟩ := Dp.reads I q v v' (rep_dp r2 e2) rv
  exact SeqAt.compareEq_shaped g1 g2 s1 s2 sb.room.units ⟨rfl, H, I, Kp3.refl _ _⟩
theorem flat_rn {m : Nat} : RcB X ct m eqD .NotEq not := by
  intro x y b A pins s σ H M u v u' v' e sb I t mt r1 r2 ru rv
  obtain ⟨p, q, e1, e2, s1, s2, rfl⟩ := eqD_some e
  obtain ⟨as, g1⟩ := Dp.reads I p u u' (rep_dp r1 e1) ru
  obtain ⟨bs, g2⟩ := Dp.reads I q v v' (rep_dp r2 e2) rv
  exact SeqAt.compareNe_shaped g1 g2 s1 s2 sb.room.units ⟨rfl, H, I, Kp3.refl _ _⟩
theorem flat_self : SelfT X ct eqD := by
  intro x y b pins s σ H M u u' I ru e r1 r2
  obtain ⟨p, q, e1, e2, s1, s2, rfl⟩ := eqD_some e
  obtain ⟨as, g1⟩ := Dp.reads I p u u' (rep_dp r1 e1) ru
  obtain ⟨bs, g2⟩ := Dp.reads I q u u' (rep_dp r2 e2) ru
  have := SeqAt.Reads.unique p q u' as bs (SeqAt.canLay_of_shaped s1) g1 g2
  subst this
  exact SeqAt.eqv_refl p (SeqAt.canLay_of_shaped s1)
theorem sqX_ref {f : Dv → Dv → Option Bool} : RefT X ct (sqX f) := by
  intro x y b H M u v e r1 r2
  unfold sqX at e
  split at e
  · obtain ⟨a1, us, rfl, _⟩ := rep_SqL r1
    obtain ⟨a2, vs, rfl, _⟩ := rep_SqL r2
    exact ⟨_, _, rfl, rfl⟩
  · obtain ⟨a1, us, rfl, _⟩ := rep_SqT r1
    obtain ⟨a2, vs, rfl, _⟩ := rep_SqT r2
    exact ⟨_, _, rfl, rfl⟩
  · cases e
theorem obX_ref : RefT X ct (obX oc) := by
  intro x y b H M u v e r1 r2
  unfold obX at e
  split at e
  · obtain ⟨a, dx, xs, rfl, _⟩ := rep_obj.mp r1
    obtain ⟨a2, dy, ys, rfl, _⟩ := rep_obj.mp r2
    exact ⟨_, _, rfl, rfl⟩
  · cases e
theorem obX_self : SelfT X ct (obX oc) := by
  intro x y b pins s σ H M u u' I ru e r1 r2
  unfold obX at e
  split at e
  · split at e
    · rename_i c _ _ _ _ _ _
      cases ho : oc c with
      | none => rw [ho] at e; cases e
      | some df =>
        rw [ho] at e
        cases b with
        | true => rfl
        | false => exact absurd rfl (apart_ne ((ownA_some e).2 rfl) r1 r2)
    · cases e
  · cases e
theorem all_self {f : Dv → Dv → Option Bool} (h : SelfT X ct f) {pins : List (Addr × Obj)} {s : Shared} {σ : L2.St} {H : Hp} {M : Ads} {xs ys : List Dv} {bs : List Bool} {us : List V} {its : List Value} (I : Inv X pins σ H s) (w : Vals us its) (e : eqsX f xs ys = some bs) (r1 : reps X.K ct M H xs us) (r2 : reps X.K ct M H ys us) : bs.all id = true := by
  refine List.all_eq_true.mpr fun b hb => ?_
  obtain ⟨i, hi⟩ := List.mem_iff_getElem?.mp hb
  have hl := (List.getElem?_eq_some_iff.mp hi).1
  rw [(eqsX_get e).1] at hl
  have l1 : i < xs.length := by omega
  have l2 : i < ys.length := by omega
  obtain ⟨b', eb, ef⟩ := (eqsX_get e).2 i _ _ (List.getElem?_eq_getElem l1) (List.getElem?_eq_getElem l2)
  rw [hi] at eb
  cases eb
  obtain ⟨u, hu, ru⟩ := reps_get r1 (List.getElem?_eq_getElem l1)
  obtain ⟨v, hv, rv⟩ := reps_get r2 (List.getElem?_eq_getElem l2)
  rw [hu] at hv
  cases hv
  obtain ⟨u', _, ru'⟩ := w.get hu
  exact h _ _ b pins s σ H M u u' I ru' ef ru rv
theorem sqX_self {f : Dv → Dv → Option Bool} (h : SelfT X ct f) : SelfT X ct (sqX f) := by
  intro x y b pins s σ H M u u' I ru e r1 r2
  unfold sqX at e
  split at e
  · rename_i xs ys
    obtain ⟨a1, us, rfl, s1, q1⟩ := rep_SqL r1
    obtain ⟨a2, vs, e2, s2, q2⟩ := rep_SqL r2
    cases e2
    have := I.list_inj s1 s2
    subst this
    have hl : xs.length = ys.length := by rw [← reps_len q1, ← reps_len q2]
    rw [if_pos hl] at e
    cases he : eqsX f xs ys with
    | none => rw [he] at e; cases e
    | some bs =>
      rw [he] at e
      cases e
      obtain ⟨its, w, _⟩ := I.list s1
      exact all_self h I w he q1 q2
  · rename_i xs ys
    obtain ⟨a1, us, rfl, s1, q1⟩ := rep_SqT r1
    obtain ⟨a2, vs, e2, s2, q2⟩ := rep_SqT r2
    cases e2
    have := I.tuple_inj s1 s2
    subst this
    have hl : xs.length = ys.length := by rw [← reps_len q1, ← reps_len q2]
    cases he : eqsX f xs ys with
    | none => rw [he] at e; cases e
    | some bs =>
      rw [he] at e
      cases e
      obtain ⟨its, w, _⟩ := I.tuple s1
      have := all_self h I w he q1 q2
      simp [this, hl]
  · cases e
theorem or_cases {α : Type} {a b : Option α} {x : α} (h : a.or b = some x) : a = some x ∨ b = some x := by
  cases a with
  | none => exact .inr h
  | some y => exact .inl h
theorem EqB.or {m : Nat} {f g : Dv → Dv → Option Bool} (h : EqB X ct m f) (h' : EqB X ct m g) : EqB X ct m (fun x y => (f x y).or (g x y)) := by
  intro x y b A pins s σ H M u v u' v' e
  rcases or_cases e with e | e
  · exact h x y b A pins s σ H M u v u' v' e
  · exact h' x y b A pins s σ H M u v u' v' e
theorem RcB.or {m : Nat} {f g : Dv → Dv → Option Bool} {op : CmpOp} {k : Bool → Bool} (h : RcB X ct m f op k) (h' : RcB X ct m g op k) : RcB X ct m (fun x y => (f x y).or (g x y)) op k := by
  intro x y b A pins s σ H M u v u' v' e
  rcases or_cases e with e | e
  · exact h x y b A pins s σ H M u v u' v' e
  · exact h' x y b A pins s σ H M u v u' v' e
theorem SelfT.or {f g : Dv → Dv → Option Bool} (h : SelfT X ct f) (h' : SelfT X ct g) : SelfT X ct (fun x y => (f x y).or (g x y)) := by
  intro x y b pins s σ H M u u' I ru e
  rcases or_cases e with e | e
  · exact h x y b pins s σ H M u u' I ru e
  · exact h' x y b pins s σ H M u u' I ru e
theorem EqB.mono {m m' : Nat} {f : Dv → Dv → Option Bool} (h : EqB X ct m f) (hm : m ≤ m') : EqB X ct m' f := fun x y b A pins s σ H M u v u' v' e sb => h x y b A pins s σ H M u v u' v' e (sb.mono hm)
theorem RcB.mono {m m' : Nat} {f : Dv → Dv → Option Bool} {op : CmpOp} {g : Bool → Bool} (h : RcB X ct m f op g) (hm : m ≤ m') : RcB X ct m' f op g := fun x y b A pins s σ H M u v u' v' e sb => h x y b A pins s σ H M u v u' v' e (sb.mono hm)
theorem eqX_self (n : Nat) : SelfT X ct (eqX oc n) := by
  induction n with
  | zero => intro x y b pins s σ H M u u' I ru e; cases e
  | succ n ih => exact flat_self.or ((sqX_self ih).or obX_self)
theorem eqX_eq (D : EqTabP X.prog X.w X.K X.mg X.base ct k oc) (hx : Passes (L2.CX X.prog X.w) X E) (n : Nat) : EqB X ct (k + n) (eqX oc n) := by
  induction n with
  | zero => intro x y b A pins s σ H M u v u' v' e; cases e
  | succ n ih => exact flat_eqB.or ((eqB_ref (sqX_rc ih) sqX_ref (sqX_self (eqX_self n))).or ((eqB_ref (obX_rc D hx) obX_ref obX_self).mono (by omega)))
theorem eqX_rc (D : EqTabP X.prog X.w X.K X.mg X.base ct k oc) (hx : Passes (L2.CX X.prog X.w) X E) (n : Nat) : RcB X ct (k + n) (eqX oc n) .Eq id := by
  cases n with
  | zero => intro x y b A pins s σ H M u v u' v' e; cases e
  | succ n => exact flat_rc.or ((sqX_rc (eqX_eq D hx n)).or ((obX_rc D hx).mono (by omega)))
/-- without instances at the top -/
def eqY (oc : OcT) (n : Nat) (x y : Dv) : Option Bool := (eqD x y).or (sqX (eqX oc n) x y)
theorem eqY_rc (D : EqTabP X.prog X.w X.K X.mg X.base ct k oc) (hx : Passes (L2.CX X.prog X.w) X E) (n : Nat) : RcB X ct (k + n + 1) (eqY oc n) .Eq id := flat_rc.or (sqX_rc (eqX_eq D hx n))
theorem eqY_rn (D : EqTabP X.prog X.w X.K X.mg X.base ct k oc) (hx : Passes (L2.CX X.prog X.w) X E) (n : Nat) : RcB X ct (k + n + 1) (eqY oc n) .NotEq not := flat_rn.or (sqX_rn (eqX_eq D hx n))
/-- as a rule -/
def rEqY (K : PySem.W.Frag) (ct : Ct) (f : Dv → Dv → Option Bool) (g : Bool → Bool) : R2 := fun u v H Q => ∃ (M : Ads) (x y : Dv) (b : Bool), f x y = some b ∧ Tabs ct.tabs H ∧ (∀ a, M a → H a ≠ none) ∧ rep K ct M H x u ∧ rep K ct M H y v ∧ ∀ H', Kp3 ct.tabs (fun _ => False) H H' → Q (.bl (g b)) H'
theorem op_eqY (D : EqTabP X.prog X.w X.K X.mg X.base ct k oc) (hx : Passes (L2.CX X.prog X.w) X E) (n : Nat) (hr : Room (k + n + 1) X.A) : OpR X (compareOp .Eq) (rEqY X.K ct (eqY oc n) id) := by
  intro pins s σ H u v u' v' Q I ru rv h
  obtain ⟨M, x, y, b, e, t, mt, r1, r2, q⟩ := h
  refine wpAny_mono (eqY_rc D hx n x y b X.A pins s σ H M u v u' v' e ⟨hr, rfl⟩ I t mt r1 r2 ru rv) (fun r s' z => ?_) fun _ _ x => x
  obtain ⟨rfl, H', I', k'⟩ := z
  exact ⟨.bl b, H', I', rfl, q H' k'⟩
theorem op_neY (D : EqTabP X.prog X.w X.K X.mg X.base ct k oc) (hx : Passes (L2.CX X.prog X.w) X E) (n : Nat) (hr : Room (k + n + 1) X.A) : OpR X (compareOp .NotEq) (rEqY X.K ct (eqY oc n) not) := by
  intro pins s σ H u v u' v' Q I ru rv h
  obtain ⟨M, x, y, b, e, t, mt, r1, r2, q⟩ := h
  refine wpAny_mono (eqY_rn D hx n x y b X.A pins s σ H M u v u' v' e ⟨hr, rfl⟩ I t mt r1 r2 ru rv) (fun r s' z => ?_) fun _ _ x => x
  obtain ⟨rfl, H', I', k'⟩ := z
  exact ⟨.bl (!b), H', I', rfl, q H' k'⟩
end
def cEqY (f : Dv → Dv → Option Bool) (g : Bool → Bool) (a b : Dl → Rs Dv) : Dl → Rs Dv := cOp (fun x y => (f x y).map fun r => .bl (g r)) a b
section
variable {K : PySem.W.Frag} {ct : Ct} {ks : Ky} {E : EX} {X : Cx} {q q1 q2 : Bool} {m1 m2 : Md} {a b : Expr} {ta tb : TE} {da db : Dl → Rs Dv} {pos : Pos}
theorem ev_eqY {f : Dv → Dv → Option Bool} {g : Bool → Bool} (ha : DX K ct ks E q1 m1 X a ta da) (hb : DX K ct ks E q2 m2 X b tb db) (n1 : m1 ≠ .b) (n2 : m2 ≠ .b) : DGs K ct ks E (rmE K ct .v) (q1 && q2) (tOp (rEqY K ct f g) ta tb) (cEqY f g da db) := fun M W H δ σ er => by
  refine Ev2.bind ((ha.ev M W H δ σ er).weak (fun z hz => ⟨by rw [hz.1]; rfl, hz.2⟩)) (fun _ h => h) (fun _ _ _ _ _ k h => re_anti k h) fun x δ1 u H1 k1 e1 r1 => ?_
  refine Ev2.bind ((hb.ev M W H1 δ1 σ e1).weak (fun z hz => ⟨by rw [hz.1]; exact Bool.and_false _, hz.2⟩)) (fun _ h => h) (fun _ _ _ _ _ k h => re_anti k h) fun y δ2 v H2 k2 e2 r2 => ?_
  show Ev2 K ct ks E (rmE K ct .v) _ M W H2 σ _ (opt ((f x y).map fun r => .bl (g r)) δ2)
  cases hc : f x y with
  | none => exact Ev2.stuck
  | some r =>
    have rx : rep K ct M H2 x u := rep_kp k2 (fun a z => er.wm a z.2) (rm_v er.mt n1 r1.1)
    have ry : rep K ct M H2 y v := rm_v e1.mt n2 r2.1
    refine Ev2.ret (v := Dv.bl (g r)) fun Q p => ⟨M, x, y, r, hc, e2.tb, e2.mt, rx, ry, fun H' k' => ?_⟩
    exact p _ H' (k'.mono fun _ z => z.elim) (e2.q k') ⟨rm_bl (K := K) (ct := ct) (M := M) (H := H2) (H' := H'), fun z => by cases z⟩
theorem dx_eqY {op : CmpOp} {f : Dv → Dv → Option Bool} {g : Bool → Bool} (hp : OpR X (compareOp op) (rEqY K ct f g)) (ha : DX K ct ks E q1 m1 X a ta da) (hb : DX K ct ks E q2 m2 X b tb db) (hm : behindInMarks op b = false) (n1 : m1 ≠ .b := by decide) (n2 : m2 ≠ .b := by decide) :
    DX K ct ks E (q1 && q2) .v X (.Compare a [op] [b] pos) (tOp (rEqY K ct f g) ta tb) (cEqY f g da db) := ⟨pe_cmpR hp ha.pe hb.pe hm, ev_eqY ha hb n1 n2⟩
theorem dt_eqY {op : CmpOp} {f : Dv → Dv → Option Bool} {g : Bool → Bool} (hp : OpR X (compareOp op) (rEqY K ct f g)) (ha : DX K ct ks E q1 m1 X a ta da) (hb : DX K ct ks E q2 m2 X b tb db) (hm : behindInMarks op b = false) (n1 : m1 ≠ .b := by decide) (n2 : m2 ≠ .b := by decide) :
    DT K ct ks E (q1 && q2) X (.Compare a [op] [b] pos) (tTest (tOp (rEqY K ct f g) ta tb)) (cTest (cEqY f g da db)) := ⟨pt_cmpR hp ha.pe hb.pe hm, ev_test (ev_eqY ha hb n1 n2)⟩
end
end Dn

/-! Plain trees in order: <, min, max, sorted; in. -/
namespace Dn
open PySem PySem.Spec PyProof.Rows L2 LamX Q
open PySem.W (alike alikeAll dataLt AllAlike Sortable EachIs dataLe)
def py (d : Dv) : PyData := (toPy d).getD .none
mutual
theorem toPy_inj : ∀ {x y : Dv} {p : PyData}, toPy x = some p → toPy y = some p → x = y
  | .non, y, p, h, g => by
    cases h
    cases y with
    | non => rfl
    | bl _ => cases g
    | int _ => cases g
    | str _ => cases g
    | tup es => unfold toPy at g; cases hq : toPys es with
      | none => rw [hq] at g; cases g
      | some qs => rw [hq] at g; cases g
    | lst es => unfold toPy at g; cases hq : toPys es with
      | none => rw [hq] at g; cases g
      | some qs => rw [hq] at g; cases g
    | obj _ _ _ => unfold toPy at g; cases g
  | .bl b, y, p, h, g => by
    cases h
    cases y with
    | bl _ => cases g; rfl
    | non => cases g
    | int _ => cases g
    | str _ => cases g
    | tup es => unfold toPy at g; cases hq : toPys es with
      | none => rw [hq] at g; cases g
      | some qs => rw [hq] at g; cases g
    | lst es => unfold toPy at g; cases hq : toPys es with
      | none => rw [hq] at g; cases g
      | some qs => rw [hq] at g; cases g
    | obj _ _ _ => unfold toPy at g; cases g
  | .int i, y, p, h, g => by
    cases h
    cases y with
    | int _ => cases g; rfl
    | non => cases g
    | bl _ => cases g
    | str _ => cases g
    | tup es => unfold toPy at g; cases hq : toPys es with
      | none => rw [hq] at g; cases g
      | some qs => rw [hq] at g; cases g
    | lst es => unfold toPy at g; cases hq : toPys es with
      | none => rw [hq] at g; cases g
      | some qs => rw [hq] at g; cases g
    | obj _ _ _ => unfold toPy at g; cases g
  | .str z, y, p, h, g => by
    cases h
    cases y with
    | str _ => cases g; rfl
    | non => cases g
    | bl _ => cases g
    | int _ => cases g
    | tup es => unfold toPy at g; cases hq : toPys es with
      | none => rw [hq] at g; cases g
      | some qs => rw [hq] at g; cases g
    | lst es => unfold toPy at g; cases hq : toPys es with
      | none => rw [hq] at g; cases g
      | some qs => rw [hq] at g; cases g
    | obj _ _ _ => unfold toPy at g; cases g
  | .tup ds, y, p, h, g => by
    unfold toPy at h
    cases hd : toPys ds with
    | none => rw [hd] at h; cases h
    | some ps =>
      rw [hd] at h
      cases h
      cases y with
      | tup es =>
        unfold toPy at g
        cases hq : toPys es with
        | none => rw [hq] at g; cases g
        | some qs =>
          rw [hq] at g
          cases g
          rw [toPys_inj hd hq]
      | lst es => unfold toPy at g; cases hq : toPys es with
        | none => rw [hq] at g; cases g
        | some qs => rw [hq] at g; cases g
      | obj _ _ _ => unfold toPy at g; cases g
      | non => cases g
      | bl _ => cases g
      | int _ => cases g
      | str _ => cases g
  | .lst ds, y, p, h, g => by
    unfold toPy at h
    cases hd : toPys ds with
    | none => rw [hd] at h; cases h
    | some ps =>
      rw [hd] at h
      cases h
      cases y with
      | lst es =>
        unfold toPy at g
        cases hq : toPys es with
        | none => rw [hq] at g; cases g
        | some qs =>
          rw [hq] at g
          cases g
          rw [toPys_inj hd hq]
      | tup es => unfold toPy at g; cases hq : toPys es with
        | none => rw [hq] at g; cases g
        | some qs => rw [hq] at g; cases g
      | obj _ _ _ => unfold toPy at g; cases g
      | non => cases g
      | bl _ => cases g
      | int _ => cases g
      | str _ => cases g
  | .obj _ _ _, y, p, h, g => by
    unfold toPy at h
    cases h
theorem toPys_inj : ∀ {xs ys : List Dv} {ps : List PyData}, toPys xs = some ps → toPys ys = some ps → xs = ys
  | [], [], _, _, _ => rfl
  | [], y :: ys, ps, h, g => by
    cases h
    unfold toPys at g
    cases hp : toPy y with
    | none => rw [hp] at g; cases g
    | some q => rw [hp] at g; cases hq : toPys ys with
      | none => rw [hq] at g; cases g
      | some qs => rw [hq] at g; cases g
  | x :: xs, [], ps, h, g => by
    cases g
    unfold toPys at h
    cases hp : toPy x with
    | none => rw [hp] at h; cases h
    | some q => rw [hp] at h; cases hq : toPys xs with
      | none => rw [hq] at h; cases h
      | some qs => rw [hq] at h; cases h
  | x :: xs, y :: ys, ps, h, g => by
    unfold toPys at h g
    cases hp : toPy x with
    | none => rw [hp] at h; cases h
    | some q =>
      rw [hp] at h
      cases hq : toPys xs with
      | none => rw [hq] at h; cases h
      | some qs =>
        rw [hq] at h
        cases h
        cases hp2 : toPy y with
        | none => rw [hp2] at g; cases g
        | some q2 =>
          rw [hp2] at g
          cases hq2 : toPys ys with
          | none => rw [hq2] at g; cases g
          | some qs2 =>
            rw [hq2] at g
            cases g
            rw [toPy_inj hp hp2, toPys_inj hq hq2]
end
theorem toPys_map : ∀ {ds : List Dv} {ps : List PyData}, toPys ds = some ps → ps = ds.map py ∧ ∀ d ∈ ds, toPy d = some (py d)
  | [], ps, h => by cases h; exact ⟨rfl, fun d h => by cases h⟩
  | d :: ds, ps, h => by
    unfold toPys at h
    cases hp : toPy d with
    | none => rw [hp] at h; cases h
    | some q =>
      rw [hp] at h
      cases hq : toPys ds with
      | none => rw [hq] at h; cases h
      | some qs =>
        rw [hq] at h
        cases h
        obtain ⟨e, g⟩ := toPys_map hq
        have e1 : py d = q := by unfold py; rw [hp]; rfl
        refine ⟨by rw [List.map_cons, e1, ← e], fun x hx => ?_⟩
        rcases List.mem_cons.mp hx with rfl | hx
        · rw [e1]; exact hp
        · exact g x hx
theorem toPys_all : ∀ {ds : List Dv}, (∀ d ∈ ds, toPy d = some (py d)) → toPys ds = some (ds.map py)
  | [], _ => rfl
  | d :: ds, h => by
    unfold toPys
    rw [h d List.mem_cons_self, toPys_all fun x hx => h x (List.mem_cons_of_mem _ hx)]
    rfl
/-- < of plain trees -/
def ltT (x y : Dv) : Bool := dataLt (py x) (py y)
def notN : PyData → Bool
  | .none => false
  | _ => true
theorem notN_ne {p : PyData} (h : notN p = true) : p ≠ .none := fun e => by subst e; cases h
/-- the two can be compared -/
def okL (x y : Dv) : Bool := (toPy x).isSome && (toPy y).isSome && alike (py x) (py y) && notN (py x) && decide ((py x).depth ≤ 64)
theorem okL_some {x y : Dv} (h : okL x y = true) : toPy x = some (py x) ∧ toPy y = some (py y) ∧ alike (py x) (py y) = true ∧ py x ≠ .none ∧ (py x).depth ≤ 64 := by
  unfold okL at h
  rw [Bool.and_eq_true, Bool.and_eq_true, Bool.and_eq_true, Bool.and_eq_true, decide_eq_true_iff] at h
  obtain ⟨⟨⟨⟨h1, h2⟩, h3⟩, h4⟩, h5⟩ := h
  obtain ⟨p, e1⟩ := Option.isSome_iff_exists.mp h1
  obtain ⟨q, e2⟩ := Option.isSome_iff_exists.mp h2
  exact ⟨by unfold py; rw [e1]; rfl, by unfold py; rw [e2]; rfl, h3, notN_ne h4, h5⟩
def ltD2 (x y : Dv) : Option Dv := if okL x y = true then some (.bl (ltT x y)) else none
def gtD2 (x y : Dv) : Option Dv := if okL x y = true then some (.bl (ltT y x)) else none
def leD2 (x y : Dv) : Option Dv := if okL x y = true then some (.bl (!ltT y x)) else none
def geD2 (x y : Dv) : Option Dv := if okL x y = true then some (.bl (!ltT x y)) else none
/-- the rule of an order: by the trees -/
def rOrd (K : PySem.W.Frag) (ct : Ct) (g : Dv → Dv → Bool) : R2 := fun u v H Q => ∃ (M : Ads) (x y : Dv), okL x y = true ∧ repb K ct M H x u ∧ repb K ct M H y v ∧ Q (.bl (g x y)) H
section
variable {X : Cx} {K : PySem.W.Frag} {ct : Ct} {b1 b2 : Bool}
theorem min_dep {p q : PyData} {n : Nat} (h : p.depth ≤ 64) (hu : n + 64 < cLine) : n + min p.depth q.depth < cLine := by
  have := Nat.min_le_left p.depth q.depth
  omega
theorem op_ltT (hK : X.K = K) (hu : X.A.units + 64 < cLine) : OpR X (compareOp .Lt) (rOrd K ct ltT) := by
  subst hK
  intro pins s σ H u v u' v' Q I ru rv h
  obtain ⟨M, x, y, e, r1, r2, q⟩ := h
  obtain ⟨e1, e2, ha, hn, hd⟩ := okL_some e
  obtain ⟨as, g1⟩ := Dp.reads I _ _ _ (repb_dp r1 e1) ru
  obtain ⟨bs, g2⟩ := Dp.reads I _ _ _ (repb_dp r2 e2) rv
  exact PySem.W.lt_data g1 g2 ha hn (min_dep hd hu) ⟨.bl _, H, I, rfl, q⟩
theorem op_gtT (hK : X.K = K) (hu : X.A.units + 64 < cLine) : OpR X (compareOp .Gt) (rOrd K ct fun x y => ltT y x) := by
  subst hK
  intro pins s σ H u v u' v' Q I ru rv h
  obtain ⟨M, x, y, e, r1, r2, q⟩ := h
  obtain ⟨e1, e2, ha, hn, hd⟩ := okL_some e
  obtain ⟨as, g1⟩ := Dp.reads I _ _ _ (repb_dp r1 e1) ru
  obtain ⟨bs, g2⟩ := Dp.reads I _ _ _ (repb_dp r2 e2) rv
  exact PySem.W.gt_data g1 g2 ha hn (min_dep hd hu) ⟨.bl _, H, I, rfl, q⟩
theorem op_leT2 (hK : X.K = K) (hu : X.A.units + 64 < cLine) : OpR X (compareOp .LtE) (rOrd K ct fun x y => !ltT y x) := by
  subst hK
  intro pins s σ H u v u' v' Q I ru rv h
  obtain ⟨M, x, y, e, r1, r2, q⟩ := h
  obtain ⟨e1, e2, ha, hn, hd⟩ := okL_some e
  obtain ⟨as, g1⟩ := Dp.reads I _ _ _ (repb_dp r1 e1) ru
  obtain ⟨bs, g2⟩ := Dp.reads I _ _ _ (repb_dp r2 e2) rv
  exact PySem.W.le_data g1 g2 ha hn (min_dep hd hu) ⟨.bl _, H, I, rfl, q⟩
theorem op_geT2 (hK : X.K = K) (hu : X.A.units + 64 < cLine) : OpR X (compareOp .GtE) (rOrd K ct fun x y => !ltT x y) := by
  subst hK
  intro pins s σ H u v u' v' Q I ru rv h
  obtain ⟨M, x, y, e, r1, r2, q⟩ := h
  obtain ⟨e1, e2, ha, hn, hd⟩ := okL_some e
  obtain ⟨as, g1⟩ := Dp.reads I _ _ _ (repb_dp r1 e1) ru
  obtain ⟨bs, g2⟩ := Dp.reads I _ _ _ (repb_dp r2 e2) rv
  exact PySem.W.ge_data g1 g2 ha hn (min_dep hd hu) ⟨.bl _, H, I, rfl, q⟩
theorem opd_ord {g : Dv → Dv → Bool} : OpD K ct b1 b2 .v (rOrd K ct g) (fun x y => if okL x y = true then some (.bl (g x y)) else none) := fun M H x y u v d mt h1 h2 hf Q q => by
  have hf' : (if okL x y = true then some (Dv.bl (g x y)) else none) = some d := hf
  by_cases h : okL x y = true
  · rw [if_pos h] at hf'
    cases hf'
    exact ⟨M, x, y, h, ev_if h1, ev_if h2, q _ H (Same.refl _) rm_bl⟩
  · rw [if_neg h] at hf'
    cases hf'
end
/-! min, max of a list or tuple -/
def okAl (ds : List Dv) : Bool := ds.all fun x => (toPy x).isSome && notN (py x) && decide ((py x).depth ≤ 60) && ds.all fun y => alike (py x) (py y)
theorem okAl_some {ds : List Dv} (h : okAl ds = true) : (∀ d ∈ ds, toPy d = some (py d) ∧ py d ≠ .none ∧ (py d).depth ≤ 60) ∧ ∀ d ∈ ds, ∀ e ∈ ds, alike (py d) (py e) = true := by
  unfold okAl at h
  have h1 := List.all_eq_true.mp h
  refine ⟨fun d hd => ?_, fun d hd e he => ?_⟩
  · have := h1 d hd
    rw [Bool.and_eq_true, Bool.and_eq_true, Bool.and_eq_true, decide_eq_true_iff] at this
    obtain ⟨⟨⟨g1, g2⟩, g3⟩, _⟩ := this
    obtain ⟨p, e1⟩ := Option.isSome_iff_exists.mp g1
    exact ⟨by unfold py; rw [e1]; rfl, notN_ne g2, g3⟩
  · have := h1 d hd
    rw [Bool.and_eq_true] at this
    exact List.all_eq_true.mp this.2 e he
def minT (x : Dv) (xs : List Dv) : Dv := xs.foldl (fun a y => if ltT y a = true then y else a) x
def maxT (x : Dv) (xs : List Dv) : Dv := xs.foldl (fun a y => if ltT a y = true then y else a) x
def fMin1 : List Dv → Option Dv
  | [x] => match seqOf x with
    | some (d :: ds) => if okAl (d :: ds) = true then some (minT d ds) else none
    | _ => none
  | _ => none
def fMax1 : List Dv → Option Dv
  | [x] => match seqOf x with
    | some (d :: ds) => if okAl (d :: ds) = true then some (maxT d ds) else none
    | _ => none
  | _ => none
theorem foldl_mem {f : Dv → Dv → Dv} (hf : ∀ a y, f a y = a ∨ f a y = y) : ∀ (xs : List Dv) (x : Dv), xs.foldl f x ∈ x :: xs
  | [], x => List.mem_cons_self
  | y :: ys, x => by
    have := foldl_mem hf ys (f x y)
    rw [List.foldl_cons]
    rcases List.mem_cons.mp this with e | e
    · rw [e]
      rcases hf x y with z | z
      · rw [z]; exact List.mem_cons_self
      · rw [z]; exact List.mem_cons_of_mem _ List.mem_cons_self
    · exact List.mem_cons_of_mem _ (List.mem_cons_of_mem _ e)
theorem minT_mem (x : Dv) (xs : List Dv) : minT x xs ∈ x :: xs := foldl_mem (fun a y => by by_cases h : ltT y a = true <;> simp [h]) xs x
theorem maxT_mem (x : Dv) (xs : List Dv) : maxT x xs ∈ x :: xs := foldl_mem (fun a y => by by_cases h : ltT a y = true <;> simp [h]) xs x
theorem minT_py : ∀ (xs : List Dv) (x : Dv), PySem.W.minD (py x) (xs.map py) = py (minT x xs)
  | [], x => rfl
  | y :: ys, x => by
    have e : PySem.W.minD (py x) ((y :: ys).map py) = PySem.W.minD (if dataLt (py y) (py x) = true then py y else py x) (ys.map py) := rfl
    have e2 : minT x (y :: ys) = minT (if ltT y x = true then y else x) ys := rfl
    rw [e, e2, ← minT_py ys]
    unfold ltT
    by_cases h : dataLt (py y) (py x) = true
    · rw [if_pos h, if_pos h]
    · rw [if_neg h, if_neg h]
theorem maxT_py : ∀ (xs : List Dv) (x : Dv), PySem.W.maxD (py x) (xs.map py) = py (maxT x xs)
  | [], x => rfl
  | y :: ys, x => by
    have e : PySem.W.maxD (py x) ((y :: ys).map py) = PySem.W.maxD (if dataLt (py x) (py y) = true then py y else py x) (ys.map py) := rfl
    have e2 : maxT x (y :: ys) = maxT (if ltT x y = true then y else x) ys := rfl
    rw [e, e2, ← maxT_py ys]
    unfold ltT
    by_cases h : dataLt (py x) (py y) = true
    · rw [if_pos h, if_pos h]
    · rw [if_neg h, if_neg h]
theorem depthAll_le {n : Nat} : ∀ {ps : List PyData}, (∀ p ∈ ps, p.depth ≤ n) → PyData.depthAll ps ≤ n
  | [], _ => Nat.zero_le _
  | p :: ps, h => by
    show max p.depth (PyData.depthAll ps) ≤ n
    exact Nat.max_le.mpr ⟨h p List.mem_cons_self, depthAll_le fun q hq => h q (List.mem_cons_of_mem _ hq)⟩
section
variable {X : Cx} {K : PySem.W.Frag} {ct : Ct}
/-- the items of a tree at the heap -/
theorem seq_reads {pins : List (Addr × Obj)} {s : Shared} {σ : L2.St} {H : Hp} (I : Inv X pins σ H s) {M : Ads} {x : Dv} {ds : List Dv} {v : V} {u : Value} (hx : repb X.K ct M H x v) (hs : seqOf x = some ds) (hd : ∀ d ∈ ds, toPy d = some (py d)) (ru : RelV v u) :
    ∃ (a : Addr) (xs : List V) (its : List Value) (as : List Addr), v = .ref a ∧ u = .ref a ∧ Vals xs its ∧ reps X.K ct M H ds xs ∧ ReadsAll s.heap its (ds.map py) as ∧ ((SqL X.K H a xs ∧ s.heap.IsList a its.toArray) ∨ (SqT X.K H a xs ∧ s.heap.IsTuple a its.toArray)) := by
  obtain ⟨a, xs, rfl, sq, r⟩ := seq_rep hx hs
  cases ru
  rcases sq with sq | sq
  · obtain ⟨its, w, p, _⟩ := I.list sq
    obtain ⟨as, q⟩ := Dp.readsAll I _ _ its (reps_dp r (toPys_all hd)) w
    exact ⟨a, xs, its, as, rfl, rfl, w, r, q, .inl ⟨sq, p.isList⟩⟩
  · obtain ⟨its, w, p, _⟩ := I.tuple sq
    obtain ⟨as, q⟩ := Dp.readsAll I _ _ its (reps_dp r (toPys_all hd)) w
    exact ⟨a, xs, its, as, rfl, rfl, w, r, q, .inr ⟨sq, p⟩⟩
def rPick (K : PySem.W.Frag) (ct : Ct) (f : List Dv → Option Dv) : List V → Hp → VK → Prop := fun vs H Q => ∃ (M : Ads) (x d : Dv) (v : V), vs = [v] ∧ repb K ct M H x v ∧ f [x] = some d ∧ ∀ z, rep K ct M H d z → Q z H
theorem alike_all {ds : List Dv} (h : okAl ds = true) : PySem.W.AlikeAll (ds.map py) := by
  obtain ⟨h1, h2⟩ := okAl_some h
  refine ⟨fun p hp q hq => ?_, fun p hp => ?_⟩
  · obtain ⟨d, hd, rfl⟩ := List.mem_map.mp hp
    obtain ⟨e, he, rfl⟩ := List.mem_map.mp hq
    exact h2 d hd e he
  · obtain ⟨d, hd, rfl⟩ := List.mem_map.mp hp
    exact (h1 d hd).2.1
theorem dep_all {ds : List Dv} (h : okAl ds = true) : PyData.depthAll (ds.map py) ≤ 60 := depthAll_le fun p hp => by
  obtain ⟨d, hd, rfl⟩ := List.mem_map.mp hp
  exact ((okAl_some h).1 d hd).2.2
/-- the item that was found -/
theorem pick_rep {s : Shared} {H : Hp} {M : Ads} {ds : List Dv} {xs : List V} {its : List Value} {as bs : List Addr} {h' : Heap} {i : Nat} {v : Value} {d : Dv} (w : Vals xs its) (r : reps X.K ct M H ds xs) (q : ReadsAll s.heap its (ds.map py) as) (ok : okAl ds = true) (hd : d ∈ ds)
    (hv : its.toArray[i]? = some v) (hr : Reads h' v (py d) bs) (hk : ∀ b o, s.heap.get? b = some o → h'.get? b = some o) : ∃ z, RelV z v ∧ rep X.K ct M H d z := by
  have hv' : its[i]? = some v := by simpa using hv
  obtain ⟨cs, g, gl, gm, _⟩ := PySem.W.readsAll_at q i v hv'
  rw [List.length_map] at gl
  have eg : (ds.map py).getD i .none = py ds[i] := by rw [List.getD_eq_getElem?_getD, List.getElem?_map, List.getElem?_eq_getElem gl]; rfl
  rw [eg] at g
  obtain ⟨h1, h2⟩ := okAl_some ok
  have hm := List.getElem_mem gl
  have e := PySem.W.alike_unique _ _ _ _ _ (h2 _ hm _ hd) (PyProof.Rows.Reads.keeps hk g) hr
  have : ds[i] = d := toPy_inj (h1 _ hm).1 (by rw [e]; exact (h1 _ hd).1)
  obtain ⟨z, e1, e2⟩ := reps_get r (List.getElem?_eq_getElem gl)
  rw [this] at e2
  obtain ⟨v', e3, e4⟩ := w.get e1
  rw [hv'] at e3
  cases e3
  exact ⟨z, e4, e2⟩
theorem fMin1_some {x d : Dv} (h : fMin1 [x] = some d) : ∃ d0 ds, seqOf x = some (d0 :: ds) ∧ okAl (d0 :: ds) = true ∧ d = minT d0 ds := by
  have h : (match seqOf x with
    | some (d :: ds) => if okAl (d :: ds) = true then some (minT d ds) else none
    | _ => none) = some d := h
  cases hs : seqOf x with
  | none => rw [hs] at h; cases h
  | some l =>
    rw [hs] at h
    cases l with
    | nil => cases h
    | cons d0 ds =>
      have h' : (if okAl (d0 :: ds) = true then some (minT d0 ds) else none) = some d := h
      by_cases ok : okAl (d0 :: ds) = true
      · rw [if_pos ok] at h'
        cases h'
        exact ⟨d0, ds, rfl, ok, rfl⟩
      · rw [if_neg ok] at h'
        cases h'
theorem cr_min1 (hK : X.K = K) (hc : X.calm = true) (hu : X.A.units + 64 < cLine) : CallR X (.builtin "min") (rPick K ct fMin1) := by
  subst hK
  intro pins s σ H vs us Q I r h
  obtain ⟨M, x, d, v, rfl, hx, hf, q⟩ := h
  obtain ⟨d0, ds, hs, ok, rfl⟩ := fMin1_some hf
  obtain ⟨u, rfl, ru⟩ := vals1 r
  obtain ⟨a, xs, its, as, rfl, rfl, w, rr, qr, hl⟩ := seq_reads I hx hs (fun d hd => ((okAl_some ok).1 d hd).1) ru
  have hdp : X.A.units + 1 + PyData.depthAll ((d0 :: ds).map py) < cLine := by have := dep_all ok; omega
  have fin : ∀ (i : Nat) v h' tk bs, its.toArray[i]? = some v → Reads h' v (PySem.W.minD (py d0) (ds.map py)) bs → (∀ b o, s.heap.get? b = some o → h'.get? b = some o) → EP X pins σ Q v { s with heap := h', toks := tk } := fun i v h' tk bs hv hr hk => by
    rw [minT_py] at hr
    obtain ⟨z, e1, e2⟩ := pick_rep w rr qr ok (minT_mem d0 ds) hv hr hk
    exact ⟨z, H, I.kept hk, e1, q z e2⟩
  rcases hl with ⟨_, hl⟩ | ⟨_, hl⟩
  · exact PySem.W.min_list_data (I.ok.hd hc) hl qr (alike_all ok) hdp fin
  · exact PySem.W.min_tuple_data (I.ok.hd hc) hl qr (alike_all ok) hdp fin
theorem fMax1_some {x d : Dv} (h : fMax1 [x] = some d) : ∃ d0 ds, seqOf x = some (d0 :: ds) ∧ okAl (d0 :: ds) = true ∧ d = maxT d0 ds := by
  have h : (match seqOf x with
    | some (d :: ds) => if okAl (d :: ds) = true then some (maxT d ds) else none
    | _ => none) = some d := h
  cases hs : seqOf x with
  | none => rw [hs] at h; cases h
  | some l =>
    rw [hs] at h
    cases l with
    | nil => cases h
    | cons d0 ds =>
      have h' : (if okAl (d0 :: ds) = true then some (maxT d0 ds) else none) = some d := h
      by_cases ok : okAl (d0 :: ds) = true
      · rw [if_pos ok] at h'
        cases h'
        exact ⟨d0, ds, rfl, ok, rfl⟩
      · rw [if_neg ok] at h'
        cases h'
theorem cr_max1 (hK : X.K = K) (hc : X.calm = true) (hu : X.A.units + 64 < cLine) : CallR X (.builtin "max") (rPick K ct fMax1) := by
  subst hK
  intro pins s σ H vs us Q I r h
  obtain ⟨M, x, d, v, rfl, hx, hf, q⟩ := h
  obtain ⟨d0, ds, hs, ok, rfl⟩ := fMax1_some hf
  obtain ⟨u, rfl, ru⟩ := vals1 r
  obtain ⟨a, xs, its, as, rfl, rfl, w, rr, qr, hl⟩ := seq_reads I hx hs (fun d hd => ((okAl_some ok).1 d hd).1) ru
  have hdp : X.A.units + 1 + PyData.depthAll ((d0 :: ds).map py) < cLine := by have := dep_all ok; omega
  have fin : ∀ (i : Nat) v h' tk bs, its.toArray[i]? = some v → Reads h' v (PySem.W.maxD (py d0) (ds.map py)) bs → (∀ b o, s.heap.get? b = some o → h'.get? b = some o) → EP X pins σ Q v { s with heap := h', toks := tk } := fun i v h' tk bs hv hr hk => by
    rw [maxT_py] at hr
    obtain ⟨z, e1, e2⟩ := pick_rep w rr qr ok (maxT_mem d0 ds) hv hr hk
    exact ⟨z, H, I.kept hk, e1, q z e2⟩
  rcases hl with ⟨_, hl⟩ | ⟨_, hl⟩
  · exact PySem.W.max_list_data (I.ok.hd hc) hl qr (alike_all ok) hdp fin
  · exact PySem.W.max_tuple_data (I.ok.hd hc) hl qr (alike_all ok) hdp fin
theorem cald_pick {f : List Dv → Option Dv} (hf : ∀ xs d, f xs = some d → ∃ x, xs = [x]) : CalD K ct .v (rPick K ct f) f := fun M H xs us d mt hr h Q q => by
  obtain ⟨x, rfl⟩ := hf xs d h
  obtain ⟨u, rfl, h1⟩ := repbs1 hr
  exact ⟨M, x, d, u, rfl, h1, h, fun z hz => q z H (Same.refl _) hz⟩
theorem cald_min1 : CalD K ct .v (rPick K ct fMin1) fMin1 := cald_pick fun xs d h => by
  unfold fMin1 at h
  split at h
  · exact ⟨_, rfl⟩
  · cases h
theorem cald_max1 : CalD K ct .v (rPick K ct fMax1) fMax1 := cald_pick fun xs d h => by
  unfold fMax1 at h
  split at h
  · exact ⟨_, rfl⟩
  · cases h
/-! sorted -/
def sortT (ds : List Dv) : List Dv := ds.mergeSort fun x y => !ltT y x
def nonEmpT : PyData → Bool
  | .tuple (_ :: _) => true
  | _ => false
def noTup : PyData → Bool
  | .tuple _ => false
  | .none => false
  | _ => true
def okS (ds : List Dv) : Bool := okAl ds && ((ds.all fun d => nonEmpT (py d)) || ds.all fun d => noTup (py d)) && decide (ds.length ≤ 1000000)
def fSort1 : List Dv → Option Dv
  | [x] => match x with
    | .lst ds => if okS ds = true then some (.lst (sortT ds)) else none
    | _ => none
  | _ => none
theorem okS_some {ds : List Dv} (h : okS ds = true) : okAl ds = true ∧ Sortable (ds.map py) ∧ ds.length ≤ 1000000 := by
  unfold okS at h
  rw [Bool.and_eq_true, Bool.and_eq_true, decide_eq_true_iff, Bool.or_eq_true] at h
  obtain ⟨⟨h1, h2⟩, h3⟩ := h
  refine ⟨h1, ?_, h3⟩
  rcases h2 with h2 | h2
  · refine .inl fun p hp => ?_
    obtain ⟨d, hd, rfl⟩ := List.mem_map.mp hp
    have := List.all_eq_true.mp h2 d hd
    cases hq : py d with
    | tuple xs =>
      cases xs with
      | nil => rw [hq] at this; cases this
      | cons x r => exact ⟨x, r, rfl⟩
    | none => rw [hq] at this; cases this
    | bool _ => rw [hq] at this; cases this
    | int _ => rw [hq] at this; cases this
    | str _ => rw [hq] at this; cases this
    | list _ => rw [hq] at this; cases this
    | dict _ => rw [hq] at this; cases this
  · refine .inr fun p hp => ?_
    obtain ⟨d, hd, rfl⟩ := List.mem_map.mp hp
    have := List.all_eq_true.mp h2 d hd
    refine ⟨fun e => ?_, fun xs e => ?_⟩
    · rw [e] at this; cases this
    · rw [e] at this; cases this
def rSortT (K : PySem.W.Frag) (ct : Ct) : List V → Hp → VK → Prop := fun vs H Q => ∃ (M : Ads) (ds : List Dv) (v : V), vs = [v] ∧ repb K ct M H (.lst ds) v ∧ okS ds = true ∧ ∀ p ys, H p = none → reps K ct M H (sortT ds) ys → Q (.ref p) (upd H p (.lst ys))
theorem each_of {M : Ads} {H : Hp} : ∀ {ds : List Dv} {xs : List V} {its : List Value}, reps K ct M H ds xs → Vals xs its → EachIs (fun u d => ∃ v, RelV v u ∧ rep K ct M H d v) its ds
  | [], _, _, r, w => by
    rw [reps_inv0 r] at w
    cases w
    exact .nil
  | d :: ds, _, _, r, w => by
    obtain ⟨x, ys, rfl, r1, r2⟩ := reps_inv r
    cases w with
    | cons w1 w2 => exact .cons ⟨x, w1, r1⟩ (each_of r2 w2)
theorem of_each {M : Ads} {H : Hp} : ∀ {its : List Value} {ds : List Dv}, EachIs (fun u d => ∃ v, RelV v u ∧ rep K ct M H d v) its ds → ∃ xs, Vals xs its ∧ reps K ct M H ds xs
  | _, _, .nil => ⟨[], .nil, reps_nil⟩
  | _, _, .cons ⟨v, w, r⟩ t => by
    obtain ⟨xs, h1, h2⟩ := of_each t
    exact ⟨v :: xs, .cons w h1, reps_cons r h2⟩
theorem cr_sortT (hK : X.K = K) (hu : X.A.units + 64 < cLine) : CallR X (.builtin "sorted") (rSortT K ct) := by
  subst hK
  intro pins s σ H vs us Q I r h
  obtain ⟨M, ds, v, rfl, hx, ok, q⟩ := h
  obtain ⟨oa, so, hl⟩ := okS_some ok
  obtain ⟨h1, h2⟩ := okAl_some oa
  obtain ⟨u, rfl, ru⟩ := vals1 r
  obtain ⟨a, xs, rfl, sq, rr⟩ := repb_SqL hx
  cases ru
  obtain ⟨its, w, p, _⟩ := I.list sq
  have ez : ds.length ≤ sizeLine := Nat.le_trans hl (Nat.le_of_lt million)
  refine PySem.W.sorted_data (enc := py) (R := fun u d => (∃ v, RelV v u ∧ rep X.K ct M H d v)) p.isList (each_of rr w) ?_ ?_ so ez ?_ fun out ho he => ?_
  · have e := PySem.W.each_mem (each_of rr w)
    refine e.mono fun u d z => ?_
    obtain ⟨⟨v, g1, g2⟩, hd⟩ := z
    exact Dp.reads I _ _ _ (rep_dp g2 (h1 d hd).1) g1
  · intro p hp q hq
    obtain ⟨d, hd, rfl⟩ := List.mem_map.mp hp
    obtain ⟨e, he, rfl⟩ := List.mem_map.mp hq
    exact h2 d hd e he
  · intro d hd
    have := (h1 d hd).2.2
    omega
  · obtain ⟨ys, w2, r2⟩ := of_each he
    obtain ⟨n, hn⟩ := sortedAll_at s.heap its out.toArray
    have r3 : reps X.K ct M H (sortT ds) ys := r2
    refine ⟨.ref _, upd H _ (.lst ys), I.laid (t' := s.toks) (fun b o e => sortedAll_old e) (Nat.le_succ _) ⟨?_, out, n, w2, hn⟩, rfl, q _ ys (I.hok.fresh (Nat.le_succ _)) r3⟩
    rw [w2.length, ho]
    exact ez
theorem cald_sort : CalD K ct .f (rSortT K ct) fSort1 := fun M H xs us d mt hr h Q q => by
  unfold fSort1 at h
  split at h
  · split at h
    · split at h
      · rename_i ok
        cases h
        obtain ⟨u, rfl, h1⟩ := repbs1 hr
        exact ⟨M, _, u, rfl, h1, ok, fun p ys hp r => q _ _ (Same.new hp) (new_f hp r)⟩
      · cases h
    · cases h
  · cases h
end
end Dn

/-! not in by an own def; range with a step; tables of own =='s. -/
namespace Q
open PySem PySem.Spec PyProof.Rows L2 LamX
section
variable {X : Cx} {CX : CXT} {C : Addr} {k : Nat} {ps : List Str} {sp : Sp} {E : XK}
def rInN (C : Addr) (sp : Sp) (E : XK) : R2 := fun x y H Q => ∃ b dy gs, y = .ref b ∧ H b = some (.ins C dy gs) ∧ sp [y, x] H (fun v H' => ∃ r, v = .bl r ∧ Q (.bl (!r)) H') E
theorem op_notinO (D : Dun X.prog X.w X.K X.mg X.base CX C "__contains__" k ps sp) (hr : Room k X.A) (hx : Passes CX X E) : OpR X (compareOp .NotIn) (rInN C sp E) := by
  intro pz s σ H x y v u R I rx ry hq
  obtain ⟨f, fd, F, hs, hf, hb⟩ := D.ex
  obtain ⟨b, dy, gs, rfl, hb', h⟩ := hq
  cases ry
  obtain ⟨mB, J2, _⟩ := ins_get I.hok hb'
  obtain ⟨od2, J2, _⟩ := J2.look
  obtain ⟨m, hF⟩ := I.fr
  refine PySem.W.notIn_K hF I.ok.mod.kin J2 hs hf ?_
  refine wpAny_mono (run_at rfl F hr hb hx I (show Vals [V.ref b, x] [Value.ref b, v] from .cons rfl (.cons rx .nil)) h) (fun z sx hq => ?_) fun _ _ e => e
  obtain ⟨v1, H', I', rz, r, rfl, q⟩ := hq
  cases rz
  exact wpAny_truthy_bool ⟨.bl (!r), H', I', rfl, q⟩
end
end Q
namespace Dn
open PySem PySem.Spec PyProof.Rows L2 LamX Q
section
variable {K : PySem.W.Frag} {ct : Ct} {ks : Ky} {E : EX} {X : Cx} {q q1 q2 : Bool} {m1 m2 : Md} {a b : Expr} {ta tb : TE} {da db : Dl → Rs Dv} {pos : Pos}
def cInN (c : Str) (df : List Dv → Rs Dv) (a b : Dl → Rs Dv) : Dl → Rs Dv := fun δ => bnd (a δ) fun x δ1 => bnd (b δ1) fun y δ2 => if isObjOf c y = true then blOut not (df [y, x]) δ2 else .stuck
theorem ev_notinop {c : Str} {df : List Dv → Rs Dv} (ha : DX K ct ks E q1 m1 X a ta da) (hb : DX K ct ks E q2 m2 X b tb db) (n1 : m1 ≠ .b) (n2 : m2 ≠ .b) : DGs K ct ks E (rmE K ct .v) (q1 && q2) (tOp (rInN (ct c) (spD K ct [.v, .v] .v df) E) ta tb) (cInN c df da db) := fun M W H δ σ er => by
  refine Ev2.bind ((ha.ev M W H δ σ er).weak (fun z hz => ⟨by rw [hz.1]; rfl, hz.2⟩)) (fun _ h => h) (fun _ _ _ _ _ k h => re_anti k h) fun x δ1 u H1 k1 e1 r1 => ?_
  refine Ev2.bind ((hb.ev M W H1 δ1 σ e1).weak (fun z hz => ⟨by rw [hz.1]; exact Bool.and_false _, hz.2⟩)) (fun _ h => h) (fun _ _ _ _ _ k h => re_anti k h) fun y δ2 v H2 k2 e2 r2 => ?_
  by_cases hc : isObjOf c y = true
  · rw [if_pos hc]
    have rx : rep K ct M H2 x u := rep_kp k2 (fun a z => er.wm a z.2) (rm_v er.mt n1 r1.1)
    have ry : rep K ct M H2 y v := rm_v e1.mt n2 r2.1
    obtain ⟨ns', ds', rfl⟩ := isObjOf_some hc
    obtain ⟨a2, dx2, xs2, rfl, _, h2, _⟩ := rep_obj.mp ry
    intro Q p
    refine ⟨a2, dx2, _, rfl, h2, ?_⟩
    exact ((ev_own2 (g := not) e2 ry rx).weak fun z hz => (Wq.no hz).elim) Q p
  · rw [if_neg hc]
    exact Ev2.stuck
theorem dt_notin {op : CmpOp} {c : Str} {C : Addr} {df : List Dv → Rs Dv} (hC : ct c = C) (hp : OpR X (compareOp op) (rInN C (spD K ct [.v, .v] .v df) E)) (ha : DX K ct ks E q1 m1 X a ta da) (hb : DX K ct ks E q2 m2 X b tb db) (hm : behindInMarks op b = false) (n1 : m1 ≠ .b := by decide) (n2 : m2 ≠ .b := by decide) :
    DT K ct ks E (q1 && q2) X (.Compare a [op] [b] pos) (tTest (tOp (rInN C (spD K ct [.v, .v] .v df) E) ta tb)) (cTest (cInN c df da db)) := by
  subst hC
  exact ⟨pt_cmpR hp ha.pe hb.pe hm, ev_test (ev_notinop ha hb n1 n2)⟩
theorem dx_notin {op : CmpOp} {c : Str} {C : Addr} {df : List Dv → Rs Dv} (hC : ct c = C) (hp : OpR X (compareOp op) (rInN C (spD K ct [.v, .v] .v df) E)) (ha : DX K ct ks E q1 m1 X a ta da) (hb : DX K ct ks E q2 m2 X b tb db) (hm : behindInMarks op b = false) (n1 : m1 ≠ .b := by decide) (n2 : m2 ≠ .b := by decide) :
    DX K ct ks E (q1 && q2) .v X (.Compare a [op] [b] pos) (tOp (rInN C (spD K ct [.v, .v] .v df) E) ta tb) (cInN c df da db) := by
  subst hC
  exact ⟨pe_cmpR hp ha.pe hb.pe hm, ev_notinop ha hb n1 n2⟩
end
/-! range downwards -/
def rngC (lo c : Int) (n : Nat) : List Dv := (List.range n).map fun (i : Nat) => Dv.int (lo + (i : Int) * c)
theorem rngC_at {lo c : Int} {n i : Nat} {d : Dv} (h : (rngC lo c n)[i]? = some d) : i < n ∧ d = .int (lo + i * c) := by
  unfold rngC at h
  rw [List.getElem?_map] at h
  cases hi : (List.range n)[i]? with
  | none => rw [hi] at h; cases h
  | some j =>
    rw [hi] at h
    cases h
    have hl := (List.getElem?_eq_some_iff.mp hi).1
    rw [List.length_range] at hl
    rw [List.getElem?_range hl] at hi
    cases hi
    exact ⟨hl, rfl⟩
theorem walkD_rangeC {K : PySem.W.Frag} {ct : Ct} {M W : Ads} {H : Hp} {lo c : Int} {n : Nat} : WalkD K ct M W H (Itc lo c n) (rngC lo c n) := by
  refine ⟨fun _ => True, YFn fun i => .int (lo + (i : Nat) * c), by unfold rngC; rw [List.length_map, List.length_range]; exact walk_rangeC, fun M1 S H1 hs k hm mt => ⟨trivial, fun i x H2 d hd y => ?_⟩⟩
  obtain ⟨rfl, rfl⟩ := y
  obtain ⟨_, rfl⟩ := rngC_at hd
  exact ⟨Same.refl _, (rep_int (K := K) (ct := ct) (M := M1) (H := H2)).mpr rfl⟩
def fRng3 : List Dv → Option (List Dv)
  | [.int i, .int j, .int c] => if bRng i = true ∧ bRng j = true ∧ c = -1 then some (rngC i (-1) (i - j).toNat) else none
  | _ => none
theorem repbs3 {K : PySem.W.Frag} {ct : Ct} {M : Ads} {H : Hp} {x y z : Dv} {us : List V} (h : repbs K ct M H [x, y, z] us) : ∃ u v w, us = [u, v, w] ∧ repb K ct M H x u ∧ repb K ct M H y v ∧ repb K ct M H z w := by
  obtain ⟨u, ys, rfl, h1, h2⟩ := repbs_inv h
  obtain ⟨v, w, rfl, h3, h4⟩ := repbs2 h2
  exact ⟨u, v, w, rfl, h1, h3, h4⟩
theorem di_range3 {K : PySem.W.Frag} {ct : Ct} {ks : Ky} {E : EX} {X : Cx} {q bb : Bool} {tg a b c : Expr} {ta : TA} {da : Dl → Rs (List Dv)} {p pos : Pos} (hg : Gl X "range") (hm : X.mg "range" = none) (ha : DA K ct ks E q bb X [a, b, c] ta da)
    (hs : starEach [a, b, c] X.env = (false, eval a X.env) :: starEach [b, c] X.env := by rfl) (hpl : (backTo pos (starEach [b, c] X.env)).any (·.1) = false := by rfl) : DI K ct ks E q X tg (.Call (.Name "range" p) [a, b, c] [] pos) (iRng3 ta) (cIt fRng3 da) :=
  ⟨pi_range3 hg hm ha.pe hs hpl, fun M W H δ σ er => by
    refine Ev2.bind (ha.ev M W H δ σ er) (fun _ h => h) (fun _ _ _ _ _ _ h => h) fun xs δ1 us H1 k1 e1 r1 => ?_
    cases hx : fRng3 xs with
    | none => exact Ev2.stuck
    | some ds =>
      refine Ev2.ret fun Q p => ?_
      unfold fRng3 at hx
      split at hx
      · split at hx
        · rename_i hb
          cases hx
          obtain ⟨u, v, w, rfl, h1, h2, h3⟩ := repbs3 (rml_b r1)
          cases repb_int h1
          cases repb_int h2
          cases repb_int h3
          obtain ⟨b1, b2, rfl⟩ := hb
          exact ⟨_, _, -1, _, rfl, RgC.neg (bRng_ok b1).1 (bRng_ok b1).2 (bRng_ok b2).1 (bRng_ok b2).2, p _ H1 (Kp3.refl _ _) e1 walkD_rangeC⟩
        · cases hx
      · cases hx⟩
/-! tables of own =='s -/
def ocN : OcT := fun _ => none
def ocC (c : Str) (df : List Dv → Rs Dv) (oc : OcT) : OcT := fun d => if d = c then some df else oc d
section
variable {P : Program} {w : World} {K : PySem.W.Frag} {mg : Str → Option Value} {base : Heap} {ct : Ct} {k : Nat} {oc : OcT}
theorem eqt_nil : EqTabP P w K mg base ct k ocN := fun c df h => by cases h
theorem eqt_cons {c : Str} {df : List Dv → Rs Dv} {k' : Nat} {ps : List Str} (h : Dun P w K mg base (L2.CX P w) (ct c) "__eq__" k' ps (spD K ct [.v, .v] .v df)) (r : EqTabP P w K mg base ct k oc) (hk : k' ≤ k := by decide) : EqTabP P w K mg base ct k (ocC c df oc) := fun d df' h' => by
  unfold ocC at h'
  by_cases hd : d = c
  · rw [if_pos hd] at h'
    cases h'
    rw [hd]
    exact ⟨k', ps, hk, h⟩
  · rw [if_neg hd] at h'
    exact r d df' h'
end
theorem fInt_i {i : Int} : fInt [.int i] = some (.int i) := id rfl
end Dn

/-! isinstance and == of any two trees: other classes, built-in types. -/
namespace Dn
open PySem PySem.Spec PyProof.Rows L2 LamX Q
/-- the built-in type of a tree -/
def tyD : Dv → Option String
  | .non => some "NoneType"
  | .bl _ => some "bool"
  | .int _ => some "int"
  | .str _ => some "str"
  | .tup _ => some "tuple"
  | .lst _ => some "list"
  | .obj _ _ _ => none
/-- classes of which nothing built-in is an instance -/
def IsB (K : PySem.W.Frag) (ct : Ct) (L : List Str) : Prop := ∀ c, c ∈ L → PySem.W.isClsIn K (ct c) = true ∧ PySem.W.typeIn K (.ref (ct c)) = some (.type "type")
theorem isB_nil {K : PySem.W.Frag} {ct : Ct} : IsB K ct [] := fun _ h => by cases h
theorem isB_cons {K : PySem.W.Frag} {ct : Ct} {L : List Str} {c : Str} (h1 : PySem.W.isClsIn K (ct c) = true) (h2 : PySem.W.typeIn K (.ref (ct c)) = some (.type "type")) (h : IsB K ct L) : IsB K ct (c :: L) := fun d hd => by
  rcases List.mem_cons.mp hd with rfl | hd
  · exact ⟨h1, h2⟩
  · exact h d hd
section
variable {K : PySem.W.Frag} {ct : Ct} {L : List Str} {M : Ads} {H : Hp} {x : Dv} {u : V} {T : String} {c : Str}
theorem sub_b {C : Addr} (h : tyD x = some T) : PySem.W.subIn K (.type T) (.ref C) = some false := by
  cases x <;> cases h <;> rfl
theorem kit_b (B : IsB K ct L) (hc : c ∈ L) (h : tyD x = some T) : PySem.W.kitOne K (.type T) (.ref (ct c)) = some false := by
  obtain ⟨h1, h2⟩ := B c hc
  have e2 : ((PySem.W.clsIn K (ct c)).isSome && PySem.W.typeIn K (.ref (ct c)) == some (.type "type")) = true := by
    rw [show (PySem.W.clsIn K (ct c)).isSome = true from h1, h2] <;> rfl
  show (if (Value.type T == Value.ref (ct c)) = true then some true else PySem.W.kitCls K (.type T) (.ref (ct c))) = some false
  rw [if_neg (by simp)]
  show (if ((PySem.W.clsIn K (ct c)).isSome && PySem.W.typeIn K (.ref (ct c)) == some (.type "type")) = true then PySem.W.subIn K (.type T) (.ref (ct c)) else none) = some false
  rw [if_pos e2]
  exact sub_b h
theorem tyx_b (h : rep K ct M H x u) (e : tyD x = some T) : TyX K H u (.type T) := by
  cases x with
  | non => cases e; rw [rep_non.mp h]; exact .base .non
  | bl b => cases e; rw [rep_bl.mp h]; exact .base (.bl _)
  | int i => cases e; rw [rep_int.mp h]; exact .base (.int _)
  | str s => cases e; rw [rep_str.mp h]; exact .base (.str _)
  | tup ds =>
    cases e
    obtain ⟨a, us, rfl, s1, _⟩ := rep_SqT h
    rcases s1 with (s1 | ⟨o, s1⟩) | ⟨o, its, n, h1, h2, _⟩
    · exact .base (.tup s1)
    · exact .fTuple s1
    · exact .kTuple h1 h2
  | lst ds =>
    cases e
    obtain ⟨a, us, rfl, s1, _⟩ := rep_SqL h
    rcases s1 with (s1 | ⟨o, s1⟩) | ⟨o, its, n, h1, h2, _⟩
    · exact .base (.lst s1)
    · exact .base (.frz s1)
    · exact .kList h1 h2
  | obj c ks ds => cases e
end
/-- isinstance of anything and an own class -/
def fIsB (okI : Str → Str → Option Bool) (L : List Str) (c : Str) : Dv → Option Dv
  | .obj c' _ _ => (okI c' c).map .bl
  | _ => if c ∈ L then some (.bl false) else none
section
variable {X : Cx} {K : PySem.W.Frag} {ct : Ct} {ks : Ky} {E : EX} {q : Bool} {m : Md} {e : Expr} {t : TE} {d : Dl → Rs Dv} {pos : Pos}
theorem dx_isB {okI : Str → Str → Option Bool} {L : List Str} (T : IsT K ct okI) (B : IsB K ct L) {c : Str} {C : Addr} {ex : Expr} (hC : ct c = C) (he : DX K ct ks E q m X e t d) (hm : m ≠ .b) (hP : PE X ex (tCB (rIsi K) (tCons t (tCons (tC (.ref C)) tNil)))) :
    DX K ct ks E q .v X ex (tCB (rIsi K) (tCons t (tCons (tC (.ref C)) tNil))) (cUn (fIsB okI L c) d) := ⟨hP, fun M W H δ σ er => by
  subst hC
  refine Ev2.bind (he.ev M W H δ σ er) (fun _ h => h) (fun _ _ _ _ _ k h => re_anti k h) fun x δ1 u H1 k1 e1 r1 => ?_
  refine ev_opt e1 fun dd hd Q p => ?_
  have rx : rep K ct M H1 x u := rm_v er.mt hm r1.1
  cases hx : tyD x with
  | none =>
    cases x with
    | obj c' ns ds =>
      have hd' : (okI c' c).map Dv.bl = some dd := hd
      cases hk : okI c' c with
      | none => rw [hk] at hd'; cases hd'
      | some b =>
        rw [hk] at hd'
        cases hd'
        obtain ⟨o, kk⟩ := T c' c b hk
        obtain ⟨a, dx, xs, rfl, _, ha, hr⟩ := rep_obj.mp rx
        exact ⟨.ref a, .ref (ct c), _, _, b, rfl, .own (ct c), .base (.ins ha o.cl o.ha o.hn o.htk o.hm), kk, p _ H1 (Same.refl _) rm_bl⟩
    | non => cases hx
    | bl _ => cases hx
    | int _ => cases hx
    | str _ => cases hx
    | tup _ => cases hx
    | lst _ => cases hx
  | some ty =>
    have hd' : (if c ∈ L then some (Dv.bl false) else none) = some dd := by
      cases x <;> first | exact hd | cases hx
    split at hd'
    · rename_i hc
      cases hd'
      exact ⟨u, .ref (ct c), _, _, false, rfl, .own (ct c), tyx_b rx hx, kit_b B hc hx, p _ H1 (Same.refl _) rm_bl⟩
    · cases hd'⟩
theorem dx_isiB {okI : Str → Str → Option Bool} {L : List Str} (T : IsT K ct okI) (B : IsB K ct L) {c x : Str} {C : Addr} {p p2 : Pos} (he : DX K ct ks E q m X e t d) (hm : X.mg "isinstance" = none) (hC : X.mg x = some (.ref C)) (hc : ct c = C) (hg : Gl X "isinstance" := by rfl) (hgx : Gl X x := by rfl) (hK : X.K = K := by rfl) (hdb : (x == ("__debug__" : Str)) = false := by decide)
    (hs : starEach [e, .Name x p2] X.env = (false, eval e X.env) :: starEach [.Name x p2] X.env := by rfl) (hs2 : starEach [.Name x p2] X.env = (false, eval (.Name x p2) X.env) :: starEach [] X.env := by rfl) (hpl : (backTo pos (starEach [.Name x p2] X.env)).any (·.1) = false := by rfl) (nb : m ≠ .b := by decide) :
    DX K ct ks E q .v X (.Call (.Name "isinstance" p) [e, .Name x p2] [] pos) (tCB (rIsi K) (tCons t (tCons (tC (.ref C)) tNil))) (cUn (fIsB okI L c) d) :=
  dx_isB T B hc he nb (pe_callB (call_isiC hK) hg hm (by decide +kernel) (pa_cons he.pe (pa_cons (pe_glob (v := .ref C) hgx hC rfl hdb) pa_nil hs2) hs) (by decide) (by decide) hs hpl)
end

/-! == of an instance and anything -/
def okN (okI : Str → Str → Option Bool) (L : List Str) (c : Str) : Dv → Bool
  | .obj c' _ _ => decide (c' = c) || decide (okI c' c = some false)
  | _ => decide (c ∈ L)
def ownR (df : List Dv → Rs Dv) (x y : Dv) : Option Bool := match df [x, y] with
  | .ok (.bl b) _ => some b
  | _ => none
def obZ (oc : OcT) (okI : Str → Str → Option Bool) (L : List Str) (x y : Dv) : Option Bool := match x with
  | .obj c ks ds => match oc c with
    | some df => if okN okI L c y = true then ownR df (.obj c ks ds) y else none
    | none => none
  | _ => none
theorem ownR_some {df : List Dv → Rs Dv} {x y : Dv} {b : Bool} (h : ownR df x y = some b) : ∃ δ, df [x, y] = .ok (.bl b) δ := by
  unfold ownR at h
  split at h
  · rename_i δ e
    cases h
    exact ⟨δ, e⟩
  · cases h
theorem nf_kit {K : PySem.W.Frag} {C D : Addr} (h : PySem.W.kitOne K (.ref D) (.ref C) = some false) : PySem.W.notFirst K C (.ref D) = true := by
  unfold PySem.W.kitOne at h
  split at h
  · cases h
  · unfold PySem.W.kitCls at h
    split at h
    · rename_i C' e
      cases e
      split at h
      · show (_ || _) = true
        rw [h]
        simp
      · cases h
    · rename_i e; cases e
    · rename_i e _; exact absurd rfl (e _)
theorem neZ {prog : Program} {w : World} {A : Around} {E : Value → Shared → Prop} {s : Shared} {K : PySem.W.Frag} {x C L f : Addr} {h₀ : Heap} {m : Str → Option Value} {ox : Obj} {od : Option Obj} {b tb : Value} {Q : Value → Shared → Prop} (hu : A.units + 1 < cLine) (X : K.In s.heap) (I : PySem.W.InstAt s.heap x ox C od) (hb : PySem.W.Looks (model prog w) s.heap (typeOf b) tb) (hnf : PySem.W.notFirst K C tb = true)
    (hn : PySem.W.findIn K (.ref C) "__ne__" = some (some (.builtin "object.__ne__"))) (hs : PySem.W.findIn K (.ref C) "__eq__" = some (some (.ref f))) (hf : PySem.W.isFn K (.ref f) = true) (ht : PySem.W.mroIn K C (.type "object") = some true)
    (h : wpAny (model prog w) A.in1 (call (.ref f) [.ref x, b]) (fun v s' => ∃ r, v = .bool r ∧ Q (.bool (!r)) s') E s) : wpAny (model prog w) A (richCompare .NotEq (.ref x) b) Q E s := by
  have one : wpAny (model prog w) A (tryCompare (.ref x) "__ne__" b) (fun r s' => ∃ v, r = some v ∧ Q v s') E s := by
    unfold tryCompare
    refine wpAny_bind (ifBoundB X I hn ne_bind (wpAny_call (codeAny_call_builtin ne_plain F.cmpEntry_ne ?_)))
    have tt : PySem.W.Looks (model prog w) s.heap (isInstance (.ref x) (.type "object")) true := I.type.andThen (PySem.W.looks_mroIn X ht)
    refine @PySem.W.check_slot (model prog w) _ _ _ "object.__ne__" "object" "__ne__" (.ref x) [b] [] _ F.cmpKind_ne F.cmpSplit_ne tt (F.cmpArgs_ne _ _) ?_
    unfold Builtin.«object.__ne__»
    repeat (first
      | with_reducible refine wpAny_cRoomFor (A := A.in1) (show A.in1.units < cLine from hu) ?_
      | (refine wpAny_bind (m := callSpecialIfBound? (.ref x) (Str.ofString "__eq__") [b]) (PySem.W.ifBound_K X I hs hf (wpAny_mono h (fun r sx hr => ?_) fun _ _ e => e)))
      | wp_step)
    obtain ⟨r, rfl, hq⟩ := hr
    repeat (first | exact ⟨_, rfl, hq⟩ | exact wpAny_pure ⟨_, rfl, hq⟩ | (refine wpAny_bind (m := truthy (.bool _)) (wpAny_truthy_bool ?_)) | wp_step)
  unfold richCompare
  simp only [oneThing_ref]
  refine wpAny_holding (wpAny_bind (wpAny_cRoomFor (Nat.lt_of_succ_lt hu) ?_))
  refine wpAny_bind (I.type.here (wpAny_bind (hb.here ?_)))
  rw [cmpInfo_NotEq]
  split
  · rename_i q
    have e : PySem.W.subIn K tb (.ref C) = some false := by
      rcases Bool.or_eq_true_iff.mp hnf with e | e
      · rw [beq_iff_eq.mp e] at q; simp at q
      · exact beq_iff_eq.mp e
    refine wpAny_bind ((PySem.W.looks_subIn X e).here ?_)
    simp only [Bool.false_eq_true, if_false]
    refine wpAny_bind (wpAny_mono one (fun r sx z => ?_) fun _ _ e => e)
    obtain ⟨v, rfl, hq⟩ := z
    exact wpAny_pure hq
  · refine wpAny_bind (wpAny_pure ?_)
    simp only [Bool.false_eq_true, if_false]
    refine wpAny_bind (wpAny_mono one (fun r sx z => ?_) fun _ _ e => e)
    obtain ⟨v, rfl, hq⟩ := z
    exact wpAny_pure hq
/-- != is object's -/
def NeT (K : PySem.W.Frag) (ct : Ct) (oc : OcT) : Prop := ∀ c df, oc c = some df → PySem.W.findIn K (.ref (ct c)) "__ne__" = some (some (.builtin "object.__ne__")) ∧ PySem.W.mroIn K (ct c) (.type "object") = some true
section
variable {X : Cx} {ct : Ct} {E : XK} {k : Nat} {oc : OcT} {okI : Str → Str → Option Bool} {L : List Str}
/-- what == is asked of -/
theorem ask_sp {df : List Dv → Rs Dv} {b : Bool} {δ : Dl} {x y : Dv} {u v : V} {M : Ads} {H : Hp} (ed : df [x, y] = .ok (.bl b) δ) (t : Tabs ct.tabs H) (mt : ∀ a, M a → H a ≠ none) (r1 : rep X.K ct M H x u) (r2 : rep X.K ct M H y v) :
    spD X.K ct [.v, .v] .v df [u, v] H (fun w H' => w = .bl b ∧ Kp3 ct.tabs (fun _ => False) H H') E := by
  refine ⟨M, [x, y], rfl, rfl, t, mt, fun j kd d w h1 h2 h3 => ?_, fun i j a _ hi _ _ _ => ?_, ?_⟩
  · match j, h1, h2, h3 with
    | 0, h1, h2, h3 =>
      cases h1
      cases h2
      cases h3
      exact r1
    | 1, h1, h2, h3 =>
      cases h1
      cases h2
      cases h3
      exact r2
    | j + 2, h1, _, _ => simp at h1
  · match i, hi with
    | 0, hi => cases hi
    | 1, hi => cases hi
    | i + 2, hi => simp at hi
  · rw [ed]
    intro z H' k1 _ hr
    exact ⟨(rep_bl (K := X.K) (ct := ct) (M := M) (H := H')).mp hr, k1.mono fun z hz => pcs_vv hz⟩
/-- the type of the right one, and that it doesn't go first -/
theorem right_of {y : Dv} {c : Str} {v : V} {v' : Value} {pins : List (Addr × Obj)} {s : Shared} {σ : L2.St} {H : Hp} {M : Ads} (T : IsT X.K ct okI) (B : IsB X.K ct L) (h : okN okI L c y = true) (I : Inv X pins σ H s) (r2 : rep X.K ct M H y v) (rv : RelV v v') :
    ∃ tb, PySem.W.Looks (model X.prog X.w) s.heap (typeOf v') tb ∧ PySem.W.notFirst X.K (ct c) tb = true := by
  cases hy : tyD y with
  | none =>
    cases y with
    | obj c' ks' ds' =>
      obtain ⟨a2, dy, ys, rfl, _, ha2, q2⟩ := id (rep_obj.mp r2)
      cases rv
      obtain ⟨mB, J2, _⟩ := ins_get I.hok ha2
      obtain ⟨od2, J2, _⟩ := J2.look
      refine ⟨_, J2.type, ?_⟩
      rcases Bool.or_eq_true_iff.mp h with e | e
      · rw [of_decide_eq_true e]
        simp [PySem.W.notFirst]
      · exact nf_kit (T c' c false (of_decide_eq_true e)).2
    | non => cases hy
    | bl _ => cases hy
    | int _ => cases hy
    | str _ => cases hy
    | tup _ => cases hy
    | lst _ => cases hy
  | some ty =>
    obtain ⟨P, Z, p, hx⟩ := kit_of I rv (tyx_b r2 hy)
    refine ⟨_, Z.ty _ _ I.kIn p, ?_⟩
    show (_ || _) = true
    rw [sub_b hy]
    simp
theorem obZ_rc (D : EqTabP X.prog X.w X.K X.mg X.base ct k oc) (T : IsT X.K ct okI) (B : IsB X.K ct L) (hx : Passes (L2.CX X.prog X.w) X E) : RcB X ct k (obZ oc okI L) .Eq id := by
  intro x y b A pins s σ H M u v u' v' e sb I t mt r1 r2 ru rv
  unfold obZ at e
  split at e
  · rename_i c ks ds
    cases ho : oc c with
    | none => rw [ho] at e; cases e
    | some df =>
      rw [ho] at e
      have e : (if okN okI L c y = true then ownR df (.obj c ks ds) y else none) = some b := e
      split at e
      · rename_i hN
        obtain ⟨δ, ed⟩ := ownR_some e
        obtain ⟨k', ps, hk, DD⟩ := D c df ho
        obtain ⟨f, fd, F, hs, hf, hb⟩ := DD.ex
        obtain ⟨tb, hl, hnf⟩ := right_of T B hN I r2 rv
        obtain ⟨a, dx, xs, rfl, _, ha, q1⟩ := id (rep_obj.mp r1)
        cases ru
        obtain ⟨mA, J, _⟩ := ins_get I.hok ha
        obtain ⟨od, J, _⟩ := J.look
        obtain ⟨m, hF⟩ := I.fr
        refine PySem.W.cmp_K (op := .Eq) (tb := tb) sb.room.units0 hF I.ok.mod.kin J hl hnf hs hf ?_
        refine wpAny_mono (run_at sb.fr F (sb.room.mono hk) hb hx I (show Vals [V.ref a, v] [Value.ref a, v'] from .cons rfl (.cons rv .nil)) (ask_sp ed t mt r1 r2)) (fun w sx hq => ?_) fun _ _ e => e
        obtain ⟨z, H', I', rz, ez, k1⟩ := hq
        subst ez
        cases rz
        exact ⟨rfl, H', I', k1⟩
      · cases e
  · cases e
theorem obZ_rn (D : EqTabP X.prog X.w X.K X.mg X.base ct k oc) (N : NeT X.K ct oc) (T : IsT X.K ct okI) (B : IsB X.K ct L) (hx : Passes (L2.CX X.prog X.w) X E) : RcB X ct (k + 1) (obZ oc okI L) .NotEq not := by
  intro x y b A pins s σ H M u v u' v' e sb I t mt r1 r2 ru rv
  unfold obZ at e
  split at e
  · rename_i c ks ds
    cases ho : oc c with
    | none => rw [ho] at e; cases e
    | some df =>
      rw [ho] at e
      have e : (if okN okI L c y = true then ownR df (.obj c ks ds) y else none) = some b := e
      split at e
      · rename_i hN
        obtain ⟨δ, ed⟩ := ownR_some e
        obtain ⟨k', ps, hk, DD⟩ := D c df ho
        obtain ⟨f, fd, F, hs, hf, hb⟩ := DD.ex
        obtain ⟨tb, hl, hnf⟩ := right_of T B hN I r2 rv
        obtain ⟨a, dx, xs, rfl, _, ha, q1⟩ := id (rep_obj.mp r1)
        cases ru
        obtain ⟨mA, J, _⟩ := ins_get I.hok ha
        obtain ⟨od, J, _⟩ := J.look
        obtain ⟨n1, n2⟩ := N c df ho
        refine neZ (L := ct c) (h₀ := s.heap) (m := fun _ => none) (by have := sb.room.un; omega) I.kIn J hl hnf n1 hs hf n2 ?_
        refine wpAny_mono (run_at sb.in1.fr F (sb.in1.room.mono hk) hb hx I (show Vals [V.ref a, v] [Value.ref a, v'] from .cons rfl (.cons rv .nil)) (ask_sp ed t mt r1 r2)) (fun w sx hq => ?_) fun _ _ e => e
        obtain ⟨z, H', I', rz, ez, k1⟩ := hq
        subst ez
        obtain rfl : w = Value.bool b := rz
        exact ⟨b, rfl, rfl, H', I', k1⟩
      · cases e
  · cases e
end
end Dn

namespace Dn
open PySem PySem.Spec PyProof.Rows L2 LamX Q
def isR : Dv → Bool
  | .obj _ _ _ => true
  | .tup _ => true
  | .lst _ => true
  | _ => false
/-- surely two things -/
def apartN : Nat → Dv → Dv → Bool
  | 0, x, y => scNe x y
  | n + 1, x, y => scNe x y || ((isR x != isR y) || match x, y with
    | .obj _ ks ds, .obj _ ks' ds' => (decide (ks ≠ ks') && (decide (ks.length = ds.length) && decide (ks'.length = ds'.length))) || ks.any fun f => match (ks.zip ds).lookup f, (ks'.zip ds').lookup f with
      | some a, some b => apartN n a b
      | _, _ => false
    | .tup xs, .tup ys => decide (xs.length ≠ ys.length) || (xs.zip ys).any fun p => apartN n p.1 p.2
    | _, _ => false)
section
variable {X : Cx} {ct : Ct} {pins : List (Addr × Obj)} {s : Shared} {σ : L2.St} {H : Hp} {M : Ads}
theorem isR_ref {x : Dv} {u : V} (h : rep X.K ct M H x u) : isR x = true ↔ ∃ a, u = .ref a := by
  cases x with
  | non => rw [rep_non.mp h]; exact ⟨fun z => (by cases z), fun ⟨a, z⟩ => (by cases z)⟩
  | bl b => rw [rep_bl.mp h]; exact ⟨fun z => (by cases z), fun ⟨a, z⟩ => (by cases z)⟩
  | int i => rw [rep_int.mp h]; exact ⟨fun z => (by cases z), fun ⟨a, z⟩ => (by cases z)⟩
  | str s => rw [rep_str.mp h]; exact ⟨fun z => (by cases z), fun ⟨a, z⟩ => (by cases z)⟩
  | tup ds =>
    obtain ⟨a, us, rfl, _⟩ := rep_SqT h
    exact ⟨fun _ => ⟨a, rfl⟩, fun _ => rfl⟩
  | lst ds =>
    obtain ⟨a, us, rfl, _⟩ := rep_SqL h
    exact ⟨fun _ => ⟨a, rfl⟩, fun _ => rfl⟩
  | obj c ks ds =>
    obtain ⟨a, dx, xs, rfl, _⟩ := rep_obj.mp h
    exact ⟨fun _ => ⟨a, rfl⟩, fun _ => rfl⟩
theorem keys_zip {ks ks' : List Str} {xs ys : List V} (e : ks.zip xs = ks'.zip ys) (h1 : ks.length = xs.length) (h2 : ks'.length = ys.length) : ks = ks' := by
  have := congrArg (List.map Prod.fst) e
  rw [List.map_fst_zip (by omega), List.map_fst_zip (by omega)] at this
  exact this
theorem apartN_no (I : Inv X pins σ H s) : ∀ (n : Nat) (x y : Dv) (u : V), apartN n x y = true → rep X.K ct M H x u → rep X.K ct M H y u → False
  | 0, x, y, u, h, r1, r2 => scNe_ne h r1 r2 rfl
  | n + 1, x, y, u, h, r1, r2 => by
    unfold apartN at h
    rcases Bool.or_eq_true_iff.mp h with h | h
    · exact scNe_ne h r1 r2 rfl
    rcases Bool.or_eq_true_iff.mp h with h | h
    · have a1 := isR_ref r1
      have a2 := isR_ref r2
      cases e1 : isR x <;> cases e2 : isR y <;> rw [e1, e2] at h <;> first | cases h | skip
      · have := a1.mpr (a2.mp e2)
        rw [e1] at this
        cases this
      · have := a2.mpr (a1.mp e1)
        rw [e2] at this
        cases this
    split at h
    · rename_i c ks ds c' ks' ds' _ _
      obtain ⟨a, dx, xs, rfl, _, g1, q1⟩ := rep_obj.mp r1
      obtain ⟨b, dy, ys, e, _, g2, q2⟩ := rep_obj.mp r2
      cases e
      rw [g1] at g2
      have ez : ks.zip xs = ks'.zip ys := by
        injection g2 with g2
        injection g2
      rcases Bool.or_eq_true_iff.mp h with h | h
      · obtain ⟨h1, h2⟩ := Bool.and_eq_true_iff.mp h
        obtain ⟨h2, h3⟩ := Bool.and_eq_true_iff.mp h2
        exact of_decide_eq_true h1 (keys_zip ez (by rw [of_decide_eq_true h2, reps_len q1]) (by rw [of_decide_eq_true h3, reps_len q2]))
      · obtain ⟨f, _, hf⟩ := List.any_eq_true.mp h
        cases e1 : (ks.zip ds).lookup f with
        | none => rw [e1] at hf; cases hf
        | some p =>
          cases e2 : (ks'.zip ds').lookup f with
          | none => rw [e1, e2] at hf; cases hf
          | some q =>
            rw [e1, e2] at hf
            obtain ⟨v1, k1, p1⟩ := reps_zip q1 e1
            obtain ⟨v2, k2, p2⟩ := reps_zip q2 e2
            rw [ez, k2] at k1
            cases k1
            exact apartN_no I n p q v1 hf p1 p2
    · rename_i xs ys _ _
      obtain ⟨a1, us, rfl, s1, q1⟩ := rep_SqT r1
      obtain ⟨a2, vs, e, s2, q2⟩ := rep_SqT r2
      cases e
      have := I.tuple_inj s1 s2
      subst this
      rcases Bool.or_eq_true_iff.mp h with h | h
      · exact of_decide_eq_true h (by rw [← reps_len q1, ← reps_len q2])
      · obtain ⟨⟨p, q⟩, hp, hf⟩ := List.any_eq_true.mp h
        obtain ⟨i, hi⟩ := List.mem_iff_getElem?.mp hp
        obtain ⟨g1, g2⟩ := List.getElem?_zip_eq_some.mp hi
        obtain ⟨u1, k1, p1⟩ := reps_get q1 g1
        obtain ⟨u2, k2, p2⟩ := reps_get q2 g2
        rw [k1] at k2
        cases k2
        exact apartN_no I n p q u1 hf p1 p2
    · cases h
end
/-- == of an instance and anything, as lists and tuples ask it -/
def obN (oc : OcT) (okI : Str → Str → Option Bool) (L : List Str) (x y : Dv) : Option Bool := if isR y = true then (match obZ oc okI L x y with
  | some true => some true
  | some false => if apartN 5 x y = true then some false else none
  | none => none) else none
def eqZ (oc : OcT) (okI : Str → Str → Option Bool) (L : List Str) : Nat → Dv → Dv → Option Bool
  | 0, _, _ => none
  | n + 1, x, y => (eqD x y).or ((sqX (eqZ oc okI L n) x y).or (obN oc okI L x y))
/-- == and != at the top -/
def eqT (oc : OcT) (okI : Str → Str → Option Bool) (L : List Str) (n : Nat) (x y : Dv) : Option Bool := (eqD x y).or ((sqX (eqZ oc okI L n) x y).or (obZ oc okI L x y))
theorem obN_some {oc : OcT} {okI : Str → Str → Option Bool} {L : List Str} {x y : Dv} {b : Bool} (h : obN oc okI L x y = some b) : isR y = true ∧ obZ oc okI L x y = some b ∧ (b = false → apartN 5 x y = true) := by
  unfold obN at h
  split at h
  · rename_i hr
    refine ⟨hr, ?_⟩
    split at h
    · rename_i e
      cases h
      exact ⟨e, fun z => by cases z⟩
    · rename_i e
      split at h
      · rename_i ha
        cases h
        exact ⟨e, fun _ => ha⟩
      · cases h
    · cases h
  · cases h
section
variable {X : Cx} {ct : Ct} {E : XK} {k : Nat} {oc : OcT} {okI : Str → Str → Option Bool} {L : List Str}
theorem obN_ref : RefT X ct (obN oc okI L) := by
  intro x y b H M u v e r1 r2
  obtain ⟨h1, h2, _⟩ := obN_some e
  obtain ⟨q, rfl⟩ := (isR_ref r2).mp h1
  cases x with
  | obj c ks ds =>
    obtain ⟨a, dx, xs, rfl, _⟩ := rep_obj.mp r1
    exact ⟨a, q, rfl, rfl⟩
  | non => cases h2
  | bl _ => cases h2
  | int _ => cases h2
  | str _ => cases h2
  | tup _ => cases h2
  | lst _ => cases h2
theorem obN_self : SelfT X ct (obN oc okI L) := by
  intro x y b pins s σ H M u u' I ru e r1 r2
  cases b with
  | true => rfl
  | false => exact (apartN_no I 5 x y u ((obN_some e).2.2 rfl) r1 r2).elim
theorem obN_rc (D : EqTabP X.prog X.w X.K X.mg X.base ct k oc) (T : IsT X.K ct okI) (B : IsB X.K ct L) (hx : Passes (L2.CX X.prog X.w) X E) : RcB X ct k (obN oc okI L) .Eq id := by
  intro x y b A pins s σ H M u v u' v' e
  exact obZ_rc D T B hx x y b A pins s σ H M u v u' v' (obN_some e).2.1
theorem eqZ_self (n : Nat) : SelfT X ct (eqZ oc okI L n) := by
  induction n with
  | zero => intro x y b pins s σ H M u u' I ru e; cases e
  | succ n ih => exact flat_self.or ((sqX_self ih).or obN_self)
theorem eqZ_eq (D : EqTabP X.prog X.w X.K X.mg X.base ct k oc) (T : IsT X.K ct okI) (B : IsB X.K ct L) (hx : Passes (L2.CX X.prog X.w) X E) (n : Nat) : EqB X ct (k + n) (eqZ oc okI L n) := by
  induction n with
  | zero => intro x y b A pins s σ H M u v u' v' e; cases e
  | succ n ih => exact flat_eqB.or ((eqB_ref (sqX_rc ih) sqX_ref (sqX_self (eqZ_self n))).or ((eqB_ref (obN_rc D T B hx) obN_ref obN_self).mono (by omega)))
theorem eqT_rc (D : EqTabP X.prog X.w X.K X.mg X.base ct k oc) (T : IsT X.K ct okI) (B : IsB X.K ct L) (hx : Passes (L2.CX X.prog X.w) X E) (n : Nat) : RcB X ct (k + n + 1) (eqT oc okI L n) .Eq id := flat_rc.or ((sqX_rc (eqZ_eq D T B hx n)).or ((obZ_rc D T B hx).mono (by omega)))
theorem eqT_rn (D : EqTabP X.prog X.w X.K X.mg X.base ct k oc) (N : NeT X.K ct oc) (T : IsT X.K ct okI) (B : IsB X.K ct L) (hx : Passes (L2.CX X.prog X.w) X E) (n : Nat) : RcB X ct (k + n + 1) (eqT oc okI L n) .NotEq not := flat_rn.or ((sqX_rn (eqZ_eq D T B hx n)).or ((obZ_rn D N T B hx).mono (by omega)))
theorem op_rc {m : Nat} {f : Dv → Dv → Option Bool} (h : RcB X ct m f .Eq id) (hr : Room m X.A) : OpR X (compareOp .Eq) (rEqY X.K ct f id) := by
  intro pins s σ H u v u' v' Q I ru rv h'
  obtain ⟨M, x, y, b, e, t, mt, r1, r2, q⟩ := h'
  refine wpAny_mono (h x y b X.A pins s σ H M u v u' v' e ⟨hr, rfl⟩ I t mt r1 r2 ru rv) (fun r s' z => ?_) fun _ _ x => x
  obtain ⟨rfl, H', I', k'⟩ := z
  exact ⟨.bl b, H', I', rfl, q H' k'⟩
theorem op_rn {m : Nat} {f : Dv → Dv → Option Bool} (h : RcB X ct m f .NotEq not) (hr : Room m X.A) : OpR X (compareOp .NotEq) (rEqY X.K ct f not) := by
  intro pins s σ H u v u' v' Q I ru rv h'
  obtain ⟨M, x, y, b, e, t, mt, r1, r2, q⟩ := h'
  refine wpAny_mono (h x y b X.A pins s σ H M u v u' v' e ⟨hr, rfl⟩ I t mt r1 r2 ru rv) (fun r s' z => ?_) fun _ _ x => x
  obtain ⟨rfl, H', I', k'⟩ := z
  exact ⟨.bl (!b), H', I', rfl, q H' k'⟩
end
end Dn

/-! sorted(set(xs)) of a list of ints. -/
namespace Dn
open PySem PySem.Spec PyProof.Rows L2 LamX Q
/-- the empty set, as it is laid -/
abbrev S0 (w : World) : Obj := { cls := .type "set", dict := none, data := .set #[] 0 (.fresh 0 0 (!w.params.followText "set-order")) }
section
variable {P : Program} {w : World} {A : Around} {E : Value → Shared → Prop} {s : Shared}
/-- what set(..) of these numbers leaves -/
abbrev SetLeft (w : World) (g h : Heap) (ns : List Int) (c : Nat) : Prop := SetR w h g.objs.size (fun j => decide (j ∈ ns)) c ∧ c ≤ ns.length ∧ ∀ b o, g.get? b = some o → h.get? b = some o
set_option maxRecDepth 100000 in
set_option maxHeartbeats 3200000 in
theorem set_of_list {l : Addr} {its : Array Value} (ns : List Int) {Q : Value → Shared → Prop} (hh : A.handled = none) (hl : s.heap.IsList l its) (hi : IntsAre its.toList ns) (hb : ns.length + 1 < scanBound)
    (h : ∀ (g : Heap) (tk c : Nat), SetLeft w s.heap g ns c → Q (.ref s.heap.objs.size) { s with heap := g, toks := tk }) : wpAny (model P w) A (call (.type "set") [.ref l]) Q E s := by
  have sz : its.size = ns.length := by rw [← IntsAre.length hi, Array.length_toList]
  have m1 := F.called_set.made
  have m2 := F.called_set.sub
  have m3 := F.called_set.notType
  have m4 := F.called_set.canCreate
  have m5 := F.typeCall_set_1 (.ref l)
  obtain ⟨c, tl, m6⟩ := F.called_set.mro
  refine wpAny_call (codeAny_of_tree (show wpAny _ _ (callAny (.type "set") _) _ _ _ from wpAny_pure ⟨Code.quiet_builtin _ (by decide +kernel), codeAny_builtin F.entry_type_call ?_⟩))
  rw [Around.under_plain (weight_type_call_type "set" [.ref l] []) rfl]
  repeat (any_goals (first | assumption | wp_step))
  refine codeAny_mono (code_set_led1 (.ref l) (E := E) (Q₁ := fun v t => v = .ref s.heap.objs.size ∧ t = { s with heap := s.heap.push (S0 w) }) ⟨rfl, rfl⟩) fun r t hr => ?_
  cases r with
  | error e => exact hr
  | ok fl =>
    cases fl with
    | ret obj =>
      obtain ⟨rfl, rfl⟩ := hr
      have hS : (s.heap.push (S0 w)).get? s.heap.objs.size = some (S0 w) := Heap.get?_push_size _ rfl
      have hT : Shared.TypeIs { s with heap := s.heap.push (S0 w) } (.ref s.heap.objs.size) "set" := ⟨_, hS, rfl⟩
      have n1 := F.called_set.init.lookup
      have n2 := F.called_set.init.bind (.ref s.heap.objs.size)
      repeat (any_goals (first | assumption | wp_step))
      refine codeAny_mono (codeAny_call_builtin (R := wants (fun r t => r = .none ∧ ∃ g tk c, t = { s with heap := g, toks := tk } ∧ SetLeft w s.heap g ns c) E) F.called_set.init.plain F.entry_set_init (check_set_init_1 hT ?_)) fun r t hr => ?_
      · obtain ⟨⟨cl, dc, dt, sl⟩, hol, hc, nl, hd⟩ := hl
        simp only at hc hd
        subst hc hd
        have hlS : l < s.heap.objs.size := Heap.lt_size hol
        have up : (s.heap.push (S0 w)).get? l = some { cls := .type "list", dict := dc, data := .seq its nl, slots := sl } := Heap.get?_push_of_some _ hol
        have q1 := F.sub_list_set
        have q2 := F.sub_list_frozenset
        have q3 : (Value.type "list" == Value.type "dict") = false := by decide
        have lst1 : (s.heap.push (S0 w)).IsList l its := ⟨_, up, rfl, nl, rfl⟩
        unfold Builtin.«set.__init__» noKeywords Builtin.Frozenset.updateFrom
        generalize hPI : pyIter = PI
        wp_walk
        subst hPI
        refine wpAny_pyIter_list lst1 (wpAny_bind (wpAny_runValue ?_))
        have big : (s.heap.push (S0 w)).objs.size = s.heap.objs.size + 1 := Heap.size_push ..
        have nI : l ≠ (s.heap.push (S0 w)).objs.size := fun z => by rw [big] at z; exact Nat.lt_irrefl _ (Nat.lt_trans hlS (by rw [z]; exact Nat.lt_succ_self _))
        have nS : s.heap.objs.size ∉ [(s.heap.push (S0 w)).objs.size, l] := by
          rw [big]
          simp only [List.mem_cons, List.not_mem_nil, or_false, not_or]
          exact ⟨Nat.ne_of_lt (Nat.lt_succ_self _), fun z => Nat.lt_irrefl l (by rw [← z] at hlS ⊢; exact hlS)⟩
        refine set_update_ints ((Walks.list (by simp [hh]) _ l nI its).toS) s.heap.objs.size nS ns sz hb (fun i v hv => ?_) (its.size - 0) 0 _ (by omega) (Nat.zero_le _) ⟨⟨_, Heap.get?_push_size _ rfl, rfl, rfl⟩, (lst1.push _)⟩ ⟨0, Nat.le_refl 0, setR_new_at (Heap.get?_push_of_some _ hS)⟩ fun t c' hm hc' hS' => ?_
        · have hi' : i < ns.length := by rw [← sz]; exact (Array.getElem?_eq_some_iff.mp hv).1
          obtain ⟨t, e⟩ := PyProof.Rows.IntsAre.int_at hi i v (by rw [Array.getElem?_toList]; exact hv)
          refine ⟨ns[i], t, List.getElem?_eq_getElem hi', ?_⟩
          rw [e, List.getD_eq_getElem?_getD, List.getElem?_eq_getElem hi'] <;> rfl
        · obtain ⟨g, gn, dr, tk, os⟩ := t
          obtain rfl : gn = s.gens := hm.gens
          obtain rfl : dr = s.drawn := hm.drawn
          obtain rfl : os = s.os := hm.os
          show wpAny _ _ _ _ _ _
          refine wpAny_pure (show wpAny _ _ (ret Value.none) _ _ _ from wpAny_pure ⟨rfl, g, tk, c', rfl, hS', by omega, fun b o e => ?_⟩)
          have b0 : b < s.heap.objs.size := Heap.lt_size e
          refine hm.heap b o ?_ (Heap.get?_push_of_some _ (Heap.get?_push_of_some _ e))
          simp only [List.mem_cons, List.not_mem_nil, or_false, not_or]
          exact ⟨Nat.ne_of_lt b0, by rw [big]; exact Nat.ne_of_lt (Nat.lt_succ_of_lt b0)⟩
      · cases r with
        | error e => exact hr
        | ok fl =>
          cases fl with
          | ret r =>
            obtain ⟨rfl, g, tk, c', rfl, hz⟩ := hr
            repeat (any_goals (first | assumption | wp_step))
            exact h _ _ _ hz
          | _ => exact hr.elim
    | _ => exact hr.elim
end
/-- set(xs) of a list of ints, as a rule -/
def rSetL1 (K : PySem.W.Frag) (w : World) : List V → Hp → VK → Prop := fun xs H Q => ∃ (l : Addr) (ns : List Int), xs = [.ref l] ∧ SqL K H l (ns.map V.int) ∧ ns.length < 64 ∧ ∀ p c, H p = none → c ≤ ns.length → Q (.ref p) (upd H p (SetO w p (fun j => decide (j ∈ ns)) c))
theorem cr_setL1 {X : Cx} (hc : X.calm = true) : CallR X (.type "set") (rSetL1 X.K X.w) := by
  intro pins s σ H xs us Q I r h
  obtain ⟨l, ns, rfl, hl, hn, q⟩ := h
  rw [Vals.ref1 r]
  obtain ⟨its, rv, pl, hz⟩ := I.list hl
  refine set_of_list ns (I.ok.hd hc) pl.isList (by simpa using rv.ints) (by unfold scanBound; omega) fun g tk c z => ?_
  obtain ⟨R, hcl, k⟩ := z
  exact ⟨.ref s.heap.objs.size, upd H s.heap.objs.size (SetO X.w s.heap.objs.size (fun j => decide (j ∈ ns)) c), I.laid (t' := tk) k (Nat.le_refl _) (setO_new R), rfl, q _ c (I.hok.fresh (Nat.le_refl _)) hcl⟩
/-! the numbers of a list, each once, ascending -/
def insU (i : Int) : List Int → List Int
  | [] => [i]
  | j :: r => if i < j then i :: j :: r else if i = j then j :: r else j :: insU i r
def sortU (ns : List Int) : List Int := ns.foldr insU []
theorem insU_mem (i : Int) : ∀ (l : List Int) (k : Int), k ∈ insU i l ↔ k = i ∨ k ∈ l
  | [], k => by simp [insU]
  | j :: r, k => by
    unfold insU
    split
    · simp
    · split
      · rename_i e
        subst e
        simp
      · rw [List.mem_cons, insU_mem i r k, List.mem_cons]
        constructor
        · rintro (h | h | h) <;> simp [h]
        · rintro (h | h | h) <;> simp [h]
theorem insU_asc (i : Int) : ∀ (l : List Int), l.Pairwise (· < ·) → (insU i l).Pairwise (· < ·)
  | [], _ => by simp [insU]
  | j :: r, h => by
    obtain ⟨h1, h2⟩ := List.pairwise_cons.mp h
    unfold insU
    split
    · rename_i hij
      refine List.pairwise_cons.mpr ⟨fun k hk => ?_, h⟩
      rcases List.mem_cons.mp hk with rfl | hk
      · exact hij
      · have := h1 k hk; omega
    · split
      · exact h
      · refine List.pairwise_cons.mpr ⟨fun k hk => ?_, insU_asc i r h2⟩
        rcases (insU_mem i r k).mp hk with rfl | hk
        · omega
        · exact h1 k hk
theorem sortU_mem : ∀ (ns : List Int) (k : Int), k ∈ sortU ns ↔ k ∈ ns
  | [], k => by simp [sortU]
  | n :: ns, k => by
    show k ∈ insU n (sortU ns) ↔ _
    rw [insU_mem, sortU_mem ns k, List.mem_cons]
theorem sortU_asc : ∀ ns : List Int, (sortU ns).Pairwise (· < ·)
  | [] => .nil
  | n :: ns => insU_asc n _ (sortU_asc ns)
theorem asc_one : ∀ {xs ys : List Int}, xs.Pairwise (· < ·) → ys.Pairwise (· < ·) → (∀ k, k ∈ xs ↔ k ∈ ys) → xs = ys
  | [], [], _, _, _ => rfl
  | [], y :: ys, _, _, h => by have := (h y).mpr (by simp); simp at this
  | x :: xs, [], _, _, h => by have := (h x).mp (by simp); simp at this
  | x :: xs, y :: ys, h1, h2, h => by
    obtain ⟨a1, a2⟩ := List.pairwise_cons.mp h1
    obtain ⟨b1, b2⟩ := List.pairwise_cons.mp h2
    have e : x = y := by
      rcases List.mem_cons.mp ((h x).mp (by simp)) with e | e
      · exact e
      · rcases List.mem_cons.mp ((h y).mpr (by simp)) with q | q
        · exact q.symm
        · have := a1 y q; have := b1 x e; omega
    subst e
    rw [asc_one a2 b2 fun k => ?_]
    have hk := h k
    rw [List.mem_cons, List.mem_cons] at hk
    constructor
    · intro z
      rcases hk.mp (.inr z) with e | e
      · have := a1 k z; omega
      · exact e
    · intro z
      rcases hk.mpr (.inr z) with e | e
      · have := b1 k z; omega
      · exact e
/-- the two together -/
def rSS (K : PySem.W.Frag) (w : World) : List V → Hp → VK → Prop := fun us H Q => rSetL1 K w us H fun v H1 => rSortedSet w [v] H1 Q
def intsD : List Dv → Option (List Int)
  | [] => some []
  | .int i :: r => (intsD r).map (i :: ·)
  | _ :: _ => none
def fSS : List Dv → Option Dv
  | [.lst ds] => match intsD ds with
    | some ns => if ns.length < 64 then some (.lst ((sortU ns).map .int)) else none
    | none => none
  | _ => none
section
variable {K : PySem.W.Frag} {ct : Ct} {M : Ads} {H : Hp}
theorem intsD_reps : ∀ {ds : List Dv} {ns : List Int} {xs : List V}, intsD ds = some ns → reps K ct M H ds xs → xs = ns.map V.int
  | [], ns, xs, h, r => by
    cases h
    rw [reps_inv0 r]
    rfl
  | d :: ds, ns, xs, h, r => by
    cases d with
    | int i =>
      have h' : (intsD ds).map (i :: ·) = some ns := h
      cases e : intsD ds with
      | none => rw [e] at h'; cases h'
      | some ms =>
        rw [e] at h'
        cases h'
        obtain ⟨x, ys, rfl, r1, r2⟩ := reps_inv r
        rw [rep_int.mp r1, intsD_reps e r2]
        rfl
    | non => cases h
    | bl _ => cases h
    | str _ => cases h
    | tup _ => cases h
    | lst _ => cases h
    | obj _ _ _ => cases h
theorem ints_reps : ∀ ns : List Int, reps K ct M H (ns.map Dv.int) (ns.map V.int)
  | [] => reps_nil
  | n :: ns => reps_cons (rep_int.mpr rfl) (ints_reps ns)
theorem cald_SS {w : World} : CalD K ct .f (rSS K w) fSS := fun M H xs us d mt hr h Q q => by
  unfold fSS at h
  split at h
  · rename_i ds
    split at h
    · rename_i ns e
      split at h
      · rename_i h64
        cases h
        obtain ⟨u, rfl, h1⟩ := repbs1 hr
        obtain ⟨a, ys, rfl, sq, rr⟩ := repb_SqL h1
        rw [intsD_reps e rr] at sq
        refine ⟨a, ns, rfl, sq, h64, fun p c hp hc => ⟨p, _, c, rfl, upd_same, by omega, fun ms p2 ha hm hl hp2 => ?_⟩⟩
        have em : ms = sortU ns := asc_one ha (sortU_asc ns) fun k => by rw [hm k, sortU_mem, decide_eq_true_iff]
        subst em
        have np : p2 ≠ p := fun z => by rw [z, upd_same] at hp2; cases hp2
        have hp3 : H p2 = none := by rw [upd_ne np] at hp2; exact hp2
        exact q _ _ ((Same.new hp).trans (Same.new hp2)) ⟨_, p2, _, rfl, rfl, hp3, upd_same, ints_reps _⟩
      · cases h
    · cases h
  · cases h
end
section
variable {X : Cx} {K : PySem.W.Frag} {ct : Ct} {ks : Ky} {E : EX} {q : Bool} {e : Expr} {tl : TA} {dl : Dl → Rs (List Dv)} {pos pos2 p p2 : Pos}
theorem dx_SS {bb : Bool} (hK : X.K = K) (hc : X.calm = true) (hg : Gl X "sorted") (hm : X.mg "sorted" = none) (hg2 : Gl X "set") (hm2 : X.mg "set" = none) (h : DA K ct ks E q bb X [e] tl dl)
    (he : starEach [e] X.env = (false, eval e X.env) :: starEach [] X.env := by rfl) :
    DX K ct ks E q .f X (.Call (.Name "sorted" p) [.Call (.Name "set" p2) [e] [] pos2] [] pos) (tCB (rSortedSet X.w) (tCons (tCB (rSetL1 X.K X.w) tl) tNil)) (cCall fSS dl) := by
  subst hK
  exact ⟨pe_callB (cr_sortedSet hc) hg hm rfl (pa_cons (pe_callTy (cr_setL1 hc) hg2 hm2 rfl h.pe (by decide) (by decide) he (by rfl)) pa_nil (by rfl)), ev_call (r := rSS X.K X.w) cald_SS h⟩
end
end Dn

/-! x in a list whose items' == may run code; None == x. -/
namespace GB
open PySem PySem.SeqAt
open AutoSeq1 (wpAny_loadPart')
open MeetsSeq MeetsSeq2 MeetsSeq3 SeqRoads2 GQ
/-- from place i on, k places left: one of them -/
def orAt (bs : Nat → Bool) : Nat → Nat → Bool
  | _, 0 => false
  | i, k + 1 => if bs i = true then true else orAt bs (i + 1) k
section
variable {prog : Program} {w : World} {A : Around} {R : Result → Shared → Prop}
/-- the list at l of N items, and how each answers as long as only true ends it -/
def InB (prog : Program) (w : World) (A : Around) (E : Value → Shared → Prop) (l : Addr) (x : Value) (N : Nat) (bs : Nat → Bool) (ok : Nat → Prop) (I : Shared → Prop) : Prop :=
  ∀ s, I s → ∃ (items : Array Value) (n : Nat) (dd : Option Addr) (sl : Array (Option Value)), s.heap.get? l = some { cls := .type "list", dict := dd, data := .seq items n, slots := sl } ∧ items.size = N ∧
    ∀ i (h1 : i < items.size), ok i → wpAny (model prog w) A.in1 (eqBool items[i] x) (fun r s' => r = bs i ∧ I s') E s
theorem in_loopB (l : Addr) (x : Value) (N : Nat) (bs : Nat → Bool) (ok : Nat → Prop) (I : Shared → Prop) (hl : InB prog w A (fun e s' => R (.error e) s') l x N bs ok I) (k : Nat) :
    ∀ i : Nat, N - i = k → i ≤ N → ok i → (∀ j, ok j → bs j = false → ok (j + 1)) → ∀ s, I s → (∀ s', I s' → R (.ok (.ret (.bool (orAt bs i k)))) s') →
      wpAny (model prog w) A.in1 (Builtin.«list.__contains__.loop» ⟨[.ref l, x, rawInt i], []⟩) (FinOf prog w A R) (fun e s' => R (.error e) s') s := by
  induction k with
  | zero =>
    intro i hk hi _ _ s h fin
    obtain ⟨items, n, dd, sl, hl1, hs1, _⟩ := hl _ h
    have hR : R (.ok (.ret (.bool false))) s := fin s h
    obtain ⟨hp, g, d, tk, os⟩ := s
    wp_walk using wpAny_loadPart' hl1
    have hi1 : items[((i : Nat) : Int).toNat]? = none := by simp; omega
    rw [hi1]
    wp_walk
    exact hR
  | succ k ih =>
    intro i hk hi oi st s h fin
    obtain ⟨items, n, dd, sl, hl1, hs1, turn⟩ := hl _ h
    have hlt : i < items.size := by omega
    have ht := turn i hlt oi
    obtain ⟨hp, g, d, tk, os⟩ := s
    wp_walk using wpAny_loadPart' hl1
    have hi1 : items[((i : Nat) : Int).toNat]? = some items[i] := by simp [hlt]
    have hc : ((i : Int) + 1) = ((i + 1 : Nat) : Int) := by omega
    rw [hi1]
    refine wpAny_bind (wpAny_mono ht (fun r s2 h2 => ?_) fun _ _ x => x)
    obtain ⟨hr, h2⟩ := h2
    have hf := fin s2 h2
    unfold orAt at hf
    cases hbi : bs i with
    | true =>
      rw [hbi] at hr
      subst hr
      rw [if_pos hbi] at hf
      obtain ⟨hp2, g2, d2, tk2, os2⟩ := s2
      wp_walk
      exact hf
    | false =>
      rw [hbi] at hr
      subst hr
      have hrec := ih (i + 1) (by omega) (by omega) (st i oi hbi) st s2 h2 (fun s' hs' => by
        have := fin s' hs'
        unfold orAt at this
        rwa [if_neg (by rw [hbi]; exact Bool.false_ne_true)] at this)
      obtain ⟨hp2, g2, d2, tk2, os2⟩ := s2
      wp_walk
      rw [hc]
      exact ⟨plainId_quiet plain_contains_loop _, codeAny_builtin entry_contains_loop (by
        rw [Around.under_plainId plain_contains_loop _]
        exact hrec)⟩
theorem list_inB (l : Addr) (x : Value) (N : Nat) (bs : Nat → Bool) (ok : Nat → Prop) (I : Shared → Prop) (hl : InB prog w A (fun e s' => R (.error e) s') l x N bs ok I) (o0 : ok 0) (st : ∀ j, ok j → bs j = false → ok (j + 1))
    (fin : ∀ s, I s → R (.ok (.ret (.bool (orAt bs 0 N)))) s) {s : Shared} (h : I s) :
    wpAny (model prog w) A.in1 (Builtin.«list.__contains__» ⟨[.ref l, x], []⟩) (FinOf prog w A R) (fun e s' => R (.error e) s') s := by
  obtain ⟨items, n, dd, sl, hl1, hs1, _⟩ := hl _ h
  have hrec := in_loopB (A := A) (R := R) l x N bs ok I hl N 0 rfl (Nat.zero_le _) o0 st s h fin
  obtain ⟨hp, g, d, tk, os⟩ := s
  wp_walk using wpAny_loadPart' hl1
  exact ⟨plainId_quiet plain_contains_loop _, codeAny_builtin entry_contains_loop (by
    rw [Around.under_plainId plain_contains_loop _]
    exact hrec)⟩
end
section
variable {prog : Program} {w : World} {A : Around} {E : Value → Shared → Prop} {s : Shared}
theorem in_listB {l : Addr} {x : Value} {N : Nat} {Q : Value → Shared → Prop} (bs : Nat → Bool) (ok : Nat → Prop) (I : Shared → Prop) (hl : InB prog w A E l x N bs ok I) (o0 : ok 0) (st : ∀ j, ok j → bs j = false → ok (j + 1))
    (fin : ∀ s, I s → Q (.bool (orAt bs 0 N)) s) (h : I s) : wpAny (model prog w) A (compareOp .In x (.ref l)) Q E s := by
  obtain ⟨items, n, dd, sl, hl1, _⟩ := hl _ h
  show wpAny _ A (do return .bool (← contains (.ref l) x)) Q E s
  refine wpAny_bind (wpAny_contains_slot ⟨_, hl1, rfl⟩ F.slot_list_contains (wpAny_mono (Q := fun v s' => ∃ b, v = .bool b ∧ Q (.bool b) s') (call_here F.slot_list_contains ⟨_, hl1, rfl⟩ F.entry_list_contains (F.args_list_contains_2 _ _) ?_) (fun v s' hv => ?_) fun _ _ e => e))
  · exact list_inB (R := wants (fun v s' => ∃ b, v = .bool b ∧ Q (.bool b) s') E) l x N bs ok I hl o0 st (fun s' q => ⟨_, rfl, fin s' q⟩) h
  · obtain ⟨b, rfl, hq⟩ := hv
    exact wpAny_truthy_bool (wpAny_pure hq)
end
end GB
namespace Dn
open PySem PySem.Spec PyProof.Rows L2 LamX Q
/-- None == an instance: the instance is asked -/
theorem non_eq {prog : Program} {w : World} {A : Around} {E : Value → Shared → Prop} {s : Shared} {K : PySem.W.Frag} {x C f : Addr} {ox : Obj} {od : Option Obj} {Q : Value → Shared → Prop} (hu : A.units + 1 < cLine) (X : K.In s.heap) (I : PySem.W.InstAt s.heap x ox C od)
    (hsb : PySem.W.subIn K (.ref C) (.type "NoneType") = some false) (hs : PySem.W.findIn K (.ref C) "__eq__" = some (some (.ref f))) (hf : PySem.W.isFn K (.ref f) = true)
    (h : wpAny (model prog w) A (call (.ref f) [.ref x, .none]) (fun v s' => ∃ r, v = .bool r ∧ Q (.bool r) s') E s) : wpAny (model prog w) A (richCompare .Eq .none (.ref x)) Q E s := by
  have tN : s.TypeIs .none "NoneType" := rfl
  have two : wpAny (model prog w) A (tryCompare (.ref x) "__eq__" .none) (fun r s' => ∃ v, r = some v ∧ Q v s') E s := by
    unfold tryCompare
    refine wpAny_bind (PySem.W.ifBound_K X I hs hf (wpAny_mono h (fun v s' hv => ?_) fun _ _ e => e))
    obtain ⟨r, rfl, hq⟩ := hv
    exact wpAny_pure ⟨_, rfl, hq⟩
  unfold richCompare
  rw [show oneThing? .Eq .none (.ref x) = none from rfl]
  refine wpAny_holding (wpAny_bind (wpAny_cRoomFor (Nat.lt_of_succ_lt hu) ?_))
  refine wpAny_bind (wpAny_typeOf tN (wpAny_bind (I.type.here ?_)))
  rw [show (Value.type "NoneType" != Value.ref C) = true from rfl]
  simp only [if_true]
  refine wpAny_bind ((PySem.W.looks_subIn X hsb).here ?_)
  simp only [Bool.false_eq_true, if_false]
  refine wpAny_bind (wpAny_tryCompare_declines tN F.slot_NoneType_eq (GQ.call_here F.slot_NoneType_eq tN F.entry_NoneType_eq (F.args_NoneType_eq_2 _ _) ?_))
  unfold Builtin.«NoneType.__eq__»
  obtain ⟨hp, g, d, tk, os⟩ := s
  wp_walk
  refine ⟨by rfl, ?_⟩
  simp only [Bool.not_false, if_true]
  refine wpAny_bind (wpAny_mono two (fun r s' z => ?_) fun _ _ e => e)
  obtain ⟨v, rfl, hq⟩ := z
  exact wpAny_pure hq
/-- the classes that None is none of, for None == x -/
def NonT (K : PySem.W.Frag) (ct : Ct) (oc : OcT) : Prop := ∀ c df, oc c = some df → PySem.W.subIn K (.ref (ct c)) (.type "NoneType") = some false
def nonN (oc : OcT) (x y : Dv) : Option Bool := match x, y with
  | .non, .obj c ks ds => match oc c with
    | some df => ownR df (.obj c ks ds) .non
    | none => none
  | _, _ => none
section
variable {X : Cx} {ct : Ct} {E : XK} {k : Nat} {oc : OcT} {okI : Str → Str → Option Bool} {L : List Str}
theorem nonN_eq (D : EqTabP X.prog X.w X.K X.mg X.base ct k oc) (N : NonT X.K ct oc) (hx : Passes (L2.CX X.prog X.w) X E) : EqB X ct (k + 1) (nonN oc) := by
  intro x y b A pins s σ H M u v u' v' e sb I t mt r1 r2 ru rv
  unfold nonN at e
  split at e
  · rename_i c ks ds
    cases ho : oc c with
    | none => rw [ho] at e; cases e
    | some df =>
      rw [ho] at e
      obtain ⟨δ, ed⟩ := ownR_some e
      obtain ⟨k', ps, hk, DD⟩ := D c df ho
      obtain ⟨f, fd, F, hs, hf, hb⟩ := DD.ex
      obtain ⟨a, dx, xs, rfl, _, ha, q1⟩ := id (rep_obj.mp r2)
      rw [rep_non.mp r1] at ru
      obtain rfl : u' = Value.none := ru
      cases rv
      obtain ⟨mA, J, _⟩ := ins_get I.hok ha
      obtain ⟨od, J, _⟩ := J.look
      unfold eqBool
      refine wpAny_holding ?_
      refine wpAny_ite_split (fun hab => by cases eq_of_beq hab) (fun _ => ?_)
      refine wpAny_bind (wpAny_mono (non_eq (Q := fun v s' => ∃ r, v = .bool r ∧ (r = b ∧ Aft X ct pins σ H s')) (by have := sb.room.un; omega) I.kIn J (N c df ho) hs hf (wpAny_mono (run_at sb.fr F (sb.room.mono (by omega)) hb hx I (show Vals [V.ref a, V.non] [Value.ref a, Value.none] from .cons rfl (.cons rfl .nil)) (ask_sp ed t mt r2 (rep_non.mpr rfl))) (fun w sx hq => ?_) fun _ _ e => e)) (fun v s' hv => ?_) fun _ _ x => x)
      · obtain ⟨z, H', I', rz, ez, k1⟩ := hq
        subst ez
        obtain rfl : w = Value.bool b := rz
        exact ⟨b, rfl, b, rfl, rfl, H', I', k1⟩
      · obtain ⟨r, rfl, hq⟩ := hv
        exact wpAny_truthy_bool hq
  · cases e
/-- x in a list -/
def inX (f : Dv → Dv → Option Bool) (x : Dv) : List Dv → Option Bool
  | [] => some false
  | y :: ys => match f y x with
    | some true => some true
    | some false => inX f x ys
    | none => none
def inL (f : Dv → Dv → Option Bool) (x l : Dv) : Option Bool := match l with
  | .lst ys => inX f x ys
  | _ => none
theorem inX_or {f : Dv → Dv → Option Bool} {x : Dv} : ∀ {ys : List Dv} {b : Bool} {pre : List Dv}, inX f x ys = some b → (∀ y ∈ pre, f y x = some false) → b = GB.orAt (fun i => (f ((pre ++ ys).getD i .non) x).getD false) pre.length ys.length
  | [], b, pre, h, _ => by cases h; rfl
  | y :: ys, b, pre, h, hp => by
    have e : (pre ++ y :: ys).getD pre.length .non = y := by rw [List.getD_eq_getElem?_getD, List.getElem?_append_right (Nat.le_refl _), Nat.sub_self]; rfl
    rw [List.length_cons]
    unfold GB.orAt
    unfold inX at h
    cases hf : f y x with
    | none => rw [hf] at h; cases h
    | some r =>
      rw [hf] at h
      have e2 : (f ((pre ++ y :: ys).getD pre.length .non) x).getD false = r := by rw [e, hf]; rfl
      cases r with
      | true =>
        cases h
        rw [if_pos e2]
      | false =>
        rw [if_neg (by rw [e2]; exact Bool.false_ne_true)]
        have := inX_or (pre := pre ++ [y]) h fun z hz => (List.mem_append.mp hz).elim (hp z) fun hz => by rw [List.mem_singleton.mp hz]; exact hf
        rw [List.append_assoc, List.length_append] at this
        exact this
theorem inX_known {f : Dv → Dv → Option Bool} {x : Dv} : ∀ {ys : List Dv} {b : Bool}, inX f x ys = some b → ∀ i (hi : i < ys.length), (∀ j, j < i → f (ys.getD j .non) x = some false) → ∃ r, f ys[i] x = some r
  | y :: ys, b, h, 0, hi, _ => by
    unfold inX at h
    cases hf : f y x with
    | none => rw [hf] at h; cases h
    | some r => exact ⟨r, hf⟩
  | y :: ys, b, h, i + 1, hi, hj => by
    have h0 : f y x = some false := hj 0 (Nat.succ_pos _)
    unfold inX at h
    rw [h0] at h
    exact inX_known (b := b) h i (Nat.lt_of_succ_lt_succ hi) fun j hl => hj (j + 1) (Nat.succ_lt_succ hl)
theorem op_inL {m : Nat} {f : Dv → Dv → Option Bool} (h : EqB X ct m f) (hr : Room (m + 1) X.A) : OpR X (compareOp .In) (rEqY X.K ct (inL f) id) := by
  intro pins s σ H u v u' v' Q I ru rv h'
  obtain ⟨M, x, y, b, e, t, mt, r1, r2, q⟩ := h'
  cases y with
  | lst ys =>
    have e : inX f x ys = some b := e
    obtain ⟨a1, us, rfl, s1, q1⟩ := rep_SqL r2
    cases rv
    have hb := inX_or (pre := []) e fun _ hz => by cases hz
    rw [List.nil_append, List.length_nil] at hb
    refine GB.in_listB (N := ys.length) (fun i => (f (ys.getD i .non) x).getD false) (fun i => ∀ j, j < i → j < ys.length → f (ys.getD j .non) x = some false) (fun s' => Aft X ct pins σ H s') (fun s' hq => ?_) (fun j hj => absurd hj (Nat.not_lt_zero j)) (fun j oj hbj i hi li => ?_) (fun s' hq => ?_) ⟨H, I, Kp3.refl _ _⟩
    · obtain ⟨H1, I1, k1⟩ := id hq
      obtain ⟨its, n, dd, sl, w1, ho⟩ := list_at I1 (sqL_kp s1 k1)
      refine ⟨_, _, _, _, ho, by rw [List.size_toArray, ← w1.length, reps_len q1], fun i h1 oi => ?_⟩
      have li : i < ys.length := by rw [← reps_len q1, w1.length]; simpa using h1
      obtain ⟨r, hf⟩ := inX_known e i li fun j hj => oi j hj (Nat.lt_trans hj li)
      have g1 : its[i]? = some its.toArray[i] := by
        have h1' : i < its.length := by simpa using h1
        rw [List.getElem?_eq_getElem h1'] <;> simp
      obtain ⟨z, hz, rz⟩ := reps_get q1 (List.getElem?_eq_getElem li)
      obtain ⟨z', hz', rz'⟩ := w1.get hz
      rw [g1] at hz'
      rw [Option.some.inj hz']
      have eg : (f (ys.getD i .non) x).getD false = r := by rw [List.getD_eq_getElem?_getD, List.getElem?_eq_getElem li]; show (f ys[i] x).getD false = r; rw [hf]; rfl
      show wpAny _ _ _ (fun r' s2 => r' = (f (ys.getD i .non) x).getD false ∧ Aft X ct pins σ H s2) _ _
      rw [eg]
      refine wpAny_mono (h _ _ r X.A.in1 pins s' σ H1 M z u z' u' hf (Sub.in1 ⟨hr, rfl⟩) I1 (k1.tabs t) (fun a z => k1.live a (mt a z)) (rep_kp k1 (fun _ z => z.elim) rz) (rep_kp k1 (fun _ z => z.elim) r1) rz' ru) (fun r' s2 q2 => ?_) fun _ _ x => x
      obtain ⟨hr', H2, I2, k2⟩ := q2
      exact ⟨hr', H2, I2, k1.trans k2⟩
    · rcases Nat.lt_or_ge i j with hl | hl
      · exact oj i hl li
      · have : i = j := by omega
        subst this
        obtain ⟨r, hf⟩ := inX_known e i li fun j hj => oj j hj (Nat.lt_trans hj li)
        have eg : ys.getD i .non = ys[i] := by rw [List.getD_eq_getElem?_getD, List.getElem?_eq_getElem li]; rfl
        rw [eg, hf] at hbj ⊢
        have : r = false := hbj
        rw [this]
    · rw [← hb]
      obtain ⟨H1, I1, k1⟩ := hq
      exact ⟨.bl b, H1, I1, rfl, q H1 k1⟩
  | non => cases e
  | bl _ => cases e
  | int _ => cases e
  | str _ => cases e
  | tup _ => cases e
  | obj _ _ _ => cases e
end
end Dn

/-! xs.extend(a new list) -/
namespace Dn
open PySem PySem.Spec PyProof.Rows L2 LamX Q
def extK (δ1 : Dl) (s : Nat) (ds : List Dv) : Dv → Rs Dv
  | .lst ys => if ds.length + ys.length ≤ sizeLine then .ok .non (δ1.set s (some (.lst (ds ++ ys)))) else .stuck
  | _ => .stuck
def cExt (s : Nat) (a : Dl → Rs Dv) : Dl → Rs Dv := fun δ => match asL δ[s]? with
  | none => .stuck
  | some _ => bnd (a δ) fun x δ1 => match asL δ1[s]? with
    | none => .stuck
    | some ds => extK δ1 s ds x
section
variable {X : Cx} {K : PySem.W.Frag} {ct : Ct} {ks : Ky} {E : EX} {q : Bool} {e o : Expr} {t : TE} {d : Dl → Rs Dv} {pos : Pos}
theorem dx_ext {c : Expr} (s : Nat) (hk : (ks s).own = true) (he : DX K ct ks E q .f X e t d) (hP : PE X c (tBM K "list" rExtend (tVar s) (tCons t tNil))) : DX K ct ks E false .v X c (tBM K "list" rExtend (tVar s) (tCons t tNil)) (cExt s d) := ⟨hP, fun M W H δ σ er => by
  intro Q p
  have p' : Pst K ct ks E (rmE K ct .v) (Wq false W) M W H σ Q (cExt s d δ) := p
  unfold cExt at p'
  cases h0 : asL δ[s]? with
  | none => rw [h0] at p'; exact p'.elim
  | some ds0 =>
    rw [h0] at p'
    obtain ⟨a, xs0, s1, _, ha0, _⟩ := own_at er hk h0
    refine ⟨.ref a, s1, .inl ⟨rfl, xs0, SqL.of ha0⟩, ?_⟩
    refine (he.ev M W H δ σ er) _ ?_
    cases hd : d δ with
    | stuck => rw [hd] at p'; exact p'.elim
    | exc c ns ds δ1 =>
      rw [hd] at p'
      exact fun xd H1 k1 e1 r1 => p' xd H1 (k1.mono fun b z => ⟨rfl, z.2⟩) e1 r1
    | ok x δ1 =>
      rw [hd] at p'
      intro y H1 k1 e1 r1
      have p2 : Pst K ct ks E (rmE K ct .v) (Wq false W) M W H σ Q (match asL δ1[s]? with
        | none => .stuck
        | some ds => extK δ1 s ds x) := p'
      cases h1 : asL δ1[s]? with
      | none => rw [h1] at p2; exact p2.elim
      | some ds =>
        rw [h1] at p2
        obtain ⟨ys, l, zs, rfl, rfl, _, hl, hz⟩ := id r1.1
        have p3 : Pst K ct ks E (rmE K ct .v) (Wq false W) M W H σ Q (if ds.length + ys.length ≤ sizeLine then .ok .non (δ1.set s (some (.lst (ds ++ ys)))) else .stuck) := p2
        by_cases hn : ds.length + ys.length ≤ sizeLine
        · rw [if_pos hn] at p3
          obtain ⟨b, xs, s2, hw, hb, hr⟩ := own_at e1 hk h1
          rw [s1] at s2
          cases s2
          have hz' : reps K ct M H1 ys zs := reps_less hz
          obtain ⟨e3, k3⟩ := e1.writeL hk (asL_some h1) s1 (reps_app hr hz')
          exact ⟨a, l, xs, zs, rfl, rfl, hb, hl, by rw [reps_len hr, reps_len hz]; exact hn, p3 .non _ ((k1.mono fun b z => (⟨rfl, z.2⟩ : Wq false W b)).trans (k3.mono fun b z => Wq.f z)) e3 re_non⟩
        · rw [if_neg hn] at p3
          exact p3.elim⟩
theorem dx_extF {p1 : Pos} (s : Nat) (hk : (ks s).own = true) (he : DX K ct ks E q .f X e t d) (hP : PE X e t → PE X (.Call (.Attribute o "extend" p1) [e] [] pos) (tBM K "list" rExtend (tVar s) (tCons t tNil))) :
    DX K ct ks E false .v X (.Call (.Attribute o "extend" p1) [e] [] pos) (tBM K "list" rExtend (tVar s) (tCons t tNil)) (cExt s d) := dx_ext s hk he (hP he.pe)
end
end Dn

/-! C(k = v, ..), no argument by place; tables of facts for == of all kinds. -/
namespace Dn
open PySem PySem.Spec PyProof.Rows L2 LamX Q
/-- the values by places of keywords -/
def pick {α : Type} (π : List Nat) (ws : List α) : List α := π.filterMap fun i => ws[i]?
theorem vals_pick {zs : List V} {ws : List Value} (h : Vals zs ws) : ∀ π : List Nat, Vals (pick π zs) (pick π ws)
  | [] => .nil
  | i :: π => by
    have ih := vals_pick h π
    unfold pick at ih ⊢
    cases e : zs[i]? with
    | none =>
      have e2 : ws[i]? = none := by
        rw [List.getElem?_eq_none_iff] at e ⊢
        rw [← h.length]
        exact e
      rw [List.filterMap_cons_none e, List.filterMap_cons_none e2]
      exact ih
    | some v =>
      obtain ⟨u, e2, r⟩ := h.get e
      rw [List.filterMap_cons_some e, List.filterMap_cons_some e2]
      exact .cons r ih
/-- a class with its __init__, asked by keywords alone -/
structure Nak (P : Program) (w : World) (K : PySem.W.Frag) (mg : Str → Option Value) (base : Heap) (CX : CXT) (x : Str) (C : Addr) (k : Nat) (ps : List Str) (sp : Sp) (ks : List Str) (π : List Nat) : Prop where
  ex : ∃ (f : Addr) (fd : FuncData), Mk K C f ∧ FnOk P w K mg base CX k f fd ps sp ∧ mg x = some (.ref C) ∧ KBn K fd ps 1 ks (fun us ws => us ++ pick π ws) (fun vs zs => vs ++ pick π zs)
theorem nbinds {K : PySem.W.Frag} {x qual : Str} {st : Stmt} {f : Addr} {fd : FuncData} {ps ks : List Str} {π : List Nat} (F : Fun K x qual st f fd)
    (h : ∀ (kV doc pm : Value) (an : Option Addr) (cdv ct : Value) (us ws : List Value), us.length = 1 → ws.length = ks.length → bindArgs (PySem.W.fnOf x qual (defArgs st) (defBody st) (defScope st) .none kV doc pm an cdv ct) ⟨us, ks.zip ws⟩ = pure (ps.zip (us ++ pick π ws))) :
    KBn K fd ps 1 ks (fun us ws => us ++ pick π ws) (fun vs zs => vs ++ pick π zs) := by
  obtain ⟨oc, od, kV, doc, pm, an, cdv, ct, osl, rfl, lk, hcd⟩ := F.ex
  exact ⟨fun s us ws _ l1 l2 => .of_eq (h kV doc pm an cdv ct us ws l1 l2), fun r1 r2 => r1.append (vals_pick r2 π)⟩
section
variable {X : Cx} {CX : CXT} {k : Nat} {C : Addr} {ps ks : List Str} {sp : Sp} {E : XK} {x : Str} {p pos : Pos} {kws : List Keyword} {tk : TA} {π : List Nat}
theorem pe_nak (F : Nak X.prog X.w X.K X.mg X.base CX x C k ps sp ks π) (hr : Room (k + 1) X.A) (hg : Gl X x) (hx : Passes CX X E) (hkw : PK X kws tk)
    (hall : (backToKw pos (keywordEach kws X.env)).all (·.1.isSome) = true := by rfl) (hks : (backToKw pos (keywordEach kws X.env)).filterMap (·.1) = ks := by rfl) (hdb : (x == ("__debug__" : Str)) = false := by decide)
    (hpl : ((backTo pos (starEach [] X.env)).any (·.1) || (backToKw pos (keywordEach kws X.env)).any (·.1.isNone)) = false := by rfl) :
    PE X (.Call (.Name x p) [] kws pos) (tMakeK C 0 ks.length sp (fun vs zs => vs ++ pick π zs) E tNil tk) := by
  obtain ⟨f, fd, M, G, hm, hb⟩ := F.ex
  exact pe_makeK0 M G hr hg hm hb hx hkw hall hks hdb hpl
/-- by another reading -/
theorem pe_by {e : Expr} {t t' : TE} (h : PE X e t) (i : ∀ σ H Q, t' σ H Q → t σ H Q) : PE X e t' := ⟨fun pins s σ H Q I q => h.run pins s σ H Q I (i σ H Q q)⟩
end
/-! tables -/
section
variable {K : PySem.W.Frag} {ct : Ct} {oc : OcT} {c : Str} {df : List Dv → Rs Dv}
theorem net_nil : NeT K ct ocN := fun c df h => by cases h
theorem net_cons (h1 : PySem.W.findIn K (.ref (ct c)) "__ne__" = some (some (.builtin "object.__ne__"))) (h2 : PySem.W.mroIn K (ct c) (.type "object") = some true) (r : NeT K ct oc) : NeT K ct (ocC c df oc) := fun d df' h' => by
  unfold ocC at h'
  by_cases hd : d = c
  · rw [hd]
    exact ⟨h1, h2⟩
  · rw [if_neg hd] at h'
    exact r d df' h'
theorem nont_nil : NonT K ct ocN := fun c df h => by cases h
theorem nont_cons (h1 : PySem.W.subIn K (.ref (ct c)) (.type "NoneType") = some false) (r : NonT K ct oc) : NonT K ct (ocC c df oc) := fun d df' h' => by
  unfold ocC at h'
  by_cases hd : d = c
  · rw [hd]
    exact h1
  · rw [if_neg hd] at h'
    exact r d df' h'
end
/-! isinstance of a built-in type that it has -/
def fIsT (T : String) (d : Dv) : Option Dv := if tyD d = some T then some (.bl true) else none
section
variable {X : Cx} {K : PySem.W.Frag} {ct : Ct} {ks : Ky} {E : EX} {q : Bool} {m : Md} {e : Expr} {t : TE} {d : Dl → Rs Dv} {pos : Pos}
theorem dx_isiT {x : Str} {T : String} {p p2 : Pos} (he : DX K ct ks E q m X e t d) (hm : X.mg "isinstance" = none) (hT : X.mg x = none) (hv : bootBuiltins x = some (.type T)) (hg : Gl X "isinstance" := by rfl) (hgx : Gl X x := by rfl) (hK : X.K = K := by rfl) (hn : x ≠ "__name__" := by decide) (hdb : (x == ("__debug__" : Str)) = false := by decide)
    (hs : starEach [e, .Name x p2] X.env = (false, eval e X.env) :: starEach [.Name x p2] X.env := by rfl) (hs2 : starEach [.Name x p2] X.env = (false, eval (.Name x p2) X.env) :: starEach [] X.env := by rfl) (hpl : (backTo pos (starEach [.Name x p2] X.env)).any (·.1) = false := by rfl) (nb : m ≠ .b := by decide) :
    DX K ct ks E q .v X (.Call (.Name "isinstance" p) [e, .Name x p2] [] pos) (tCB (rIsi K) (tCons t (tCons (tC (.ty T)) tNil))) (cUn (fIsT T) d) :=
  ⟨pe_callB (call_isiC hK) hg hm (by decide +kernel) (pa_cons he.pe (pa_cons (pe_bltn (v := .ty T) hgx hT hv rfl hn hdb) pa_nil hs2) hs) (by decide) (by decide) hs hpl, fun M W H δ σ er => by
  refine Ev2.bind (he.ev M W H δ σ er) (fun _ h => h) (fun _ _ _ _ _ k h => re_anti k h) fun x δ1 u H1 k1 e1 r1 => ?_
  refine ev_opt e1 fun dd hd Q p => ?_
  have rx : rep K ct M H1 x u := rm_v er.mt nb r1.1
  unfold fIsT at hd
  split at hd
  · rename_i hx
    cases hd
    exact ⟨u, .ty T, _, _, true, rfl, .ty T, tyx_b rx hx, by unfold PySem.W.kitOne; rw [if_pos (by simp)], p _ H1 (Same.refl _) rm_bl⟩
  · cases hd⟩
end
/-! slices, the whole of a tuple too -/
def slB : Dv → Option Int → Option Int → Option Dv
  | .lst ds, lo, hi => slL (.lst ds) lo hi
  | .tup ds, lo, hi => some (.tup (cutD ds lo hi))
  | _, _, _ => none
def rSlB (K : PySem.W.Frag) : V → Option Int → Option Int → Hp → VK → Prop := fun x lo hi H Q => rSlL K x lo hi H Q ∨ L2.rSlA K x lo hi H Q
theorem sl_B {X : Cx} {K : PySem.W.Frag} (hK : X.K = K) : SlR X (rSlB K) := by
  subst hK
  exact sl_list.or sl_tupA
theorem sld_B {K : PySem.W.Frag} {ct : Ct} {bb : Bool} : SlD K ct bb .v (rSlB K) slB := fun M H x u lo hi d mt h1 hf Q q => by
  unfold slB at hf
  split at hf
  · exact .inl (sld_L M H _ u lo hi d mt h1 hf Q fun z H' e r => q z H' e (rm_v mt (by decide) r))
  · rename_i ds
    cases hf
    have rt := repb_tup (ev_if h1)
    obtain ⟨a, xs, rfl, s1, r1⟩ := rep_SqT rt
    refine .inr ⟨a, xs, rfl, s1, fun z => ?_, fun z p hp => q _ _ (Same.new hp) (new_tup mt hp (reps_cut r1))⟩
    have e : cutD ds lo hi = ds := by
      unfold cutD
      rw [← reps_len r1, z.1, z.2, List.drop_zero, Nat.sub_zero, reps_len r1]
      exact List.take_length
    have q' : ∀ z H', Same H H' → rm K ct .v M H H' (.tup ds) z → Q z H' := fun z H' e1 r => q z H' e1 (by rw [e]; exact r)
    exact q' _ H (Same.refl _) rt
  · cases hf
/-! a, b, .. = a list -/
def gLst2 (n : Nat) (a : List Dv → Dl → Option Dl) : Dv → Dl → Option Dl := fun d δ => match d with
  | .lst ds => if ds.length = n then a ds δ else none
  | _ => none
theorem pg_lstK {X : Cx} {K : PySem.W.Frag} {pos : Pos} {es : List Expr} {k : Nat} {u : TGs} {n : Nat} (hK : X.K = K) (hc : X.calm = true) (h : PGs X es u)
    (hn : (assignEach es X.env).length = n := by rfl) (hst : (assignEach es X.env).findIdx? (·.1) = none := by rfl) : PG X (.Tuple es k pos) (gLst K n u) := by
  subst hK
  exact pg_lst hc h hn hst
theorem dg_lst {X : Cx} {K : PySem.W.Frag} {ct : Ct} {ks : Ky} {pos : Pos} {es : List Expr} {k : Nat} {u : TGs} {n : Nat} {vs : List Nat} {g2 : List Dv → Dl → Option Dl} (hc : X.calm = true) (h : DGL K ct ks X es u vs g2) (hK : X.K = K := by rfl) (hn : (assignEach es X.env).length = n := by rfl) (hst : (assignEach es X.env).findIdx? (·.1) = none := by rfl) :
    DG K ct ks X (.Tuple es k pos) (gLst K n u) vs (gLst2 n g2) := ⟨pg_lstK hK hc h.pg hn hst, h.vk, fun M W H δ σ x d δ' er hr hg Q q => by
    cases d with
    | lst ds =>
      have hg' : (if ds.length = n then g2 ds δ else none) = some δ' := hg
      by_cases hl : ds.length = n
      · rw [if_pos hl] at hg'
        obtain ⟨a, xs, rfl, s, r⟩ := rep_SqL hr
        exact ⟨a, xs, rfl, s, by rw [reps_len r, hl], h.ev M W H δ σ xs ds δ' er r hg' Q q⟩
      · rw [if_neg hl] at hg'
        cases hg'
    | non => cases hg
    | bl _ => cases hg
    | int _ => cases hg
    | str _ => cases hg
    | tup _ => cases hg
    | obj _ _ _ => cases hg⟩
end Dn

/-! Stores, lows and highs of programs; what parts two of them. -/
namespace Dn
open PySem L2 Q
def isSt : Cmd → Bool
  | .store _ _ _ => true
  | _ => false
def sts (cs : List Cmd) : List Cmd := cs.filter isSt
theorem sts_app (a b : List Cmd) : sts (a ++ b) = sts a ++ sts b := List.filter_append ..
def loAt (x : Pg) : Cmd → List (List Int × List Int)
  | .store l w m => [((pstep x (.store l w m)).s.set l.toNat ((pstep x (.store l w m)).d.getD l.toNat 0), (pstep x (.store l w m)).d)]
  | _ => []
/-- low and high of each store, from a state -/
def los (x : Pg) : List Cmd → List (List Int × List Int)
  | [] => []
  | c :: cs => loAt x c ++ los (pstep x c) cs
theorem los_app : ∀ (cs : List Cmd) (x : Pg) (es : List Cmd), los x (cs ++ es) = los x cs ++ los (cs.foldl pstep x) es
  | [], x, es => rfl
  | c :: cs, x, es => by
    show loAt x c ++ los (pstep x c) (cs ++ es) = _
    rw [los_app cs]
    show _ = loAt x c ++ los (pstep x c) cs ++ los (cs.foldl pstep (pstep x c)) es
    rw [List.append_assoc]
theorem los_snoc {cs : List Cmd} {x : Pg} {c : Cmd} : los x (cs ++ [c]) = los x cs ++ loAt (cs.foldl pstep x) c := by
  rw [los_app]
  show _ ++ (loAt _ c ++ []) = _
  rw [List.append_nil]
def lh (b : Bx) : List Int × List Int := (b.lo, b.hi)
theorem bx_los {n : Nat} {cs : List Cmd} : ∀ i, i ≤ cs.length → (bxTo n cs i).map lh = (List.replicate n 0, List.replicate n 0) :: los (pinit n) (cs.take i)
  | 0, _ => by
    rw [List.take_zero]
    rfl
  | i + 1, h => by
    have hc : cs[i]? = some cs[i] := List.getElem?_eq_getElem h
    have ih := bx_los (n := n) (cs := cs) i (by omega)
    rw [take_snoc hc, los_snoc, bxTo_succ]
    have e : (cs.take i).foldl pstep (pinit n) = pat n cs i := rfl
    rw [e]
    unfold bxAt
    rw [hc, pat_succ hc]
    cases hq : cs[i] with
    | store l w m =>
      show (bxTo n cs i ++ [_]).map lh = _
      rw [List.map_append, ih]
      rfl
    | flush l =>
      show (bxTo n cs i).map lh = _
      rw [ih]
      show _ = _ :: (los (pinit n) (cs.take i) ++ [])
      rw [List.append_nil]
    | fence =>
      show (bxTo n cs i).map lh = _
      rw [ih]
      show _ = _ :: (los (pinit n) (cs.take i) ++ [])
      rw [List.append_nil]
theorem bx_all {n : Nat} {cs : List Cmd} : (bxTo n cs cs.length).map lh = (List.replicate n 0, List.replicate n 0) :: los (pinit n) cs := by
  rw [bx_los cs.length (Nat.le_refl _), List.take_length]
structure LB (n : Nat) (p : List Int × List Int) : Prop where
  l : p.1.length = n
  h : p.2.length = n
  o : ∀ i, 0 ≤ p.1.getD i 0 ∧ p.1.getD i 0 ≤ p.2.getD i 0
theorem loAt_ok {n : Nat} {x : Pg} {c : Cmd} (h : PgOk n x) : ∀ p ∈ loAt x c, LB n p := by
  intro p hp
  cases c with
  | store l w m =>
    have e := List.mem_singleton.mp hp
    have k := (pstep_ok (.store l w m) h).1
    subst e
    refine ⟨by rw [List.length_set]; exact k.s, k.d, fun i => ?_⟩
    show 0 ≤ ((pstep x (.store l w m)).s.set l.toNat _).getD i 0 ∧ ((pstep x (.store l w m)).s.set l.toNat _).getD i 0 ≤ (pstep x (.store l w m)).d.getD i 0
    rw [set_getD]
    have o := k.ord
    by_cases z : l.toNat = i ∧ i < (pstep x (.store l w m)).s.length
    · rw [if_pos z, z.1]
      have := o i
      omega
    · rw [if_neg z]
      have := o i
      omega
  | flush l => cases hp
  | fence => cases hp
theorem los_ok {n : Nat} : ∀ {cs : List Cmd} {x : Pg}, PgOk n x → ∀ p ∈ los x cs, LB n p
  | [], _, _, p, hp => by cases hp
  | c :: cs, x, h, p, hp => by
    rcases List.mem_append.mp hp with hp | hp
    · exact loAt_ok h p hp
    · exact los_ok (pstep_ok c h).1 p hp
def dstep (d : List Int) : Cmd → List Int
  | .store l _ _ => d.set l.toNat (d.getD l.toNat 0 + 1)
  | _ => d
def his (d : List Int) : List Cmd → List (List Int)
  | [] => []
  | c :: cs => dstep d c :: his (dstep d c) cs
theorem los_his : ∀ {cs : List Cmd} {x : Pg}, (los x cs).map (·.2) = his x.d (sts cs)
  | [], _ => rfl
  | c :: cs, x => by
    show (loAt x c ++ los (pstep x c) cs).map (·.2) = _
    rw [List.map_append, los_his (cs := cs)]
    cases c with
    | store l w m => rfl
    | flush l => rfl
    | fence => rfl
theorem los_len {n : Nat} {cs : List Cmd} : (los (pinit n) cs).length = (sts cs).length := by
  have h : ∀ (d : List Int) (es : List Cmd), (his d es).length = es.length := by
    intro d es
    induction es generalizing d with
    | nil => rfl
    | cons c es ih => simp [his, ih]
  have e := congrArg List.length (los_his (cs := cs) (x := pinit n))
  rw [List.length_map, h] at e
  exact e
/-! what parts two -/
def anyLt : List Int → List Int → Bool
  | a :: as, b :: bs => decide (a < b) || anyLt as bs
  | _, _ => false
theorem anyLt_iff : ∀ {as bs : List Int}, as.length = bs.length → (anyLt as bs = false ↔ ∀ i, i < as.length → bs.getD i 0 ≤ as.getD i 0)
  | [], [], _ => by simp [anyLt]
  | a :: as, b :: bs, h => by
    have ih := anyLt_iff (as := as) (bs := bs) (by simpa using h)
    unfold anyLt
    rw [Bool.or_eq_false_iff, decide_eq_false_iff_not, ih]
    constructor
    · rintro ⟨h0, h1⟩ i hi
      cases i with
      | zero => simpa using h0
      | succ i => simpa using h1 i (by simpa using hi)
    · intro q
      refine ⟨by simpa using q 0 (by simp), fun i hi => by simpa using q (i + 1) (by simpa using hi)⟩
  | [], _ :: _, h => by simp at h
  | _ :: _, [], h => by simp at h
theorem eq_of_any {as bs : List Int} (h : as.length = bs.length) (h1 : anyLt as bs = false) (h2 : anyLt bs as = false) : as = bs := by
  have a := (anyLt_iff h).mp h1
  have b := (anyLt_iff h.symm).mp h2
  refine List.ext_getElem h fun i hi hj => ?_
  have x := a i hi
  have y := b i hj
  rw [List.getD_eq_getElem?_getD, List.getD_eq_getElem?_getD, List.getElem?_eq_getElem hi, List.getElem?_eq_getElem hj] at x
  rw [List.getD_eq_getElem?_getD, List.getD_eq_getElem?_getD, List.getElem?_eq_getElem hi, List.getElem?_eq_getElem hj] at y
  exact Int.le_antisymm y x
theorem any_self (as : List Int) : anyLt as as = false := (anyLt_iff rfl).mpr fun _ _ => Int.le_refl _
/-- a low in another's box of the same high -/
theorem btw_any {n : Nat} {a b h : List Int} (ha : LB n (a, h)) (hb : LB n (b, h)) : isBtw a b h = !anyLt a b := by
  have e : isBtw a b h = true ↔ anyLt a b = false := by
    rw [isBtw_iff, anyLt_iff (by rw [ha.l, hb.l])]
    constructor
    · rintro ⟨_, _, q⟩ i hi
      exact (q i hi).1
    · intro q
      exact ⟨by rw [ha.l, hb.l], by rw [ha.l, ha.h], fun i hi => ⟨q i hi, (ha.o i).2⟩⟩
  cases h1 : anyLt a b with
  | false => exact e.mpr h1
  | true =>
    cases h2 : isBtw a b h with
    | false => rfl
    | true => rw [e.mp h2] at h1; cases h1
def dueP (a b : List Int) : List Dv := (if anyLt a b = true then [.tup [.tup (intD a), .bl true]] else []) ++ (if anyLt b a = true then [.tup [.tup (intD b), .bl false]] else [])
def dues : List (List Int) → List (List Int) → List Dv
  | a :: as, b :: bs => dueP a b ++ dues as bs
  | _, _ => []
theorem dueP_self (a : List Int) : dueP a a = [] := by
  unfold dueP
  rw [any_self]
  rfl
theorem dues_self : ∀ as : List (List Int), dues as as = []
  | [] => rfl
  | a :: as => by
    unfold dues
    rw [dueP_self, dues_self as]
    rfl
theorem dues_nil {n : Nat} : ∀ {as bs : List (List Int)}, as.length = bs.length → (∀ a ∈ as, a.length = n) → (∀ b ∈ bs, b.length = n) → dues as bs = [] → as = bs
  | [], [], _, _, _, _ => rfl
  | a :: as, b :: bs, h, ha, hb, e => by
    unfold dues at e
    obtain ⟨e1, e2⟩ := List.append_eq_nil_iff.mp e
    unfold dueP at e1
    obtain ⟨e3, e4⟩ := List.append_eq_nil_iff.mp e1
    have x : anyLt a b = false := by
      cases hq : anyLt a b with
      | false => rfl
      | true => rw [hq] at e3; cases e3
    have y : anyLt b a = false := by
      cases hq : anyLt b a with
      | false => rfl
      | true => rw [hq] at e4; cases e4
    rw [eq_of_any (by rw [ha a List.mem_cons_self, hb b List.mem_cons_self]) x y, dues_nil (by simpa using h) (fun c hc => ha c (List.mem_cons_of_mem _ hc)) (fun c hc => hb c (List.mem_cons_of_mem _ hc)) e2]
  | [], _ :: _, h, _, _, _ => by simp at h
  | _ :: _, [], h, _, _, _ => by simp at h
theorem dues_form : ∀ {as bs : List (List Int)} {d : Dv}, d ∈ dues as bs → ∃ a b, d = .tup [.tup (intD a), .bl b]
  | a :: as, b :: bs, d, h => by
    unfold dues at h
    rcases List.mem_append.mp h with h | h
    · unfold dueP at h
      rcases List.mem_append.mp h with h | h
      · by_cases z : anyLt a b = true
        · rw [if_pos z] at h
          exact ⟨a, true, List.mem_singleton.mp h⟩
        · rw [if_neg z] at h
          cases h
      · by_cases z : anyLt b a = true
        · rw [if_pos z] at h
          exact ⟨b, false, List.mem_singleton.mp h⟩
        · rw [if_neg z] at h
          cases h
    · exact dues_form h
  | [], _, _, h => by
    unfold dues at h
    cases h
  | _ :: _, [], _, h => by
    unfold dues at h
    cases h
/-! ints as data -/
theorem toPys_int : ∀ xs : List Int, toPys (intD xs) = some (xs.map PyData.int)
  | [] => rfl
  | x :: xs => by
    show (match toPy (.int x) with
      | none => none
      | some p => (toPys (intD xs)).map (p :: ·)) = _
    rw [toPys_int xs]
    rfl
theorem toPy_tup (xs : List Int) : toPy (.tup (intD xs)) = some (.tuple (xs.map PyData.int)) := by
  unfold toPy
  rw [toPys_int]
  rfl
theorem toPy_lst (xs : List Int) : toPy (.lst (intD xs)) = some (.list (xs.map PyData.int)) := by
  unfold toPy
  rw [toPys_int]
  rfl
theorem toPy_pair (a : List Int) (b : Bool) : toPy (.tup [.tup (intD a), .bl b]) = some (.tuple [.tuple (a.map PyData.int), .bool b]) := by
  unfold toPy toPys
  rw [toPy_tup]
  rfl
theorem py_pair (a : List Int) (b : Bool) : py (.tup [.tup (intD a), .bl b]) = .tuple [.tuple (a.map PyData.int), .bool b] := by
  unfold py
  rw [toPy_pair]
  rfl
theorem ok_pairs {ds : List Dv} (h : ∀ d ∈ ds, ∃ a b, d = .tup [.tup (intD a), .bl b]) : okAl ds = true := by
  unfold okAl
  refine List.all_eq_true.mpr fun d hd => ?_
  obtain ⟨a, b, rfl⟩ := h d hd
  rw [toPy_pair, py_pair]
  have dp : (PyData.tuple [.tuple (a.map PyData.int), .bool b]).depth ≤ 60 := by
    simp [PyData.depth, PyData.depthAll, PySem.W.depth_ints]
  rw [Bool.and_eq_true, Bool.and_eq_true, Bool.and_eq_true]
  refine ⟨⟨⟨rfl, rfl⟩, decide_eq_true dp⟩, List.all_eq_true.mpr fun e he => ?_⟩
  obtain ⟨a', b', rfl⟩ := h e he
  rw [py_pair]
  show (PySem.W.alikeAll (a.map PyData.int) (a'.map PyData.int) && (true && true)) = true
  rw [PySem.W.alike_ints]
  rfl
theorem min_pairs {ds : List Dv} {d : Dv} (h : ∀ e ∈ d :: ds, ∃ a b, e = .tup [.tup (intD a), .bl b]) : fMin1 [.lst (d :: ds)] = some (minT d ds) ∧ ∃ a b, minT d ds = .tup [.tup (intD a), .bl b] := by
  refine ⟨?_, h _ (minT_mem d ds)⟩
  show (if okAl (d :: ds) = true then some (minT d ds) else none) = _
  rw [if_pos (ok_pairs h)]
theorem canAll_ints : ∀ xs : List Int, PyData.canLayAll0 (xs.map PyData.int) = true
  | [] => by simp [PyData.canLayAll0]
  | x :: xs => by simp [PyData.canLayAll0, PyData.canLay0, canAll_ints xs]
theorem shaped_tup (xs : List Int) : SeqAt.shaped (.tuple (xs.map PyData.int)) = true := by
  simp [SeqAt.shaped, PyData.canLay0, canAll_ints, PyData.depth, PySem.W.depth_ints]
theorem shaped_lst (xs : List Int) : SeqAt.shaped (.list (xs.map PyData.int)) = true := by
  simp [SeqAt.shaped, PyData.canLay0, canAll_ints, PyData.depth, PySem.W.depth_ints]
theorem eqvAll_ints : ∀ xs ys : List Int, PyData.eqvAll (xs.map PyData.int) (ys.map PyData.int) = decide (xs = ys)
  | [], [] => by simp [PyData.eqvAll]
  | [], y :: ys => by simp [PyData.eqvAll]
  | x :: xs, [] => by simp [PyData.eqvAll]
  | x :: xs, y :: ys => by
    rw [List.map_cons, List.map_cons, PyData.eqvAll, eqvAll_ints xs ys]
    by_cases h : x = y
    · by_cases g : xs = ys <;> simp [PyData.eqv, h, g]
    · simp [PyData.eqv, h]
theorem eqD_tup (xs ys : List Int) : eqD (.tup (intD xs)) (.tup (intD ys)) = some (decide (xs = ys)) := by
  unfold eqD
  rw [toPy_tup, toPy_tup]
  show (if SeqAt.shaped (.tuple (xs.map PyData.int)) = true ∧ SeqAt.shaped (.tuple (ys.map PyData.int)) = true then some (PyData.eqv (.tuple (xs.map PyData.int)) (.tuple (ys.map PyData.int))) else none) = _
  rw [if_pos ⟨shaped_tup xs, shaped_tup ys⟩, PyData.eqv, eqvAll_ints]
theorem eqD_lst (xs ys : List Int) : eqD (.lst (intD xs)) (.lst (intD ys)) = some (decide (xs = ys)) := by
  unfold eqD
  rw [toPy_lst, toPy_lst]
  show (if SeqAt.shaped (.list (xs.map PyData.int)) = true ∧ SeqAt.shaped (.list (ys.map PyData.int)) = true then some (PyData.eqv (.list (xs.map PyData.int)) (.list (ys.map PyData.int))) else none) = _
  rw [if_pos ⟨shaped_lst xs, shaped_lst ys⟩, PyData.eqv, eqvAll_ints]
theorem eq2_tup (xs ys : List Int) : eq2 (.tup (intD xs)) (.tup (intD ys)) = some (.bl (decide (xs = ys))) := by
  unfold eq2
  rw [eqD_tup]
  rfl
theorem ne2_tup (xs ys : List Int) : ne2 (.tup (intD xs)) (.tup (intD ys)) = some (.bl (!decide (xs = ys))) := by
  unfold ne2
  rw [eqD_tup]
  rfl
theorem eq2_lst (xs ys : List Int) : eq2 (.lst (intD xs)) (.lst (intD ys)) = some (.bl (decide (xs = ys))) := by
  unfold eq2
  rw [eqD_lst]
  rfl
theorem ne2_lst (xs ys : List Int) : ne2 (.lst (intD xs)) (.lst (intD ys)) = some (.bl (!decide (xs = ys))) := by
  unfold ne2
  rw [eqD_lst]
  rfl
/-- plain data, equal to itself -/
theorem eqD_self {x : Dv} {p : PyData} (h : toPy x = some p) (hs : SeqAt.shaped p = true) : eqD x x = some true := by
  unfold eqD
  rw [h]
  show (if SeqAt.shaped p = true ∧ SeqAt.shaped p = true then some (PyData.eqv p p) else none) = _
  rw [if_pos ⟨hs, hs⟩, SeqAt.eqv_refl p (SeqAt.canLay_of_shaped hs)]
/-- a list of things of one form, empty or not -/
theorem ne2_nil {ds : List Dv} {ps : List PyData} (h : toPys ds = some ps) (hs : SeqAt.shaped (.list ps) = true) : ne2 (.lst ds) (.lst []) = some (.bl (!ds.isEmpty)) := by
  have e : eqD (.lst ds) (.lst []) = some ds.isEmpty := by
    unfold eqD toPy
    rw [h]
    show (if SeqAt.shaped (.list ps) = true ∧ SeqAt.shaped (.list []) = true then some (PyData.eqv (.list ps) (.list [])) else none) = _
    rw [if_pos ⟨hs, by decide +kernel⟩]
    cases ds with
    | nil =>
      cases h
      rfl
    | cons d ds =>
      cases ps with
      | nil =>
        have := (toPys_map h).1
        simp at this
      | cons p ps => rfl
  unfold ne2
  rw [e]
  rfl
theorem pairs_py : ∀ {ds : List Dv}, (∀ d ∈ ds, ∃ a b, d = .tup [.tup (intD a), .bl b]) → ∃ ps, toPys ds = some ps ∧ PyData.canLayAll0 ps = true ∧ PyData.depthAll ps ≤ 2
  | [], _ => ⟨[], rfl, by simp [PyData.canLayAll0], by simp [PyData.depthAll]⟩
  | d :: ds, h => by
    obtain ⟨a, b, rfl⟩ := h d List.mem_cons_self
    obtain ⟨ps, e, c, dp⟩ := pairs_py (ds := ds) fun x hx => h x (List.mem_cons_of_mem _ hx)
    refine ⟨.tuple [.tuple (a.map PyData.int), .bool b] :: ps, ?_, ?_, ?_⟩
    · unfold toPys
      rw [toPy_pair, e]
      rfl
    · simp [PyData.canLayAll0, PyData.canLay0, canAll_ints, c]
    · simp only [PyData.depthAll, PyData.depth, PySem.W.depth_ints]
      exact Nat.max_le.mpr ⟨by decide, dp⟩
theorem ne2_pairs {ds : List Dv} (h : ∀ d ∈ ds, ∃ a b, d = .tup [.tup (intD a), .bl b]) : ne2 (.lst ds) (.lst []) = some (.bl (!ds.isEmpty)) := by
  obtain ⟨ps, e, c, dp⟩ := pairs_py h
  refine ne2_nil e ?_
  unfold SeqAt.shaped
  rw [Bool.and_eq_true, decide_eq_true_iff]
  refine ⟨by rw [PyData.canLay0]; exact c, ?_⟩
  rw [PyData.depth]
  omega
end Dn

namespace Dn
open PySem PySem.Spec PyProof.Rows L2 LamX Q
abbrev topS (i : Nat) : Stmt := PySem.Challenge.pw_lateststore_k01_memories_and_commands.main.body.getD i (.Pass ⟨0, 0, 0, 0⟩)
def okA : Str → Str → Bool := fun c f => ([(("Memory" : Str), ("sizes" : Str)), (("Store" : Str), ("line" : Str)), (("Store" : Str), ("word" : Str)), (("Store" : Str), ("number" : Str)), (("Flush" : Str), ("line" : Str)), (("Is" : Str), ("line" : Str)), (("Is" : Str), ("word" : Str)), (("Is" : Str), ("numbers" : Str)), (("Copy" : Str), ("line" : Str)), (("Copy" : Str), ("word" : Str)), (("Copy" : Str), ("from_line" : Str)), (("Copy" : Str), ("from_word" : Str))] : List (Str × Str)).contains (c, f)
def okI : Str → Str → Option Bool := fun c d => ([((("Memory" : Str), ("Copy" : Str)), false), ((("Memory" : Str), ("Fence" : Str)), false), ((("Memory" : Str), ("Flush" : Str)), false), ((("Memory" : Str), ("Is" : Str)), false), ((("Memory" : Str), ("Memory" : Str)), true), ((("Memory" : Str), ("Store" : Str)), false), ((("Store" : Str), ("Copy" : Str)), false), ((("Store" : Str), ("Fence" : Str)), false), ((("Store" : Str), ("Flush" : Str)), false), ((("Store" : Str), ("Is" : Str)), false), ((("Store" : Str), ("Memory" : Str)), false), ((("Store" : Str), ("Store" : Str)), true), ((("Flush" : Str), ("Copy" : Str)), false), ((("Flush" : Str), ("Fence" : Str)), false), ((("Flush" : Str), ("Flush" : Str)), true), ((("Flush" : Str), ("Is" : Str)), false), ((("Flush" : Str), ("Memory" : Str)), false), ((("Flush" : Str), ("Store" : Str)), false), ((("Fence" : Str), ("Copy" : Str)), false), ((("Fence" : Str), ("Fence" : Str)), true), ((("Fence" : Str), ("Flush" : Str)), false), ((("Fence" : Str), ("Is" : Str)), false), ((("Fence" : Str), ("Memory" : Str)), false), ((("Fence" : Str), ("Store" : Str)), false), ((("Is" : Str), ("Copy" : Str)), false), ((("Is" : Str), ("Fence" : Str)), false), ((("Is" : Str), ("Flush" : Str)), false), ((("Is" : Str), ("Is" : Str)), true), ((("Is" : Str), ("Memory" : Str)), false), ((("Is" : Str), ("Store" : Str)), false), ((("Copy" : Str), ("Copy" : Str)), true), ((("Copy" : Str), ("Fence" : Str)), false), ((("Copy" : Str), ("Flush" : Str)), false), ((("Copy" : Str), ("Is" : Str)), false), ((("Copy" : Str), ("Memory" : Str)), false), ((("Copy" : Str), ("Store" : Str)), false)] : List ((Str × Str) × Bool)).lookup (c, d)
def isbL : List Str := [("Copy" : Str), ("Fence" : Str), ("Flush" : Str), ("Is" : Str), ("Memory" : Str), ("Store" : Str)]
/-- what the module's text is -/
structure TF (P : Program) (w : World) (K : PySem.W.Frag) (ct : Ct) (mg : Str → Option Value) (base : Heap) : Prop where
  cl : ClsT K ct okA
  isa : IsT K ct okI
  isb : IsB K ct isbL
  b_abs : mg "abs" = none
  b_isinstance : mg "isinstance" = none
  b_len : mg "len" = none
  b_list : mg "list" = none
  b_range : mg "range" = none
  b_set : mg "set" = none
  b_sorted : mg "sorted" = none
  b_tuple : mg "tuple" = none
  g_MOST_LINES : ∃ t, mg "MOST_LINES" = some (.int 6 t)
  g_MOST_WORDS : ∃ t, mg "MOST_WORDS" = some (.int 4 t)
  gC_Copy : mg "Copy" = some (.ref (ct "Copy"))
  gC_Fence : mg "Fence" = some (.ref (ct "Fence"))
  gC_Flush : mg "Flush" = some (.ref (ct "Flush"))
  gC_Is : mg "Is" = some (.ref (ct "Is"))
  gC_Memory : mg "Memory" = some (.ref (ct "Memory"))
  gC_Store : mg "Store" = some (.ref (ct "Store"))
  B_Fence : Bare K mg "Fence" (ct "Fence")
  E_BadCount : Err P w K mg base "BadCount" (ct "BadCount") 1 ["self", "what", "count"] (spInit2 (ct "BadCount") ("what" : Str) ("count" : Str))
abbrev s_law_source : Stmt := topS 17
abbrev N_law_source : List Str := ["_law_cell"]
theorem sc_law_source : FnScope N_law_source ["_law_cell"] (defScope s_law_source) := ⟨rfl, rfl, rfl, by decide +kernel, rfl, by decide +kernel, by decide +kernel⟩
def b_law_source : Dl → Fl := (cRet (cLst (cCons (cCall fAbs (cCons (cVar 0) cNil)) (cCons (cOp mod2 (cVar 0) (cC (.int 2147483629))) (cCons (cC (.int 0)) cNil)))))
def m_law_source : List Dv → Rs Dv := runD [Kd.v] .f 0 b_law_source
section
variable {P : Program} {w : World} {K : PySem.W.Frag} {ct : Ct} {mg : Str → Option Value} {base : Heap}
theorem ok_law_source {f : Addr} {fd : FuncData} (F : Fun K "_law_source" "_law_source" s_law_source f fd) (T : TF P w K ct mg base)  :
    FnOk P w K mg base (L2.CX P w) 1 f fd ["_law_cell"] (spD K ct [Kd.v] .f m_law_source) :=
  fnD (kall := fun i => ([Kd.v] : List Kd).getD i .v) F sc_law_source rfl rfl (hk_take (n := 1) rfl rfl) (by decide) fun cdv A outer s H E pc be hr => ⟨_, (dss_one (ds_retF (dx_lst (da_cons (dx_callB call_abs cald_abs (by rfl) T.b_abs (by decide +kernel) (da_cons (dx_v 0 rfl (pv 0)) da_nil)) (da_cons (dx_op op_mod opd_mod (dx_v 0 rfl (pv 0)) dx_int) (da_cons dx_int da_nil))))))⟩
end
abbrev s_Store__eq : Stmt := inClass (topS 8) 1
abbrev N_Store__eq : List Str := ["self", "other"]
theorem sc_Store__eq : FnScope N_Store__eq ["self", "other"] (defScope s_Store__eq) := ⟨rfl, rfl, rfl, by decide +kernel, rfl, by decide +kernel, by decide +kernel⟩
def b_Store__eq : Dl → Fl := (cRet (cAndV (cUn (fIsB okI isbL ("Store" : Str)) (cVar 1)) (cAndV (cOp eq2 (cUn (fFld okA ("line" : Str)) (cVar 0)) (cUn (fFld okA ("line" : Str)) (cVar 1))) (cAndV (cOp eq2 (cUn (fFld okA ("word" : Str)) (cVar 0)) (cUn (fFld okA ("word" : Str)) (cVar 1))) (cOp eq2 (cUn (fFld okA ("number" : Str)) (cVar 0)) (cUn (fFld okA ("number" : Str)) (cVar 1)))))))
def m_Store__eq : List Dv → Rs Dv := runD [Kd.v, Kd.v] .v 0 b_Store__eq
section
variable {P : Program} {w : World} {K : PySem.W.Frag} {ct : Ct} {mg : Str → Option Value} {base : Heap}
theorem ok_Store__eq {f : Addr} {fd : FuncData} (F : Fun K "__eq__" "Store.__eq__" s_Store__eq f fd) (T : TF P w K ct mg base)  :
    FnOk P w K mg base (L2.CX P w) 1 f fd ["self", "other"] (spD K ct [Kd.v, Kd.v] .v m_Store__eq) :=
  fnD (kall := fun i => ([Kd.v, Kd.v] : List Kd).getD i .v) F sc_Store__eq rfl rfl (hk_take (n := 2) rfl rfl) (by decide) fun cdv A outer s H E pc be hr => ⟨_, (dss_one (ds_ret (dx_and (dx_isiB T.isa T.isb (dx_v 1 rfl (pv 1)) T.b_isinstance T.gC_Store rfl) (dx_and (dx_cmp (op_eqDK rfl hr.units) opd_eq (dx_fld T.cl (dx_v 0 rfl (pv 0))) (dx_fld T.cl (dx_v 1 rfl (pv 1))) (nomark _)) (dx_and (dx_cmp (op_eqDK rfl hr.units) opd_eq (dx_fld T.cl (dx_v 0 rfl (pv 0))) (dx_fld T.cl (dx_v 1 rfl (pv 1))) (nomark _)) (dx_one (dx_cmp (op_eqDK rfl hr.units) opd_eq (dx_fld T.cl (dx_v 0 rfl (pv 0))) (dx_fld T.cl (dx_v 1 rfl (pv 1))) (nomark _))))))))⟩
end
abbrev s_Flush__eq : Stmt := inClass (topS 9) 1
abbrev N_Flush__eq : List Str := ["self", "other"]
theorem sc_Flush__eq : FnScope N_Flush__eq ["self", "other"] (defScope s_Flush__eq) := ⟨rfl, rfl, rfl, by decide +kernel, rfl, by decide +kernel, by decide +kernel⟩
def b_Flush__eq : Dl → Fl := (cRet (cAndV (cUn (fIsB okI isbL ("Flush" : Str)) (cVar 1)) (cOp eq2 (cUn (fFld okA ("line" : Str)) (cVar 0)) (cUn (fFld okA ("line" : Str)) (cVar 1)))))
def m_Flush__eq : List Dv → Rs Dv := runD [Kd.v, Kd.v] .v 0 b_Flush__eq
section
variable {P : Program} {w : World} {K : PySem.W.Frag} {ct : Ct} {mg : Str → Option Value} {base : Heap}
theorem ok_Flush__eq {f : Addr} {fd : FuncData} (F : Fun K "__eq__" "Flush.__eq__" s_Flush__eq f fd) (T : TF P w K ct mg base)  :
    FnOk P w K mg base (L2.CX P w) 1 f fd ["self", "other"] (spD K ct [Kd.v, Kd.v] .v m_Flush__eq) :=
  fnD (kall := fun i => ([Kd.v, Kd.v] : List Kd).getD i .v) F sc_Flush__eq rfl rfl (hk_take (n := 2) rfl rfl) (by decide) fun cdv A outer s H E pc be hr => ⟨_, (dss_one (ds_ret (dx_and (dx_isiB T.isa T.isb (dx_v 1 rfl (pv 1)) T.b_isinstance T.gC_Flush rfl) (dx_one (dx_cmp (op_eqDK rfl hr.units) opd_eq (dx_fld T.cl (dx_v 0 rfl (pv 0))) (dx_fld T.cl (dx_v 1 rfl (pv 1))) (nomark _))))))⟩
end
abbrev s_Copy__eq : Stmt := inClass (topS 15) 1
abbrev N_Copy__eq : List Str := ["self", "other"]
theorem sc_Copy__eq : FnScope N_Copy__eq ["self", "other"] (defScope s_Copy__eq) := ⟨rfl, rfl, rfl, by decide +kernel, rfl, by decide +kernel, by decide +kernel⟩
def b_Copy__eq : Dl → Fl := (cRet (cAndV (cUn (fIsB okI isbL ("Copy" : Str)) (cVar 1)) (cAndV (cOp eq2 (cUn (fFld okA ("line" : Str)) (cVar 0)) (cUn (fFld okA ("line" : Str)) (cVar 1))) (cAndV (cOp eq2 (cUn (fFld okA ("word" : Str)) (cVar 0)) (cUn (fFld okA ("word" : Str)) (cVar 1))) (cAndV (cOp eq2 (cUn (fFld okA ("from_line" : Str)) (cVar 0)) (cUn (fFld okA ("from_line" : Str)) (cVar 1))) (cOp eq2 (cUn (fFld okA ("from_word" : Str)) (cVar 0)) (cUn (fFld okA ("from_word" : Str)) (cVar 1))))))))
def m_Copy__eq : List Dv → Rs Dv := runD [Kd.v, Kd.v] .v 0 b_Copy__eq
section
variable {P : Program} {w : World} {K : PySem.W.Frag} {ct : Ct} {mg : Str → Option Value} {base : Heap}
theorem ok_Copy__eq {f : Addr} {fd : FuncData} (F : Fun K "__eq__" "Copy.__eq__" s_Copy__eq f fd) (T : TF P w K ct mg base)  :
    FnOk P w K mg base (L2.CX P w) 1 f fd ["self", "other"] (spD K ct [Kd.v, Kd.v] .v m_Copy__eq) :=
  fnD (kall := fun i => ([Kd.v, Kd.v] : List Kd).getD i .v) F sc_Copy__eq rfl rfl (hk_take (n := 2) rfl rfl) (by decide) fun cdv A outer s H E pc be hr => ⟨_, (dss_one (ds_ret (dx_and (dx_isiB T.isa T.isb (dx_v 1 rfl (pv 1)) T.b_isinstance T.gC_Copy rfl) (dx_and (dx_cmp (op_eqDK rfl hr.units) opd_eq (dx_fld T.cl (dx_v 0 rfl (pv 0))) (dx_fld T.cl (dx_v 1 rfl (pv 1))) (nomark _)) (dx_and (dx_cmp (op_eqDK rfl hr.units) opd_eq (dx_fld T.cl (dx_v 0 rfl (pv 0))) (dx_fld T.cl (dx_v 1 rfl (pv 1))) (nomark _)) (dx_and (dx_cmp (op_eqDK rfl hr.units) opd_eq (dx_fld T.cl (dx_v 0 rfl (pv 0))) (dx_fld T.cl (dx_v 1 rfl (pv 1))) (nomark _)) (dx_one (dx_cmp (op_eqDK rfl hr.units) opd_eq (dx_fld T.cl (dx_v 0 rfl (pv 0))) (dx_fld T.cl (dx_v 1 rfl (pv 1))) (nomark _)))))))))⟩
end
abbrev s_Is__eq : Stmt := inClass (topS 13) 1
abbrev N_Is__eq : List Str := ["self", "other"]
theorem sc_Is__eq : FnScope N_Is__eq ["self", "other"] (defScope s_Is__eq) := ⟨rfl, rfl, rfl, by decide +kernel, rfl, by decide +kernel, by decide +kernel⟩
def b_Is__eq : Dl → Fl := (cRet (cAndV (cUn (fIsB okI isbL ("Is" : Str)) (cVar 1)) (cAndV (cOp eq2 (cUn (fFld okA ("line" : Str)) (cVar 0)) (cUn (fFld okA ("line" : Str)) (cVar 1))) (cAndV (cOp eq2 (cUn (fFld okA ("word" : Str)) (cVar 0)) (cUn (fFld okA ("word" : Str)) (cVar 1))) (cOp eq2 (cUn (fFld okA ("numbers" : Str)) (cVar 0)) (cUn (fFld okA ("numbers" : Str)) (cVar 1)))))))
def m_Is__eq : List Dv → Rs Dv := runD [Kd.v, Kd.v] .v 0 b_Is__eq
section
variable {P : Program} {w : World} {K : PySem.W.Frag} {ct : Ct} {mg : Str → Option Value} {base : Heap}
theorem ok_Is__eq {f : Addr} {fd : FuncData} (F : Fun K "__eq__" "Is.__eq__" s_Is__eq f fd) (T : TF P w K ct mg base)  :
    FnOk P w K mg base (L2.CX P w) 1 f fd ["self", "other"] (spD K ct [Kd.v, Kd.v] .v m_Is__eq) :=
  fnD (kall := fun i => ([Kd.v, Kd.v] : List Kd).getD i .v) F sc_Is__eq rfl rfl (hk_take (n := 2) rfl rfl) (by decide) fun cdv A outer s H E pc be hr => ⟨_, (dss_one (ds_ret (dx_and (dx_isiB T.isa T.isb (dx_v 1 rfl (pv 1)) T.b_isinstance T.gC_Is rfl) (dx_and (dx_cmp (op_eqDK rfl hr.units) opd_eq (dx_fld T.cl (dx_v 0 rfl (pv 0))) (dx_fld T.cl (dx_v 1 rfl (pv 1))) (nomark _)) (dx_and (dx_cmp (op_eqDK rfl hr.units) opd_eq (dx_fld T.cl (dx_v 0 rfl (pv 0))) (dx_fld T.cl (dx_v 1 rfl (pv 1))) (nomark _)) (dx_one (dx_cmp (op_eqDK rfl hr.units) opd_eq (dx_fld T.cl (dx_v 0 rfl (pv 0))) (dx_fld T.cl (dx_v 1 rfl (pv 1))) (nomark _))))))))⟩
end
abbrev s_Fence__eq : Stmt := inClass (topS 10) 0
abbrev N_Fence__eq : List Str := ["self", "other"]
theorem sc_Fence__eq : FnScope N_Fence__eq ["self", "other"] (defScope s_Fence__eq) := ⟨rfl, rfl, rfl, by decide +kernel, rfl, by decide +kernel, by decide +kernel⟩
def b_Fence__eq : Dl → Fl := (cRet (cUn (fIsB okI isbL ("Fence" : Str)) (cVar 1)))
def m_Fence__eq : List Dv → Rs Dv := runD [Kd.v, Kd.v] .v 0 b_Fence__eq
section
variable {P : Program} {w : World} {K : PySem.W.Frag} {ct : Ct} {mg : Str → Option Value} {base : Heap}
theorem ok_Fence__eq {f : Addr} {fd : FuncData} (F : Fun K "__eq__" "Fence.__eq__" s_Fence__eq f fd) (T : TF P w K ct mg base)  :
    FnOk P w K mg base (L2.CX P w) 1 f fd ["self", "other"] (spD K ct [Kd.v, Kd.v] .v m_Fence__eq) :=
  fnD (kall := fun i => ([Kd.v, Kd.v] : List Kd).getD i .v) F sc_Fence__eq rfl rfl (hk_take (n := 2) rfl rfl) (by decide) fun cdv A outer s H E pc be hr => ⟨_, (dss_one (ds_ret (dx_isiB T.isa T.isb (dx_v 1 rfl (pv 1)) T.b_isinstance T.gC_Fence rfl)))⟩
end
abbrev s_Memory__eq : Stmt := inClass (topS 7) 1
abbrev N_Memory__eq : List Str := ["self", "other"]
theorem sc_Memory__eq : FnScope N_Memory__eq ["self", "other"] (defScope s_Memory__eq) := ⟨rfl, rfl, rfl, by decide +kernel, rfl, by decide +kernel, by decide +kernel⟩
def b_Memory__eq : Dl → Fl := (cRet (cAndV (cUn (fIsB okI isbL ("Memory" : Str)) (cVar 1)) (cOp eq2 (cUn (fFld okA ("sizes" : Str)) (cVar 0)) (cUn (fFld okA ("sizes" : Str)) (cVar 1)))))
def m_Memory__eq : List Dv → Rs Dv := runD [Kd.v, Kd.v] .v 0 b_Memory__eq
section
variable {P : Program} {w : World} {K : PySem.W.Frag} {ct : Ct} {mg : Str → Option Value} {base : Heap}
theorem ok_Memory__eq {f : Addr} {fd : FuncData} (F : Fun K "__eq__" "Memory.__eq__" s_Memory__eq f fd) (T : TF P w K ct mg base)  :
    FnOk P w K mg base (L2.CX P w) 1 f fd ["self", "other"] (spD K ct [Kd.v, Kd.v] .v m_Memory__eq) :=
  fnD (kall := fun i => ([Kd.v, Kd.v] : List Kd).getD i .v) F sc_Memory__eq rfl rfl (hk_take (n := 2) rfl rfl) (by decide) fun cdv A outer s H E pc be hr => ⟨_, (dss_one (ds_ret (dx_and (dx_isiB T.isa T.isb (dx_v 1 rfl (pv 1)) T.b_isinstance T.gC_Memory rfl) (dx_one (dx_cmp (op_eqDK rfl hr.units) opd_eq (dx_fld T.cl (dx_v 0 rfl (pv 0))) (dx_fld T.cl (dx_v 1 rfl (pv 1))) (nomark _))))))⟩
end
abbrev s_Store__init : Stmt := inClass (topS 8) 0
abbrev N_Store__init : List Str := ["self", "line", "word", "number"]
theorem sc_Store__init : FnScope N_Store__init ["self", "line", "word", "number"] (defScope s_Store__init) := ⟨rfl, rfl, rfl, by decide +kernel, rfl, by decide +kernel, by decide +kernel⟩
def b_Store__init : Dl → Fl := (cSeq (cFld okA 0 ("line" : Str) (cVar 1))
    (cSeq (cFld okA 0 ("word" : Str) (cVar 2))
    (cFld okA 0 ("number" : Str) (cVar 3))))
def m_Store__init : List Dv → Rs Dv := runD [Kd.p, Kd.v, Kd.v, Kd.v] .v 0 b_Store__init
section
variable {P : Program} {w : World} {K : PySem.W.Frag} {ct : Ct} {mg : Str → Option Value} {base : Heap}
theorem ok_Store__init {f : Addr} {fd : FuncData} (F : Fun K "__init__" "Store.__init__" s_Store__init f fd) (T : TF P w K ct mg base)  :
    FnOk P w K mg base (L2.CX P w) 1 f fd ["self", "line", "word", "number"] (spD K ct [Kd.p, Kd.v, Kd.v, Kd.v] .v m_Store__init) :=
  fnD (kall := fun i => ([Kd.p, Kd.v, Kd.v, Kd.v] : List Kd).getD i .v) F sc_Store__init rfl rfl (hk_take (n := 4) rfl rfl) (by decide) fun cdv A outer s H E pc be hr => ⟨_, (dss_cons (ds_fld T.cl 0 rfl (pv 0) (dx_v 1 rfl (pv 1)))
    (dss_cons (ds_fld T.cl 0 rfl (pv 0) (dx_v 2 rfl (pv 2)))
    (dss_one (ds_fld T.cl 0 rfl (pv 0) (dx_v 3 rfl (pv 3))))))⟩
end
abbrev s_Flush__init : Stmt := inClass (topS 9) 0
abbrev N_Flush__init : List Str := ["self", "line"]
theorem sc_Flush__init : FnScope N_Flush__init ["self", "line"] (defScope s_Flush__init) := ⟨rfl, rfl, rfl, by decide +kernel, rfl, by decide +kernel, by decide +kernel⟩
def b_Flush__init : Dl → Fl := (cFld okA 0 ("line" : Str) (cVar 1))
def m_Flush__init : List Dv → Rs Dv := runD [Kd.p, Kd.v] .v 0 b_Flush__init
section
variable {P : Program} {w : World} {K : PySem.W.Frag} {ct : Ct} {mg : Str → Option Value} {base : Heap}
theorem ok_Flush__init {f : Addr} {fd : FuncData} (F : Fun K "__init__" "Flush.__init__" s_Flush__init f fd) (T : TF P w K ct mg base)  :
    FnOk P w K mg base (L2.CX P w) 1 f fd ["self", "line"] (spD K ct [Kd.p, Kd.v] .v m_Flush__init) :=
  fnD (kall := fun i => ([Kd.p, Kd.v] : List Kd).getD i .v) F sc_Flush__init rfl rfl (hk_take (n := 2) rfl rfl) (by decide) fun cdv A outer s H E pc be hr => ⟨_, (dss_one (ds_fld T.cl 0 rfl (pv 0) (dx_v 1 rfl (pv 1))))⟩
end
abbrev s_Copy__init : Stmt := inClass (topS 15) 0
abbrev N_Copy__init : List Str := ["self", "line", "word", "from_line", "from_word"]
theorem sc_Copy__init : FnScope N_Copy__init ["self", "line", "word", "from_line", "from_word"] (defScope s_Copy__init) := ⟨rfl, rfl, rfl, by decide +kernel, rfl, by decide +kernel, by decide +kernel⟩
def b_Copy__init : Dl → Fl := (cSeq (cFld okA 0 ("line" : Str) (cVar 1))
    (cSeq (cFld okA 0 ("word" : Str) (cVar 2))
    (cSeq (cFld okA 0 ("from_line" : Str) (cVar 3))
    (cFld okA 0 ("from_word" : Str) (cVar 4)))))
def m_Copy__init : List Dv → Rs Dv := runD [Kd.p, Kd.v, Kd.v, Kd.v, Kd.v] .v 0 b_Copy__init
section
variable {P : Program} {w : World} {K : PySem.W.Frag} {ct : Ct} {mg : Str → Option Value} {base : Heap}
theorem ok_Copy__init {f : Addr} {fd : FuncData} (F : Fun K "__init__" "Copy.__init__" s_Copy__init f fd) (T : TF P w K ct mg base)  :
    FnOk P w K mg base (L2.CX P w) 1 f fd ["self", "line", "word", "from_line", "from_word"] (spD K ct [Kd.p, Kd.v, Kd.v, Kd.v, Kd.v] .v m_Copy__init) :=
  fnD (kall := fun i => ([Kd.p, Kd.v, Kd.v, Kd.v, Kd.v] : List Kd).getD i .v) F sc_Copy__init rfl rfl (hk_take (n := 5) rfl rfl) (by decide) fun cdv A outer s H E pc be hr => ⟨_, (dss_cons (ds_fld T.cl 0 rfl (pv 0) (dx_v 1 rfl (pv 1)))
    (dss_cons (ds_fld T.cl 0 rfl (pv 0) (dx_v 2 rfl (pv 2)))
    (dss_cons (ds_fld T.cl 0 rfl (pv 0) (dx_v 3 rfl (pv 3)))
    (dss_one (ds_fld T.cl 0 rfl (pv 0) (dx_v 4 rfl (pv 4)))))))⟩
end
abbrev s_check_sizes : Stmt := topS 11
abbrev N_check_sizes : List Str := ["sizes", "size"]
theorem sc_check_sizes : FnScope N_check_sizes ["sizes"] (defScope s_check_sizes) := ⟨rfl, rfl, rfl, by decide +kernel, rfl, by decide +kernel, by decide +kernel⟩
def l_check_sizes_1 : Dl → Fl := (cIfS (cNot (cTest (cChain le2 le2 (cC (.int 1)) (cVar 1) (cC (.int 4))))) (cExc ("BadCount" : Str) [("count" : Str), ("what" : Str)] List.reverse (cCons (cC (.str ("words" : Str))) (cCons (cVar 1) cNil))) (fun δ => .nx δ))
def b_check_sizes : Dl → Fl := (cSeq (cIfS (cNot (cTest (cChain le2 le2 (cC (.int 1)) (cCall fLen (cCons (cVar 0) cNil)) (cC (.int 6))))) (cExc ("BadCount" : Str) [("count" : Str), ("what" : Str)] List.reverse (cCons (cC (.str ("lines" : Str))) (cCons (cCall fLen (cCons (cVar 0) cNil)) cNil))) (fun δ => .nx δ))
    (cFor (cSeqOf (cVar 0)) (gN 1) l_check_sizes_1))
def m_check_sizes : List Dv → Rs Dv := runD [Kd.b] .v 1 b_check_sizes
section
variable {P : Program} {w : World} {K : PySem.W.Frag} {ct : Ct} {mg : Str → Option Value} {base : Heap}
theorem ok_check_sizes {f : Addr} {fd : FuncData} (F : Fun K "check_sizes" "check_sizes" s_check_sizes f fd) (T : TF P w K ct mg base)  :
    FnOk P w K mg base (L2.CX P w) 3 f fd ["sizes"] (spD K ct [Kd.b] .v m_check_sizes) :=
  fnD (kall := fun i => ([Kd.b, Kd.v] : List Kd).getD i .v) F sc_check_sizes rfl rfl (hk_take (n := 1) rfl rfl) (by decide) fun cdv A outer s H E pc be hr => ⟨_, (dss_cons (ds_if (dt_not (dt_chain op_le opd_le op_le opd_le dx_int (dx_callB (call_len4 rfl) cald_len (by rfl) T.b_len (by decide +kernel) (da_consb (dx_b 0 (pv 0)) da_nilb)) (dx_gint (i := 6) (by rfl) T.g_MOST_LINES))) (dss_one (ds_rais2 rfl (takes_of rfl rfl rfl rfl) T.E_BadCount (hr.mono (by decide)) (by rfl) rfl (da_cons dx_str (da_cons (dx_callB (call_len4 rfl) cald_len (by rfl) T.b_len (by decide +kernel) (da_consb (dx_b 0 (pv 0)) da_nilb)) da_nil)))) dss_nil)
    (dss_one (ds_for (passes_of rfl) rfl (di_b 0 rfl (pv 0)) (dg_name (i := 1) rfl sc_check_sizes.nd rfl (Or.inl rfl)) (dss_one (ds_if (dt_not (dt_chain op_le opd_le op_le opd_le dx_int (dx_v 1 rfl (pv 1)) (dx_gint (i := 4) (by rfl) T.g_MOST_WORDS))) (dss_one (ds_rais2 rfl (takes_of rfl rfl rfl rfl) T.E_BadCount (hr.mono (by decide)) (by rfl) rfl (da_cons dx_str (da_cons (dx_v 1 rfl (pv 1)) da_nil)))) dss_nil)))))⟩
end
abbrev s_Memory__init : Stmt := inClass (topS 7) 0
abbrev N_Memory__init : List Str := ["self", "sizes"]
theorem sc_Memory__init : FnScope N_Memory__init ["self", "sizes"] (defScope s_Memory__init) := ⟨rfl, rfl, rfl, by decide +kernel, rfl, by decide +kernel, by decide +kernel⟩
def b_Memory__init : Dl → Fl := (cSeq (cDrop (cFn [Kd.b] [some 1] m_check_sizes (cSlot 1 cNil)))
    (cFld okA 0 ("sizes" : Str) (cCall fTuple (cCons (cVar 1) cNil))))
def m_Memory__init : List Dv → Rs Dv := runD [Kd.p, Kd.b] .v 0 b_Memory__init
section
variable {P : Program} {w : World} {K : PySem.W.Frag} {ct : Ct} {mg : Str → Option Value} {base : Heap}
theorem ok_Memory__init {f : Addr} {fd : FuncData} (F : Fun K "__init__" "Memory.__init__" s_Memory__init f fd) (T : TF P w K ct mg base) (F_check_sizes : Cal P w K mg base (L2.CX P w) "check_sizes" 3 ["sizes"] (spD K ct [Kd.b] .v m_check_sizes)) :
    FnOk P w K mg base (L2.CX P w) 4 f fd ["self", "sizes"] (spD K ct [Kd.p, Kd.b] .v m_Memory__init) :=
  fnD (kall := fun i => ([Kd.p, Kd.b] : List Kd).getD i .v) F sc_Memory__init rfl rfl (hk_take (n := 2) rfl rfl) (by decide) fun cdv A outer s H E pc be hr => ⟨_, (dss_cons (ds_expr (dx_cal F_check_sizes (hr.mono (by decide)) (by rfl) (passes_call (takes_of rfl rfl rfl rfl) (fun _ _ _ _ h => h)) (by rfl) (by decide) (dr_s 1 (pv 1) dr_nil)))
    (dss_one (ds_fld T.cl 0 rfl (pv 0) (dx_callTy (call_tupleK rfl) cald_tuple (by rfl) T.b_tuple (by decide +kernel) (da_consb (dx_b 1 (pv 1)) da_nilb)))))⟩
end
abbrev s_law_draw : Stmt := topS 18
abbrev N_law_draw : List Str := ["_law_source_here", "_law_many", "_law_found", "_law_value"]
theorem sc_law_draw : FnScope N_law_draw ["_law_source_here", "_law_many"] (defScope s_law_draw) := ⟨rfl, rfl, rfl, by decide +kernel, rfl, by decide +kernel, by decide +kernel⟩
def b_law_draw : Dl → Fl := (cSeq (cIfS (cTest (cOp ge2 (cOp fIx (cVar 0) (cC (.int 0))) (cOp pow2 (cC (.int 10)) (cC (.int 18))))) (cSeq (cSet 2 (cOp mod2 (cOp fIx (cVar 0) (cC (.int 0))) (cVar 1)))
    (cSeq (cSub 0 (cOp fdiv2 (cOp fIx (cVar 0) (cC (.int 0))) (cVar 1)) (cC (.int 0)))
    (cRet (cVar 2)))) (fun δ => .nx δ))
    (cSeq (cSub 0 (cOp add2 (cOp fIx (cVar 0) (cC (.int 2))) (cC (.int 1))) (cC (.int 2)))
    (cSeq (cSet 3 (cOp mod2 (cOp mul2 (cOp add2 (cOp add2 (cOp fIx (cVar 0) (cC (.int 1))) (cOp mul2 (cC (.int 7919)) (cOp fIx (cVar 0) (cC (.int 2))))) (cC (.int 1))) (cC (.int 48271))) (cC (.int 2147483647))))
    (cSeq (cSet 3 (cOp mod2 (cOp mul2 (cVar 3) (cOp add2 (cOp fdiv2 (cVar 3) (cC (.int 1013))) (cC (.int 69621)))) (cC (.int 2147483587))))
    (cRet (cOp mod2 (cOp mod2 (cOp add2 (cOp fdiv2 (cVar 3) (cC (.int 7))) (cOp mul2 (cOp mod2 (cVar 3) (cC (.int 7919))) (cC (.int 40692)))) (cC (.int 2147483399))) (cVar 1)))))))
def m_law_draw : List Dv → Rs Dv := runD [Kd.p, Kd.v] .v 2 b_law_draw
section
variable {P : Program} {w : World} {K : PySem.W.Frag} {ct : Ct} {mg : Str → Option Value} {base : Heap}
theorem ok_law_draw {f : Addr} {fd : FuncData} (F : Fun K "_law_draw" "_law_draw" s_law_draw f fd) (T : TF P w K ct mg base)  :
    FnOk P w K mg base (L2.CX P w) 1 f fd ["_law_source_here", "_law_many"] (spD K ct [Kd.p, Kd.v] .v m_law_draw) :=
  fnD (kall := fun i => ([Kd.p, Kd.v, Kd.v, Kd.v] : List Kd).getD i .v) F sc_law_draw rfl rfl (hk_take (n := 2) rfl rfl) (by decide) fun cdv A outer s H E pc be hr => ⟨_, (dss_cons (ds_if (dt_cmp op_ge opd_ge (dx_ix (ix_seqK rfl) opd_ix (dx_b 0 (pv 0)) dx_int) (dx_op op_pow opd_pow dx_int dx_int) (nomark _)) (dss_cons (ds_set (i := 2) rfl sc_law_draw.nd rfl (Or.inl rfl) (dx_op op_mod opd_mod (dx_ix (ix_seqK rfl) opd_ix (dx_b 0 (pv 0)) dx_int) (dx_v 1 rfl (pv 1))))
    (dss_cons (ds_subF 0 rfl (dx_op op_fdiv opd_fdiv (dx_ix (ix_seqK rfl) opd_ix (dx_b 0 (pv 0)) dx_int) (dx_v 1 rfl (pv 1))) (pv 0) dx_int fun h hk => ps_asg h (pg_sub (pv 0) hk set_list))
    (dss_one (ds_ret (dx_v 2 rfl (pv 2)))))) dss_nil)
    (dss_cons (ds_subF 0 rfl (dx_op (op_add4 rfl) opd_add (dx_ix (ix_seqK rfl) opd_ix (dx_b 0 (pv 0)) dx_int) dx_int) (pv 0) dx_int fun h hk => ps_asg h (pg_sub (pv 0) hk set_list))
    (dss_cons (ds_set (i := 3) rfl sc_law_draw.nd rfl (Or.inl rfl) (dx_op op_mod opd_mod (dx_op (op_mul3 rfl) opd_mul (dx_op (op_add4 rfl) opd_add (dx_op (op_add4 rfl) opd_add (dx_ix (ix_seqK rfl) opd_ix (dx_b 0 (pv 0)) dx_int) (dx_op (op_mul3 rfl) opd_mul dx_int (dx_ix (ix_seqK rfl) opd_ix (dx_b 0 (pv 0)) dx_int))) dx_int) dx_int) dx_int))
    (dss_cons (ds_set (i := 3) rfl sc_law_draw.nd rfl (Or.inl rfl) (dx_op op_mod opd_mod (dx_op (op_mul3 rfl) opd_mul (dx_v 3 rfl (pv 3)) (dx_op (op_add4 rfl) opd_add (dx_op op_fdiv opd_fdiv (dx_v 3 rfl (pv 3)) dx_int) dx_int)) dx_int))
    (dss_one (ds_ret (dx_op op_mod opd_mod (dx_op op_mod opd_mod (dx_op (op_add4 rfl) opd_add (dx_op op_fdiv opd_fdiv (dx_v 3 rfl (pv 3)) dx_int) (dx_op (op_mul3 rfl) opd_mul (dx_op op_mod opd_mod (dx_v 3 rfl (pv 3)) dx_int) dx_int)) dx_int) (dx_v 1 rfl (pv 1)))))))))⟩
end
abbrev s_law_sizes : Stmt := topS 20
abbrev N_law_sizes : List Str := ["_law_source_here", "_law_most", "_law_k"]
theorem sc_law_sizes : FnScope N_law_sizes ["_law_source_here", "_law_most"] (defScope s_law_sizes) := ⟨rfl, rfl, rfl, by decide +kernel, rfl, by decide +kernel, by decide +kernel⟩
def i_law_sizes_1 : Dl → Rs (List Dv) := (cIt fRng1 (cCons (cOp add2 (cC (.int 1)) (cFn [Kd.p, Kd.v] [some 0, none] m_law_draw (cSlot 0 (cCons (cVar 1) cNil)))) cNil))
def e_law_sizes_2 : Dl → Rs Dv := (cOp add2 (cC (.int 1)) (cFn [Kd.p, Kd.v] [some 0, none] m_law_draw (cSlot 0 (cCons (cC (.int 4)) cNil))))
def b_law_sizes : Dl → Fl := (cRet (cComp i_law_sizes_1 (gN 2) cTrue e_law_sizes_2 [2]))
def m_law_sizes : List Dv → Rs Dv := runD [Kd.p, Kd.v] .f 1 b_law_sizes
section
variable {P : Program} {w : World} {K : PySem.W.Frag} {ct : Ct} {mg : Str → Option Value} {base : Heap}
theorem ok_law_sizes {f : Addr} {fd : FuncData} (F : Fun K "_law_sizes" "_law_sizes" s_law_sizes f fd) (T : TF P w K ct mg base) (F_law_draw : Cal P w K mg base (L2.CX P w) "_law_draw" 1 ["_law_source_here", "_law_many"] (spD K ct [Kd.p, Kd.v] .v m_law_draw)) :
    FnOk P w K mg base (L2.CX P w) 2 f fd ["_law_source_here", "_law_most"] (spD K ct [Kd.p, Kd.v] .f m_law_sizes) :=
  fnD (kall := fun i => ([Kd.p, Kd.v, Kd.v] : List Kd).getD i .v) F sc_law_sizes rfl rfl (hk_take (n := 2) rfl rfl) (by decide) fun cdv A outer s H E pc be hr => ⟨_, (dss_one (ds_retF (dx_lc (own := [("_law_k", 2)]) (g := gName 2) (tt := tYes) (by rfl) sc_law_sizes.nd (di_range1 (by rfl) T.b_range (da_cons (dx_op (op_add4 rfl) opd_add dx_int (dx_cal F_law_draw (hr.mono (by decide)) (by rfl) (passes_call (takes_of rfl rfl rfl rfl) (fun _ _ _ _ h => h)) (by rfl) (by decide) (dr_s 0 (pv 0) (dr_v (dx_v 1 rfl (pv 1)) dr_nil)))) da_nil)) (blkOk_by (own := [("_law_k", 2)]) (N := N_law_sizes) (sc := defScope s_law_sizes) (by decide +kernel)) (fun _ _ _ _ _ => (dg_name (i := 2) rfl sc_law_sizes.nd rfl (Or.inl rfl))) (fun _ _ _ _ _ => dts_nil) (fun _ _ _ _ _ => (dx_op (op_add4 rfl) opd_add dx_int (dx_cal F_law_draw (hr.mono (by decide)) (by rfl) passL (by rfl) (by decide) (dr_s 0 (pv 0) (dr_v dx_int dr_nil))))) s H)))⟩
end
def ocT : OcT := (ocC "Store" m_Store__eq (ocC "Flush" m_Flush__eq (ocC "Copy" m_Copy__eq (ocC "Is" m_Is__eq (ocC "Fence" m_Fence__eq (ocC "Memory" m_Memory__eq ocN))))))
abbrev s_law_memory_right : Stmt := topS 22
abbrev N_law_memory_right : List Str := ["_law_source_here", "_law_handed", "_law_due", "_law_first", "_law_at", "_law_other", "_law_thing"]
theorem sc_law_memory_right : FnScope N_law_memory_right ["_law_source_here"] (defScope s_law_memory_right) := ⟨rfl, rfl, rfl, by decide +kernel, rfl, by decide +kernel, by decide +kernel⟩
def i_law_memory_right_1 : Dl → Rs (List Dv) := (cSeqOf (cLst (cCons (cVar 2) (cCons (cCall fList (cCons (cVar 2) cNil)) (cCons (cC .non) (cCons (cC (.obj ("Fence" : Str) [] [])) (cCons (cC (.int 0)) cNil)))))))
def t_law_memory_right_2 : Dl → Rs Bool := (cOr (cTest (cEqY (eqT ocT okI isbL 0) id (cVar 3) (cVar 6))) (cNot (cTest (cEqY (eqT ocT okI isbL 0) not (cVar 3) (cVar 6)))))
def e_law_memory_right_3 : Dl → Rs Dv := (cVar 6)
def l_law_memory_right_4 : Dl → Fl := (cSeq (cSet 5 (cCall fList (cCons (cVar 2) cNil)))
    (cSeq (cSub 5 (cOp add2 (cOp mod2 (cOp fIx (cVar 5) (cVar 4)) (cC (.int 4))) (cC (.int 1))) (cVar 4))
    (cIfS (cOr (cTest (cEqY (eqT ocT okI isbL 0) id (cMk ("Memory" : Str) [Kd.b] [some 5] m_Memory__init (cSlot 5 cNil)) (cVar 3))) (cOr (cNot (cTest (cEqY (eqT ocT okI isbL 0) not (cMk ("Memory" : Str) [Kd.b] [some 5] m_Memory__init (cSlot 5 cNil)) (cVar 3)))) (cTest (cEqY (eqT ocT okI isbL 0) not (cMk ("Memory" : Str) [Kd.b] [none] m_Memory__init (cCons (cOp add2 (cSl slB (cVar 2) (cPart none) (cPart (some (cVar 4)))) (cSl slB (cVar 2) (cPart (some (cVar 4))) (cPart none))) cNil)) (cVar 3))))) (cRet (cC (.bl false))) (fun δ => .nx δ))))
def b_law_memory_right : Dl → Fl := (cSeq (cSet 1 (cFn [Kd.p, Kd.v] [some 0, none] m_law_sizes (cSlot 0 (cCons (cC (.int 6)) cNil))))
    (cSeq (cSet 2 (cCall fTuple (cCons (cVar 1) cNil)))
    (cSeq (cSet 3 (cMk ("Memory" : Str) [Kd.b] [some 1] m_Memory__init (cSlot 1 cNil)))
    (cSeq (cDrop (cApp 1 (cC (.int 1))))
    (cSeq (cIfS (cOr (cTest (cOp ne2 (cUn (fFld okA ("sizes" : Str)) (cVar 3)) (cVar 2))) (cOr (cNot (cTest (cUn (fIsT "tuple") (cUn (fFld okA ("sizes" : Str)) (cVar 3))))) (cTest (cEqY (eqT ocT okI isbL 0) not (cVar 3) (cMk ("Memory" : Str) [Kd.b] [none] m_Memory__init (cCons (cVar 2) cNil)))))) (cRet (cC (.bl false))) (fun δ => .nx δ))
    (cSeq (cFor (cIt fRng1 (cCons (cCall fLen (cCons (cVar 2) cNil)) cNil)) (gN 4) l_law_memory_right_4)
    (cSeq (cIfS (cAnd (cTest (cOp gt2 (cCall fLen (cCons (cVar 2) cNil)) (cC (.int 1)))) (cTest (cEqY (eqT ocT okI isbL 0) id (cMk ("Memory" : Str) [Kd.b] [none] m_Memory__init (cCons (cSl slB (cVar 2) (cPart (some (cC (.int 1)))) (cPart none)) cNil)) (cVar 3)))) (cRet (cC (.bl false))) (fun δ => .nx δ))
    (cRet (cOp eq2 (cComp i_law_memory_right_1 (gN 6) t_law_memory_right_2 e_law_memory_right_3 [6]) (cLst cNil))))))))))
def m_law_memory_right : List Dv → Rs Dv := runD [Kd.p] .v 6 b_law_memory_right
section
variable {P : Program} {w : World} {K : PySem.W.Frag} {ct : Ct} {mg : Str → Option Value} {base : Heap}
theorem ok_law_memory_right {f : Addr} {fd : FuncData} (F : Fun K "_law_memory_right" "_law_memory_right" s_law_memory_right f fd) (T : TF P w K ct mg base) (M_Memory : Mak P w K mg base (L2.CX P w) "Memory" (ct "Memory") 4 ["self", "sizes"] (spD K ct [Kd.p, Kd.b] .v m_Memory__init)) (F_law_sizes : Cal P w K mg base (L2.CX P w) "_law_sizes" 2 ["_law_source_here", "_law_most"] (spD K ct [Kd.p, Kd.v] .f m_law_sizes)) (N_Memory_sizes : Nak P w K mg base (L2.CX P w) "Memory" (ct "Memory") 4 ["self", "sizes"] (spD K ct [Kd.p, Kd.b] .v m_Memory__init) ["sizes"] [0]) (ET : EqTabP P w K mg base ct 1 ocT) (NET : NeT K ct ocT) :
    FnOk P w K mg base (L2.CX P w) 6 f fd ["_law_source_here"] (spD K ct [Kd.p] .v m_law_memory_right) :=
  fnD (kall := fun i => ([Kd.p, Kd.o, Kd.v, Kd.v, Kd.v, Kd.o, Kd.v] : List Kd).getD i .v) F sc_law_memory_right rfl rfl (hk_take (n := 1) rfl rfl) (by decide) fun cdv A outer s H E pc be hr => ⟨_, (dss_cons (ds_setO (i := 1) rfl sc_law_memory_right.nd rfl (Or.inl rfl) (dx_cal F_law_sizes (hr.mono (by decide)) (by rfl) (passes_call (takes_of rfl rfl rfl rfl) (fun _ _ _ _ h => h)) (by rfl) (by decide) (dr_s 0 (pv 0) (dr_v dx_int dr_nil))))
    (dss_cons (ds_set (i := 2) rfl sc_law_memory_right.nd rfl (Or.inl rfl) (dx_callTy (call_tupleK rfl) cald_tuple (by rfl) T.b_tuple (by decide +kernel) (da_consb (dx_b 1 (pv 1)) da_nilb)))
    (dss_cons (ds_set (i := 3) rfl sc_law_memory_right.nd rfl (Or.inr rfl) (dx_mak M_Memory (hr.mono (by decide)) (by rfl) (passes_call (takes_of rfl rfl rfl rfl) (fun _ _ _ _ h => h)) rfl (by rfl) (dr_s 1 (pv 1) dr_nil)))
    (dss_cons (ds_expr (dx_appF 1 rfl (by decide) dx_int fun h => pe_bm PySem.F.plainAttrs_list PySem.F.slot_list_append PySem.F.type_list_append mt_append (pv 1) (pa_cons h pa_nil)))
    (dss_cons (ds_if (DW.dt (dw_or (dt_cmp (op_neDK rfl hr.units) opd_ne (dx_fld T.cl (dx_v 3 rfl (pv 3))) (dx_v 2 rfl (pv 2)) (nomark _)) (dw_or (dt_not (dt_val (dx_isiT (dx_fld T.cl (dx_v 3 rfl (pv 3))) T.b_isinstance T.b_tuple (by decide +kernel)))) (dw_or1 (dt_eqY (op_rn (eqT_rn ET NET T.isa T.isb (passes_call (takes_of rfl rfl rfl rfl) (fun _ _ _ _ h => h)) 0) (hr.mono (by decide))) (dx_v 3 rfl (pv 3)) (dx_mk (es := [.Name "_law_due" ⟨0, 0, 0, 0⟩]) rfl (by rfl) (dr_v (dx_v 2 rfl (pv 2)) dr_nil) (pe_by (pe_nak N_Memory_sizes (hr.mono (by decide)) (by rfl) (passes_call (takes_of rfl rfl rfl rfl) (fun _ _ _ _ h => h)) (pk_cons (pv 2) pk_nil)) (fun _ _ _ z => match z with | ⟨v0, h0, z⟩ => ⟨v0, h0, rfl, rfl, z⟩))) (nomark _)))))) (dss_one (ds_ret dx_bl)) dss_nil)
    (dss_cons (ds_for (passes_of rfl) rfl (di_range1 (by rfl) T.b_range (da_cons (dx_callB (call_len4 rfl) cald_len (by rfl) T.b_len (by decide +kernel) (da_cons (dx_v 2 rfl (pv 2)) da_nil)) da_nil)) (dg_name (i := 4) rfl sc_law_memory_right.nd rfl (Or.inl rfl)) (dss_cons (ds_setO (i := 5) rfl sc_law_memory_right.nd rfl (Or.inl rfl) (dx_callTy (call_listK rfl) cald_list (by rfl) T.b_list (by decide +kernel) (da_cons (dx_v 2 rfl (pv 2)) da_nil)))
    (dss_cons (ds_subF 5 rfl (dx_op (op_add4 rfl) opd_add (dx_op op_mod opd_mod (dx_ix (ix_seqK rfl) opd_ix (dx_b 5 (pv 5)) (dx_v 4 rfl (pv 4))) dx_int) dx_int) (pv 5) (dx_v 4 rfl (pv 4)) fun h hk => ps_asg h (pg_sub (pv 5) hk set_list))
    (dss_one (ds_if (DW.dt (dw_or (dt_eqY (op_rc (eqT_rc ET T.isa T.isb (passes_call (takes_of rfl rfl rfl rfl) (fun _ _ _ _ h => h)) 0) (hr.mono (by decide))) (dx_mak M_Memory (hr.mono (by decide)) (by rfl) (passes_call (takes_of rfl rfl rfl rfl) (fun _ _ _ _ h => h)) rfl (by rfl) (dr_s 5 (pv 5) dr_nil)) (dx_v 3 rfl (pv 3)) (nomark _)) (dw_or (dt_not (dt_eqY (op_rn (eqT_rn ET NET T.isa T.isb (passes_call (takes_of rfl rfl rfl rfl) (fun _ _ _ _ h => h)) 0) (hr.mono (by decide))) (dx_mak M_Memory (hr.mono (by decide)) (by rfl) (passes_call (takes_of rfl rfl rfl rfl) (fun _ _ _ _ h => h)) rfl (by rfl) (dr_s 5 (pv 5) dr_nil)) (dx_v 3 rfl (pv 3)) (nomark _))) (dw_or1 (dt_eqY (op_rn (eqT_rn ET NET T.isa T.isb (passes_call (takes_of rfl rfl rfl rfl) (fun _ _ _ _ h => h)) 0) (hr.mono (by decide))) (dx_mak M_Memory (hr.mono (by decide)) (by rfl) (passes_call (takes_of rfl rfl rfl rfl) (fun _ _ _ _ h => h)) rfl (by rfl) (dr_v (dx_op (op_add4 rfl) opd_add (dx_sliceQ (sl_B rfl) sld_B (dx_v 2 rfl (pv 2)) dp_none (dp_some (dx_v 4 rfl (pv 4)))) (dx_sliceQ (sl_B rfl) sld_B (dx_v 2 rfl (pv 2)) (dp_some (dx_v 4 rfl (pv 4))) dp_none)) dr_nil)) (dx_v 3 rfl (pv 3)) (nomark _)))))) (dss_one (ds_ret dx_bl)) dss_nil)))))
    (dss_cons (ds_if (DW.dt (dw_and (dt_cmp op_gt opd_gt (dx_callB (call_len4 rfl) cald_len (by rfl) T.b_len (by decide +kernel) (da_cons (dx_v 2 rfl (pv 2)) da_nil)) dx_int (nomark _)) (dw_and1 (dt_eqY (op_rc (eqT_rc ET T.isa T.isb (passes_call (takes_of rfl rfl rfl rfl) (fun _ _ _ _ h => h)) 0) (hr.mono (by decide))) (dx_mak M_Memory (hr.mono (by decide)) (by rfl) (passes_call (takes_of rfl rfl rfl rfl) (fun _ _ _ _ h => h)) rfl (by rfl) (dr_v (dx_sliceQ (sl_B rfl) sld_B (dx_v 2 rfl (pv 2)) (dp_some dx_int) dp_none) dr_nil)) (dx_v 3 rfl (pv 3)) (nomark _))))) (dss_one (ds_ret dx_bl)) dss_nil)
    (dss_one (ds_ret (dx_cmp (op_eqDK rfl hr.units) opd_eq (dx_lc (own := [("_law_thing", 6)]) (g := gName 6) (by rfl) sc_law_memory_right.nd (di_seq (DX.vl (dx_lst (da_cons (dx_v 2 rfl (pv 2)) (da_cons (dx_callTy (call_listK rfl) cald_list (by rfl) T.b_list (by decide +kernel) (da_cons (dx_v 2 rfl (pv 2)) da_nil)) (da_cons dx_non (da_cons (dx_bar T.B_Fence (by rfl) rfl) (da_cons dx_int da_nil)))))))) (blkOk_by (own := [("_law_thing", 6)]) (N := N_law_memory_right) (sc := defScope s_law_memory_right) (by decide +kernel)) (fun _ _ _ _ _ => (dg_name (i := 6) rfl sc_law_memory_right.nd rfl (Or.inl rfl))) (fun _ _ _ _ _ => (dts_one (DW.dt (dw_or (dt_eqY (op_rc (eqT_rc ET T.isa T.isb passL 0) (hr.mono (by decide))) (dx_v 3 rfl (pv 3)) (dx_v 6 rfl (pv 6)) (nomark _)) (dw_or1 (dt_not (dt_eqY (op_rn (eqT_rn ET NET T.isa T.isb passL 0) (hr.mono (by decide))) (dx_v 3 rfl (pv 3)) (dx_v 6 rfl (pv 6)) (nomark _)))))))) (fun _ _ _ _ _ => (dx_v 6 rfl (pv 6))) s H) (dx_lst da_nil) (nomark _)))))))))))⟩
end
abbrev s_law_pick : Stmt := topS 19
abbrev N_law_pick : List Str := ["_law_source_here", "_law_items"]
theorem sc_law_pick : FnScope N_law_pick ["_law_source_here", "_law_items"] (defScope s_law_pick) := ⟨rfl, rfl, rfl, by decide +kernel, rfl, by decide +kernel, by decide +kernel⟩
def b_law_pick : Dl → Fl := (cRet (cOp fIx (cVar 1) (cFn [Kd.p, Kd.v] [some 0, none] m_law_draw (cSlot 0 (cCons (cCall fLen (cCons (cVar 1) cNil)) cNil)))))
def m_law_pick : List Dv → Rs Dv := runD [Kd.p, Kd.v] .v 0 b_law_pick
section
variable {P : Program} {w : World} {K : PySem.W.Frag} {ct : Ct} {mg : Str → Option Value} {base : Heap}
theorem ok_law_pick {f : Addr} {fd : FuncData} (F : Fun K "_law_pick" "_law_pick" s_law_pick f fd) (T : TF P w K ct mg base) (F_law_draw : Cal P w K mg base (L2.CX P w) "_law_draw" 1 ["_law_source_here", "_law_many"] (spD K ct [Kd.p, Kd.v] .v m_law_draw)) :
    FnOk P w K mg base (L2.CX P w) 2 f fd ["_law_source_here", "_law_items"] (spD K ct [Kd.p, Kd.v] .v m_law_pick) :=
  fnD (kall := fun i => ([Kd.p, Kd.v] : List Kd).getD i .v) F sc_law_pick rfl rfl (hk_take (n := 2) rfl rfl) (by decide) fun cdv A outer s H E pc be hr => ⟨_, (dss_one (ds_ret (dx_ix (ix_seqK rfl) opd_ix (dx_v 1 rfl (pv 1)) (dx_cal F_law_draw (hr.mono (by decide)) (by rfl) (passes_call (takes_of rfl rfl rfl rfl) (fun _ _ _ _ h => h)) (by rfl) (by decide) (dr_s 0 (pv 0) (dr_v (dx_callB (call_len4 rfl) cald_len (by rfl) T.b_len (by decide +kernel) (da_cons (dx_v 1 rfl (pv 1)) da_nil)) dr_nil))))))⟩
end
abbrev s_law_number : Stmt := topS 21
abbrev N_law_number : List Str := ["_law_source_here", "_law_great"]
theorem sc_law_number : FnScope N_law_number ["_law_source_here"] (defScope s_law_number) := ⟨rfl, rfl, rfl, by decide +kernel, rfl, by decide +kernel, by decide +kernel⟩
def b_law_number : Dl → Fl := (cSeq (cSet 1 (cOp add2 (cOp pow2 (cC (.int 10)) (cC (.int 30))) (cFn [Kd.p, Kd.v] [some 0, none] m_law_draw (cSlot 0 (cCons (cOp pow2 (cC (.int 10)) (cC (.int 9))) cNil)))))
    (cRet (cFn [Kd.p, Kd.v] [some 0, none] m_law_pick (cSlot 0 (cCons (cLst (cCons (cC (.int 0)) (cCons (cC (.int 1)) (cCons (cC (.int 2)) (cCons (cUn neg1 (cC (.int 1))) (cCons (cC (.int 7)) (cCons (cVar 1) (cCons (cOp sub2 (cC (.int 0)) (cVar 1)) (cCons (cFn [Kd.p, Kd.v] [some 0, none] m_law_draw (cSlot 0 (cCons (cC (.int 1000)) cNil))) cNil))))))))) cNil)))))
def m_law_number : List Dv → Rs Dv := runD [Kd.p] .v 1 b_law_number
section
variable {P : Program} {w : World} {K : PySem.W.Frag} {ct : Ct} {mg : Str → Option Value} {base : Heap}
theorem ok_law_number {f : Addr} {fd : FuncData} (F : Fun K "_law_number" "_law_number" s_law_number f fd) (T : TF P w K ct mg base) (F_law_draw : Cal P w K mg base (L2.CX P w) "_law_draw" 1 ["_law_source_here", "_law_many"] (spD K ct [Kd.p, Kd.v] .v m_law_draw)) (F_law_pick : Cal P w K mg base (L2.CX P w) "_law_pick" 2 ["_law_source_here", "_law_items"] (spD K ct [Kd.p, Kd.v] .v m_law_pick)) :
    FnOk P w K mg base (L2.CX P w) 3 f fd ["_law_source_here"] (spD K ct [Kd.p] .v m_law_number) :=
  fnD (kall := fun i => ([Kd.p, Kd.v] : List Kd).getD i .v) F sc_law_number rfl rfl (hk_take (n := 1) rfl rfl) (by decide) fun cdv A outer s H E pc be hr => ⟨_, (dss_cons (ds_set (i := 1) rfl sc_law_number.nd rfl (Or.inl rfl) (dx_op (op_add4 rfl) opd_add (dx_op op_pow opd_pow dx_int dx_int) (dx_cal F_law_draw (hr.mono (by decide)) (by rfl) (passes_call (takes_of rfl rfl rfl rfl) (fun _ _ _ _ h => h)) (by rfl) (by decide) (dr_s 0 (pv 0) (dr_v (dx_op op_pow opd_pow dx_int dx_int) dr_nil)))))
    (dss_one (ds_ret (dx_cal F_law_pick (hr.mono (by decide)) (by rfl) (passes_call (takes_of rfl rfl rfl rfl) (fun _ _ _ _ h => h)) (by rfl) (by decide) (dr_s 0 (pv 0) (dr_v (dx_lst (da_cons dx_int (da_cons dx_int (da_cons dx_int (da_cons (dx_un un_neg und_neg dx_int) (da_cons dx_int (da_cons (dx_v 1 rfl (pv 1)) (da_cons (dx_op op_sub opd_sub dx_int (dx_v 1 rfl (pv 1))) (da_cons (dx_cal F_law_draw (hr.mono (by decide)) (by rfl) (passes_call (takes_of rfl rfl rfl rfl) (fun _ _ _ _ h => h)) (by rfl) (by decide) (dr_s 0 (pv 0) (dr_v dx_int dr_nil))) da_nil))))))))) dr_nil))))))⟩
end
abbrev s_Is__init : Stmt := inClass (topS 13) 0
abbrev N_Is__init : List Str := ["self", "line", "word", "numbers"]
theorem sc_Is__init : FnScope N_Is__init ["self", "line", "word", "numbers"] (defScope s_Is__init) := ⟨rfl, rfl, rfl, by decide +kernel, rfl, by decide +kernel, by decide +kernel⟩
def b_Is__init : Dl → Fl := (cSeq (cFld okA 0 ("line" : Str) (cVar 1))
    (cSeq (cFld okA 0 ("word" : Str) (cVar 2))
    (cFld okA 0 ("numbers" : Str) (cCall fTuple (cCons (cCall fSS (cCons (cVar 3) cNil)) cNil)))))
def m_Is__init : List Dv → Rs Dv := runD [Kd.p, Kd.v, Kd.v, Kd.v] .v 0 b_Is__init
section
variable {P : Program} {w : World} {K : PySem.W.Frag} {ct : Ct} {mg : Str → Option Value} {base : Heap}
theorem ok_Is__init {f : Addr} {fd : FuncData} (F : Fun K "__init__" "Is.__init__" s_Is__init f fd) (T : TF P w K ct mg base)  :
    FnOk P w K mg base (L2.CX P w) 1 f fd ["self", "line", "word", "numbers"] (spD K ct [Kd.p, Kd.v, Kd.v, Kd.v] .v m_Is__init) :=
  fnD (kall := fun i => ([Kd.p, Kd.v, Kd.v, Kd.v] : List Kd).getD i .v) F sc_Is__init rfl rfl (hk_take (n := 4) rfl rfl) (by decide) fun cdv A outer s H E pc be hr => ⟨_, (dss_cons (ds_fld T.cl 0 rfl (pv 0) (dx_v 1 rfl (pv 1)))
    (dss_cons (ds_fld T.cl 0 rfl (pv 0) (dx_v 2 rfl (pv 2)))
    (dss_one (ds_fld T.cl 0 rfl (pv 0) (dx_callTy (call_tupleK rfl) cald_tuple (by rfl) T.b_tuple (by decide +kernel) (da_cons (dx_SS rfl rfl (by rfl) T.b_sorted (by rfl) T.b_set (da_cons (dx_v 3 rfl (pv 3)) da_nil)) da_nil))))))⟩
end
abbrev s_law_right : Stmt := topS 23
abbrev N_law_right : List Str := ["_law_source_here", "_law_a", "_law_b", "_law_c", "_law_d", "_law_k", "_law_first", "_law_second", "_law_third", "_law_others", "_law_mine", "_law_thing", "_law_x"]
theorem sc_law_right : FnScope N_law_right ["_law_source_here"] (defScope s_law_right) := ⟨rfl, rfl, rfl, by decide +kernel, rfl, by decide +kernel, by decide +kernel⟩
def i_law_right_1 : Dl → Rs (List Dv) := (cSeqOf (cVar 9))
def t_law_right_2 : Dl → Rs Bool := (cNot (cTest (cEqY (eqT ocT okI isbL 0) not (cVar 10) (cVar 12))))
def e_law_right_3 : Dl → Rs Dv := (cVar 12)
def t_law_right_4 : Dl → Rs Bool := (cTest (cEqY (eqT ocT okI isbL 0) id (cVar 10) (cVar 11)))
def e_law_right_5 : Dl → Rs Dv := (cVar 11)
def l_law_right_6 : Dl → Fl := (cIfS (cOr (cTest (cOp ne2 (cCall fLen (cCons (cComp i_law_right_1 (gN 11) t_law_right_4 e_law_right_5 [11]) cNil)) (cC (.int 1)))) (cTest (cOp ne2 (cCall fLen (cCons (cComp i_law_right_1 (gN 12) t_law_right_2 e_law_right_3 [12]) cNil)) (cC (.int 1))))) (cRet (cC (.bl false))) (fun δ => .nx δ))
def i_law_right_7 : Dl → Rs (List Dv) := (cIt fRng1 (cCons (cC (.int 4)) cNil))
def e_law_right_8 : Dl → Rs Dv := (cFn [Kd.p] [some 0] m_law_number (cSlot 0 cNil))
def b_law_right : Dl → Fl := (cSeq (cAsg (gLst2 4 (gCons2 (gN 1) (gCons2 (gN 2) (gCons2 (gN 3) (gCons2 (gN 4) gNil2))))) (cComp i_law_right_7 (gN 5) cTrue e_law_right_8 [5]))
    (cSeq (cPar3 6 7 8 (cCons (cMk ("Store" : Str) [Kd.v, Kd.v, Kd.v] [none, none, none] m_Store__init (cCons (cVar 1) (cCons (cVar 2) (cCons (cVar 3) cNil)))) (cCons (cMk ("Flush" : Str) [Kd.v] [none] m_Flush__init (cCons (cVar 1) cNil)) (cCons (cMk ("Copy" : Str) [Kd.v, Kd.v, Kd.v, Kd.v] [none, none, none, none] m_Copy__init (cCons (cVar 1) (cCons (cVar 2) (cCons (cVar 3) (cCons (cVar 4) cNil))))) cNil))))
    (cSeq (cIfS (cTest (cOp ne2 (cTup (cCons (cUn (fFld okA ("line" : Str)) (cVar 6)) (cCons (cUn (fFld okA ("word" : Str)) (cVar 6)) (cCons (cUn (fFld okA ("number" : Str)) (cVar 6)) (cCons (cUn (fFld okA ("line" : Str)) (cVar 7)) cNil))))) (cTup (cCons (cVar 1) (cCons (cVar 2) (cCons (cVar 3) (cCons (cVar 1) cNil))))))) (cRet (cC (.bl false))) (fun δ => .nx δ))
    (cSeq (cIfS (cTest (cOp ne2 (cTup (cCons (cUn (fFld okA ("line" : Str)) (cVar 8)) (cCons (cUn (fFld okA ("word" : Str)) (cVar 8)) (cCons (cUn (fFld okA ("from_line" : Str)) (cVar 8)) (cCons (cUn (fFld okA ("from_word" : Str)) (cVar 8)) cNil))))) (cTup (cCons (cVar 1) (cCons (cVar 2) (cCons (cVar 3) (cCons (cVar 4) cNil))))))) (cRet (cC (.bl false))) (fun δ => .nx δ))
    (cSeq (cIfS (cOr (cTest (cEqY (eqT ocT okI isbL 0) not (cVar 6) (cMk ("Store" : Str) [Kd.v, Kd.v, Kd.v] [none, none, none] m_Store__init (cCons (cVar 1) (cCons (cVar 2) (cCons (cVar 3) cNil)))))) (cOr (cTest (cEqY (eqT ocT okI isbL 0) not (cVar 7) (cMk ("Flush" : Str) [Kd.v] [none] m_Flush__init (cCons (cVar 1) cNil)))) (cTest (cEqY (eqT ocT okI isbL 0) not (cC (.obj ("Fence" : Str) [] [])) (cC (.obj ("Fence" : Str) [] [])))))) (cRet (cC (.bl false))) (fun δ => .nx δ))
    (cSeq (cIfS (cTest (cEqY (eqT ocT okI isbL 0) not (cVar 8) (cMk ("Copy" : Str) [Kd.v, Kd.v, Kd.v, Kd.v] [none, none, none, none] m_Copy__init (cCons (cVar 1) (cCons (cVar 2) (cCons (cVar 3) (cCons (cVar 4) cNil))))))) (cRet (cC (.bl false))) (fun δ => .nx δ))
    (cSeq (cSet 9 (cLst (cCons (cMk ("Store" : Str) [Kd.v, Kd.v, Kd.v] [none, none, none] m_Store__init (cCons (cOp add2 (cVar 1) (cC (.int 1))) (cCons (cVar 2) (cCons (cVar 3) cNil)))) (cCons (cMk ("Store" : Str) [Kd.v, Kd.v, Kd.v] [none, none, none] m_Store__init (cCons (cVar 1) (cCons (cOp add2 (cVar 2) (cC (.int 1))) (cCons (cVar 3) cNil)))) (cCons (cMk ("Store" : Str) [Kd.v, Kd.v, Kd.v] [none, none, none] m_Store__init (cCons (cVar 1) (cCons (cVar 2) (cCons (cOp add2 (cVar 3) (cC (.int 1))) cNil)))) (cCons (cMk ("Flush" : Str) [Kd.v] [none] m_Flush__init (cCons (cOp add2 (cVar 1) (cC (.int 1))) cNil)) (cCons (cMk ("Copy" : Str) [Kd.v, Kd.v, Kd.v, Kd.v] [none, none, none, none] m_Copy__init (cCons (cOp add2 (cVar 1) (cC (.int 1))) (cCons (cVar 2) (cCons (cVar 3) (cCons (cVar 4) cNil))))) cNil)))))))
    (cSeq (cSet 9 (cOp add2 (cVar 9) (cLst (cCons (cMk ("Copy" : Str) [Kd.v, Kd.v, Kd.v, Kd.v] [none, none, none, none] m_Copy__init (cCons (cVar 1) (cCons (cOp add2 (cVar 2) (cC (.int 1))) (cCons (cVar 3) (cCons (cVar 4) cNil))))) (cCons (cMk ("Copy" : Str) [Kd.v, Kd.v, Kd.v, Kd.v] [none, none, none, none] m_Copy__init (cCons (cVar 1) (cCons (cVar 2) (cCons (cOp add2 (cVar 3) (cC (.int 1))) (cCons (cVar 4) cNil))))) (cCons (cMk ("Copy" : Str) [Kd.v, Kd.v, Kd.v, Kd.v] [none, none, none, none] m_Copy__init (cCons (cVar 1) (cCons (cVar 2) (cCons (cVar 3) (cCons (cOp add2 (cVar 4) (cC (.int 1))) cNil))))) (cCons (cMk ("Is" : Str) [Kd.v, Kd.v, Kd.v] [none, none, none] m_Is__init (cCons (cVar 1) (cCons (cVar 2) (cCons (cLst (cCons (cVar 3) cNil)) cNil)))) (cCons (cTup (cCons (cVar 1) (cCons (cVar 2) (cCons (cVar 3) cNil)))) (cCons (cC .non) cNil)))))))))
    (cSeq (cSet 9 (cOp add2 (cVar 9) (cLst (cCons (cVar 6) (cCons (cVar 7) (cCons (cVar 8) (cCons (cC (.obj ("Fence" : Str) [] [])) (cCons (cTup (cCons (cVar 1) cNil)) (cCons (cTup (cCons (cVar 1) (cCons (cVar 2) (cCons (cVar 3) (cCons (cVar 4) cNil))))) cNil)))))))))
    (cSeq (cFor (cSeqOf (cLst (cCons (cVar 6) (cCons (cVar 7) (cCons (cVar 8) (cCons (cC (.obj ("Fence" : Str) [] [])) cNil)))))) (gN 10) l_law_right_6)
    (cRet (cFn [Kd.p] [some 0] m_law_memory_right (cSlot 0 cNil)))))))))))))
def m_law_right : List Dv → Rs Dv := runD [Kd.p] .v 12 b_law_right
section
variable {P : Program} {w : World} {K : PySem.W.Frag} {ct : Ct} {mg : Str → Option Value} {base : Heap}
theorem ok_law_right {f : Addr} {fd : FuncData} (F : Fun K "_law_right" "_law_right" s_law_right f fd) (T : TF P w K ct mg base) (M_Copy : Mak P w K mg base (L2.CX P w) "Copy" (ct "Copy") 1 ["self", "line", "word", "from_line", "from_word"] (spD K ct [Kd.p, Kd.v, Kd.v, Kd.v, Kd.v] .v m_Copy__init)) (M_Flush : Mak P w K mg base (L2.CX P w) "Flush" (ct "Flush") 1 ["self", "line"] (spD K ct [Kd.p, Kd.v] .v m_Flush__init)) (M_Is : Mak P w K mg base (L2.CX P w) "Is" (ct "Is") 1 ["self", "line", "word", "numbers"] (spD K ct [Kd.p, Kd.v, Kd.v, Kd.v] .v m_Is__init)) (M_Store : Mak P w K mg base (L2.CX P w) "Store" (ct "Store") 1 ["self", "line", "word", "number"] (spD K ct [Kd.p, Kd.v, Kd.v, Kd.v] .v m_Store__init)) (F_law_memory_right : Cal P w K mg base (L2.CX P w) "_law_memory_right" 6 ["_law_source_here"] (spD K ct [Kd.p] .v m_law_memory_right)) (F_law_number : Cal P w K mg base (L2.CX P w) "_law_number" 3 ["_law_source_here"] (spD K ct [Kd.p] .v m_law_number)) (N_Copy_from_word_from_line_word_line : Nak P w K mg base (L2.CX P w) "Copy" (ct "Copy") 1 ["self", "line", "word", "from_line", "from_word"] (spD K ct [Kd.p, Kd.v, Kd.v, Kd.v, Kd.v] .v m_Copy__init) ["from_word", "from_line", "word", "line"] [3, 2, 1, 0]) (N_Store_number_word_line : Nak P w K mg base (L2.CX P w) "Store" (ct "Store") 1 ["self", "line", "word", "number"] (spD K ct [Kd.p, Kd.v, Kd.v, Kd.v] .v m_Store__init) ["number", "word", "line"] [2, 1, 0]) (N_Flush_line : Nak P w K mg base (L2.CX P w) "Flush" (ct "Flush") 1 ["self", "line"] (spD K ct [Kd.p, Kd.v] .v m_Flush__init) ["line"] [0]) (ET : EqTabP P w K mg base ct 1 ocT) (NET : NeT K ct ocT) :
    FnOk P w K mg base (L2.CX P w) 7 f fd ["_law_source_here"] (spD K ct [Kd.p] .v m_law_right) :=
  fnD (kall := fun i => ([Kd.p, Kd.v, Kd.v, Kd.v, Kd.v, Kd.v, Kd.v, Kd.v, Kd.v, Kd.v, Kd.v, Kd.v, Kd.v] : List Kd).getD i .v) F sc_law_right rfl rfl (hk_take (n := 1) rfl rfl) (by decide) fun cdv A outer s H E pc be hr => ⟨_, (dss_cons (ds_asg (DX.vl (dx_lc (own := [("_law_k", 5)]) (g := gName 5) (tt := tYes) (by rfl) sc_law_right.nd (di_range1 (by rfl) T.b_range (da_cons dx_int da_nil)) (blkOk_by (own := [("_law_k", 5)]) (N := N_law_right) (sc := defScope s_law_right) (by decide +kernel)) (fun _ _ _ _ _ => (dg_name (i := 5) rfl sc_law_right.nd rfl (Or.inl rfl))) (fun _ _ _ _ _ => dts_nil) (fun _ _ _ _ _ => (dx_cal F_law_number (hr.mono (by decide)) (by rfl) passL (by rfl) (by decide) (dr_s 0 (pv 0) dr_nil))) s H)) (dg_lst (by rfl) (dgl_cons (dg_name (i := 1) rfl sc_law_right.nd rfl (Or.inl rfl)) (dgl_cons (dg_name (i := 2) rfl sc_law_right.nd rfl (Or.inl rfl)) (dgl_cons (dg_name (i := 3) rfl sc_law_right.nd rfl (Or.inl rfl)) (dgl_cons (dg_name (i := 4) rfl sc_law_right.nd rfl (Or.inl rfl)) dgl_nil))))))
    (dss_cons (ds_par3F (i := 6) (j := 7) (l := 8) rfl rfl rfl (da_cons (dx_mak M_Store (hr.mono (by decide)) (by rfl) (passes_call (takes_of rfl rfl rfl rfl) (fun _ _ _ _ h => h)) rfl (by rfl) (dr_v (dx_v 1 rfl (pv 1)) (dr_v (dx_v 2 rfl (pv 2)) (dr_v (dx_v 3 rfl (pv 3)) dr_nil)))) (da_cons (dx_mak M_Flush (hr.mono (by decide)) (by rfl) (passes_call (takes_of rfl rfl rfl rfl) (fun _ _ _ _ h => h)) rfl (by rfl) (dr_v (dx_v 1 rfl (pv 1)) dr_nil)) (da_cons (dx_mak M_Copy (hr.mono (by decide)) (by rfl) (passes_call (takes_of rfl rfl rfl rfl) (fun _ _ _ _ h => h)) rfl (by rfl) (dr_v (dx_v 1 rfl (pv 1)) (dr_v (dx_v 2 rfl (pv 2)) (dr_v (dx_v 3 rfl (pv 3)) (dr_v (dx_v 4 rfl (pv 4)) dr_nil))))) da_nil))) fun h => ps_par3 (by rfl) sc_law_right.nd rfl rfl rfl (by decide) (by decide) (by decide) rfl rfl rfl h (by rfl))
    (dss_cons (ds_if (dt_cmp (op_neDK rfl hr.units) opd_ne (dx_tup (da_cons (dx_fld T.cl (dx_v 6 rfl (pv 6))) (da_cons (dx_fld T.cl (dx_v 6 rfl (pv 6))) (da_cons (dx_fld T.cl (dx_v 6 rfl (pv 6))) (da_cons (dx_fld T.cl (dx_v 7 rfl (pv 7))) da_nil))))) (dx_tup (da_cons (dx_v 1 rfl (pv 1)) (da_cons (dx_v 2 rfl (pv 2)) (da_cons (dx_v 3 rfl (pv 3)) (da_cons (dx_v 1 rfl (pv 1)) da_nil))))) (nomark _)) (dss_one (ds_ret dx_bl)) dss_nil)
    (dss_cons (ds_if (dt_cmp (op_neDK rfl hr.units) opd_ne (dx_tup (da_cons (dx_fld T.cl (dx_v 8 rfl (pv 8))) (da_cons (dx_fld T.cl (dx_v 8 rfl (pv 8))) (da_cons (dx_fld T.cl (dx_v 8 rfl (pv 8))) (da_cons (dx_fld T.cl (dx_v 8 rfl (pv 8))) da_nil))))) (dx_tup (da_cons (dx_v 1 rfl (pv 1)) (da_cons (dx_v 2 rfl (pv 2)) (da_cons (dx_v 3 rfl (pv 3)) (da_cons (dx_v 4 rfl (pv 4)) da_nil))))) (nomark _)) (dss_one (ds_ret dx_bl)) dss_nil)
    (dss_cons (ds_if (DW.dt (dw_or (dt_eqY (op_rn (eqT_rn ET NET T.isa T.isb (passes_call (takes_of rfl rfl rfl rfl) (fun _ _ _ _ h => h)) 0) (hr.mono (by decide))) (dx_v 6 rfl (pv 6)) (dx_mk (es := [.Name "_law_a" ⟨0, 0, 0, 0⟩, .Name "_law_b" ⟨0, 0, 0, 0⟩, .Name "_law_c" ⟨0, 0, 0, 0⟩]) rfl (by rfl) (dr_v (dx_v 1 rfl (pv 1)) (dr_v (dx_v 2 rfl (pv 2)) (dr_v (dx_v 3 rfl (pv 3)) dr_nil))) (pe_by (pe_nak N_Store_number_word_line (hr.mono (by decide)) (by rfl) (passes_call (takes_of rfl rfl rfl rfl) (fun _ _ _ _ h => h)) (pk_cons (pv 3) (pk_cons (pv 2) (pk_cons (pv 1) pk_nil)))) (fun _ _ _ z => match z with | ⟨v2, h2, v1, h1, v0, h0, z⟩ => ⟨v0, h0, v1, h1, v2, h2, rfl, rfl, z⟩))) (nomark _)) (dw_or (dt_eqY (op_rn (eqT_rn ET NET T.isa T.isb (passes_call (takes_of rfl rfl rfl rfl) (fun _ _ _ _ h => h)) 0) (hr.mono (by decide))) (dx_v 7 rfl (pv 7)) (dx_mk (es := [.Name "_law_a" ⟨0, 0, 0, 0⟩]) rfl (by rfl) (dr_v (dx_v 1 rfl (pv 1)) dr_nil) (pe_by (pe_nak N_Flush_line (hr.mono (by decide)) (by rfl) (passes_call (takes_of rfl rfl rfl rfl) (fun _ _ _ _ h => h)) (pk_cons (pv 1) pk_nil)) (fun _ _ _ z => match z with | ⟨v0, h0, z⟩ => ⟨v0, h0, rfl, rfl, z⟩))) (nomark _)) (dw_or1 (dt_eqY (op_rn (eqT_rn ET NET T.isa T.isb (passes_call (takes_of rfl rfl rfl rfl) (fun _ _ _ _ h => h)) 0) (hr.mono (by decide))) (dx_bar T.B_Fence (by rfl) rfl) (dx_bar T.B_Fence (by rfl) rfl) (nomark _)))))) (dss_one (ds_ret dx_bl)) dss_nil)
    (dss_cons (ds_if (dt_eqY (op_rn (eqT_rn ET NET T.isa T.isb (passes_call (takes_of rfl rfl rfl rfl) (fun _ _ _ _ h => h)) 0) (hr.mono (by decide))) (dx_v 8 rfl (pv 8)) (dx_mk (es := [.Name "_law_a" ⟨0, 0, 0, 0⟩, .Name "_law_b" ⟨0, 0, 0, 0⟩, .Name "_law_c" ⟨0, 0, 0, 0⟩, .Name "_law_d" ⟨0, 0, 0, 0⟩]) rfl (by rfl) (dr_v (dx_v 1 rfl (pv 1)) (dr_v (dx_v 2 rfl (pv 2)) (dr_v (dx_v 3 rfl (pv 3)) (dr_v (dx_v 4 rfl (pv 4)) dr_nil)))) (pe_by (pe_nak N_Copy_from_word_from_line_word_line (hr.mono (by decide)) (by rfl) (passes_call (takes_of rfl rfl rfl rfl) (fun _ _ _ _ h => h)) (pk_cons (pv 4) (pk_cons (pv 3) (pk_cons (pv 2) (pk_cons (pv 1) pk_nil))))) (fun _ _ _ z => match z with | ⟨v3, h3, v2, h2, v1, h1, v0, h0, z⟩ => ⟨v0, h0, v1, h1, v2, h2, v3, h3, rfl, rfl, z⟩))) (nomark _)) (dss_one (ds_ret dx_bl)) dss_nil)
    (dss_cons (ds_set (i := 9) rfl sc_law_right.nd rfl (Or.inl rfl) (DX.vl (dx_lst (da_cons (dx_mak M_Store (hr.mono (by decide)) (by rfl) (passes_call (takes_of rfl rfl rfl rfl) (fun _ _ _ _ h => h)) rfl (by rfl) (dr_v (dx_op (op_add4 rfl) opd_add (dx_v 1 rfl (pv 1)) dx_int) (dr_v (dx_v 2 rfl (pv 2)) (dr_v (dx_v 3 rfl (pv 3)) dr_nil)))) (da_cons (dx_mak M_Store (hr.mono (by decide)) (by rfl) (passes_call (takes_of rfl rfl rfl rfl) (fun _ _ _ _ h => h)) rfl (by rfl) (dr_v (dx_v 1 rfl (pv 1)) (dr_v (dx_op (op_add4 rfl) opd_add (dx_v 2 rfl (pv 2)) dx_int) (dr_v (dx_v 3 rfl (pv 3)) dr_nil)))) (da_cons (dx_mak M_Store (hr.mono (by decide)) (by rfl) (passes_call (takes_of rfl rfl rfl rfl) (fun _ _ _ _ h => h)) rfl (by rfl) (dr_v (dx_v 1 rfl (pv 1)) (dr_v (dx_v 2 rfl (pv 2)) (dr_v (dx_op (op_add4 rfl) opd_add (dx_v 3 rfl (pv 3)) dx_int) dr_nil)))) (da_cons (dx_mak M_Flush (hr.mono (by decide)) (by rfl) (passes_call (takes_of rfl rfl rfl rfl) (fun _ _ _ _ h => h)) rfl (by rfl) (dr_v (dx_op (op_add4 rfl) opd_add (dx_v 1 rfl (pv 1)) dx_int) dr_nil)) (da_cons (dx_mak M_Copy (hr.mono (by decide)) (by rfl) (passes_call (takes_of rfl rfl rfl rfl) (fun _ _ _ _ h => h)) rfl (by rfl) (dr_v (dx_op (op_add4 rfl) opd_add (dx_v 1 rfl (pv 1)) dx_int) (dr_v (dx_v 2 rfl (pv 2)) (dr_v (dx_v 3 rfl (pv 3)) (dr_v (dx_v 4 rfl (pv 4)) dr_nil))))) da_nil))))))))
    (dss_cons (ds_set (i := 9) rfl sc_law_right.nd rfl (Or.inl rfl) (dx_op (op_add4 rfl) opd_add (dx_v 9 rfl (pv 9)) (dx_lst (da_cons (dx_mak M_Copy (hr.mono (by decide)) (by rfl) (passes_call (takes_of rfl rfl rfl rfl) (fun _ _ _ _ h => h)) rfl (by rfl) (dr_v (dx_v 1 rfl (pv 1)) (dr_v (dx_op (op_add4 rfl) opd_add (dx_v 2 rfl (pv 2)) dx_int) (dr_v (dx_v 3 rfl (pv 3)) (dr_v (dx_v 4 rfl (pv 4)) dr_nil))))) (da_cons (dx_mak M_Copy (hr.mono (by decide)) (by rfl) (passes_call (takes_of rfl rfl rfl rfl) (fun _ _ _ _ h => h)) rfl (by rfl) (dr_v (dx_v 1 rfl (pv 1)) (dr_v (dx_v 2 rfl (pv 2)) (dr_v (dx_op (op_add4 rfl) opd_add (dx_v 3 rfl (pv 3)) dx_int) (dr_v (dx_v 4 rfl (pv 4)) dr_nil))))) (da_cons (dx_mak M_Copy (hr.mono (by decide)) (by rfl) (passes_call (takes_of rfl rfl rfl rfl) (fun _ _ _ _ h => h)) rfl (by rfl) (dr_v (dx_v 1 rfl (pv 1)) (dr_v (dx_v 2 rfl (pv 2)) (dr_v (dx_v 3 rfl (pv 3)) (dr_v (dx_op (op_add4 rfl) opd_add (dx_v 4 rfl (pv 4)) dx_int) dr_nil))))) (da_cons (dx_mak M_Is (hr.mono (by decide)) (by rfl) (passes_call (takes_of rfl rfl rfl rfl) (fun _ _ _ _ h => h)) rfl (by rfl) (dr_v (dx_v 1 rfl (pv 1)) (dr_v (dx_v 2 rfl (pv 2)) (dr_v (dx_lst (da_cons (dx_v 3 rfl (pv 3)) da_nil)) dr_nil)))) (da_cons (dx_tup (da_cons (dx_v 1 rfl (pv 1)) (da_cons (dx_v 2 rfl (pv 2)) (da_cons (dx_v 3 rfl (pv 3)) da_nil)))) (da_cons dx_non da_nil)))))))))
    (dss_cons (ds_set (i := 9) rfl sc_law_right.nd rfl (Or.inl rfl) (dx_op (op_add4 rfl) opd_add (dx_v 9 rfl (pv 9)) (dx_lst (da_cons (dx_v 6 rfl (pv 6)) (da_cons (dx_v 7 rfl (pv 7)) (da_cons (dx_v 8 rfl (pv 8)) (da_cons (dx_bar T.B_Fence (by rfl) rfl) (da_cons (dx_tup (da_cons (dx_v 1 rfl (pv 1)) da_nil)) (da_cons (dx_tup (da_cons (dx_v 1 rfl (pv 1)) (da_cons (dx_v 2 rfl (pv 2)) (da_cons (dx_v 3 rfl (pv 3)) (da_cons (dx_v 4 rfl (pv 4)) da_nil))))) da_nil)))))))))
    (dss_cons (ds_for (passes_of rfl) rfl (di_seq (DX.vl (dx_lst (da_cons (dx_v 6 rfl (pv 6)) (da_cons (dx_v 7 rfl (pv 7)) (da_cons (dx_v 8 rfl (pv 8)) (da_cons (dx_bar T.B_Fence (by rfl) rfl) da_nil))))))) (dg_name (i := 10) rfl sc_law_right.nd rfl (Or.inr rfl)) (dss_one (ds_if (DW.dt (dw_or (dt_cmp (op_neDK rfl hr.units) opd_ne (dx_callB (call_len4 rfl) cald_len (by rfl) T.b_len (by decide +kernel) (da_cons (dx_lc (own := [("_law_thing", 11)]) (g := gName 11) (by rfl) sc_law_right.nd (di_seq (dx_v 9 rfl (pv 9))) (blkOk_by (own := [("_law_thing", 11)]) (N := N_law_right) (sc := defScope s_law_right) (by decide +kernel)) (fun _ _ _ _ _ => (dg_name (i := 11) rfl sc_law_right.nd rfl (Or.inl rfl))) (fun _ _ _ _ _ => (dts_one (dt_eqY (op_rc (eqT_rc ET T.isa T.isb passL 0) (hr.mono (by decide))) (dx_v 10 rfl (pv 10)) (dx_v 11 rfl (pv 11)) (nomark _)))) (fun _ _ _ _ _ => (dx_v 11 rfl (pv 11))) s H) da_nil)) dx_int (nomark _)) (dw_or1 (dt_cmp (op_neDK rfl hr.units) opd_ne (dx_callB (call_len4 rfl) cald_len (by rfl) T.b_len (by decide +kernel) (da_cons (dx_lc (own := [("_law_x", 12)]) (g := gName 12) (by rfl) sc_law_right.nd (di_seq (dx_v 9 rfl (pv 9))) (blkOk_by (own := [("_law_x", 12)]) (N := N_law_right) (sc := defScope s_law_right) (by decide +kernel)) (fun _ _ _ _ _ => (dg_name (i := 12) rfl sc_law_right.nd rfl (Or.inl rfl))) (fun _ _ _ _ _ => (dts_one (dt_not (dt_eqY (op_rn (eqT_rn ET NET T.isa T.isb passL 0) (hr.mono (by decide))) (dx_v 10 rfl (pv 10)) (dx_v 12 rfl (pv 12)) (nomark _))))) (fun _ _ _ _ _ => (dx_v 12 rfl (pv 12))) s H) da_nil)) dx_int (nomark _))))) (dss_one (ds_ret dx_bl)) dss_nil)))
    (dss_one (ds_ret (dx_cal F_law_memory_right (hr.mono (by decide)) (by rfl) (passes_call (takes_of rfl rfl rfl rfl) (fun _ _ _ _ h => h)) (by rfl) (by decide) (dr_s 0 (pv 0) dr_nil))))))))))))))⟩
end
abbrev s_law : Stmt := topS 24
abbrev N_law : List Str := ["_law_script", "_law_cell", "_law_source_here"]
theorem sc_law : FnScope N_law ["_law_script"] (defScope s_law) := ⟨rfl, rfl, rfl, by decide +kernel, rfl, by decide +kernel, by decide +kernel⟩
def l_law_1 : Dl → Fl := (cSeq (cSet 2 (cFn [Kd.v] [none] m_law_source (cCons (cVar 1) cNil)))
    (cIfS (cNot (cTest (cFn [Kd.p] [some 2] m_law_right (cSlot 2 cNil)))) (cRet (cC (.bl false))) (fun δ => .nx δ)))
def b_law : Dl → Fl := (cSeq (cFor (cSeqOf (cSl slB (cOp add2 (cVar 0) (cLst (cCons (cC (.int 0)) cNil))) (cPart none) (cPart (some (cC (.int 4)))))) (gN 1) l_law_1)
    (cRet (cC (.bl true))))
def m_law : List Dv → Rs Dv := runD [Kd.v] .v 2 b_law
section
variable {P : Program} {w : World} {K : PySem.W.Frag} {ct : Ct} {mg : Str → Option Value} {base : Heap}
theorem ok_law {f : Addr} {fd : FuncData} (F : Fun K "law" "law" s_law f fd) (T : TF P w K ct mg base) (F_law_right : Cal P w K mg base (L2.CX P w) "_law_right" 7 ["_law_source_here"] (spD K ct [Kd.p] .v m_law_right)) (F_law_source : Cal P w K mg base (L2.CX P w) "_law_source" 1 ["_law_cell"] (spD K ct [Kd.v] .f m_law_source)) :
    FnOk P w K mg base (L2.CX P w) 8 f fd ["_law_script"] (spD K ct [Kd.v] .v m_law) :=
  fnD (kall := fun i => ([Kd.v, Kd.v, Kd.o] : List Kd).getD i .v) F sc_law rfl rfl (hk_take (n := 1) rfl rfl) (by decide) fun cdv A outer s H E pc be hr => ⟨_, (dss_cons (ds_for (passes_of rfl) rfl (di_seq (dx_sliceQ (sl_B rfl) sld_B (dx_op (op_add4 rfl) opd_add (dx_v 0 rfl (pv 0)) (dx_lst (da_cons dx_int da_nil))) dp_none (dp_some dx_int))) (dg_name (i := 1) rfl sc_law.nd rfl (Or.inl rfl)) (dss_cons (ds_setO (i := 2) rfl sc_law.nd rfl (Or.inl rfl) (dx_cal F_law_source (hr.mono (by decide)) (by rfl) (passes_call (takes_of rfl rfl rfl rfl) (fun _ _ _ _ h => h)) (by rfl) (by decide) (dr_v (dx_v 1 rfl (pv 1)) dr_nil)))
    (dss_one (ds_if (dt_not (dt_val (dx_cal F_law_right (hr.mono (by decide)) (by rfl) (passes_call (takes_of rfl rfl rfl rfl) (fun _ _ _ _ h => h)) (by rfl) (by decide) (dr_s 2 (pv 2) dr_nil)))) (dss_one (ds_ret dx_bl)) dss_nil))))
    (dss_one (ds_ret dx_bl)))⟩
end
end Dn

namespace Dn
open PySem L2 Q
open PySem L2 Q
/-- a source of digits -/
structure S3 where
  a : Int
  b : Int
  c : Int
def S3.d (s : S3) : Dv := .lst [.int s.a, .int s.b, .int s.c]
def S3.ok (s : S3) : Prop := 0 ≤ s.b ∧ s.b < 4294967296 ∧ 0 ≤ s.c ∧ s.c < 4294967296
def S3.mix (s : S3) : Int := (s.b * (s.b / 1009 + 69621) + s.c) % 2147483629 + 7
def S3.dig (s : S3) (n : Int) : Int := if 0 < s.a then s.a % n else s.mix / 97 % n
def S3.nxt (s : S3) (n : Int) : S3 := if 0 < s.a then ⟨s.a / n, s.b, s.c⟩ else ⟨s.a, s.mix, s.c⟩
theorem S3.ok_nxt {s : S3} {n : Int} (h : s.ok) : (s.nxt n).ok := by
  obtain ⟨b1, b2, c1, c2⟩ := h
  unfold S3.nxt
  split
  · exact ⟨b1, b2, c1, c2⟩
  · refine ⟨?_, ?_, c1, c2⟩ <;> unfold S3.mix <;> simp only <;> omega
theorem S3.dig_r {s : S3} {n : Int} (h : 0 < n) : 0 ≤ s.dig n ∧ s.dig n < n := by
  unfold S3.dig
  split <;> exact ⟨Int.emod_nonneg _ (by omega), Int.emod_lt_of_pos _ h⟩
def S3.tl (s : S3) (n : Int) : Dl := if 0 < s.a then [some (.int (s.a % n)), none] else [none, some (.int (s.b * (s.b / 1009 + 69621)))]
def S3.of (n : Int) : S3 := ⟨if (10 : Int) ^ 18 ≤ (n.natAbs : Int) then (n.natAbs : Int) * 1 else (n.natAbs : Int) * 0, (n.natAbs : Int) % 2147483629 + 7, (n.natAbs : Int) % 2147483587⟩
theorem S3.ok_of (n : Int) : (S3.of n).ok := by
  show 0 ≤ (n.natAbs : Int) % 2147483629 + 7 ∧ (n.natAbs : Int) % 2147483629 + 7 < 4294967296 ∧ 0 ≤ (n.natAbs : Int) % 2147483587 ∧ (n.natAbs : Int) % 2147483587 < 4294967296
  omega
theorem abs_is (n : Int) : fAbs [.int n] = some (.int (n.natAbs : Int)) := by
  show some (Dv.int (if n < 0 then -n else n)) = _
  congr 2
  split <;> omega
theorem pow18 : pow2 (.int 10) (.int 18) = some (.int ((10 : Int) ^ 18)) := by
  show (if bPow 10 18 = true then some (Dv.int ((10 : Int) ^ (18 : Int).toNat)) else none) = _
  have e : (18 : Int).toNat = 18 := rfl
  have b : bPow 10 18 = true := by
    unfold bPow
    exact decide_eq_true ⟨by decide, by decide, by decide⟩
  rw [if_pos b, e]
theorem int_at {ns : List Int} {i : Int} (h0 : 0 ≤ i) (h : i < ns.length) : atI (intD ns) i = some (.int (ns.getD i.toNat 0)) := by
  have hl : i.toNat < ns.length := by omega
  refine atI_at ?_ h0
  rw [List.getElem?_map, List.getElem?_eq_getElem hl, List.getD_eq_getElem?_getD, List.getElem?_eq_getElem hl]
  rfl
theorem big (n : Nat) (h : n ≤ 1000) : n < sizeLine := Nat.lt_of_le_of_lt h (by decide)
open PySem L2 Q
theorem zip3_len {xs ls hs : List Int} (h1 : xs.length = ls.length) (h2 : xs.length = hs.length) : (zip3D (intD ls) (intD xs) (intD hs)).length = xs.length := by
  rw [zip3D_len (by simp [h1]) (by simp [← h1, h2]), len_int, h1]
open PySem L2 Q
theorem fld_line (l w n : Int) : fFld okA "line" (cmdD (.store l w n)) = some (.int l) := by rfl
theorem is_store (c : Cmd) : fIs okI "Store" (cmdD c) = some (.bl (match c with | .store _ _ _ => true | _ => false)) := by cases c <;> rfl
theorem is_flush (c : Cmd) : fIs okI "Flush" (cmdD c) = some (.bl (match c with | .flush _ => true | _ => false)) := by cases c <;> rfl
theorem fld_linef (l : Int) : fFld okA "line" (cmdD (.flush l)) = some (.int l) := by rfl
theorem fld_sizes (ns : List Int) : fFld okA "sizes" (memD ns) = some (.tup (intD ns)) := by rfl
theorem int_set {xs : List Int} {i : Nat} {v : Int} : (intD xs).set i (.int v) = intD (xs.set i v) := by
  show (xs.map Dv.int).set i (.int v) = (xs.set i v).map Dv.int
  rw [List.map_set]
theorem int_put {xs : List Int} {k v : Int} (h0 : 0 ≤ k) (h : k < xs.length) : puI (intD xs) (.int k) (.int v) = some (intD (xs.set k.toNat v)) := by
  rw [puI_at h0 (by rw [len_int]; exact h), int_set]
theorem aug_is {s : Nat} {f : Int → Int → Int} {i a : Dl → Rs Dv} {δ : Dl} {xs : List Int} {k y : Int} (h0 : δ[s]? = some (some (.lst (intD xs)))) (hi : i δ = .ok (.int k) δ) (ha : a δ = .ok (.int y) δ) (hk : 0 ≤ k) (hl : k < xs.length) :
    cAugSub s f i a δ = .nx (δ.set s (some (.lst (intD (xs.set k.toNat (f (xs.getD k.toNat 0) y)))))) := by
  have la : (intD xs)[k.toNat]? = some (.int (xs.getD k.toNat 0)) := by
    have h : k.toNat < xs.length := by omega
    show (xs.map Dv.int)[k.toNat]? = _
    rw [List.getElem?_map, List.getElem?_eq_getElem h, List.getD_eq_getElem?_getD, List.getElem?_eq_getElem h]
    rfl
  have ix : ixN (intD xs).length k = some k.toNat := by
    unfold ixN
    rw [if_pos hk, if_pos (by rw [len_int]; exact hl)]
  unfold cAugSub
  simp only [h0, asL, hi, ha, bnf, augGet, hk, if_true, la, augEnd, subEnd, ix, int_set]
theorem rep0 {k : Int} {n : Nat} (h : k = n) (hn : n ≤ 1000) : repL (.lst [.int 0]) (.int k) = some (.lst (intD (List.replicate n 0))) := by
  subst h
  have e : (List.replicate ((n : Int)).toNat [Dv.int 0]).flatten = intD (List.replicate n 0) := by
    show _ = (List.replicate n (0 : Int)).map Dv.int
    rw [List.map_replicate, Int.toNat_natCast]
    simp
  have c : -(2 ^ 63) ≤ (n : Int) ∧ (n : Int) < 2 ^ 63 ∧ [Dv.int 0].length * ((n : Int)).toNat ≤ sizeLine := ⟨by omega, by omega, by
    rw [List.length_singleton, Nat.one_mul, Int.toNat_natCast]
    exact Nat.le_of_lt (big n hn)⟩
  simp only [repL]
  rw [if_pos c, e]
open PySem L2 Q
theorem eq2_strS {i j : Str} {b : Bool} (h1 : SeqAt.shaped (.str i) = true) (h2 : SeqAt.shaped (.str j) = true) (h : PyData.eqv (.str i) (.str j) = b) : eq2 (.str i) (.str j) = some (.bl b) := by
  show (if SeqAt.shaped (.str i) = true ∧ SeqAt.shaped (.str j) = true then some (PyData.eqv (.str i) (.str j)) else none).map Dv.bl = _
  rw [if_pos ⟨h1, h2⟩, h]
  rfl
theorem ss : eq2 (.str "store") (.str "store") = some (.bl true) := eq2_strS (by decide +kernel) (by decide +kernel) (by decide +kernel)
theorem fs : eq2 (.str "flush") (.str "store") = some (.bl false) := eq2_strS (by decide +kernel) (by decide +kernel) (by decide +kernel)
theorem es : eq2 (.str "fence") (.str "store") = some (.bl false) := eq2_strS (by decide +kernel) (by decide +kernel) (by decide +kernel)
theorem ff : eq2 (.str "flush") (.str "flush") = some (.bl true) := eq2_strS (by decide +kernel) (by decide +kernel) (by decide +kernel)
theorem ef : eq2 (.str "fence") (.str "flush") = some (.bl false) := eq2_strS (by decide +kernel) (by decide +kernel) (by decide +kernel)
theorem neg_1 : neg1 (.int 1) = some (.int (-1)) := rfl
/-- the times at which an image may stand -/
theorem enuD_at : ∀ {n : Nat} {xs : List Dv} {i : Nat} {d : Dv}, (enumD n xs)[i]? = some d → ∃ x, xs[i]? = some x ∧ d = .tup [.int ((n + i : Nat) : Int), x]
  | n, [], i, d, h => by simp [enumD] at h
  | n, x :: xs, 0, d, h => by
    simp [enumD] at h
    exact ⟨x, rfl, by rw [← h]; rfl⟩
  | n, x :: xs, i + 1, d, h => by
    have h2 : (enumD (n + 1) xs)[i]? = some d := by simpa [enumD] using h
    obtain ⟨y, h3, h4⟩ := enuD_at h2
    exact ⟨y, by simpa using h3, by rw [h4]; congr 3; congr 1; omega⟩
theorem enuD_len : ∀ {n : Nat} {xs : List Dv}, (enumD n xs).length = xs.length
  | _, [] => rfl
  | n, x :: xs => by rw [enumD, List.length_cons, List.length_cons, enuD_len]
open PySem L2 Q
theorem fld_word (l w n : Int) : fFld okA "word" (cmdD (.store l w n)) = some (.int w) := by rfl
theorem upVV {a b : Option Nat} {δc δ : Dl} : upSl [Kd.v, Kd.v] [a, b] δc δ = δ := by
  cases δc with
  | nil => rfl
  | cons x δc =>
    cases δc with
    | nil => rfl
    | cons y δc => rfl
open PySem L2 Q
theorem csizes_turn {q : Dv} {n : Int} (h : 1 ≤ n ∧ n ≤ 4) : l_check_sizes_1 [some q, some (.int n)] = .nx [some q, some (.int n)] := by
  have h1 := h.1
  have h2 := h.2
  unfold l_check_sizes_1
  simp only [bnd_okS, bnf_okS, bnd_exS, bnf_exS, sqF_nx, sqF_ret, sqF_exc, opt_some, cVar_eq, gtK_s, hvK_s, hlK_s, flK_s, cC_eq, cNil_eq, cTrue_eq, cOp_eq, cUn_eq, cCons_eq, cTup_eq, cLst_eq, cCall_eq, cIt_eq, cSeqOf_eq, cTest_eq, cTru_eq, cNot_eq, cAnd_eq, cOr_eq, cIf_eq, cChain_eq, cSet_eq, cRet_eq, cDrop_eq, cIfS_eq, cSeq_eq, cFor_eq, cAsg_eq, cPar_eq, cPar3_eq, cParO3_eq, cSubE, stS_s, puI_0, puI_1, puI_2, runD_eq, enK_nx, enK_ret, enK_exc, pOk_0, pOk_p, pOk_v, pOk_b, cApp_eq, cSlot_eq, cExc_eq, cFn_eq, cMk_eq, fnK_ok, fnK_ex, fill0, fillN, fillS, up0, upV, upB, upP, add2_int, sub2_int, lt2_int, le2_int, gt2_int, ge2_int, cBl_bl, fIx_l, fIx_t, asL_l, fLen_l, fLen_t, fTup_l, fTup_t, fLst_l, fLst_t, seqOf_l, seqOf_t, atI_0, atI_1, atI_2, atI_3, Option.map_some, Option.bind_some, List.getElem?_cons_zero, List.getElem?_cons_succ, List.set_cons_zero, List.set_cons_succ, List.map_cons, List.map_nil, List.replicate_succ, List.replicate_zero, List.cons_append, List.nil_append, decide_eq_true_eq, Bool.not_eq_true', Bool.false_eq_true, if_true, if_false, ite_true, ite_false, reduceIte, List.length_cons, List.length_nil, gN, gTup2, gCons2, gNil2, h1, h2, decide_true, Bool.not_true]
theorem csizes_end {q : Dv} {k : Int} {xs : List Dv} {o : Option Dv} (h1 : fLen [q] = some (.int k)) (r1 : 1 ≤ k) (r2 : k ≤ 6) (h2 : seqOf q = some xs) (e : forL (gN 1) l_check_sizes_1 xs [some q, none] = .nx [some q, o]) : m_check_sizes [q] = .ok .non [some q, o] := by
  unfold m_check_sizes b_check_sizes
  simp only [bnd_okS, bnf_okS, bnd_exS, bnf_exS, sqF_nx, sqF_ret, sqF_exc, opt_some, cVar_eq, gtK_s, hvK_s, hlK_s, flK_s, cC_eq, cNil_eq, cTrue_eq, cOp_eq, cUn_eq, cCons_eq, cTup_eq, cLst_eq, cCall_eq, cIt_eq, cSeqOf_eq, cTest_eq, cTru_eq, cNot_eq, cAnd_eq, cOr_eq, cIf_eq, cChain_eq, cSet_eq, cRet_eq, cDrop_eq, cIfS_eq, cSeq_eq, cFor_eq, cAsg_eq, cPar_eq, cPar3_eq, cParO3_eq, cSubE, stS_s, puI_0, puI_1, puI_2, runD_eq, enK_nx, enK_ret, enK_exc, pOk_0, pOk_p, pOk_v, pOk_b, cApp_eq, cSlot_eq, cExc_eq, cFn_eq, cMk_eq, fnK_ok, fnK_ex, fill0, fillN, fillS, up0, upV, upB, upP, add2_int, sub2_int, lt2_int, le2_int, gt2_int, ge2_int, cBl_bl, fIx_l, fIx_t, asL_l, fLen_l, fLen_t, fTup_l, fTup_t, fLst_l, fLst_t, seqOf_l, seqOf_t, atI_0, atI_1, atI_2, atI_3, Option.map_some, Option.bind_some, List.getElem?_cons_zero, List.getElem?_cons_succ, List.set_cons_zero, List.set_cons_succ, List.map_cons, List.map_nil, List.replicate_succ, List.replicate_zero, List.cons_append, List.nil_append, decide_eq_true_eq, Bool.not_eq_true', Bool.false_eq_true, if_true, if_false, ite_true, ite_false, reduceIte, List.length_cons, List.length_nil, gN, gTup2, gCons2, gNil2, h1, h2, r1, r2, decide_true, Bool.not_true, e]
theorem csizes_is {ns : List Int} (h : SizesOk ns) : ∃ o, m_check_sizes [.lst (intD ns)] = .ok .non [some (.lst (intD ns)), o] := by
  obtain ⟨⟨n1, n6⟩, nr⟩ := h
  obtain ⟨δ', e, o, rfl⟩ := forL_ok (g := gN 1) (b := l_check_sizes_1) (fun i δ => ∃ o, δ = [some (.lst (intD ns)), o]) (xs := intD ns) (δ := [some (.lst (intD ns)), none]) ⟨none, rfl⟩ (by
    rintro i x δ hx ⟨o, rfl⟩
    obtain ⟨n, hn, rfl⟩ := cmd_at (f := Dv.int) (cs := ns) hx
    exact ⟨_, rfl, _, csizes_turn (nr n (List.mem_of_getElem? hn)), _, rfl⟩)
  exact ⟨o, csizes_end (IsSq.len (.inl rfl)) (by omega) (by omega) rfl e⟩
theorem put_sizes (x : Dv) : putD okA "sizes" x (.obj "Memory" [] []) = some (.obj "Memory" ["sizes"] [x]) := by rfl
theorem memI_h {q t : Dv} {o1 o2 : Option Dv} (h1 : m_check_sizes [q] = .ok .non [o1, o2]) (h2 : fTuple [q] = some t) : m_Memory__init [.obj "Memory" [] [], q] = .ok .non [some (.obj "Memory" ["sizes"] [t]), some q] := by
  have p := put_sizes t
  unfold m_Memory__init b_Memory__init
  simp only [bnd_okS, bnf_okS, bnd_exS, bnf_exS, sqF_nx, sqF_ret, sqF_exc, opt_some, cVar_eq, gtK_s, hvK_s, hlK_s, flK_s, cC_eq, cNil_eq, cTrue_eq, cOp_eq, cUn_eq, cCons_eq, cTup_eq, cLst_eq, cCall_eq, cIt_eq, cSeqOf_eq, cTest_eq, cTru_eq, cNot_eq, cAnd_eq, cOr_eq, cIf_eq, cChain_eq, cSet_eq, cRet_eq, cDrop_eq, cIfS_eq, cSeq_eq, cFor_eq, cAsg_eq, cPar_eq, cPar3_eq, cParO3_eq, cSubE, stS_s, puI_0, puI_1, puI_2, runD_eq, enK_nx, enK_ret, enK_exc, pOk_0, pOk_p, pOk_v, pOk_b, cApp_eq, cSlot_eq, cExc_eq, cFn_eq, cMk_eq, fnK_ok, fnK_ex, fill0, fillN, fillS, up0, upV, upB, upP, add2_int, sub2_int, lt2_int, le2_int, gt2_int, ge2_int, cBl_bl, fIx_l, fIx_t, asL_l, fLen_l, fLen_t, fTup_l, fTup_t, fLst_l, fLst_t, seqOf_l, seqOf_t, atI_0, atI_1, atI_2, atI_3, Option.map_some, Option.bind_some, List.getElem?_cons_zero, List.getElem?_cons_succ, List.set_cons_zero, List.set_cons_succ, List.map_cons, List.map_nil, List.replicate_succ, List.replicate_zero, List.cons_append, List.nil_append, decide_eq_true_eq, Bool.not_eq_true', Bool.false_eq_true, if_true, if_false, ite_true, ite_false, reduceIte, List.length_cons, List.length_nil, gN, gTup2, gCons2, gNil2, h1, h2, cFld_eq, p]
theorem put_l (x : Dv) : putD okA "line" x (.obj "Store" [] []) = some (.obj "Store" ["line"] [x]) := by rfl
theorem put_w (x y : Dv) : putD okA "word" y (.obj "Store" ["line"] [x]) = some (.obj "Store" ["line", "word"] [x, y]) := by rfl
theorem put_n (x y z : Dv) : putD okA "number" z (.obj "Store" ["line", "word"] [x, y]) = some (.obj "Store" ["line", "word", "number"] [x, y, z]) := by rfl
theorem storeI (x y z : Dv) : m_Store__init [.obj "Store" [] [], x, y, z] = .ok .non [some (.obj "Store" ["line", "word", "number"] [x, y, z]), some x, some y, some z] := by
  have p1 := put_l x
  have p2 := put_w x y
  have p3 := put_n x y z
  unfold m_Store__init b_Store__init
  simp only [bnd_okS, bnf_okS, bnd_exS, bnf_exS, sqF_nx, sqF_ret, sqF_exc, opt_some, cVar_eq, gtK_s, hvK_s, hlK_s, flK_s, cC_eq, cNil_eq, cTrue_eq, cOp_eq, cUn_eq, cCons_eq, cTup_eq, cLst_eq, cCall_eq, cIt_eq, cSeqOf_eq, cTest_eq, cTru_eq, cNot_eq, cAnd_eq, cOr_eq, cIf_eq, cChain_eq, cSet_eq, cRet_eq, cDrop_eq, cIfS_eq, cSeq_eq, cFor_eq, cAsg_eq, cPar_eq, cPar3_eq, cParO3_eq, cSubE, stS_s, puI_0, puI_1, puI_2, runD_eq, enK_nx, enK_ret, enK_exc, pOk_0, pOk_p, pOk_v, pOk_b, cApp_eq, cSlot_eq, cExc_eq, cFn_eq, cMk_eq, fnK_ok, fnK_ex, fill0, fillN, fillS, up0, upV, upB, upP, add2_int, sub2_int, lt2_int, le2_int, gt2_int, ge2_int, cBl_bl, fIx_l, fIx_t, asL_l, fLen_l, fLen_t, fTup_l, fTup_t, fLst_l, fLst_t, seqOf_l, seqOf_t, atI_0, atI_1, atI_2, atI_3, Option.map_some, Option.bind_some, List.getElem?_cons_zero, List.getElem?_cons_succ, List.set_cons_zero, List.set_cons_succ, List.map_cons, List.map_nil, List.replicate_succ, List.replicate_zero, List.cons_append, List.nil_append, decide_eq_true_eq, Bool.not_eq_true', Bool.false_eq_true, if_true, if_false, ite_true, ite_false, reduceIte, List.length_cons, List.length_nil, gN, gTup2, gCons2, gNil2, cFld_eq, p1, p2, p3]
theorem put_f (x : Dv) : putD okA "line" x (.obj "Flush" [] []) = some (.obj "Flush" ["line"] [x]) := by rfl
theorem flushI (x : Dv) : m_Flush__init [.obj "Flush" [] [], x] = .ok .non [some (.obj "Flush" ["line"] [x]), some x] := by
  have p1 := put_f x
  unfold m_Flush__init b_Flush__init
  simp only [bnd_okS, bnf_okS, bnd_exS, bnf_exS, sqF_nx, sqF_ret, sqF_exc, opt_some, cVar_eq, gtK_s, hvK_s, hlK_s, flK_s, cC_eq, cNil_eq, cTrue_eq, cOp_eq, cUn_eq, cCons_eq, cTup_eq, cLst_eq, cCall_eq, cIt_eq, cSeqOf_eq, cTest_eq, cTru_eq, cNot_eq, cAnd_eq, cOr_eq, cIf_eq, cChain_eq, cSet_eq, cRet_eq, cDrop_eq, cIfS_eq, cSeq_eq, cFor_eq, cAsg_eq, cPar_eq, cPar3_eq, cParO3_eq, cSubE, stS_s, puI_0, puI_1, puI_2, runD_eq, enK_nx, enK_ret, enK_exc, pOk_0, pOk_p, pOk_v, pOk_b, cApp_eq, cSlot_eq, cExc_eq, cFn_eq, cMk_eq, fnK_ok, fnK_ex, fill0, fillN, fillS, up0, upV, upB, upP, add2_int, sub2_int, lt2_int, le2_int, gt2_int, ge2_int, cBl_bl, fIx_l, fIx_t, asL_l, fLen_l, fLen_t, fTup_l, fTup_t, fLst_l, fLst_t, seqOf_l, seqOf_t, atI_0, atI_1, atI_2, atI_3, Option.map_some, Option.bind_some, List.getElem?_cons_zero, List.getElem?_cons_succ, List.set_cons_zero, List.set_cons_succ, List.map_cons, List.map_nil, List.replicate_succ, List.replicate_zero, List.cons_append, List.nil_append, decide_eq_true_eq, Bool.not_eq_true', Bool.false_eq_true, if_true, if_false, ite_true, ite_false, reduceIte, List.length_cons, List.length_nil, gN, gTup2, gCons2, gNil2, cFld_eq, p1]
open PySem L2 Q
theorem six_none {n d : Nat} : HT.sIx n d none = d := by rfl
theorem six_at {n d : Nat} {i : Int} (h : 0 ≤ i) (h2 : i ≤ n) : HT.sIx n d (some i) = i.toNat := by
  show (if i < 0 then (i + (n : Int)).toNat else min i.toNat n) = i.toNat
  rw [if_neg (by omega)]
  omega
theorem slice_lo {xs : List Int} {l : Int} (h : 0 ≤ l) (h2 : l < xs.length) : slA (.tup (intD xs)) none (some l) = some (.tup (intD (xs.take l.toNat))) := by
  have ln : (intD xs).length = xs.length := len_int
  show (if whole (intD xs).length none (some l) = true then none else some (Dv.tup (cutD (intD xs) none (some l)))) = _
  have w : ¬ whole (intD xs).length none (some l) = true := by
    unfold whole
    rw [ln, six_none, six_at h (by omega), Bool.and_eq_true, decide_eq_true_iff, decide_eq_true_iff]
    omega
  rw [if_neg w]
  unfold cutD
  rw [ln, six_none, six_at h (by omega), List.drop_zero, Nat.sub_zero]
  show some (Dv.tup ((xs.map Dv.int).take l.toNat)) = some (Dv.tup ((xs.take l.toNat).map Dv.int))
  rw [List.map_take]
theorem slice_hi {xs : List Int} {l : Int} (h : 0 ≤ l) (h2 : l < xs.length) : slA (.tup (intD xs)) (some (l + 1)) none = some (.tup (intD (xs.drop (l.toNat + 1)))) := by
  have ln : (intD xs).length = xs.length := len_int
  show (if whole (intD xs).length (some (l + 1)) none = true then none else some (Dv.tup (cutD (intD xs) (some (l + 1)) none))) = _
  have w : ¬ whole (intD xs).length (some (l + 1)) none = true := by
    unfold whole
    rw [ln, six_none, six_at (by omega) (by omega), Bool.and_eq_true, decide_eq_true_iff, decide_eq_true_iff]
    omega
  rw [if_neg w]
  unfold cutD
  rw [ln, six_none, six_at (by omega) (by omega)]
  have e : (l + 1).toNat = l.toNat + 1 := by omega
  rw [e]
  show some (Dv.tup (((xs.map Dv.int).drop (l.toNat + 1)).take (xs.length - (l.toNat + 1)))) = some (Dv.tup ((xs.drop (l.toNat + 1)).map Dv.int))
  rw [List.map_drop, List.take_of_length_le (by simp)]
theorem add_tup {a b : List Dv} (h : a.length + b.length ≤ 1000) : add2 (.tup a) (.tup b) = some (.tup (a ++ b)) := by
  show (if a.length + b.length ≤ sizeLine then some (Dv.tup (a ++ b)) else none) = _
  rw [if_pos (Nat.le_of_lt (big _ h))]
def boxD (b : Bx) : Dv := .obj "Box" ["time", "low", "high"] [.int b.t, .tup (intD b.lo), .tup (intD b.hi)]
theorem cPart_none {δ : Dl} : cPart none δ = .ok none δ := id rfl
theorem cPart_some {a : Dl → Rs Dv} {δ : Dl} {i : Int} (h : a δ = .ok (.int i) δ) : cPart (some a) δ = .ok (some i) δ := by
  show bnd (a δ) (fun x δ1 => match x with
    | .int i => Rs.ok (some i) δ1
    | _ => .stuck) = _
  rw [h]
  rfl
theorem cSl_eq {f : Dv → Option Int → Option Int → Option Dv} {a : Dl → Rs Dv} {lo hi : Dl → Rs (Option Int)} {δ : Dl} : cSl f a lo hi δ = bnd (a δ) fun x δ1 => bnd (lo δ1) fun l δ2 => bnd (hi δ2) fun h δ3 => opt (f x l h) δ3 := id rfl
theorem set_cut {xs : List Int} {l : Nat} {v : Int} (h : l < xs.length) : xs.take l ++ [v] ++ xs.drop (l + 1) = xs.set l v := by
  rw [List.set_eq_take_append_cons_drop, if_pos h, List.append_assoc]
  rfl
theorem bx_len (n : Nat) (cs : List Cmd) : ∀ i, (bxTo n cs i).length ≤ i + 1
  | 0 => by simp [bxTo]
  | i + 1 => by
    have := bx_len n cs i
    rw [bxTo_succ]
    split
    · rw [List.length_append, List.length_singleton]; omega
    · omega
theorem rows_get {f : Pg → Dv} {n : Nat} {cs : List Cmd} {k t : Nat} (h : t < k) : (rowsD f n cs k)[t]? = some (f (pat n cs t)) := by
  unfold rowsD
  rw [List.getElem?_map, List.getElem?_range h]
  rfl
open PySem L2 Q
theorem cRfs_ex {c : Str} {ns : List Str} {ds : List Dv} {d : Dl → Rs Dv} {δ δ1 : Dl} (h : d δ = .exc c ns ds δ1) : cRfs c d δ = .ok (.bl true) δ1 := by
  unfold cRfs
  rw [h]
  exact if_pos rfl
theorem ask_is {s p t i l x : Option Dv} {pd xd : Dv} {f : List Dv → Rs Dv} {c : Str} {δc : Dl} (h : f [pd, xd] = .exc c [] [] δc) : cRfs c (cFn [Kd.v, Kd.v] [none, none] f (cCons (cVar 1) (cCons (cVar 5) cNil))) [s, some pd, t, i, l, some xd] = .ok (.bl true) [s, some pd, t, i, l, some xd] := by
  refine cRfs_ex (ns := []) (ds := []) ?_
  simp only [bnd_okS, bnf_okS, bnd_exS, bnf_exS, sqF_nx, sqF_ret, sqF_exc, opt_some, cVar_eq, gtK_s, hvK_s, hlK_s, flK_s, cC_eq, cNil_eq, cTrue_eq, cOp_eq, cUn_eq, cCons_eq, cTup_eq, cLst_eq, cCall_eq, cIt_eq, cSeqOf_eq, cTest_eq, cTru_eq, cNot_eq, cAnd_eq, cOr_eq, cIf_eq, cChain_eq, cSet_eq, cRet_eq, cDrop_eq, cIfS_eq, cSeq_eq, cFor_eq, cAsg_eq, cPar_eq, cPar3_eq, cParO3_eq, cSubE, stS_s, puI_0, puI_1, puI_2, runD_eq, enK_nx, enK_ret, enK_exc, pOk_0, pOk_p, pOk_v, pOk_b, cApp_eq, cSlot_eq, cExc_eq, cFn_eq, cMk_eq, fnK_ok, fnK_ex, fill0, fillN, fillS, up0, upV, upB, upP, add2_int, sub2_int, lt2_int, le2_int, gt2_int, ge2_int, cBl_bl, fIx_l, fIx_t, asL_l, fLen_l, fLen_t, fTup_l, fTup_t, fLst_l, fLst_t, seqOf_l, seqOf_t, atI_0, atI_1, atI_2, atI_3, Option.map_some, Option.bind_some, List.getElem?_cons_zero, List.getElem?_cons_succ, List.set_cons_zero, List.set_cons_succ, List.map_cons, List.map_nil, List.replicate_succ, List.replicate_zero, List.cons_append, List.nil_append, decide_eq_true_eq, Bool.not_eq_true', Bool.false_eq_true, if_true, if_false, ite_true, ite_false, reduceIte, List.length_cons, List.length_nil, gN, gTup2, gCons2, gNil2, h, upVV]
theorem no_len {n : Nat} {cs : List Cmd} {xs : List Int} (h : xs.length ≠ n) : isImg n cs xs = false := by
  unfold isImg isBtw
  rw [List.length_replicate, decide_eq_false h]
  rfl
theorem no_up {n : Nat} {cs : List Cmd} {i : Nat} (h : i < n) : isImg n cs ((prun n cs).d.set i ((prun n cs).d.getD i 0 + 1)) = false := by
  cases hq : isImg n cs ((prun n cs).d.set i ((prun n cs).d.getD i 0 + 1)) with
  | false => rfl
  | true =>
    have l := (prun_len n cs).1
    have := ((isBtw_iff.mp hq).2.2 i (by rw [List.length_set, l]; exact h)).2
    rw [set_getD, if_pos ⟨rfl, by rw [l]; exact h⟩] at this
    omega
theorem add_lst {a b : List Dv} (h : a.length + b.length ≤ 1000) : add2 (.lst a) (.lst b) = some (.lst (a ++ b)) := by
  show (if a.length + b.length ≤ sizeLine then some (Dv.lst (a ++ b)) else none) = _
  rw [if_pos (Nat.le_of_lt (big _ h))]
theorem int_app {a b : List Int} : intD a ++ intD b = intD (a ++ b) := by
  show a.map Dv.int ++ b.map Dv.int = (a ++ b).map Dv.int
  rw [List.map_append]
end Dn

namespace Dn
open PySem L2 Q
/-- a source of draws -/
structure T3 where
  a : Int
  b : Int
  c : Int
def T3.d (s : T3) : Dv := .lst [.int s.a, .int s.b, .int s.c]
def T3.v1 (s : T3) : Int := (s.b + 7919 * (s.c + 1) + 1) * 48271 % 2147483647
def T3.v2 (s : T3) : Int := s.v1 * (s.v1 / 1013 + 69621) % 2147483587
def T3.dig (s : T3) (n : Int) : Int := if (10 : Int) ^ 18 ≤ s.a then s.a % n else (s.v2 / 7 + s.v2 % 7919 * 40692) % 2147483399 % n
def T3.nxt (s : T3) (n : Int) : T3 := if (10 : Int) ^ 18 ≤ s.a then ⟨s.a / n, s.b, s.c⟩ else ⟨s.a, s.b, s.c + 1⟩
def T3.tl (s : T3) (n : Int) : Dl := if (10 : Int) ^ 18 ≤ s.a then [some (.int (s.a % n)), none] else [none, some (.int s.v2)]
theorem T3.dig_r {s : T3} {n : Int} (h : 0 < n) : 0 ≤ s.dig n ∧ s.dig n < n := by
  unfold T3.dig
  split <;> exact ⟨Int.emod_nonneg _ (by omega), Int.emod_lt_of_pos _ h⟩
theorem draw_h {T : Int} (hp : pow2 (.int 10) (.int 18) = some (.int T)) (a b c n v1 v2 : Int) (h1 : 0 < n) (h2 : n < 1073741824) (e1 : v1 = (b + 7919 * (c + 1) + 1) * 48271 % 2147483647) (e2 : v2 = v1 * (v1 / 1013 + 69621) % 2147483587) :
    m_law_draw [.lst [.int a, .int b, .int c], .int n] = (if T ≤ a then .ok (.int (a % n)) [some (.lst [.int (a / n), .int b, .int c]), some (.int n), some (.int (a % n)), none]
      else .ok (.int ((v2 / 7 + v2 % 7919 * 40692) % 2147483399 % n)) [some (.lst [.int a, .int b, .int (c + 1)]), some (.int n), none, some (.int v2)]) := by
  have r1 : 0 ≤ v1 ∧ v1 < 2147483647 := by omega
  unfold m_law_draw b_law_draw
  by_cases h : T ≤ a
  · rw [if_pos h]
    simp only [bnd_okS, bnf_okS, bnd_exS, bnf_exS, sqF_nx, sqF_ret, sqF_exc, opt_some, cVar_eq, gtK_s, hvK_s, hlK_s, flK_s, cC_eq, cNil_eq, cTrue_eq, cOp_eq, cUn_eq, cCons_eq, cTup_eq, cLst_eq, cCall_eq, cIt_eq, cSeqOf_eq, cTest_eq, cTru_eq, cNot_eq, cAnd_eq, cOr_eq, cIf_eq, cChain_eq, cSet_eq, cRet_eq, cDrop_eq, cIfS_eq, cSeq_eq, cFor_eq, cAsg_eq, cPar_eq, cPar3_eq, cParO3_eq, cSubE, stS_s, puI_0, puI_1, puI_2, runD_eq, enK_nx, enK_ret, enK_exc, pOk_0, pOk_p, pOk_v, pOk_b, cApp_eq, cSlot_eq, cExc_eq, cFn_eq, cMk_eq, fnK_ok, fnK_ex, fill0, fillN, fillS, up0, upV, upB, upP, add2_int, sub2_int, lt2_int, le2_int, gt2_int, ge2_int, cBl_bl, fIx_l, fIx_t, asL_l, fLen_l, fLen_t, fTup_l, fTup_t, fLst_l, fLst_t, seqOf_l, seqOf_t, atI_0, atI_1, atI_2, atI_3, Option.map_some, Option.bind_some, List.getElem?_cons_zero, List.getElem?_cons_succ, List.set_cons_zero, List.set_cons_succ, List.map_cons, List.map_nil, List.replicate_succ, List.replicate_zero, List.cons_append, List.nil_append, decide_eq_true_eq, Bool.not_eq_true', Bool.false_eq_true, if_true, if_false, ite_true, ite_false, reduceIte, List.length_cons, List.length_nil, gN, gTup2, gCons2, gNil2, hp, h, decide_true, mod2_int h1, fdiv2_int h1 h2]
  · rw [if_neg h]
    simp only [bnd_okS, bnf_okS, bnd_exS, bnf_exS, sqF_nx, sqF_ret, sqF_exc, opt_some, cVar_eq, gtK_s, hvK_s, hlK_s, flK_s, cC_eq, cNil_eq, cTrue_eq, cOp_eq, cUn_eq, cCons_eq, cTup_eq, cLst_eq, cCall_eq, cIt_eq, cSeqOf_eq, cTest_eq, cTru_eq, cNot_eq, cAnd_eq, cOr_eq, cIf_eq, cChain_eq, cSet_eq, cRet_eq, cDrop_eq, cIfS_eq, cSeq_eq, cFor_eq, cAsg_eq, cPar_eq, cPar3_eq, cParO3_eq, cSubE, stS_s, puI_0, puI_1, puI_2, runD_eq, enK_nx, enK_ret, enK_exc, pOk_0, pOk_p, pOk_v, pOk_b, cApp_eq, cSlot_eq, cExc_eq, cFn_eq, cMk_eq, fnK_ok, fnK_ex, fill0, fillN, fillS, up0, upV, upB, upP, add2_int, sub2_int, lt2_int, le2_int, gt2_int, ge2_int, cBl_bl, fIx_l, fIx_t, asL_l, fLen_l, fLen_t, fTup_l, fTup_t, fLst_l, fLst_t, seqOf_l, seqOf_t, atI_0, atI_1, atI_2, atI_3, Option.map_some, Option.bind_some, List.getElem?_cons_zero, List.getElem?_cons_succ, List.set_cons_zero, List.set_cons_succ, List.map_cons, List.map_nil, List.replicate_succ, List.replicate_zero, List.cons_append, List.nil_append, decide_eq_true_eq, Bool.not_eq_true', Bool.false_eq_true, if_true, if_false, ite_true, ite_false, reduceIte, List.length_cons, List.length_nil, gN, gTup2, gCons2, gNil2, hp, h, decide_false, mul2_int (bMul_l (i := 7919) ⟨by decide, by decide⟩), mul2_int (bMul_r (j := 48271) ⟨by decide, by decide⟩), mul2_int (bMul_r (j := 40692) ⟨by decide, by decide⟩), mod2_int (j := 2147483647) (by decide), mod2_int (j := 2147483587) (by decide), mod2_int (j := 2147483399) (by decide), mod2_int (j := 7919) (by decide), mod2_int h1, fdiv2_int (j := 1013) (by decide) (by decide), fdiv2_int (j := 7) (by decide) (by decide), ← e1, mul2_int (bMul_l (i := v1) ⟨by omega, by omega⟩), ← e2]
theorem draw_is (s : T3) (n : Int) (h1 : 0 < n) (h2 : n < 1073741824) : m_law_draw [s.d, .int n] = .ok (.int (s.dig n)) (some (s.nxt n).d :: some (.int n) :: s.tl n) := by
  have := draw_h pow18 s.a s.b s.c n s.v1 s.v2 h1 h2 rfl rfl
  refine (show m_law_draw [s.d, .int n] = _ from this).trans ?_
  unfold T3.dig T3.nxt T3.tl
  by_cases h : (10 : Int) ^ 18 ≤ s.a
  · rw [if_pos h, if_pos h, if_pos h, if_pos h]; rfl
  · rw [if_neg h, if_neg h, if_neg h, if_neg h]; rfl
def T3.of (n : Int) : T3 := ⟨(n.natAbs : Int), n % 2147483629, 0⟩
theorem source_is (n : Int) : m_law_source [.int n] = .ok (T3.of n).d [some (.int n)] := by
  unfold m_law_source b_law_source
  simp only [bnd_okS, bnf_okS, bnd_exS, bnf_exS, sqF_nx, sqF_ret, sqF_exc, opt_some, cVar_eq, gtK_s, hvK_s, hlK_s, flK_s, cC_eq, cNil_eq, cTrue_eq, cOp_eq, cUn_eq, cCons_eq, cTup_eq, cLst_eq, cCall_eq, cIt_eq, cSeqOf_eq, cTest_eq, cTru_eq, cNot_eq, cAnd_eq, cOr_eq, cIf_eq, cChain_eq, cSet_eq, cRet_eq, cDrop_eq, cIfS_eq, cSeq_eq, cFor_eq, cAsg_eq, cPar_eq, cPar3_eq, cParO3_eq, cSubE, stS_s, puI_0, puI_1, puI_2, runD_eq, enK_nx, enK_ret, enK_exc, pOk_0, pOk_p, pOk_v, pOk_b, cApp_eq, cSlot_eq, cExc_eq, cFn_eq, cMk_eq, fnK_ok, fnK_ex, fill0, fillN, fillS, up0, upV, upB, upP, add2_int, sub2_int, lt2_int, le2_int, gt2_int, ge2_int, cBl_bl, fIx_l, fIx_t, asL_l, fLen_l, fLen_t, fTup_l, fTup_t, fLst_l, fLst_t, seqOf_l, seqOf_t, atI_0, atI_1, atI_2, atI_3, Option.map_some, Option.bind_some, List.getElem?_cons_zero, List.getElem?_cons_succ, List.set_cons_zero, List.set_cons_succ, List.map_cons, List.map_nil, List.replicate_succ, List.replicate_zero, List.cons_append, List.nil_append, decide_eq_true_eq, Bool.not_eq_true', Bool.false_eq_true, if_true, if_false, ite_true, ite_false, reduceIte, List.length_cons, List.length_nil, gN, gTup2, gCons2, gNil2, abs_is, mod2_int (j := 2147483629) (by decide)]
  rfl
end Dn

namespace Dn
open PySem L2 Q
theorem pick_is (s : T3) (ns : List Int) (h0 : 0 < ns.length) (h1 : ns.length ≤ 1000) : m_law_pick [s.d, .lst (intD ns)] = .ok (.int (ns.getD (s.dig ns.length).toNat 0)) [some (s.nxt ns.length).d, some (.lst (intD ns))] := by
  have r := T3.dig_r (s := s) (n := (ns.length : Int)) (by omega)
  unfold m_law_pick b_law_pick
  simp only [bnd_okS, bnf_okS, bnd_exS, bnf_exS, sqF_nx, sqF_ret, sqF_exc, opt_some, cVar_eq, gtK_s, hvK_s, hlK_s, flK_s, cC_eq, cNil_eq, cTrue_eq, cOp_eq, cUn_eq, cCons_eq, cTup_eq, cLst_eq, cCall_eq, cIt_eq, cSeqOf_eq, cTest_eq, cTru_eq, cNot_eq, cAnd_eq, cOr_eq, cIf_eq, cChain_eq, cSet_eq, cRet_eq, cDrop_eq, cIfS_eq, cSeq_eq, cFor_eq, cAsg_eq, cPar_eq, cPar3_eq, cParO3_eq, cSubE, stS_s, puI_0, puI_1, puI_2, runD_eq, enK_nx, enK_ret, enK_exc, pOk_0, pOk_p, pOk_v, pOk_b, cApp_eq, cSlot_eq, cExc_eq, cFn_eq, cMk_eq, fnK_ok, fnK_ex, fill0, fillN, fillS, up0, upV, upB, upP, add2_int, sub2_int, lt2_int, le2_int, gt2_int, ge2_int, cBl_bl, fIx_l, fIx_t, asL_l, fLen_l, fLen_t, fTup_l, fTup_t, fLst_l, fLst_t, seqOf_l, seqOf_t, atI_0, atI_1, atI_2, atI_3, Option.map_some, Option.bind_some, List.getElem?_cons_zero, List.getElem?_cons_succ, List.set_cons_zero, List.set_cons_succ, List.map_cons, List.map_nil, List.replicate_succ, List.replicate_zero, List.cons_append, List.nil_append, decide_eq_true_eq, Bool.not_eq_true', Bool.false_eq_true, if_true, if_false, ite_true, ite_false, reduceIte, List.length_cons, List.length_nil, gN, gTup2, gCons2, gNil2, fLen_l, len_int, draw_is s ns.length (by omega) (by omega), fIx_l, int_at r.1 r.2]
theorem pow9 : pow2 (.int 10) (.int 9) = some (.int 1000000000) := by
  show (if bPow 10 9 = true then some (Dv.int ((10 : Int) ^ (9 : Int).toNat)) else none) = _
  have b : bPow 10 9 = true := by
    unfold bPow
    exact decide_eq_true ⟨by decide, by decide, by decide⟩
  rw [if_pos b]
  rfl
theorem pow30 : pow2 (.int 10) (.int 30) = some (.int ((10 : Int) ^ 30)) := by
  show (if bPow 10 30 = true then some (Dv.int ((10 : Int) ^ (30 : Int).toNat)) else none) = _
  have e : (30 : Int).toNat = 30 := rfl
  have b : bPow 10 30 = true := by
    unfold bPow
    exact decide_eq_true ⟨by decide, by decide, by decide⟩
  rw [if_pos b, e]
theorem pick_ok (s : T3) (ns : List Int) (h0 : 0 < ns.length) (h1 : ns.length ≤ 1000) : ∃ (t : T3) (v : Int), m_law_pick [s.d, .lst (intD ns)] = .ok (.int v) [some t.d, some (.lst (intD ns))] := ⟨_, _, pick_is s ns h0 h1⟩
theorem number_h {T : Int} (hp : pow2 (.int 10) (.int 30) = some (.int T)) (s : T3) : ∃ (t : T3) (v u : Int), m_law_number [s.d] = .ok (.int v) [some t.d, some (.int u)] := by
  obtain ⟨t, v, hk⟩ := pick_ok ((s.nxt 1000000000).nxt 1000) [0, 1, 2, -1, 7, T + s.dig 1000000000, 0 - (T + s.dig 1000000000), (s.nxt 1000000000).dig 1000] (by simp) (by simp)
  simp only [List.map_cons, List.map_nil] at hk
  refine ⟨t, v, T + s.dig 1000000000, ?_⟩
  unfold m_law_number b_law_number
  simp only [bnd_okS, bnf_okS, bnd_exS, bnf_exS, sqF_nx, sqF_ret, sqF_exc, opt_some, cVar_eq, gtK_s, hvK_s, hlK_s, flK_s, cC_eq, cNil_eq, cTrue_eq, cOp_eq, cUn_eq, cCons_eq, cTup_eq, cLst_eq, cCall_eq, cIt_eq, cSeqOf_eq, cTest_eq, cTru_eq, cNot_eq, cAnd_eq, cOr_eq, cIf_eq, cChain_eq, cSet_eq, cRet_eq, cDrop_eq, cIfS_eq, cSeq_eq, cFor_eq, cAsg_eq, cPar_eq, cPar3_eq, cParO3_eq, cSubE, stS_s, puI_0, puI_1, puI_2, runD_eq, enK_nx, enK_ret, enK_exc, pOk_0, pOk_p, pOk_v, pOk_b, cApp_eq, cSlot_eq, cExc_eq, cFn_eq, cMk_eq, fnK_ok, fnK_ex, fill0, fillN, fillS, up0, upV, upB, upP, add2_int, sub2_int, lt2_int, le2_int, gt2_int, ge2_int, cBl_bl, fIx_l, fIx_t, asL_l, fLen_l, fLen_t, fTup_l, fTup_t, fLst_l, fLst_t, seqOf_l, seqOf_t, atI_0, atI_1, atI_2, atI_3, Option.map_some, Option.bind_some, List.getElem?_cons_zero, List.getElem?_cons_succ, List.set_cons_zero, List.set_cons_succ, List.map_cons, List.map_nil, List.replicate_succ, List.replicate_zero, List.cons_append, List.nil_append, decide_eq_true_eq, Bool.not_eq_true', Bool.false_eq_true, if_true, if_false, ite_true, ite_false, reduceIte, List.length_cons, List.length_nil, gN, gTup2, gCons2, gNil2, hp, pow9, neg_1, draw_is s 1000000000 (by decide) (by decide), draw_is (s.nxt 1000000000) 1000 (by decide) (by decide), hk]
theorem number_ok (s : T3) : ∃ (t : T3) (v u : Int), m_law_number [s.d] = .ok (.int v) [some t.d, some (.int u)] := number_h pow30 s
theorem sizes_ok (s : T3) : ∃ (t : T3) (ns : List Int), m_law_sizes [s.d, .int 6] = .ok (.lst (intD ns)) [some t.d, some (.int 6), none] ∧ SizesOk ns := by
  have r6 := T3.dig_r (s := s) (n := 6) (by decide)
  have hd : (cIt fRng1 (cCons (cOp add2 (cC (.int 1)) (cFn [Kd.p, Kd.v] [some 0, none] m_law_draw (cSlot 0 (cCons (cVar 1) cNil)))) cNil)) [some s.d, some (.int 6), none] = .ok (rngD 0 (1 + s.dig 6).toNat) [some (s.nxt 6).d, some (.int 6), none] := by
    simp only [bnd_okS, bnf_okS, bnd_exS, bnf_exS, sqF_nx, sqF_ret, sqF_exc, opt_some, cVar_eq, gtK_s, hvK_s, hlK_s, flK_s, cC_eq, cNil_eq, cTrue_eq, cOp_eq, cUn_eq, cCons_eq, cTup_eq, cLst_eq, cCall_eq, cIt_eq, cSeqOf_eq, cTest_eq, cTru_eq, cNot_eq, cAnd_eq, cOr_eq, cIf_eq, cChain_eq, cSet_eq, cRet_eq, cDrop_eq, cIfS_eq, cSeq_eq, cFor_eq, cAsg_eq, cPar_eq, cPar3_eq, cParO3_eq, cSubE, stS_s, puI_0, puI_1, puI_2, runD_eq, enK_nx, enK_ret, enK_exc, pOk_0, pOk_p, pOk_v, pOk_b, cApp_eq, cSlot_eq, cExc_eq, cFn_eq, cMk_eq, fnK_ok, fnK_ex, fill0, fillN, fillS, up0, upV, upB, upP, add2_int, sub2_int, lt2_int, le2_int, gt2_int, ge2_int, cBl_bl, fIx_l, fIx_t, asL_l, fLen_l, fLen_t, fTup_l, fTup_t, fLst_l, fLst_t, seqOf_l, seqOf_t, atI_0, atI_1, atI_2, atI_3, Option.map_some, Option.bind_some, List.getElem?_cons_zero, List.getElem?_cons_succ, List.set_cons_zero, List.set_cons_succ, List.map_cons, List.map_nil, List.replicate_succ, List.replicate_zero, List.cons_append, List.nil_append, decide_eq_true_eq, Bool.not_eq_true', Bool.false_eq_true, if_true, if_false, ite_true, ite_false, reduceIte, List.length_cons, List.length_nil, gN, gTup2, gCons2, gNil2, draw_is s 6 (by decide) (by decide), fRng1_at (j := 1 + s.dig 6) (by omega) (by omega)]
  obtain ⟨ys, δ', e, t, ns, rfl, rfl, hl, hr⟩ := compL_ok (g := gN 2) (tt := cTrue) (el := cOp add2 (cC (.int 1)) (cFn [Kd.p, Kd.v] [some 0, none] m_law_draw (cSlot 0 (cCons (cC (.int 4)) cNil)))) (vs := [2])
    (fun i δ acc => ∃ (t : T3) (ns : List Int), δ = [some t.d, some (.int 6), none] ∧ acc = intD ns ∧ ns.length = i ∧ ∀ n ∈ ns, 1 ≤ n ∧ n ≤ 4) (xs := rngD 0 (1 + s.dig 6).toNat) (δ := [some (s.nxt 6).d, some (.int 6), none])
    ⟨s.nxt 6, [], rfl, rfl, rfl, fun _ z => by cases z⟩ (by
      rintro i x δ acc hx ⟨t, ns, rfl, rfl, hl, hr⟩
      have r3 := T3.dig_r (s := t) (n := 4) (by decide)
      refine ⟨_, rfl, .inl ⟨_, .int (1 + t.dig 4), [some (t.nxt 4).d, some (.int 6), some x], rfl, ?_, t.nxt 4, ns ++ [1 + t.dig 4], rfl, by simp, by simp [hl], fun n hn => ?_⟩⟩
      · simp only [bnd_okS, bnf_okS, bnd_exS, bnf_exS, sqF_nx, sqF_ret, sqF_exc, opt_some, cVar_eq, gtK_s, hvK_s, hlK_s, flK_s, cC_eq, cNil_eq, cTrue_eq, cOp_eq, cUn_eq, cCons_eq, cTup_eq, cLst_eq, cCall_eq, cIt_eq, cSeqOf_eq, cTest_eq, cTru_eq, cNot_eq, cAnd_eq, cOr_eq, cIf_eq, cChain_eq, cSet_eq, cRet_eq, cDrop_eq, cIfS_eq, cSeq_eq, cFor_eq, cAsg_eq, cPar_eq, cPar3_eq, cParO3_eq, cSubE, stS_s, puI_0, puI_1, puI_2, runD_eq, enK_nx, enK_ret, enK_exc, pOk_0, pOk_p, pOk_v, pOk_b, cApp_eq, cSlot_eq, cExc_eq, cFn_eq, cMk_eq, fnK_ok, fnK_ex, fill0, fillN, fillS, up0, upV, upB, upP, add2_int, sub2_int, lt2_int, le2_int, gt2_int, ge2_int, cBl_bl, fIx_l, fIx_t, asL_l, fLen_l, fLen_t, fTup_l, fTup_t, fLst_l, fLst_t, seqOf_l, seqOf_t, atI_0, atI_1, atI_2, atI_3, Option.map_some, Option.bind_some, List.getElem?_cons_zero, List.getElem?_cons_succ, List.set_cons_zero, List.set_cons_succ, List.map_cons, List.map_nil, List.replicate_succ, List.replicate_zero, List.cons_append, List.nil_append, decide_eq_true_eq, Bool.not_eq_true', Bool.false_eq_true, if_true, if_false, ite_true, ite_false, reduceIte, List.length_cons, List.length_nil, gN, gTup2, gCons2, gNil2, draw_is t 4 (by decide) (by decide)]
      · rcases List.mem_append.mp hn with z | z
        · exact hr n z
        · rw [List.mem_singleton.mp z]
          omega)
  rw [rng_len] at hl
  refine ⟨t, ns, ?_, ⟨by omega, by omega⟩, hr⟩
  unfold m_law_sizes b_law_sizes i_law_sizes_1 e_law_sizes_2
  have hc := cComp_ok hd (by rw [rng_len]; omega) e
  simp only [bnd_okS, bnf_okS, bnd_exS, bnf_exS, sqF_nx, sqF_ret, sqF_exc, opt_some, cVar_eq, gtK_s, hvK_s, hlK_s, flK_s, cC_eq, cNil_eq, cTrue_eq, cOp_eq, cUn_eq, cCons_eq, cTup_eq, cLst_eq, cCall_eq, cIt_eq, cSeqOf_eq, cTest_eq, cTru_eq, cNot_eq, cAnd_eq, cOr_eq, cIf_eq, cChain_eq, cSet_eq, cRet_eq, cDrop_eq, cIfS_eq, cSeq_eq, cFor_eq, cAsg_eq, cPar_eq, cPar3_eq, cParO3_eq, cSubE, stS_s, puI_0, puI_1, puI_2, runD_eq, enK_nx, enK_ret, enK_exc, pOk_0, pOk_p, pOk_v, pOk_b, cApp_eq, cSlot_eq, cExc_eq, cFn_eq, cMk_eq, fnK_ok, fnK_ex, fill0, fillN, fillS, up0, upV, upB, upP, add2_int, sub2_int, lt2_int, le2_int, gt2_int, ge2_int, cBl_bl, fIx_l, fIx_t, asL_l, fLen_l, fLen_t, fTup_l, fTup_t, fLst_l, fLst_t, seqOf_l, seqOf_t, atI_0, atI_1, atI_2, atI_3, Option.map_some, Option.bind_some, List.getElem?_cons_zero, List.getElem?_cons_succ, List.set_cons_zero, List.set_cons_succ, List.map_cons, List.map_nil, List.replicate_succ, List.replicate_zero, List.cons_append, List.nil_append, decide_eq_true_eq, Bool.not_eq_true', Bool.false_eq_true, if_true, if_false, ite_true, ite_false, reduceIte, List.length_cons, List.length_nil, gN, gTup2, gCons2, gNil2, hc]
end Dn

namespace Dn
open PySem L2 Q
def stD (a b c : Int) : Dv := .obj "Store" ["line", "word", "number"] [.int a, .int b, .int c]
def flD (a : Int) : Dv := .obj "Flush" ["line"] [.int a]
def cpD (a b c d : Int) : Dv := .obj "Copy" ["line", "word", "from_line", "from_word"] [.int a, .int b, .int c, .int d]
def feD : Dv := .obj "Fence" [] []
def isD (a b : Int) (ns : List Int) : Dv := .obj "Is" ["line", "word", "numbers"] [.int a, .int b, .tup (intD ns)]
theorem cAndV_eq {a b : Dl → Rs Dv} {δ : Dl} : cAndV a b δ = bnd (a δ) fun x δ1 => match cBl x with
  | some true => b δ1
  | some false => .ok (.bl false) δ1
  | none => .stuck := id rfl
theorem cEqY_eq {f : Dv → Dv → Option Bool} {g : Bool → Bool} {a b : Dl → Rs Dv} {δ : Dl} : cEqY f g a b δ = bnd (a δ) fun x δ1 => bnd (b δ1) fun y δ2 => opt ((f x y).map fun r => .bl (g r)) δ2 := id rfl
/-- how == is found -/
theorem eqT_of {c : Str} {ks : List Str} {ds : List Dv} {y : Dv} {df : List Dv → Rs Dv} {b : Bool} {n : Nat} (h : ocT c = some df) (hN : okN okI isbL c y = true) (hd : ∃ δ, df [.obj c ks ds, y] = .ok (.bl b) δ) : eqT ocT okI isbL n (.obj c ks ds) y = some b := by
  obtain ⟨δ, hd⟩ := hd
  have e1 : eqD (.obj c ks ds) y = none := rfl
  have e2 : sqX (eqZ ocT okI isbL n) (.obj c ks ds) y = none := by cases y <;> rfl
  unfold eqT
  rw [e1, e2, Option.none_or, Option.none_or]
  show (match ocT c with
    | some df => if okN okI isbL c y = true then ownR df (.obj c ks ds) y else none
    | none => none) = some b
  rw [h]
  show (if okN okI isbL c y = true then ownR df (.obj c ks ds) y else none) = some b
  rw [if_pos hN]
  unfold ownR
  rw [hd]
theorem store_no {x y : Dv} (h : fIsB okI isbL "Store" y = some (.bl false)) : ∃ δ, m_Store__eq [x, y] = .ok (.bl false) δ := by
  refine ⟨[some x, some y], ?_⟩
  unfold m_Store__eq b_Store__eq
  simp only [bnd_okS, bnf_okS, bnd_exS, bnf_exS, sqF_nx, sqF_ret, sqF_exc, opt_some, cVar_eq, gtK_s, hvK_s, hlK_s, flK_s, cC_eq, cNil_eq, cTrue_eq, cOp_eq, cUn_eq, cCons_eq, cTup_eq, cLst_eq, cCall_eq, cIt_eq, cSeqOf_eq, cTest_eq, cTru_eq, cNot_eq, cAnd_eq, cOr_eq, cIf_eq, cChain_eq, cSet_eq, cRet_eq, cDrop_eq, cIfS_eq, cSeq_eq, cFor_eq, cAsg_eq, cPar_eq, cPar3_eq, cParO3_eq, cSubE, stS_s, puI_0, puI_1, puI_2, runD_eq, enK_nx, enK_ret, enK_exc, pOk_0, pOk_p, pOk_v, pOk_b, cApp_eq, cSlot_eq, cExc_eq, cFn_eq, cMk_eq, fnK_ok, fnK_ex, fill0, fillN, fillS, up0, upV, upB, upP, add2_int, sub2_int, lt2_int, le2_int, gt2_int, ge2_int, cBl_bl, fIx_l, fIx_t, asL_l, fLen_l, fLen_t, fTup_l, fTup_t, fLst_l, fLst_t, seqOf_l, seqOf_t, atI_0, atI_1, atI_2, atI_3, Option.map_some, Option.bind_some, List.getElem?_cons_zero, List.getElem?_cons_succ, List.set_cons_zero, List.set_cons_succ, List.map_cons, List.map_nil, List.replicate_succ, List.replicate_zero, List.cons_append, List.nil_append, decide_eq_true_eq, Bool.not_eq_true', Bool.false_eq_true, if_true, if_false, ite_true, ite_false, reduceIte, List.length_cons, List.length_nil, gN, gTup2, gCons2, gNil2, cAndV_eq, h]
theorem flush_no {x y : Dv} (h : fIsB okI isbL "Flush" y = some (.bl false)) : ∃ δ, m_Flush__eq [x, y] = .ok (.bl false) δ := by
  refine ⟨[some x, some y], ?_⟩
  unfold m_Flush__eq b_Flush__eq
  simp only [bnd_okS, bnf_okS, bnd_exS, bnf_exS, sqF_nx, sqF_ret, sqF_exc, opt_some, cVar_eq, gtK_s, hvK_s, hlK_s, flK_s, cC_eq, cNil_eq, cTrue_eq, cOp_eq, cUn_eq, cCons_eq, cTup_eq, cLst_eq, cCall_eq, cIt_eq, cSeqOf_eq, cTest_eq, cTru_eq, cNot_eq, cAnd_eq, cOr_eq, cIf_eq, cChain_eq, cSet_eq, cRet_eq, cDrop_eq, cIfS_eq, cSeq_eq, cFor_eq, cAsg_eq, cPar_eq, cPar3_eq, cParO3_eq, cSubE, stS_s, puI_0, puI_1, puI_2, runD_eq, enK_nx, enK_ret, enK_exc, pOk_0, pOk_p, pOk_v, pOk_b, cApp_eq, cSlot_eq, cExc_eq, cFn_eq, cMk_eq, fnK_ok, fnK_ex, fill0, fillN, fillS, up0, upV, upB, upP, add2_int, sub2_int, lt2_int, le2_int, gt2_int, ge2_int, cBl_bl, fIx_l, fIx_t, asL_l, fLen_l, fLen_t, fTup_l, fTup_t, fLst_l, fLst_t, seqOf_l, seqOf_t, atI_0, atI_1, atI_2, atI_3, Option.map_some, Option.bind_some, List.getElem?_cons_zero, List.getElem?_cons_succ, List.set_cons_zero, List.set_cons_succ, List.map_cons, List.map_nil, List.replicate_succ, List.replicate_zero, List.cons_append, List.nil_append, decide_eq_true_eq, Bool.not_eq_true', Bool.false_eq_true, if_true, if_false, ite_true, ite_false, reduceIte, List.length_cons, List.length_nil, gN, gTup2, gCons2, gNil2, cAndV_eq, h]
theorem copy_no {x y : Dv} (h : fIsB okI isbL "Copy" y = some (.bl false)) : ∃ δ, m_Copy__eq [x, y] = .ok (.bl false) δ := by
  refine ⟨[some x, some y], ?_⟩
  unfold m_Copy__eq b_Copy__eq
  simp only [bnd_okS, bnf_okS, bnd_exS, bnf_exS, sqF_nx, sqF_ret, sqF_exc, opt_some, cVar_eq, gtK_s, hvK_s, hlK_s, flK_s, cC_eq, cNil_eq, cTrue_eq, cOp_eq, cUn_eq, cCons_eq, cTup_eq, cLst_eq, cCall_eq, cIt_eq, cSeqOf_eq, cTest_eq, cTru_eq, cNot_eq, cAnd_eq, cOr_eq, cIf_eq, cChain_eq, cSet_eq, cRet_eq, cDrop_eq, cIfS_eq, cSeq_eq, cFor_eq, cAsg_eq, cPar_eq, cPar3_eq, cParO3_eq, cSubE, stS_s, puI_0, puI_1, puI_2, runD_eq, enK_nx, enK_ret, enK_exc, pOk_0, pOk_p, pOk_v, pOk_b, cApp_eq, cSlot_eq, cExc_eq, cFn_eq, cMk_eq, fnK_ok, fnK_ex, fill0, fillN, fillS, up0, upV, upB, upP, add2_int, sub2_int, lt2_int, le2_int, gt2_int, ge2_int, cBl_bl, fIx_l, fIx_t, asL_l, fLen_l, fLen_t, fTup_l, fTup_t, fLst_l, fLst_t, seqOf_l, seqOf_t, atI_0, atI_1, atI_2, atI_3, Option.map_some, Option.bind_some, List.getElem?_cons_zero, List.getElem?_cons_succ, List.set_cons_zero, List.set_cons_succ, List.map_cons, List.map_nil, List.replicate_succ, List.replicate_zero, List.cons_append, List.nil_append, decide_eq_true_eq, Bool.not_eq_true', Bool.false_eq_true, if_true, if_false, ite_true, ite_false, reduceIte, List.length_cons, List.length_nil, gN, gTup2, gCons2, gNil2, cAndV_eq, h]
theorem mem_no {x y : Dv} (h : fIsB okI isbL "Memory" y = some (.bl false)) : ∃ δ, m_Memory__eq [x, y] = .ok (.bl false) δ := by
  refine ⟨[some x, some y], ?_⟩
  unfold m_Memory__eq b_Memory__eq
  simp only [bnd_okS, bnf_okS, bnd_exS, bnf_exS, sqF_nx, sqF_ret, sqF_exc, opt_some, cVar_eq, gtK_s, hvK_s, hlK_s, flK_s, cC_eq, cNil_eq, cTrue_eq, cOp_eq, cUn_eq, cCons_eq, cTup_eq, cLst_eq, cCall_eq, cIt_eq, cSeqOf_eq, cTest_eq, cTru_eq, cNot_eq, cAnd_eq, cOr_eq, cIf_eq, cChain_eq, cSet_eq, cRet_eq, cDrop_eq, cIfS_eq, cSeq_eq, cFor_eq, cAsg_eq, cPar_eq, cPar3_eq, cParO3_eq, cSubE, stS_s, puI_0, puI_1, puI_2, runD_eq, enK_nx, enK_ret, enK_exc, pOk_0, pOk_p, pOk_v, pOk_b, cApp_eq, cSlot_eq, cExc_eq, cFn_eq, cMk_eq, fnK_ok, fnK_ex, fill0, fillN, fillS, up0, upV, upB, upP, add2_int, sub2_int, lt2_int, le2_int, gt2_int, ge2_int, cBl_bl, fIx_l, fIx_t, asL_l, fLen_l, fLen_t, fTup_l, fTup_t, fLst_l, fLst_t, seqOf_l, seqOf_t, atI_0, atI_1, atI_2, atI_3, Option.map_some, Option.bind_some, List.getElem?_cons_zero, List.getElem?_cons_succ, List.set_cons_zero, List.set_cons_succ, List.map_cons, List.map_nil, List.replicate_succ, List.replicate_zero, List.cons_append, List.nil_append, decide_eq_true_eq, Bool.not_eq_true', Bool.false_eq_true, if_true, if_false, ite_true, ite_false, reduceIte, List.length_cons, List.length_nil, gN, gTup2, gCons2, gNil2, cAndV_eq, h]
theorem fence_is {x y : Dv} {b : Bool} (h : fIsB okI isbL "Fence" y = some (.bl b)) : ∃ δ, m_Fence__eq [x, y] = .ok (.bl b) δ := by
  refine ⟨[some x, some y], ?_⟩
  unfold m_Fence__eq b_Fence__eq
  simp only [bnd_okS, bnf_okS, bnd_exS, bnf_exS, sqF_nx, sqF_ret, sqF_exc, opt_some, cVar_eq, gtK_s, hvK_s, hlK_s, flK_s, cC_eq, cNil_eq, cTrue_eq, cOp_eq, cUn_eq, cCons_eq, cTup_eq, cLst_eq, cCall_eq, cIt_eq, cSeqOf_eq, cTest_eq, cTru_eq, cNot_eq, cAnd_eq, cOr_eq, cIf_eq, cChain_eq, cSet_eq, cRet_eq, cDrop_eq, cIfS_eq, cSeq_eq, cFor_eq, cAsg_eq, cPar_eq, cPar3_eq, cParO3_eq, cSubE, stS_s, puI_0, puI_1, puI_2, runD_eq, enK_nx, enK_ret, enK_exc, pOk_0, pOk_p, pOk_v, pOk_b, cApp_eq, cSlot_eq, cExc_eq, cFn_eq, cMk_eq, fnK_ok, fnK_ex, fill0, fillN, fillS, up0, upV, upB, upP, add2_int, sub2_int, lt2_int, le2_int, gt2_int, ge2_int, cBl_bl, fIx_l, fIx_t, asL_l, fLen_l, fLen_t, fTup_l, fTup_t, fLst_l, fLst_t, seqOf_l, seqOf_t, atI_0, atI_1, atI_2, atI_3, Option.map_some, Option.bind_some, List.getElem?_cons_zero, List.getElem?_cons_succ, List.set_cons_zero, List.set_cons_succ, List.map_cons, List.map_nil, List.replicate_succ, List.replicate_zero, List.cons_append, List.nil_append, decide_eq_true_eq, Bool.not_eq_true', Bool.false_eq_true, if_true, if_false, ite_true, ite_false, reduceIte, List.length_cons, List.length_nil, gN, gTup2, gCons2, gNil2, cAndV_eq, h]
theorem store_eq (a b c a' b' c' : Int) : ∃ δ, m_Store__eq [stD a b c, stD a' b' c'] = .ok (.bl (decide (a = a') && (decide (b = b') && decide (c = c')))) δ := by
  have s : fIsB okI isbL "Store" (stD a' b' c') = some (.bl true) := rfl
  have f1 : ∀ x y z, fFld okA "line" (stD x y z) = some (.int x) := fun _ _ _ => rfl
  have f2 : ∀ x y z, fFld okA "word" (stD x y z) = some (.int y) := fun _ _ _ => rfl
  have f3 : ∀ x y z, fFld okA "number" (stD x y z) = some (.int z) := fun _ _ _ => rfl
  refine ⟨[some (stD a b c), some (stD a' b' c')], ?_⟩
  unfold m_Store__eq b_Store__eq
  by_cases h1 : a = a' <;> by_cases h2 : b = b' <;> simp only [bnd_okS, bnf_okS, bnd_exS, bnf_exS, sqF_nx, sqF_ret, sqF_exc, opt_some, cVar_eq, gtK_s, hvK_s, hlK_s, flK_s, cC_eq, cNil_eq, cTrue_eq, cOp_eq, cUn_eq, cCons_eq, cTup_eq, cLst_eq, cCall_eq, cIt_eq, cSeqOf_eq, cTest_eq, cTru_eq, cNot_eq, cAnd_eq, cOr_eq, cIf_eq, cChain_eq, cSet_eq, cRet_eq, cDrop_eq, cIfS_eq, cSeq_eq, cFor_eq, cAsg_eq, cPar_eq, cPar3_eq, cParO3_eq, cSubE, stS_s, puI_0, puI_1, puI_2, runD_eq, enK_nx, enK_ret, enK_exc, pOk_0, pOk_p, pOk_v, pOk_b, cApp_eq, cSlot_eq, cExc_eq, cFn_eq, cMk_eq, fnK_ok, fnK_ex, fill0, fillN, fillS, up0, upV, upB, upP, add2_int, sub2_int, lt2_int, le2_int, gt2_int, ge2_int, cBl_bl, fIx_l, fIx_t, asL_l, fLen_l, fLen_t, fTup_l, fTup_t, fLst_l, fLst_t, seqOf_l, seqOf_t, atI_0, atI_1, atI_2, atI_3, Option.map_some, Option.bind_some, List.getElem?_cons_zero, List.getElem?_cons_succ, List.set_cons_zero, List.set_cons_succ, List.map_cons, List.map_nil, List.replicate_succ, List.replicate_zero, List.cons_append, List.nil_append, decide_eq_true_eq, Bool.not_eq_true', Bool.false_eq_true, if_true, if_false, ite_true, ite_false, reduceIte, List.length_cons, List.length_nil, gN, gTup2, gCons2, gNil2, cAndV_eq, s, f1, f2, f3, eq2_int, h1, h2, decide_true, decide_false, Bool.true_and, Bool.false_and]
theorem flush_eq (a a' : Int) : ∃ δ, m_Flush__eq [flD a, flD a'] = .ok (.bl (decide (a = a'))) δ := by
  have s : fIsB okI isbL "Flush" (flD a') = some (.bl true) := rfl
  have f1 : ∀ x, fFld okA "line" (flD x) = some (.int x) := fun _ => rfl
  refine ⟨[some (flD a), some (flD a')], ?_⟩
  unfold m_Flush__eq b_Flush__eq
  simp only [bnd_okS, bnf_okS, bnd_exS, bnf_exS, sqF_nx, sqF_ret, sqF_exc, opt_some, cVar_eq, gtK_s, hvK_s, hlK_s, flK_s, cC_eq, cNil_eq, cTrue_eq, cOp_eq, cUn_eq, cCons_eq, cTup_eq, cLst_eq, cCall_eq, cIt_eq, cSeqOf_eq, cTest_eq, cTru_eq, cNot_eq, cAnd_eq, cOr_eq, cIf_eq, cChain_eq, cSet_eq, cRet_eq, cDrop_eq, cIfS_eq, cSeq_eq, cFor_eq, cAsg_eq, cPar_eq, cPar3_eq, cParO3_eq, cSubE, stS_s, puI_0, puI_1, puI_2, runD_eq, enK_nx, enK_ret, enK_exc, pOk_0, pOk_p, pOk_v, pOk_b, cApp_eq, cSlot_eq, cExc_eq, cFn_eq, cMk_eq, fnK_ok, fnK_ex, fill0, fillN, fillS, up0, upV, upB, upP, add2_int, sub2_int, lt2_int, le2_int, gt2_int, ge2_int, cBl_bl, fIx_l, fIx_t, asL_l, fLen_l, fLen_t, fTup_l, fTup_t, fLst_l, fLst_t, seqOf_l, seqOf_t, atI_0, atI_1, atI_2, atI_3, Option.map_some, Option.bind_some, List.getElem?_cons_zero, List.getElem?_cons_succ, List.set_cons_zero, List.set_cons_succ, List.map_cons, List.map_nil, List.replicate_succ, List.replicate_zero, List.cons_append, List.nil_append, decide_eq_true_eq, Bool.not_eq_true', Bool.false_eq_true, if_true, if_false, ite_true, ite_false, reduceIte, List.length_cons, List.length_nil, gN, gTup2, gCons2, gNil2, cAndV_eq, s, f1, eq2_int]
theorem copy_eq (a b c d a' b' c' d' : Int) : ∃ δ, m_Copy__eq [cpD a b c d, cpD a' b' c' d'] = .ok (.bl (decide (a = a') && (decide (b = b') && (decide (c = c') && decide (d = d'))))) δ := by
  have s : fIsB okI isbL "Copy" (cpD a' b' c' d') = some (.bl true) := rfl
  have f1 : ∀ x y z w, fFld okA "line" (cpD x y z w) = some (.int x) := fun _ _ _ _ => rfl
  have f2 : ∀ x y z w, fFld okA "word" (cpD x y z w) = some (.int y) := fun _ _ _ _ => rfl
  have f3 : ∀ x y z w, fFld okA "from_line" (cpD x y z w) = some (.int z) := fun _ _ _ _ => rfl
  have f4 : ∀ x y z w, fFld okA "from_word" (cpD x y z w) = some (.int w) := fun _ _ _ _ => rfl
  refine ⟨[some (cpD a b c d), some (cpD a' b' c' d')], ?_⟩
  unfold m_Copy__eq b_Copy__eq
  by_cases h1 : a = a' <;> by_cases h2 : b = b' <;> by_cases h3 : c = c' <;> simp only [bnd_okS, bnf_okS, bnd_exS, bnf_exS, sqF_nx, sqF_ret, sqF_exc, opt_some, cVar_eq, gtK_s, hvK_s, hlK_s, flK_s, cC_eq, cNil_eq, cTrue_eq, cOp_eq, cUn_eq, cCons_eq, cTup_eq, cLst_eq, cCall_eq, cIt_eq, cSeqOf_eq, cTest_eq, cTru_eq, cNot_eq, cAnd_eq, cOr_eq, cIf_eq, cChain_eq, cSet_eq, cRet_eq, cDrop_eq, cIfS_eq, cSeq_eq, cFor_eq, cAsg_eq, cPar_eq, cPar3_eq, cParO3_eq, cSubE, stS_s, puI_0, puI_1, puI_2, runD_eq, enK_nx, enK_ret, enK_exc, pOk_0, pOk_p, pOk_v, pOk_b, cApp_eq, cSlot_eq, cExc_eq, cFn_eq, cMk_eq, fnK_ok, fnK_ex, fill0, fillN, fillS, up0, upV, upB, upP, add2_int, sub2_int, lt2_int, le2_int, gt2_int, ge2_int, cBl_bl, fIx_l, fIx_t, asL_l, fLen_l, fLen_t, fTup_l, fTup_t, fLst_l, fLst_t, seqOf_l, seqOf_t, atI_0, atI_1, atI_2, atI_3, Option.map_some, Option.bind_some, List.getElem?_cons_zero, List.getElem?_cons_succ, List.set_cons_zero, List.set_cons_succ, List.map_cons, List.map_nil, List.replicate_succ, List.replicate_zero, List.cons_append, List.nil_append, decide_eq_true_eq, Bool.not_eq_true', Bool.false_eq_true, if_true, if_false, ite_true, ite_false, reduceIte, List.length_cons, List.length_nil, gN, gTup2, gCons2, gNil2, cAndV_eq, s, f1, f2, f3, f4, eq2_int, h1, h2, h3, decide_true, decide_false, Bool.true_and, Bool.false_and]
theorem mem_eq (xs ys : List Int) : ∃ δ, m_Memory__eq [memD xs, memD ys] = .ok (.bl (decide (xs = ys))) δ := by
  have s : fIsB okI isbL "Memory" (memD ys) = some (.bl true) := rfl
  have f1 := fld_sizes
  refine ⟨[some (memD xs), some (memD ys)], ?_⟩
  unfold m_Memory__eq b_Memory__eq
  simp only [bnd_okS, bnf_okS, bnd_exS, bnf_exS, sqF_nx, sqF_ret, sqF_exc, opt_some, cVar_eq, gtK_s, hvK_s, hlK_s, flK_s, cC_eq, cNil_eq, cTrue_eq, cOp_eq, cUn_eq, cCons_eq, cTup_eq, cLst_eq, cCall_eq, cIt_eq, cSeqOf_eq, cTest_eq, cTru_eq, cNot_eq, cAnd_eq, cOr_eq, cIf_eq, cChain_eq, cSet_eq, cRet_eq, cDrop_eq, cIfS_eq, cSeq_eq, cFor_eq, cAsg_eq, cPar_eq, cPar3_eq, cParO3_eq, cSubE, stS_s, puI_0, puI_1, puI_2, runD_eq, enK_nx, enK_ret, enK_exc, pOk_0, pOk_p, pOk_v, pOk_b, cApp_eq, cSlot_eq, cExc_eq, cFn_eq, cMk_eq, fnK_ok, fnK_ex, fill0, fillN, fillS, up0, upV, upB, upP, add2_int, sub2_int, lt2_int, le2_int, gt2_int, ge2_int, cBl_bl, fIx_l, fIx_t, asL_l, fLen_l, fLen_t, fTup_l, fTup_t, fLst_l, fLst_t, seqOf_l, seqOf_t, atI_0, atI_1, atI_2, atI_3, Option.map_some, Option.bind_some, List.getElem?_cons_zero, List.getElem?_cons_succ, List.set_cons_zero, List.set_cons_succ, List.map_cons, List.map_nil, List.replicate_succ, List.replicate_zero, List.cons_append, List.nil_append, decide_eq_true_eq, Bool.not_eq_true', Bool.false_eq_true, if_true, if_false, ite_true, ite_false, reduceIte, List.length_cons, List.length_nil, gN, gTup2, gCons2, gNil2, cAndV_eq, s, f1, eq2_tup]
theorem t_store : ocT "Store" = some m_Store__eq := rfl
theorem t_flush : ocT "Flush" = some m_Flush__eq := rfl
theorem t_copy : ocT "Copy" = some m_Copy__eq := rfl
theorem t_fence : ocT "Fence" = some m_Fence__eq := rfl
theorem t_mem : ocT "Memory" = some m_Memory__eq := rfl
end Dn

namespace Dn
open PySem L2 Q
theorem compF {tt : Dl → Rs Bool} {i : Nat} {p : Dv → Bool} {xs : List Dv} {δ : Dl} (ht : ∀ x ∈ xs, tt (δ.set i (some x)) = .ok (p x) (δ.set i (some x))) (hw : ∀ x, wipeD (δ.set i (some x)) [i] = δ) (hi : i < δ.length) :
    compL (gN i) tt (cVar i) [i] xs δ [] = .ok (xs.filter p) δ := by
  obtain ⟨ys, δ', e, rfl, rfl⟩ := compL_ok (g := gN i) (tt := tt) (el := cVar i) (vs := [i]) (fun k d acc => d = δ ∧ acc = (xs.take k).filter p) (xs := xs) (δ := δ) ⟨rfl, rfl⟩ (by
    rintro k x d acc hx ⟨rfl, rfl⟩
    have hm : x ∈ xs := List.mem_of_getElem? hx
    have tk : xs.take (k + 1) = xs.take k ++ [x] := by rw [List.take_add_one, hx]; rfl
    have hv : cVar i (d.set i (some x)) = .ok x (d.set i (some x)) := by
      unfold cVar
      rw [List.getElem?_set_self hi]
    refine ⟨_, rfl, ?_⟩
    rw [tk, List.filter_append]
    cases hp : p x with
    | true => exact .inl ⟨_, x, _, by rw [ht x hm, hp], hv, hw x, by simp [hp]⟩
    | false => exact .inr ⟨_, by rw [ht x hm, hp], hw x, by simp [hp]⟩)
  rw [List.take_length] at e
  exact e
theorem turn {c0 c1 c2 c3 c4 c5 c6 c7 c8 c11 c12 : Option Dv} {L : List Dv} {m : Dv} {p : Dv → Bool} (hl : L.length ≤ 1000) (hp : ∀ y ∈ L, eqT ocT okI isbL 0 m y = some (p y)) (hc : (L.filter p).length = 1) :
    l_law_right_6 [c0, c1, c2, c3, c4, c5, c6, c7, c8, some (.lst L), some m, c11, c12] = .nx [c0, c1, c2, c3, c4, c5, c6, c7, c8, some (.lst L), some m, none, none] := by
  have k1 : compL (gN 11) t_law_right_4 e_law_right_5 [11] L [c0, c1, c2, c3, c4, c5, c6, c7, c8, some (.lst L), some m, none, c12] [] = .ok (L.filter p) _ := compF (i := 11) (fun x hx => by
    show t_law_right_4 [c0, c1, c2, c3, c4, c5, c6, c7, c8, some (.lst L), some m, some x, c12] = .ok (p x) [c0, c1, c2, c3, c4, c5, c6, c7, c8, some (.lst L), some m, some x, c12]
    unfold t_law_right_4
    simp only [bnd_okS, bnf_okS, bnd_exS, bnf_exS, sqF_nx, sqF_ret, sqF_exc, opt_some, cVar_eq, gtK_s, hvK_s, hlK_s, flK_s, cC_eq, cNil_eq, cTrue_eq, cOp_eq, cUn_eq, cCons_eq, cTup_eq, cLst_eq, cCall_eq, cIt_eq, cSeqOf_eq, cTest_eq, cTru_eq, cNot_eq, cAnd_eq, cOr_eq, cIf_eq, cChain_eq, cSet_eq, cRet_eq, cDrop_eq, cIfS_eq, cSeq_eq, cFor_eq, cAsg_eq, cPar_eq, cPar3_eq, cParO3_eq, cSubE, stS_s, puI_0, puI_1, puI_2, runD_eq, enK_nx, enK_ret, enK_exc, pOk_0, pOk_p, pOk_v, pOk_b, cApp_eq, cSlot_eq, cExc_eq, cFn_eq, cMk_eq, fnK_ok, fnK_ex, fill0, fillN, fillS, up0, upV, upB, upP, add2_int, sub2_int, lt2_int, le2_int, gt2_int, ge2_int, cBl_bl, fIx_l, fIx_t, asL_l, fLen_l, fLen_t, fTup_l, fTup_t, fLst_l, fLst_t, seqOf_l, seqOf_t, atI_0, atI_1, atI_2, atI_3, Option.map_some, Option.bind_some, List.getElem?_cons_zero, List.getElem?_cons_succ, List.set_cons_zero, List.set_cons_succ, List.map_cons, List.map_nil, List.replicate_succ, List.replicate_zero, List.cons_append, List.nil_append, decide_eq_true_eq, Bool.not_eq_true', Bool.false_eq_true, if_true, if_false, ite_true, ite_false, reduceIte, List.length_cons, List.length_nil, gN, gTup2, gCons2, gNil2, cEqY_eq, hp x hx, id]) (fun _ => rfl) (by simp)
  have k2 : compL (gN 12) t_law_right_2 e_law_right_3 [12] L [c0, c1, c2, c3, c4, c5, c6, c7, c8, some (.lst L), some m, none, none] [] = .ok (L.filter p) _ := compF (i := 12) (fun x hx => by
    show t_law_right_2 [c0, c1, c2, c3, c4, c5, c6, c7, c8, some (.lst L), some m, none, some x] = .ok (p x) [c0, c1, c2, c3, c4, c5, c6, c7, c8, some (.lst L), some m, none, some x]
    unfold t_law_right_2
    simp only [bnd_okS, bnf_okS, bnd_exS, bnf_exS, sqF_nx, sqF_ret, sqF_exc, opt_some, cVar_eq, gtK_s, hvK_s, hlK_s, flK_s, cC_eq, cNil_eq, cTrue_eq, cOp_eq, cUn_eq, cCons_eq, cTup_eq, cLst_eq, cCall_eq, cIt_eq, cSeqOf_eq, cTest_eq, cTru_eq, cNot_eq, cAnd_eq, cOr_eq, cIf_eq, cChain_eq, cSet_eq, cRet_eq, cDrop_eq, cIfS_eq, cSeq_eq, cFor_eq, cAsg_eq, cPar_eq, cPar3_eq, cParO3_eq, cSubE, stS_s, puI_0, puI_1, puI_2, runD_eq, enK_nx, enK_ret, enK_exc, pOk_0, pOk_p, pOk_v, pOk_b, cApp_eq, cSlot_eq, cExc_eq, cFn_eq, cMk_eq, fnK_ok, fnK_ex, fill0, fillN, fillS, up0, upV, upB, upP, add2_int, sub2_int, lt2_int, le2_int, gt2_int, ge2_int, cBl_bl, fIx_l, fIx_t, asL_l, fLen_l, fLen_t, fTup_l, fTup_t, fLst_l, fLst_t, seqOf_l, seqOf_t, atI_0, atI_1, atI_2, atI_3, Option.map_some, Option.bind_some, List.getElem?_cons_zero, List.getElem?_cons_succ, List.set_cons_zero, List.set_cons_succ, List.map_cons, List.map_nil, List.replicate_succ, List.replicate_zero, List.cons_append, List.nil_append, decide_eq_true_eq, Bool.not_eq_true', Bool.false_eq_true, if_true, if_false, ite_true, ite_false, reduceIte, List.length_cons, List.length_nil, gN, gTup2, gCons2, gNil2, cEqY_eq, hp x hx, Bool.not_not]) (fun _ => rfl) (by simp)
  have d1 : i_law_right_1 [c0, c1, c2, c3, c4, c5, c6, c7, c8, some (.lst L), some m, c11, c12] = .ok L [c0, c1, c2, c3, c4, c5, c6, c7, c8, some (.lst L), some m, c11, c12] := by
    unfold i_law_right_1
    simp only [bnd_okS, bnf_okS, bnd_exS, bnf_exS, sqF_nx, sqF_ret, sqF_exc, opt_some, cVar_eq, gtK_s, hvK_s, hlK_s, flK_s, cC_eq, cNil_eq, cTrue_eq, cOp_eq, cUn_eq, cCons_eq, cTup_eq, cLst_eq, cCall_eq, cIt_eq, cSeqOf_eq, cTest_eq, cTru_eq, cNot_eq, cAnd_eq, cOr_eq, cIf_eq, cChain_eq, cSet_eq, cRet_eq, cDrop_eq, cIfS_eq, cSeq_eq, cFor_eq, cAsg_eq, cPar_eq, cPar3_eq, cParO3_eq, cSubE, stS_s, puI_0, puI_1, puI_2, runD_eq, enK_nx, enK_ret, enK_exc, pOk_0, pOk_p, pOk_v, pOk_b, cApp_eq, cSlot_eq, cExc_eq, cFn_eq, cMk_eq, fnK_ok, fnK_ex, fill0, fillN, fillS, up0, upV, upB, upP, add2_int, sub2_int, lt2_int, le2_int, gt2_int, ge2_int, cBl_bl, fIx_l, fIx_t, asL_l, fLen_l, fLen_t, fTup_l, fTup_t, fLst_l, fLst_t, seqOf_l, seqOf_t, atI_0, atI_1, atI_2, atI_3, Option.map_some, Option.bind_some, List.getElem?_cons_zero, List.getElem?_cons_succ, List.set_cons_zero, List.set_cons_succ, List.map_cons, List.map_nil, List.replicate_succ, List.replicate_zero, List.cons_append, List.nil_append, decide_eq_true_eq, Bool.not_eq_true', Bool.false_eq_true, if_true, if_false, ite_true, ite_false, reduceIte, List.length_cons, List.length_nil, gN, gTup2, gCons2, gNil2]
  have d2 : i_law_right_1 [c0, c1, c2, c3, c4, c5, c6, c7, c8, some (.lst L), some m, none, c12] = .ok L [c0, c1, c2, c3, c4, c5, c6, c7, c8, some (.lst L), some m, none, c12] := by
    unfold i_law_right_1
    simp only [bnd_okS, bnf_okS, bnd_exS, bnf_exS, sqF_nx, sqF_ret, sqF_exc, opt_some, cVar_eq, gtK_s, hvK_s, hlK_s, flK_s, cC_eq, cNil_eq, cTrue_eq, cOp_eq, cUn_eq, cCons_eq, cTup_eq, cLst_eq, cCall_eq, cIt_eq, cSeqOf_eq, cTest_eq, cTru_eq, cNot_eq, cAnd_eq, cOr_eq, cIf_eq, cChain_eq, cSet_eq, cRet_eq, cDrop_eq, cIfS_eq, cSeq_eq, cFor_eq, cAsg_eq, cPar_eq, cPar3_eq, cParO3_eq, cSubE, stS_s, puI_0, puI_1, puI_2, runD_eq, enK_nx, enK_ret, enK_exc, pOk_0, pOk_p, pOk_v, pOk_b, cApp_eq, cSlot_eq, cExc_eq, cFn_eq, cMk_eq, fnK_ok, fnK_ex, fill0, fillN, fillS, up0, upV, upB, upP, add2_int, sub2_int, lt2_int, le2_int, gt2_int, ge2_int, cBl_bl, fIx_l, fIx_t, asL_l, fLen_l, fLen_t, fTup_l, fTup_t, fLst_l, fLst_t, seqOf_l, seqOf_t, atI_0, atI_1, atI_2, atI_3, Option.map_some, Option.bind_some, List.getElem?_cons_zero, List.getElem?_cons_succ, List.set_cons_zero, List.set_cons_succ, List.map_cons, List.map_nil, List.replicate_succ, List.replicate_zero, List.cons_append, List.nil_append, decide_eq_true_eq, Bool.not_eq_true', Bool.false_eq_true, if_true, if_false, ite_true, ite_false, reduceIte, List.length_cons, List.length_nil, gN, gTup2, gCons2, gNil2]
  have e1 := cComp_ok d1 (by omega) k1
  have e2 := cComp_ok d2 (by omega) k2
  unfold l_law_right_6
  simp only [bnd_okS, bnf_okS, bnd_exS, bnf_exS, sqF_nx, sqF_ret, sqF_exc, opt_some, cVar_eq, gtK_s, hvK_s, hlK_s, flK_s, cC_eq, cNil_eq, cTrue_eq, cOp_eq, cUn_eq, cCons_eq, cTup_eq, cLst_eq, cCall_eq, cIt_eq, cSeqOf_eq, cTest_eq, cTru_eq, cNot_eq, cAnd_eq, cOr_eq, cIf_eq, cChain_eq, cSet_eq, cRet_eq, cDrop_eq, cIfS_eq, cSeq_eq, cFor_eq, cAsg_eq, cPar_eq, cPar3_eq, cParO3_eq, cSubE, stS_s, puI_0, puI_1, puI_2, runD_eq, enK_nx, enK_ret, enK_exc, pOk_0, pOk_p, pOk_v, pOk_b, cApp_eq, cSlot_eq, cExc_eq, cFn_eq, cMk_eq, fnK_ok, fnK_ex, fill0, fillN, fillS, up0, upV, upB, upP, add2_int, sub2_int, lt2_int, le2_int, gt2_int, ge2_int, cBl_bl, fIx_l, fIx_t, asL_l, fLen_l, fLen_t, fTup_l, fTup_t, fLst_l, fLst_t, seqOf_l, seqOf_t, atI_0, atI_1, atI_2, atI_3, Option.map_some, Option.bind_some, List.getElem?_cons_zero, List.getElem?_cons_succ, List.set_cons_zero, List.set_cons_succ, List.map_cons, List.map_nil, List.replicate_succ, List.replicate_zero, List.cons_append, List.nil_append, decide_eq_true_eq, Bool.not_eq_true', Bool.false_eq_true, if_true, if_false, ite_true, ite_false, reduceIte, List.length_cons, List.length_nil, gN, gTup2, gCons2, gNil2, e1, e2, hc, ne2_int]
  rfl
/-- the four -/
theorem s_s (a b c a' b' c' : Int) : eqT ocT okI isbL 0 (stD a b c) (stD a' b' c') = some (decide (a = a') && (decide (b = b') && decide (c = c'))) := eqT_of t_store rfl (store_eq ..)
theorem f_f (a a' : Int) : eqT ocT okI isbL 0 (flD a) (flD a') = some (decide (a = a')) := eqT_of t_flush rfl (flush_eq ..)
theorem c_c (a b c d a' b' c' d' : Int) : eqT ocT okI isbL 0 (cpD a b c d) (cpD a' b' c' d') = some (decide (a = a') && (decide (b = b') && (decide (c = c') && decide (d = d')))) := eqT_of t_copy rfl (copy_eq ..)
theorem m_m (xs ys : List Int) : eqT ocT okI isbL 0 (memD xs) (memD ys) = some (decide (xs = ys)) := eqT_of t_mem rfl (mem_eq ..)
theorem e_e : eqT ocT okI isbL 0 feD feD = some true := eqT_of t_fence rfl (fence_is rfl)
theorem s_no {a b c : Int} {y : Dv} (h : fIsB okI isbL "Store" y = some (.bl false)) (hN : okN okI isbL "Store" y = true) : eqT ocT okI isbL 0 (stD a b c) y = some false := eqT_of t_store hN (store_no h)
theorem f_no {a : Int} {y : Dv} (h : fIsB okI isbL "Flush" y = some (.bl false)) (hN : okN okI isbL "Flush" y = true) : eqT ocT okI isbL 0 (flD a) y = some false := eqT_of t_flush hN (flush_no h)
theorem c_no {a b c d : Int} {y : Dv} (h : fIsB okI isbL "Copy" y = some (.bl false)) (hN : okN okI isbL "Copy" y = true) : eqT ocT okI isbL 0 (cpD a b c d) y = some false := eqT_of t_copy hN (copy_no h)
theorem e_no {y : Dv} (h : fIsB okI isbL "Fence" y = some (.bl false)) (hN : okN okI isbL "Fence" y = true) : eqT ocT okI isbL 0 feD y = some false := eqT_of t_fence hN (fence_is h)
theorem m_no {xs : List Int} {y : Dv} (h : fIsB okI isbL "Memory" y = some (.bl false)) (hN : okN okI isbL "Memory" y = true) : eqT ocT okI isbL 0 (memD xs) y = some false := eqT_of t_mem hN (mem_no h)
/-- the others -/
def others (a b c d : Int) : List Dv := [stD (a + 1) b c, stD a (b + 1) c, stD a b (c + 1), flD (a + 1), cpD (a + 1) b c d] ++ [cpD a (b + 1) c d, cpD a b (c + 1) d, cpD a b c (d + 1), isD a b [c], .tup [.int a, .int b, .int c], .non] ++ [stD a b c, flD a, cpD a b c d, feD, .tup [.int a], .tup [.int a, .int b, .int c, .int d]]
theorem ne1 (a : Int) : decide (a = a + 1) = false := decide_eq_false (by omega)
theorem all_of {P : Dv → Prop} {xs : List Dv} (h : xs.foldr (fun x q => P x ∧ q) True) : ∀ x ∈ xs, P x := by
  induction xs with
  | nil => intro x hx; cases hx
  | cons y ys ih =>
    intro x hx
    rcases List.mem_cons.mp hx with rfl | hx
    · exact h.1
    · exact ih h.2 x hx
/-- how one of the four answers to all -/
def ans (m : Dv) (y : Dv) : Bool := (eqT ocT okI isbL 0 m y).getD false
theorem ans_of {m : Dv} {L : List Dv} {bs : List Bool} (h : L.map (eqT ocT okI isbL 0 m) = bs.map some) : (∀ y ∈ L, eqT ocT okI isbL 0 m y = some (ans m y)) ∧ (L.filter (ans m)).length = (bs.filter id).length := by
  induction L generalizing bs with
  | nil =>
    cases bs with
    | nil => exact ⟨fun y hy => (by cases hy), rfl⟩
    | cons b bs => cases h
  | cons x xs ih =>
    cases bs with
    | nil => cases h
    | cons b bs =>
      obtain ⟨h1, h2⟩ := List.cons.inj h
      obtain ⟨i1, i2⟩ := ih h2
      have hx : ans m x = b := by unfold ans; rw [h1]; rfl
      refine ⟨fun y hy => ?_, ?_⟩
      · rcases List.mem_cons.mp hy with rfl | hy
        · rw [h1, hx]
        · exact i1 y hy
      · rw [List.filter_cons, List.filter_cons, hx]
        cases b <;> simp [i2]
theorem four_s (a b c d : Int) : (others a b c d).map (eqT ocT okI isbL 0 (stD a b c)) = [false, false, false, false, false, false, false, false, false, false, false, true, false, false, false, false, false].map some := by
  simp only [others, List.cons_append, List.nil_append, List.map_cons, List.map_nil, s_s, ne1, decide_true, Bool.true_and, Bool.false_and, Bool.and_false, s_no (y := flD (a + 1)) rfl rfl, s_no (y := cpD (a + 1) b c d) rfl rfl, s_no (y := cpD a (b + 1) c d) rfl rfl, s_no (y := cpD a b (c + 1) d) rfl rfl, s_no (y := cpD a b c (d + 1)) rfl rfl, s_no (y := isD a b [c]) rfl rfl, s_no (y := .tup [.int a, .int b, .int c]) rfl rfl, s_no (y := .non) rfl rfl, s_no (y := flD a) rfl rfl, s_no (y := cpD a b c d) rfl rfl, s_no (y := feD) rfl rfl, s_no (y := .tup [.int a]) rfl rfl, s_no (y := .tup [.int a, .int b, .int c, .int d]) rfl rfl]
theorem four_f (a b c d : Int) : (others a b c d).map (eqT ocT okI isbL 0 (flD a)) = [false, false, false, false, false, false, false, false, false, false, false, false, true, false, false, false, false].map some := by
  simp only [others, List.cons_append, List.nil_append, List.map_cons, List.map_nil, f_f, ne1, decide_true, Bool.true_and, Bool.false_and, Bool.and_false, f_no (y := stD (a + 1) b c) rfl rfl, f_no (y := stD a (b + 1) c) rfl rfl, f_no (y := stD a b (c + 1)) rfl rfl, f_no (y := cpD (a + 1) b c d) rfl rfl, f_no (y := cpD a (b + 1) c d) rfl rfl, f_no (y := cpD a b (c + 1) d) rfl rfl, f_no (y := cpD a b c (d + 1)) rfl rfl, f_no (y := isD a b [c]) rfl rfl, f_no (y := .tup [.int a, .int b, .int c]) rfl rfl, f_no (y := .non) rfl rfl, f_no (y := stD a b c) rfl rfl, f_no (y := cpD a b c d) rfl rfl, f_no (y := feD) rfl rfl, f_no (y := .tup [.int a]) rfl rfl, f_no (y := .tup [.int a, .int b, .int c, .int d]) rfl rfl]
theorem four_c (a b c d : Int) : (others a b c d).map (eqT ocT okI isbL 0 (cpD a b c d)) = [false, false, false, false, false, false, false, false, false, false, false, false, false, true, false, false, false].map some := by
  simp only [others, List.cons_append, List.nil_append, List.map_cons, List.map_nil, c_c, ne1, decide_true, Bool.true_and, Bool.false_and, Bool.and_false, c_no (y := stD (a + 1) b c) rfl rfl, c_no (y := stD a (b + 1) c) rfl rfl, c_no (y := stD a b (c + 1)) rfl rfl, c_no (y := flD (a + 1)) rfl rfl, c_no (y := isD a b [c]) rfl rfl, c_no (y := .tup [.int a, .int b, .int c]) rfl rfl, c_no (y := .non) rfl rfl, c_no (y := stD a b c) rfl rfl, c_no (y := flD a) rfl rfl, c_no (y := feD) rfl rfl, c_no (y := .tup [.int a]) rfl rfl, c_no (y := .tup [.int a, .int b, .int c, .int d]) rfl rfl]
theorem four_e (a b c d : Int) : (others a b c d).map (eqT ocT okI isbL 0 feD) = [false, false, false, false, false, false, false, false, false, false, false, false, false, false, true, false, false].map some := by
  simp only [others, List.cons_append, List.nil_append, List.map_cons, List.map_nil, e_e, ne1, decide_true, Bool.true_and, Bool.false_and, Bool.and_false, e_no (y := stD (a + 1) b c) rfl rfl, e_no (y := stD a (b + 1) c) rfl rfl, e_no (y := stD a b (c + 1)) rfl rfl, e_no (y := flD (a + 1)) rfl rfl, e_no (y := cpD (a + 1) b c d) rfl rfl, e_no (y := cpD a (b + 1) c d) rfl rfl, e_no (y := cpD a b (c + 1) d) rfl rfl, e_no (y := cpD a b c (d + 1)) rfl rfl, e_no (y := isD a b [c]) rfl rfl, e_no (y := .tup [.int a, .int b, .int c]) rfl rfl, e_no (y := .non) rfl rfl, e_no (y := stD a b c) rfl rfl, e_no (y := flD a) rfl rfl, e_no (y := cpD a b c d) rfl rfl, e_no (y := .tup [.int a]) rfl rfl, e_no (y := .tup [.int a, .int b, .int c, .int d]) rfl rfl]
end Dn

namespace Dn
open PySem L2 Q
theorem memI_l {ns : List Int} (h : SizesOk ns) : m_Memory__init [.obj "Memory" [] [], .lst (intD ns)] = .ok .non [some (memD ns), some (.lst (intD ns))] := by
  obtain ⟨o, e⟩ := csizes_is h
  exact memI_h e rfl
theorem csizes_t {ns : List Int} (h : SizesOk ns) : ∃ o, m_check_sizes [.tup (intD ns)] = .ok .non [some (.tup (intD ns)), o] := by
  obtain ⟨⟨n1, n6⟩, nr⟩ := h
  obtain ⟨δ', e, o, rfl⟩ := forL_ok (g := gN 1) (b := l_check_sizes_1) (fun i δ => ∃ o, δ = [some (.tup (intD ns)), o]) (xs := intD ns) (δ := [some (.tup (intD ns)), none]) ⟨none, rfl⟩ (by
    rintro i x δ hx ⟨o, rfl⟩
    obtain ⟨n, hn, rfl⟩ := cmd_at (f := Dv.int) (cs := ns) hx
    exact ⟨_, rfl, _, csizes_turn (nr n (List.mem_of_getElem? hn)), _, rfl⟩)
  exact ⟨o, csizes_end (IsSq.len (.inr rfl)) (by omega) (by omega) rfl e⟩
theorem memI_t {ns : List Int} (h : SizesOk ns) : m_Memory__init [.obj "Memory" [] [], .tup (intD ns)] = .ok .non [some (memD ns), some (.tup (intD ns))] := by
  obtain ⟨o, e⟩ := csizes_t h
  exact memI_h e rfl
theorem cutB {xs : List Int} {k : Int} (h : 0 ≤ k) (h2 : k ≤ xs.length) : slB (.tup (intD xs)) none (some k) = some (.tup (intD (xs.take k.toNat))) ∧ slB (.tup (intD xs)) (some k) none = some (.tup (intD (xs.drop k.toNat))) := by
  constructor
  · show some (Dv.tup (cutD (intD xs) none (some k))) = _
    unfold cutD
    rw [six_none, six_at h (by rw [len_int]; exact h2), List.drop_zero, Nat.sub_zero]
    show some (Dv.tup ((xs.map Dv.int).take k.toNat)) = some (Dv.tup ((xs.take k.toNat).map Dv.int))
    rw [List.map_take]
  · show some (Dv.tup (cutD (intD xs) (some k) none)) = _
    unfold cutD
    rw [six_none, six_at h (by rw [len_int]; exact h2), List.take_of_length_le (by rw [List.length_drop]; omega)]
    show some (Dv.tup ((xs.map Dv.int).drop k.toNat)) = some (Dv.tup ((xs.drop k.toNat).map Dv.int))
    rw [List.map_drop]
def chg (ns : List Int) (k : Int) : List Int := ns.set k.toNat (ns.getD k.toNat 0 % 4 + 1)
theorem chg_ok {ns : List Int} {k : Int} (h : SizesOk ns) : SizesOk (chg ns k) := by
  obtain ⟨⟨h1, h2⟩, h3⟩ := h
  unfold chg
  refine ⟨⟨by rw [List.length_set]; exact h1, by rw [List.length_set]; exact h2⟩, fun n hn => ?_⟩
  rcases List.mem_or_eq_of_mem_set hn with z | z
  · exact h3 n z
  · omega
theorem chg_ne {ns : List Int} {k : Int} (h : SizesOk ns) (h0 : 0 ≤ k) (hk : k < ns.length) : chg ns k ≠ ns := by
  intro e
  have hl : k.toNat < ns.length := by omega
  have e1 : (chg ns k)[k.toNat]? = ns[k.toNat]? := by rw [e]
  unfold chg at e1
  rw [List.getElem?_set_self hl, List.getElem?_eq_getElem hl, List.getD_eq_getElem?_getD, List.getElem?_eq_getElem hl] at e1
  have e2 := Option.some.inj e1
  have r := h.2 _ (List.getElem_mem hl)
  have e3 : (some ns[k.toNat]).getD 0 = ns[k.toNat] := rfl
  rw [e3] at e2
  omega
theorem mkEnd_mem {kds : List Kd} {sh : Sh} {δ1 δc : Dl} {ys : List Int} : mkEnd kds sh δ1 (.ok .non (some (memD ys) :: δc)) = .ok (memD ys) (upSl kds sh δc δ1) := mkEnd_ok
theorem mem_turn {c0 c1 c5 c6 : Option Dv} {ns : List Int} {k : Int} (h : SizesOk ns) (h0 : 0 ≤ k) (hk : k < ns.length) :
    l_law_memory_right_4 [c0, c1, some (.tup (intD ns)), some (memD ns), some (.int k), c5, c6] = .nx [c0, c1, some (.tup (intD ns)), some (memD ns), some (.int k), some (.lst (intD (chg ns k))), c6] := by
  have i1 := int_at h0 hk
  have i2 := int_put (v := ns.getD k.toNat 0 % 4 + 1) h0 hk
  have cc := cutB (xs := ns) h0 (by omega)
  have hl := h.1.2
  have a1 := add_tup (a := intD (ns.take k.toNat)) (b := intD (ns.drop k.toNat)) (by rw [len_int, len_int, List.length_take, List.length_drop]; omega)
  rw [← List.map_append, List.take_append_drop] at a1
  have m1 := m_m (chg ns k) ns
  rw [decide_eq_false (chg_ne h h0 hk)] at m1
  have m2 := m_m ns ns
  rw [decide_eq_true rfl] at m2
  have z1 := memI_l (chg_ok (k := k) h)
  have z2 := memI_t h
  have i2' : puI (intD ns) (.int k) (.int (ns.getD k.toNat 0 % 4 + 1)) = some (intD (chg ns k)) := i2
  have p1 : cPart (some (cVar 4)) [c0, c1, some (.tup (intD ns)), some (memD ns), some (.int k), some (.lst (intD (chg ns k))), c6] = .ok (some k) [c0, c1, some (.tup (intD ns)), some (memD ns), some (.int k), some (.lst (intD (chg ns k))), c6] := cPart_some rfl
  unfold l_law_memory_right_4
  simp only [bnd_okS, bnf_okS, bnd_exS, bnf_exS, sqF_nx, sqF_ret, sqF_exc, opt_some, cVar_eq, gtK_s, hvK_s, hlK_s, flK_s, cC_eq, cNil_eq, cTrue_eq, cOp_eq, cUn_eq, cCons_eq, cTup_eq, cLst_eq, cCall_eq, cIt_eq, cSeqOf_eq, cTest_eq, cTru_eq, cNot_eq, cAnd_eq, cOr_eq, cIf_eq, cChain_eq, cSet_eq, cRet_eq, cDrop_eq, cIfS_eq, cSeq_eq, cFor_eq, cAsg_eq, cPar_eq, cPar3_eq, cParO3_eq, cSubE, stS_s, puI_0, puI_1, puI_2, runD_eq, enK_nx, enK_ret, enK_exc, pOk_0, pOk_p, pOk_v, pOk_b, cApp_eq, cSlot_eq, cExc_eq, cFn_eq, cMk_eq, fnK_ok, fnK_ex, fill0, fillN, fillS, up0, upV, upB, upP, add2_int, sub2_int, lt2_int, le2_int, gt2_int, ge2_int, cBl_bl, fIx_l, fIx_t, asL_l, fLen_l, fLen_t, fTup_l, fTup_t, fLst_l, fLst_t, seqOf_l, seqOf_t, atI_0, atI_1, atI_2, atI_3, Option.map_some, Option.bind_some, List.getElem?_cons_zero, List.getElem?_cons_succ, List.set_cons_zero, List.set_cons_succ, List.map_cons, List.map_nil, List.replicate_succ, List.replicate_zero, List.cons_append, List.nil_append, decide_eq_true_eq, Bool.not_eq_true', Bool.false_eq_true, if_true, if_false, ite_true, ite_false, reduceIte, List.length_cons, List.length_nil, gN, gTup2, gCons2, gNil2, i1, i2', mod2_int (j := 4) (by decide), cEqY_eq, z1, z2, mkEnd_mem, m1, m2, cSl_eq, cPart_none, p1, cc.1, cc.2, a1, id, Bool.not_true, Bool.not_false]
end Dn

namespace Dn
open PySem L2 Q
theorem things (ns : List Int) : ∀ y ∈ [.tup (intD ns), .lst (intD ns), .non, feD, .int 0], eqT ocT okI isbL 0 (memD ns) y = some false :=
  all_of ⟨m_no rfl rfl, m_no rfl rfl, m_no rfl rfl, m_no rfl rfl, m_no rfl rfl, trivial⟩
theorem isT_tup (ds : List Dv) : fIsT "tuple" (.tup ds) = some (.bl true) := rfl
theorem eq_nil : eq2 (.lst []) (.lst []) = some (.bl true) := by
  have := eq2_lst [] []
  exact this
theorem mem_right_ok (s : T3) : ∃ (t : T3) (o : Dl), m_law_memory_right [s.d] = .ok (.bl true) (some t.d :: o) := by
  obtain ⟨t, ns, hs, hn⟩ := sizes_ok s
  have hl := hn.1
  have z1 := memI_l hn
  have z2 := memI_t hn
  have f1 := fld_sizes ns
  have q1 := ne2_tup ns ns
  rw [decide_eq_true rfl] at q1
  have m2 := m_m ns ns
  rw [decide_eq_true rfl] at m2
  obtain ⟨δ', e, c5, k, rfl, _⟩ := forL_ok (g := gN 4) (b := l_law_memory_right_4) (fun i δ => ∃ c5 c4, δ = [some t.d, some (.lst (intD ns ++ [.int 1])), some (.tup (intD ns)), some (memD ns), c4, c5, none] ∧ i ≤ ns.length) (xs := rngD 0 ns.length) (δ := [some t.d, some (.lst (intD ns ++ [.int 1])), some (.tup (intD ns)), some (memD ns), none, none, none]) ⟨none, none, rfl, by omega⟩ (by
    rintro i x δ hx ⟨c5, c4, rfl, hi⟩
    obtain ⟨hi2, rfl⟩ := rng_at hx
    exact ⟨_, rfl, _, mem_turn hn (by omega) (by omega), _, _, rfl, hi2⟩)
  have c3 : compL (gN 6) t_law_memory_right_2 e_law_memory_right_3 [6] [.tup (intD ns), .lst (intD ns), .non, feD, .int 0] [some t.d, some (.lst (intD ns ++ [.int 1])), some (.tup (intD ns)), some (memD ns), k, c5, none] [] = .ok _ _ := compF (i := 6) (p := fun _ => false) (fun x hx => by
    show t_law_memory_right_2 [some t.d, some (.lst (intD ns ++ [.int 1])), some (.tup (intD ns)), some (memD ns), k, c5, some x] = .ok false [some t.d, some (.lst (intD ns ++ [.int 1])), some (.tup (intD ns)), some (memD ns), k, c5, some x]
    unfold t_law_memory_right_2
    simp only [bnd_okS, bnf_okS, bnd_exS, bnf_exS, sqF_nx, sqF_ret, sqF_exc, opt_some, cVar_eq, gtK_s, hvK_s, hlK_s, flK_s, cC_eq, cNil_eq, cTrue_eq, cOp_eq, cUn_eq, cCons_eq, cTup_eq, cLst_eq, cCall_eq, cIt_eq, cSeqOf_eq, cTest_eq, cTru_eq, cNot_eq, cAnd_eq, cOr_eq, cIf_eq, cChain_eq, cSet_eq, cRet_eq, cDrop_eq, cIfS_eq, cSeq_eq, cFor_eq, cAsg_eq, cPar_eq, cPar3_eq, cParO3_eq, cSubE, stS_s, puI_0, puI_1, puI_2, runD_eq, enK_nx, enK_ret, enK_exc, pOk_0, pOk_p, pOk_v, pOk_b, cApp_eq, cSlot_eq, cExc_eq, cFn_eq, cMk_eq, fnK_ok, fnK_ex, fill0, fillN, fillS, up0, upV, upB, upP, add2_int, sub2_int, lt2_int, le2_int, gt2_int, ge2_int, cBl_bl, fIx_l, fIx_t, asL_l, fLen_l, fLen_t, fTup_l, fTup_t, fLst_l, fLst_t, seqOf_l, seqOf_t, atI_0, atI_1, atI_2, atI_3, Option.map_some, Option.bind_some, List.getElem?_cons_zero, List.getElem?_cons_succ, List.set_cons_zero, List.set_cons_succ, List.map_cons, List.map_nil, List.replicate_succ, List.replicate_zero, List.cons_append, List.nil_append, decide_eq_true_eq, Bool.not_eq_true', Bool.false_eq_true, if_true, if_false, ite_true, ite_false, reduceIte, List.length_cons, List.length_nil, gN, gTup2, gCons2, gNil2, cEqY_eq, things ns x hx, id, Bool.not_true, Bool.not_false]) (fun _ => rfl) (by simp)
  have d3 : i_law_memory_right_1 [some t.d, some (.lst (intD ns ++ [.int 1])), some (.tup (intD ns)), some (memD ns), k, c5, none] = .ok [.tup (intD ns), .lst (intD ns), .non, feD, .int 0] [some t.d, some (.lst (intD ns ++ [.int 1])), some (.tup (intD ns)), some (memD ns), k, c5, none] := by
    unfold i_law_memory_right_1
    simp only [bnd_okS, bnf_okS, bnd_exS, bnf_exS, sqF_nx, sqF_ret, sqF_exc, opt_some, cVar_eq, gtK_s, hvK_s, hlK_s, flK_s, cC_eq, cNil_eq, cTrue_eq, cOp_eq, cUn_eq, cCons_eq, cTup_eq, cLst_eq, cCall_eq, cIt_eq, cSeqOf_eq, cTest_eq, cTru_eq, cNot_eq, cAnd_eq, cOr_eq, cIf_eq, cChain_eq, cSet_eq, cRet_eq, cDrop_eq, cIfS_eq, cSeq_eq, cFor_eq, cAsg_eq, cPar_eq, cPar3_eq, cParO3_eq, cSubE, stS_s, puI_0, puI_1, puI_2, runD_eq, enK_nx, enK_ret, enK_exc, pOk_0, pOk_p, pOk_v, pOk_b, cApp_eq, cSlot_eq, cExc_eq, cFn_eq, cMk_eq, fnK_ok, fnK_ex, fill0, fillN, fillS, up0, upV, upB, upP, add2_int, sub2_int, lt2_int, le2_int, gt2_int, ge2_int, cBl_bl, fIx_l, fIx_t, asL_l, fLen_l, fLen_t, fTup_l, fTup_t, fLst_l, fLst_t, seqOf_l, seqOf_t, atI_0, atI_1, atI_2, atI_3, Option.map_some, Option.bind_some, List.getElem?_cons_zero, List.getElem?_cons_succ, List.set_cons_zero, List.set_cons_succ, List.map_cons, List.map_nil, List.replicate_succ, List.replicate_zero, List.cons_append, List.nil_append, decide_eq_true_eq, Bool.not_eq_true', Bool.false_eq_true, if_true, if_false, ite_true, ite_false, reduceIte, List.length_cons, List.length_nil, gN, gTup2, gCons2, gNil2]
    rfl
  have e3 := cComp_ok d3 (by simp) c3
  have fe : ([.tup (intD ns), .lst (intD ns), .non, feD, .int 0] : List Dv).filter (fun _ => false) = [] := by simp
  rw [fe] at e3
  have sz : ns.length < sizeLine := big _ (by omega)
  have r1 : fRng1 [.int (ns.length : Int)] = some (rngD 0 ns.length) := by
    have := fRng1_at (j := (ns.length : Int)) (by omega) (by omega)
    exact this
  refine ⟨t, ?_⟩
  by_cases h1 : 1 < (ns.length : Int)
  · have hd : SizesOk (ns.drop 1) := ⟨⟨by rw [List.length_drop]; omega, by rw [List.length_drop]; omega⟩, fun n z => hn.2 n (List.mem_of_mem_drop z)⟩
    have z3 := memI_t hd
    have m3 := m_m (ns.drop 1) ns
    rw [decide_eq_false (fun z => by have := congrArg List.length z; rw [List.length_drop] at this; omega)] at m3
    have s3 := (cutB (xs := ns) (k := 1) (by omega) (by omega)).2
    have s3' : slB (.tup (intD ns)) (some 1) none = some (.tup (intD (ns.drop 1))) := s3
    have p1 : cPart (some (cC (.int 1))) [some t.d, some (.lst (intD ns ++ [.int 1])), some (.tup (intD ns)), some (memD ns), k, c5, none] = .ok (some 1) [some t.d, some (.lst (intD ns ++ [.int 1])), some (.tup (intD ns)), some (memD ns), k, c5, none] := cPart_some rfl
    refine ⟨[some (.lst (intD ns ++ [.int 1])), some (.tup (intD ns)), some (memD ns), k, c5, none], ?_⟩
    unfold m_law_memory_right b_law_memory_right
    simp only [bnd_okS, bnf_okS, bnd_exS, bnf_exS, sqF_nx, sqF_ret, sqF_exc, opt_some, cVar_eq, gtK_s, hvK_s, hlK_s, flK_s, cC_eq, cNil_eq, cTrue_eq, cOp_eq, cUn_eq, cCons_eq, cTup_eq, cLst_eq, cCall_eq, cIt_eq, cSeqOf_eq, cTest_eq, cTru_eq, cNot_eq, cAnd_eq, cOr_eq, cIf_eq, cChain_eq, cSet_eq, cRet_eq, cDrop_eq, cIfS_eq, cSeq_eq, cFor_eq, cAsg_eq, cPar_eq, cPar3_eq, cParO3_eq, cSubE, stS_s, puI_0, puI_1, puI_2, runD_eq, enK_nx, enK_ret, enK_exc, pOk_0, pOk_p, pOk_v, pOk_b, cApp_eq, cSlot_eq, cExc_eq, cFn_eq, cMk_eq, fnK_ok, fnK_ex, fill0, fillN, fillS, up0, upV, upB, upP, add2_int, sub2_int, lt2_int, le2_int, gt2_int, ge2_int, cBl_bl, fIx_l, fIx_t, asL_l, fLen_l, fLen_t, fTup_l, fTup_t, fLst_l, fLst_t, seqOf_l, seqOf_t, atI_0, atI_1, atI_2, atI_3, Option.map_some, Option.bind_some, List.getElem?_cons_zero, List.getElem?_cons_succ, List.set_cons_zero, List.set_cons_succ, List.map_cons, List.map_nil, List.replicate_succ, List.replicate_zero, List.cons_append, List.nil_append, decide_eq_true_eq, Bool.not_eq_true', Bool.false_eq_true, if_true, if_false, ite_true, ite_false, reduceIte, List.length_cons, List.length_nil, gN, gTup2, gCons2, gNil2, hs, z1, z2, z3, mkEnd_mem, sz, f1, q1, m2, isT_tup, cEqY_eq, Bool.not_true, Bool.not_false, len_int, r1, e, h1, decide_true, cSl_eq, cPart_none, p1, s3', m3, id, e3, eq_nil]
  · refine ⟨[some (.lst (intD ns ++ [.int 1])), some (.tup (intD ns)), some (memD ns), k, c5, none], ?_⟩
    unfold m_law_memory_right b_law_memory_right
    simp only [bnd_okS, bnf_okS, bnd_exS, bnf_exS, sqF_nx, sqF_ret, sqF_exc, opt_some, cVar_eq, gtK_s, hvK_s, hlK_s, flK_s, cC_eq, cNil_eq, cTrue_eq, cOp_eq, cUn_eq, cCons_eq, cTup_eq, cLst_eq, cCall_eq, cIt_eq, cSeqOf_eq, cTest_eq, cTru_eq, cNot_eq, cAnd_eq, cOr_eq, cIf_eq, cChain_eq, cSet_eq, cRet_eq, cDrop_eq, cIfS_eq, cSeq_eq, cFor_eq, cAsg_eq, cPar_eq, cPar3_eq, cParO3_eq, cSubE, stS_s, puI_0, puI_1, puI_2, runD_eq, enK_nx, enK_ret, enK_exc, pOk_0, pOk_p, pOk_v, pOk_b, cApp_eq, cSlot_eq, cExc_eq, cFn_eq, cMk_eq, fnK_ok, fnK_ex, fill0, fillN, fillS, up0, upV, upB, upP, add2_int, sub2_int, lt2_int, le2_int, gt2_int, ge2_int, cBl_bl, fIx_l, fIx_t, asL_l, fLen_l, fLen_t, fTup_l, fTup_t, fLst_l, fLst_t, seqOf_l, seqOf_t, atI_0, atI_1, atI_2, atI_3, Option.map_some, Option.bind_some, List.getElem?_cons_zero, List.getElem?_cons_succ, List.set_cons_zero, List.set_cons_succ, List.map_cons, List.map_nil, List.replicate_succ, List.replicate_zero, List.cons_append, List.nil_append, decide_eq_true_eq, Bool.not_eq_true', Bool.false_eq_true, if_true, if_false, ite_true, ite_false, reduceIte, List.length_cons, List.length_nil, gN, gTup2, gCons2, gNil2, hs, z1, z2, mkEnd_mem, sz, f1, q1, m2, isT_tup, cEqY_eq, Bool.not_true, Bool.not_false, len_int, r1, e, h1, decide_false, id, e3, eq_nil]
end Dn

namespace Dn
open PySem L2 Q
theorem put_cl (x : Dv) : putD okA "line" x (.obj "Copy" [] []) = some (.obj "Copy" ["line"] [x]) := by rfl
theorem put_cw (x y : Dv) : putD okA "word" y (.obj "Copy" ["line"] [x]) = some (.obj "Copy" ["line", "word"] [x, y]) := by rfl
theorem put_cf (x y z : Dv) : putD okA "from_line" z (.obj "Copy" ["line", "word"] [x, y]) = some (.obj "Copy" ["line", "word", "from_line"] [x, y, z]) := by rfl
theorem put_cg (x y z w : Dv) : putD okA "from_word" w (.obj "Copy" ["line", "word", "from_line"] [x, y, z]) = some (.obj "Copy" ["line", "word", "from_line", "from_word"] [x, y, z, w]) := by rfl
theorem copyI (a b c d : Int) : m_Copy__init [.obj "Copy" [] [], .int a, .int b, .int c, .int d] = .ok .non [some (cpD a b c d), some (.int a), some (.int b), some (.int c), some (.int d)] := by
  unfold m_Copy__init b_Copy__init
  simp only [bnd_okS, bnf_okS, bnd_exS, bnf_exS, sqF_nx, sqF_ret, sqF_exc, opt_some, cVar_eq, gtK_s, hvK_s, hlK_s, flK_s, cC_eq, cNil_eq, cTrue_eq, cOp_eq, cUn_eq, cCons_eq, cTup_eq, cLst_eq, cCall_eq, cIt_eq, cSeqOf_eq, cTest_eq, cTru_eq, cNot_eq, cAnd_eq, cOr_eq, cIf_eq, cChain_eq, cSet_eq, cRet_eq, cDrop_eq, cIfS_eq, cSeq_eq, cFor_eq, cAsg_eq, cPar_eq, cPar3_eq, cParO3_eq, cSubE, stS_s, puI_0, puI_1, puI_2, runD_eq, enK_nx, enK_ret, enK_exc, pOk_0, pOk_p, pOk_v, pOk_b, cApp_eq, cSlot_eq, cExc_eq, cFn_eq, cMk_eq, fnK_ok, fnK_ex, fill0, fillN, fillS, up0, upV, upB, upP, add2_int, sub2_int, lt2_int, le2_int, gt2_int, ge2_int, cBl_bl, fIx_l, fIx_t, asL_l, fLen_l, fLen_t, fTup_l, fTup_t, fLst_l, fLst_t, seqOf_l, seqOf_t, atI_0, atI_1, atI_2, atI_3, Option.map_some, Option.bind_some, List.getElem?_cons_zero, List.getElem?_cons_succ, List.set_cons_zero, List.set_cons_succ, List.map_cons, List.map_nil, List.replicate_succ, List.replicate_zero, List.cons_append, List.nil_append, decide_eq_true_eq, Bool.not_eq_true', Bool.false_eq_true, if_true, if_false, ite_true, ite_false, reduceIte, List.length_cons, List.length_nil, gN, gTup2, gCons2, gNil2, cFld_eq, put_cl, put_cw, put_cf, put_cg]
  rfl
theorem put_il (x : Dv) : putD okA "line" x (.obj "Is" [] []) = some (.obj "Is" ["line"] [x]) := by rfl
theorem put_iw (x y : Dv) : putD okA "word" y (.obj "Is" ["line"] [x]) = some (.obj "Is" ["line", "word"] [x, y]) := by rfl
theorem put_in (x y z : Dv) : putD okA "numbers" z (.obj "Is" ["line", "word"] [x, y]) = some (.obj "Is" ["line", "word", "numbers"] [x, y, z]) := by rfl
theorem one_SS (c : Int) : fSS [.lst [.int c]] = some (.lst [.int c]) := rfl
theorem isI (a b c : Int) : m_Is__init [.obj "Is" [] [], .int a, .int b, .lst [.int c]] = .ok .non [some (isD a b [c]), some (.int a), some (.int b), some (.lst [.int c])] := by
  unfold m_Is__init b_Is__init
  simp only [bnd_okS, bnf_okS, bnd_exS, bnf_exS, sqF_nx, sqF_ret, sqF_exc, opt_some, cVar_eq, gtK_s, hvK_s, hlK_s, flK_s, cC_eq, cNil_eq, cTrue_eq, cOp_eq, cUn_eq, cCons_eq, cTup_eq, cLst_eq, cCall_eq, cIt_eq, cSeqOf_eq, cTest_eq, cTru_eq, cNot_eq, cAnd_eq, cOr_eq, cIf_eq, cChain_eq, cSet_eq, cRet_eq, cDrop_eq, cIfS_eq, cSeq_eq, cFor_eq, cAsg_eq, cPar_eq, cPar3_eq, cParO3_eq, cSubE, stS_s, puI_0, puI_1, puI_2, runD_eq, enK_nx, enK_ret, enK_exc, pOk_0, pOk_p, pOk_v, pOk_b, cApp_eq, cSlot_eq, cExc_eq, cFn_eq, cMk_eq, fnK_ok, fnK_ex, fill0, fillN, fillS, up0, upV, upB, upP, add2_int, sub2_int, lt2_int, le2_int, gt2_int, ge2_int, cBl_bl, fIx_l, fIx_t, asL_l, fLen_l, fLen_t, fTup_l, fTup_t, fLst_l, fLst_t, seqOf_l, seqOf_t, atI_0, atI_1, atI_2, atI_3, Option.map_some, Option.bind_some, List.getElem?_cons_zero, List.getElem?_cons_succ, List.set_cons_zero, List.set_cons_succ, List.map_cons, List.map_nil, List.replicate_succ, List.replicate_zero, List.cons_append, List.nil_append, decide_eq_true_eq, Bool.not_eq_true', Bool.false_eq_true, if_true, if_false, ite_true, ite_false, reduceIte, List.length_cons, List.length_nil, gN, gTup2, gCons2, gNil2, cFld_eq, put_il, put_iw, put_in, one_SS]
  rfl
theorem storeI' (a b c : Int) : m_Store__init [.obj "Store" [] [], .int a, .int b, .int c] = .ok .non [some (stD a b c), some (.int a), some (.int b), some (.int c)] := storeI _ _ _
theorem flushI' (a : Int) : m_Flush__init [.obj "Flush" [] [], .int a] = .ok .non [some (flD a), some (.int a)] := flushI _
section
variable {kds : List Kd} {sh : Sh} {δ1 δc : Dl}
theorem mkS {a b c : Int} : mkEnd kds sh δ1 (.ok .non (some (stD a b c) :: δc)) = .ok (stD a b c) (upSl kds sh δc δ1) := mkEnd_ok
theorem mkF {a : Int} : mkEnd kds sh δ1 (.ok .non (some (flD a) :: δc)) = .ok (flD a) (upSl kds sh δc δ1) := mkEnd_ok
theorem mkC {a b c d : Int} : mkEnd kds sh δ1 (.ok .non (some (cpD a b c d) :: δc)) = .ok (cpD a b c d) (upSl kds sh δc δ1) := mkEnd_ok
theorem mkI {a b : Int} {ns : List Int} : mkEnd kds sh δ1 (.ok .non (some (isD a b ns) :: δc)) = .ok (isD a b ns) (upSl kds sh δc δ1) := mkEnd_ok
end
theorem s_self (a b c : Int) : eqT ocT okI isbL 0 (stD a b c) (stD a b c) = some true := by rw [s_s]; simp
theorem f_self (a : Int) : eqT ocT okI isbL 0 (flD a) (flD a) = some true := by rw [f_f]; simp
theorem c_self (a b c d : Int) : eqT ocT okI isbL 0 (cpD a b c d) (cpD a b c d) = some true := by rw [c_c]; simp
theorem e_self : eqT ocT okI isbL 0 (.obj "Fence" [] []) (.obj "Fence" [] []) = some true := e_e
theorem q4 (a b c d : Int) : ne2 (.tup [.int a, .int b, .int c, .int d]) (.tup [.int a, .int b, .int c, .int d]) = some (.bl false) := by
  have := ne2_tup [a, b, c, d] [a, b, c, d]
  rw [decide_eq_true rfl] at this
  exact this
theorem numbers_ok (s : T3) : ∃ (t : T3) (a b c d : Int), cComp i_law_right_7 (gN 5) cTrue e_law_right_8 [5] [some s.d, none, none, none, none, none, none, none, none, none, none, none, none] = .ok (.lst [.int a, .int b, .int c, .int d]) [some t.d, none, none, none, none, none, none, none, none, none, none, none, none] := by
  have hd : i_law_right_7 [some s.d, none, none, none, none, none, none, none, none, none, none, none, none] = .ok (rngD 0 4) [some s.d, none, none, none, none, none, none, none, none, none, none, none, none] := by
    have r := fRng1_at (j := 4) (by decide) (by decide)
    unfold i_law_right_7
    simp only [bnd_okS, bnf_okS, bnd_exS, bnf_exS, sqF_nx, sqF_ret, sqF_exc, opt_some, cVar_eq, gtK_s, hvK_s, hlK_s, flK_s, cC_eq, cNil_eq, cTrue_eq, cOp_eq, cUn_eq, cCons_eq, cTup_eq, cLst_eq, cCall_eq, cIt_eq, cSeqOf_eq, cTest_eq, cTru_eq, cNot_eq, cAnd_eq, cOr_eq, cIf_eq, cChain_eq, cSet_eq, cRet_eq, cDrop_eq, cIfS_eq, cSeq_eq, cFor_eq, cAsg_eq, cPar_eq, cPar3_eq, cParO3_eq, cSubE, stS_s, puI_0, puI_1, puI_2, runD_eq, enK_nx, enK_ret, enK_exc, pOk_0, pOk_p, pOk_v, pOk_b, cApp_eq, cSlot_eq, cExc_eq, cFn_eq, cMk_eq, fnK_ok, fnK_ex, fill0, fillN, fillS, up0, upV, upB, upP, add2_int, sub2_int, lt2_int, le2_int, gt2_int, ge2_int, cBl_bl, fIx_l, fIx_t, asL_l, fLen_l, fLen_t, fTup_l, fTup_t, fLst_l, fLst_t, seqOf_l, seqOf_t, atI_0, atI_1, atI_2, atI_3, Option.map_some, Option.bind_some, List.getElem?_cons_zero, List.getElem?_cons_succ, List.set_cons_zero, List.set_cons_succ, List.map_cons, List.map_nil, List.replicate_succ, List.replicate_zero, List.cons_append, List.nil_append, decide_eq_true_eq, Bool.not_eq_true', Bool.false_eq_true, if_true, if_false, ite_true, ite_false, reduceIte, List.length_cons, List.length_nil, gN, gTup2, gCons2, gNil2, r]
    rfl
  obtain ⟨ys, δ', e, t, ns, rfl, rfl, hl⟩ := compL_ok (g := gN 5) (tt := cTrue) (el := e_law_right_8) (vs := [5])
    (fun i δ acc => ∃ (t : T3) (ns : List Int), δ = [some t.d, none, none, none, none, none, none, none, none, none, none, none, none] ∧ acc = intD ns ∧ ns.length = i) (xs := rngD 0 4) (δ := [some s.d, none, none, none, none, none, none, none, none, none, none, none, none])
    ⟨s, [], rfl, rfl, rfl⟩ (by
      rintro i x δ acc hx ⟨t, ns, rfl, rfl, hl⟩
      obtain ⟨u, v, w, hv⟩ := number_ok t
      refine ⟨_, rfl, .inl ⟨_, .int v, [some u.d, none, none, none, none, some x, none, none, none, none, none, none, none], rfl, ?_, u, ns ++ [v], rfl, by simp, by simp [hl]⟩⟩
      unfold e_law_right_8
      simp only [bnd_okS, bnf_okS, bnd_exS, bnf_exS, sqF_nx, sqF_ret, sqF_exc, opt_some, cVar_eq, gtK_s, hvK_s, hlK_s, flK_s, cC_eq, cNil_eq, cTrue_eq, cOp_eq, cUn_eq, cCons_eq, cTup_eq, cLst_eq, cCall_eq, cIt_eq, cSeqOf_eq, cTest_eq, cTru_eq, cNot_eq, cAnd_eq, cOr_eq, cIf_eq, cChain_eq, cSet_eq, cRet_eq, cDrop_eq, cIfS_eq, cSeq_eq, cFor_eq, cAsg_eq, cPar_eq, cPar3_eq, cParO3_eq, cSubE, stS_s, puI_0, puI_1, puI_2, runD_eq, enK_nx, enK_ret, enK_exc, pOk_0, pOk_p, pOk_v, pOk_b, cApp_eq, cSlot_eq, cExc_eq, cFn_eq, cMk_eq, fnK_ok, fnK_ex, fill0, fillN, fillS, up0, upV, upB, upP, add2_int, sub2_int, lt2_int, le2_int, gt2_int, ge2_int, cBl_bl, fIx_l, fIx_t, asL_l, fLen_l, fLen_t, fTup_l, fTup_t, fLst_l, fLst_t, seqOf_l, seqOf_t, atI_0, atI_1, atI_2, atI_3, Option.map_some, Option.bind_some, List.getElem?_cons_zero, List.getElem?_cons_succ, List.set_cons_zero, List.set_cons_succ, List.map_cons, List.map_nil, List.replicate_succ, List.replicate_zero, List.cons_append, List.nil_append, decide_eq_true_eq, Bool.not_eq_true', Bool.false_eq_true, if_true, if_false, ite_true, ite_false, reduceIte, List.length_cons, List.length_nil, gN, gTup2, gCons2, gNil2, hv])
  rw [rng_len] at hl
  match ns, hl with
  | [a, b, c, d], _ => exact ⟨t, a, b, c, d, cComp_ok hd (by decide) e⟩
theorem last4 (a b c d : Int) {c0 c1 c2 c3 c4 c5 c6 c7 c8 : Option Dv} : ∃ c10 c11 c12, forL (gN 10) l_law_right_6 [stD a b c, flD a, cpD a b c d, .obj "Fence" [] []] [c0, c1, c2, c3, c4, c5, c6, c7, c8, some (.lst (others a b c d)), none, none, none] = .nx [c0, c1, c2, c3, c4, c5, c6, c7, c8, some (.lst (others a b c d)), c10, c11, c12] := by
  have key : ∀ x ∈ [stD a b c, flD a, cpD a b c d, feD], ∃ p, (∀ y ∈ others a b c d, eqT ocT okI isbL 0 x y = some (p y)) ∧ ((others a b c d).filter p).length = 1 :=
    all_of ⟨⟨_, ans_of (four_s a b c d)⟩, ⟨_, ans_of (four_f a b c d)⟩, ⟨_, ans_of (four_c a b c d)⟩, ⟨_, ans_of (four_e a b c d)⟩, trivial⟩
  obtain ⟨δ', e, c10, c11, c12, rfl⟩ := forL_ok (g := gN 10) (b := l_law_right_6) (fun i δ => ∃ c10 c11 c12, δ = [c0, c1, c2, c3, c4, c5, c6, c7, c8, some (.lst (others a b c d)), c10, c11, c12]) (xs := [stD a b c, flD a, cpD a b c d, .obj "Fence" [] []]) (δ := [c0, c1, c2, c3, c4, c5, c6, c7, c8, some (.lst (others a b c d)), none, none, none]) ⟨none, none, none, rfl⟩ (by
    rintro i x δ hx ⟨c10, c11, c12, rfl⟩
    obtain ⟨p, h1, h2⟩ := key x (List.mem_of_getElem? hx)
    exact ⟨_, rfl, _, turn (by simp [others]) h1 h2, _, _, _, rfl⟩)
  exact ⟨_, _, _, e⟩
theorem right_ok (s : T3) : ∃ (t : T3) (o : Dl), m_law_right [s.d] = .ok (.bl true) (some t.d :: o) := by
  obtain ⟨t, a, b, c, d, h0⟩ := numbers_ok s
  obtain ⟨u, o, hm⟩ := mem_right_ok t
  obtain ⟨c10, c11, c12, hf⟩ := last4 a b c d (c0 := some t.d) (c1 := some (.int a)) (c2 := some (.int b)) (c3 := some (.int c)) (c4 := some (.int d)) (c5 := none) (c6 := some (stD a b c)) (c7 := some (flD a)) (c8 := some (cpD a b c d))
  have f1 : ∀ x y z, fFld okA "line" (stD x y z) = some (.int x) := fun _ _ _ => rfl
  have f2 : ∀ x y z, fFld okA "word" (stD x y z) = some (.int y) := fun _ _ _ => rfl
  have f3 : ∀ x y z, fFld okA "number" (stD x y z) = some (.int z) := fun _ _ _ => rfl
  have f4 : ∀ x, fFld okA "line" (flD x) = some (.int x) := fun _ => rfl
  have g1 : ∀ x y z w, fFld okA "line" (cpD x y z w) = some (.int x) := fun _ _ _ _ => rfl
  have g2 : ∀ x y z w, fFld okA "word" (cpD x y z w) = some (.int y) := fun _ _ _ _ => rfl
  have g3 : ∀ x y z w, fFld okA "from_line" (cpD x y z w) = some (.int z) := fun _ _ _ _ => rfl
  have g4 : ∀ x y z w, fFld okA "from_word" (cpD x y z w) = some (.int w) := fun _ _ _ _ => rfl
  have a1 := add_lst (a := [stD (a + 1) b c, stD a (b + 1) c, stD a b (c + 1), flD (a + 1), cpD (a + 1) b c d]) (b := [cpD a (b + 1) c d, cpD a b (c + 1) d, cpD a b c (d + 1), isD a b [c], .tup [.int a, .int b, .int c], .non]) (by simp)
  have a2 := add_lst (a := [stD (a + 1) b c, stD a (b + 1) c, stD a b (c + 1), flD (a + 1), cpD (a + 1) b c d] ++ [cpD a (b + 1) c d, cpD a b (c + 1) d, cpD a b c (d + 1), isD a b [c], .tup [.int a, .int b, .int c], .non]) (b := [stD a b c, flD a, cpD a b c d, .obj "Fence" [] [], .tup [.int a], .tup [.int a, .int b, .int c, .int d]]) (by simp)
  have a2' : add2 (.lst ([stD (a + 1) b c, stD a (b + 1) c, stD a b (c + 1), flD (a + 1), cpD (a + 1) b c d] ++ [cpD a (b + 1) c d, cpD a b (c + 1) d, cpD a b c (d + 1), isD a b [c], .tup [.int a, .int b, .int c], .non])) (.lst [stD a b c, flD a, cpD a b c d, .obj "Fence" [] [], .tup [.int a], .tup [.int a, .int b, .int c, .int d]]) = some (.lst (others a b c d)) := a2
  simp only [List.cons_append, List.nil_append] at a1 a2'
  refine ⟨u, [some (.int a), some (.int b), some (.int c), some (.int d), none, some (stD a b c), some (flD a), some (cpD a b c d), some (.lst (others a b c d)), c10, c11, c12], ?_⟩
  unfold m_law_right b_law_right
  simp only [bnd_okS, bnf_okS, bnd_exS, bnf_exS, sqF_nx, sqF_ret, sqF_exc, opt_some, cVar_eq, gtK_s, hvK_s, hlK_s, flK_s, cC_eq, cNil_eq, cTrue_eq, cOp_eq, cUn_eq, cCons_eq, cTup_eq, cLst_eq, cCall_eq, cIt_eq, cSeqOf_eq, cTest_eq, cTru_eq, cNot_eq, cAnd_eq, cOr_eq, cIf_eq, cChain_eq, cSet_eq, cRet_eq, cDrop_eq, cIfS_eq, cSeq_eq, cFor_eq, cAsg_eq, cPar_eq, cPar3_eq, cParO3_eq, cSubE, stS_s, puI_0, puI_1, puI_2, runD_eq, enK_nx, enK_ret, enK_exc, pOk_0, pOk_p, pOk_v, pOk_b, cApp_eq, cSlot_eq, cExc_eq, cFn_eq, cMk_eq, fnK_ok, fnK_ex, fill0, fillN, fillS, up0, upV, upB, upP, add2_int, sub2_int, lt2_int, le2_int, gt2_int, ge2_int, cBl_bl, fIx_l, fIx_t, asL_l, fLen_l, fLen_t, fTup_l, fTup_t, fLst_l, fLst_t, seqOf_l, seqOf_t, atI_0, atI_1, atI_2, atI_3, Option.map_some, Option.bind_some, List.getElem?_cons_zero, List.getElem?_cons_succ, List.set_cons_zero, List.set_cons_succ, List.map_cons, List.map_nil, List.replicate_succ, List.replicate_zero, List.cons_append, List.nil_append, decide_eq_true_eq, Bool.not_eq_true', Bool.false_eq_true, if_true, if_false, ite_true, ite_false, reduceIte, List.length_cons, List.length_nil, gN, gTup2, gCons2, gNil2, h0, gLst2, storeI', flushI', copyI, isI, mkS, mkF, mkC, mkI, f1, f2, f3, f4, g1, g2, g3, g4, q4, cEqY_eq, s_self, f_self, c_self, e_self, Bool.not_true, Bool.not_false, a1, a2', hf, hm]
theorem cutL (xs : List Dv) (k : Nat) : slB (.lst xs) none (some (k : Int)) = some (.lst (xs.take k)) := by
  show some (Dv.lst (cutD xs none (some (k : Int)))) = _
  unfold cutD
  rw [six_none]
  have e : HT.sIx xs.length xs.length (some (k : Int)) = min k xs.length := by
    show (if (k : Int) < 0 then ((k : Int) + (xs.length : Int)).toNat else min ((k : Int).toNat) xs.length) = _
    rw [if_neg (by omega), Int.toNat_natCast]
  rw [e, List.drop_zero, Nat.sub_zero]
  congr 2
  rw [Nat.min_def]
  split
  · rfl
  · rw [List.take_of_length_le (Nat.le_refl _), List.take_of_length_le (by omega)]
theorem law_turn {c0 c2 : Option Dv} (n : Int) : ∃ c2', l_law_1 [c0, some (.int n), c2] = .nx [c0, some (.int n), c2'] := by
  obtain ⟨t, o, hr⟩ := right_ok (T3.of n)
  have hs := source_is n
  refine ⟨some t.d, ?_⟩
  unfold l_law_1
  simp only [bnd_okS, bnf_okS, bnd_exS, bnf_exS, sqF_nx, sqF_ret, sqF_exc, opt_some, cVar_eq, gtK_s, hvK_s, hlK_s, flK_s, cC_eq, cNil_eq, cTrue_eq, cOp_eq, cUn_eq, cCons_eq, cTup_eq, cLst_eq, cCall_eq, cIt_eq, cSeqOf_eq, cTest_eq, cTru_eq, cNot_eq, cAnd_eq, cOr_eq, cIf_eq, cChain_eq, cSet_eq, cRet_eq, cDrop_eq, cIfS_eq, cSeq_eq, cFor_eq, cAsg_eq, cPar_eq, cPar3_eq, cParO3_eq, cSubE, stS_s, puI_0, puI_1, puI_2, runD_eq, enK_nx, enK_ret, enK_exc, pOk_0, pOk_p, pOk_v, pOk_b, cApp_eq, cSlot_eq, cExc_eq, cFn_eq, cMk_eq, fnK_ok, fnK_ex, fill0, fillN, fillS, up0, upV, upB, upP, add2_int, sub2_int, lt2_int, le2_int, gt2_int, ge2_int, cBl_bl, fIx_l, fIx_t, asL_l, fLen_l, fLen_t, fTup_l, fTup_t, fLst_l, fLst_t, seqOf_l, seqOf_t, atI_0, atI_1, atI_2, atI_3, Option.map_some, Option.bind_some, List.getElem?_cons_zero, List.getElem?_cons_succ, List.set_cons_zero, List.set_cons_succ, List.map_cons, List.map_nil, List.replicate_succ, List.replicate_zero, List.cons_append, List.nil_append, decide_eq_true_eq, Bool.not_eq_true', Bool.false_eq_true, if_true, if_false, ite_true, ite_false, reduceIte, List.length_cons, List.length_nil, gN, gTup2, gCons2, gNil2, hs, hr, Bool.not_true]
theorem law_true (ns : List Int) (h : ns.length ≤ 63) : ∃ δ, m_law [.lst (ns.map .int)] = .ok (.bl true) δ := by
  obtain ⟨δ', e, c1, c2, rfl⟩ := forL_ok (g := gN 1) (b := l_law_1) (fun i δ => ∃ c1 c2, δ = [some (.lst (intD ns)), c1, c2]) (xs := (intD (ns ++ [0])).take 4) (δ := [some (.lst (intD ns)), none, none]) ⟨none, none, rfl⟩ (by
    rintro i x δ hx ⟨c1, c2, rfl⟩
    obtain ⟨n, _, rfl⟩ := List.mem_map.mp (List.mem_of_mem_take (List.mem_of_getElem? hx))
    obtain ⟨c2', e⟩ := law_turn (c0 := some (.lst (intD ns))) (c2 := c2) n
    exact ⟨_, rfl, _, e, _, _, rfl⟩)
  have a0 := add_lst (a := intD ns) (b := [.int 0]) (by simp; omega)
  have a1 : add2 (.lst (intD ns)) (.lst [.int 0]) = some (.lst (intD (ns ++ [0]))) := by
    rw [a0]
    congr 2
    simp
  have s1 := cutL (intD (ns ++ [0])) 4
  have s1' : slB (.lst (intD (ns ++ [0]))) none (some 4) = some (.lst ((intD (ns ++ [0])).take 4)) := s1
  have p1 : cPart (some (cC (.int 4))) [some (.lst (intD ns)), none, none] = .ok (some 4) [some (.lst (intD ns)), none, none] := cPart_some rfl
  refine ⟨[some (.lst (intD ns)), c1, c2], ?_⟩
  unfold m_law b_law
  simp only [bnd_okS, bnf_okS, bnd_exS, bnf_exS, sqF_nx, sqF_ret, sqF_exc, opt_some, cVar_eq, gtK_s, hvK_s, hlK_s, flK_s, cC_eq, cNil_eq, cTrue_eq, cOp_eq, cUn_eq, cCons_eq, cTup_eq, cLst_eq, cCall_eq, cIt_eq, cSeqOf_eq, cTest_eq, cTru_eq, cNot_eq, cAnd_eq, cOr_eq, cIf_eq, cChain_eq, cSet_eq, cRet_eq, cDrop_eq, cIfS_eq, cSeq_eq, cFor_eq, cAsg_eq, cPar_eq, cPar3_eq, cParO3_eq, cSubE, stS_s, puI_0, puI_1, puI_2, runD_eq, enK_nx, enK_ret, enK_exc, pOk_0, pOk_p, pOk_v, pOk_b, cApp_eq, cSlot_eq, cExc_eq, cFn_eq, cMk_eq, fnK_ok, fnK_ex, fill0, fillN, fillS, up0, upV, upB, upP, add2_int, sub2_int, lt2_int, le2_int, gt2_int, ge2_int, cBl_bl, fIx_l, fIx_t, asL_l, fLen_l, fLen_t, fTup_l, fTup_t, fLst_l, fLst_t, seqOf_l, seqOf_t, atI_0, atI_1, atI_2, atI_3, Option.map_some, Option.bind_some, List.getElem?_cons_zero, List.getElem?_cons_succ, List.set_cons_zero, List.set_cons_succ, List.map_cons, List.map_nil, List.replicate_succ, List.replicate_zero, List.cons_append, List.nil_append, decide_eq_true_eq, Bool.not_eq_true', Bool.false_eq_true, if_true, if_false, ite_true, ite_false, reduceIte, List.length_cons, List.length_nil, gN, gTup2, gCons2, gNil2, a1, cSl_eq, cPart_none, p1, s1', e]
end Dn

namespace Dn
open PySem PySem.Spec PyProof.Rows L2 LamX Q
/-- an error of the class at S is what «except S» names -/
theorem exm_self {K : PySem.W.Frag} {S : Addr} (h1 : PySem.W.subIn K (.ref S) (.type "BaseException") = some true) (h2 : PySem.W.isClsIn K S = true) (h3 : PySem.W.typeIn K (.ref S) = some (.type "type")) (h4 : PySem.W.subIn K (.ref S) (.ref S) = some true) :
    PySem.W.exmOne K (.ref S) (.ref S) = some true := by
  have e1 : (PySem.W.subIn K (.ref S) (.type "BaseException") == some true) = true := by rw [h1] <;> rfl
  have e2 : ((PySem.W.clsIn K S).isSome && PySem.W.typeIn K (.ref S) == some (.type "type")) = true := by
    have h5 : (PySem.W.clsIn K S).isSome = true := h2
    rw [h5, h3] <;> rfl
  show (if (PySem.W.subIn K (.ref S) (.type "BaseException") == some true) = true then (if ((PySem.W.clsIn K S).isSome && PySem.W.typeIn K (.ref S) == some (.type "type")) = true then PySem.W.subIn K (.ref S) (.ref S) else none) else none) = some true
  rw [if_pos e1, if_pos e2]
  exact h4
abbrev s_EBadCount : Stmt := inClass (topS 3) 0
theorem sc_EBadCount : FnScope ["self", "what", "count"] ["self", "what", "count"] (defScope s_EBadCount) := ⟨rfl, rfl, rfl, by decide +kernel, rfl, by decide +kernel, by decide +kernel⟩
theorem ok_EBadCount {P : Program} {w : World} {K : PySem.W.Frag} {mg : Str → Option Value} {base : Heap} {f CB : Addr} {fd : FuncData} (F : Fun K "__init__" "BadCount.__init__" s_EBadCount f fd) (T : OexC K CB) (n1 : PySem.W.findIn K (.ref CB) "what" = some none) (n2 : PySem.W.findIn K (.ref CB) "count" = some none) :
    FnOk P w K mg base CX0 1 f fd ["self", "what", "count"] (spInit2 CB "what" "count") := by
  refine F.ok sc_EBadCount (fun vs H Q E h => ?_) (fun cdv A outer s H vs Q E hr h => ?_)
  · obtain ⟨a, v1, v2, rfl, _⟩ := h
    rfl
  · obtain ⟨a, v1, v2, rfl, ha, k⟩ := h
    refine ⟨_, (pss_cons (ps_ost (pv 0) (pv 1))
    (pss_one (ps_ost (pv 0) (pv 2)))), ?_⟩
    refine ⟨_, rfl, _, rfl, a, CB, rfl, T, n1, .inl ⟨ha, fun d hd ne => ?_⟩⟩
    refine ⟨_, rfl, _, rfl, a, CB, rfl, T, n2, .inr ⟨d, [("what", v1)], upd_same, by rw [upd_ne ne, upd_same], by show 1 ≤ 900; decide, ?_⟩⟩
    exact k d hd ne
theorem all_mk {l : PySem.W.OpenLaw} {w : World} {K : PySem.W.Frag} {h : Heap} {mg : Str → Option Value} {fa : Addr} {ts : List Addr} (X : K.In h) (G : h.Ns mainGlobals mg) (hfa : mg "law" = some (.ref fa)) (hT : ∀ P ∈ ts, h.get? P = some (PySem.W.tabObj #[]))
    {C_BadCount : Addr} {nm_C_BadCount qn_C_BadCount : Str} {N_C_BadCount : Addr} {bs_C_BadCount bm_C_BadCount : List Value} {sn_C_BadCount : List Str} {sub_C_BadCount : List Value} {ab_C_BadCount : Bool} {col_C_BadCount : Option Bool} {dd_C_BadCount : Option Addr} {m0_C_BadCount m1_C_BadCount m2_C_BadCount m3_C_BadCount m5_C_BadCount : Option Value}
    {f_EBadCount : Addr} {od_EBadCount an_EBadCount : Option Addr} {sl_EBadCount : Array (Option Value)} {oc_EBadCount kV_EBadCount dc_EBadCount pm_EBadCount cd_EBadCount ct_EBadCount : Value}
    {t_MOST_LINES : Tok}
    {t_MOST_WORDS : Tok}
    {C_Memory : Addr}
    {C_Store : Addr}
    {C_Flush : Addr}
    {C_Fence : Addr}
    {C_Is : Addr}
    {C_Copy : Addr}
    {f_law_source : Addr} {od_law_source an_law_source : Option Addr} {sl_law_source : Array (Option Value)} {oc_law_source kV_law_source dc_law_source pm_law_source ct_law_source : Value}
    {cd_law_source : Value}
    {f_Store__eq : Addr} {od_Store__eq an_Store__eq : Option Addr} {sl_Store__eq : Array (Option Value)} {oc_Store__eq kV_Store__eq dc_Store__eq pm_Store__eq cd_Store__eq ct_Store__eq : Value}
    {f_Flush__eq : Addr} {od_Flush__eq an_Flush__eq : Option Addr} {sl_Flush__eq : Array (Option Value)} {oc_Flush__eq kV_Flush__eq dc_Flush__eq pm_Flush__eq cd_Flush__eq ct_Flush__eq : Value}
    {f_Copy__eq : Addr} {od_Copy__eq an_Copy__eq : Option Addr} {sl_Copy__eq : Array (Option Value)} {oc_Copy__eq kV_Copy__eq dc_Copy__eq pm_Copy__eq cd_Copy__eq ct_Copy__eq : Value}
    {f_Is__eq : Addr} {od_Is__eq an_Is__eq : Option Addr} {sl_Is__eq : Array (Option Value)} {oc_Is__eq kV_Is__eq dc_Is__eq pm_Is__eq cd_Is__eq ct_Is__eq : Value}
    {f_Fence__eq : Addr} {od_Fence__eq an_Fence__eq : Option Addr} {sl_Fence__eq : Array (Option Value)} {oc_Fence__eq kV_Fence__eq dc_Fence__eq pm_Fence__eq cd_Fence__eq ct_Fence__eq : Value}
    {f_Memory__eq : Addr} {od_Memory__eq an_Memory__eq : Option Addr} {sl_Memory__eq : Array (Option Value)} {oc_Memory__eq kV_Memory__eq dc_Memory__eq pm_Memory__eq cd_Memory__eq ct_Memory__eq : Value}
    {f_Store__init : Addr} {od_Store__init an_Store__init : Option Addr} {sl_Store__init : Array (Option Value)} {oc_Store__init kV_Store__init dc_Store__init pm_Store__init cd_Store__init ct_Store__init : Value}
    {f_Flush__init : Addr} {od_Flush__init an_Flush__init : Option Addr} {sl_Flush__init : Array (Option Value)} {oc_Flush__init kV_Flush__init dc_Flush__init pm_Flush__init cd_Flush__init ct_Flush__init : Value}
    {f_Copy__init : Addr} {od_Copy__init an_Copy__init : Option Addr} {sl_Copy__init : Array (Option Value)} {oc_Copy__init kV_Copy__init dc_Copy__init pm_Copy__init cd_Copy__init ct_Copy__init : Value}
    {f_check_sizes : Addr} {od_check_sizes an_check_sizes : Option Addr} {sl_check_sizes : Array (Option Value)} {oc_check_sizes kV_check_sizes dc_check_sizes pm_check_sizes ct_check_sizes : Value}
    {cd_check_sizes : Value}
    {f_Memory__init : Addr} {od_Memory__init an_Memory__init : Option Addr} {sl_Memory__init : Array (Option Value)} {oc_Memory__init kV_Memory__init dc_Memory__init pm_Memory__init cd_Memory__init ct_Memory__init : Value}
    {f_law_draw : Addr} {od_law_draw an_law_draw : Option Addr} {sl_law_draw : Array (Option Value)} {oc_law_draw kV_law_draw dc_law_draw pm_law_draw ct_law_draw : Value}
    {cd_law_draw : Value}
    {f_law_sizes : Addr} {od_law_sizes an_law_sizes : Option Addr} {sl_law_sizes : Array (Option Value)} {oc_law_sizes kV_law_sizes dc_law_sizes pm_law_sizes ct_law_sizes : Value}
    {cd_law_sizes : Value}
    {f_law_memory_right : Addr} {od_law_memory_right an_law_memory_right : Option Addr} {sl_law_memory_right : Array (Option Value)} {oc_law_memory_right kV_law_memory_right dc_law_memory_right pm_law_memory_right ct_law_memory_right : Value}
    {cd_law_memory_right : Value}
    {f_law_pick : Addr} {od_law_pick an_law_pick : Option Addr} {sl_law_pick : Array (Option Value)} {oc_law_pick kV_law_pick dc_law_pick pm_law_pick ct_law_pick : Value}
    {cd_law_pick : Value}
    {f_law_number : Addr} {od_law_number an_law_number : Option Addr} {sl_law_number : Array (Option Value)} {oc_law_number kV_law_number dc_law_number pm_law_number ct_law_number : Value}
    {cd_law_number : Value}
    {f_Is__init : Addr} {od_Is__init an_Is__init : Option Addr} {sl_Is__init : Array (Option Value)} {oc_Is__init kV_Is__init dc_Is__init pm_Is__init cd_Is__init ct_Is__init : Value}
    {f_law_right : Addr} {od_law_right an_law_right : Option Addr} {sl_law_right : Array (Option Value)} {oc_law_right kV_law_right dc_law_right pm_law_right ct_law_right : Value}
    {cd_law_right : Value}
    {f_law : Addr} {od_law an_law : Option Addr} {sl_law : Array (Option Value)} {oc_law kV_law dc_law pm_law ct_law : Value}
    {cd_law : Value}
    (a_C_BadCount : PySem.W.nsIn K mainGlobals "BadCount" = some (some (.ref C_BadCount)))
    (x_C_BadCount : K.lookup C_BadCount = some (excClassObj nm_C_BadCount qn_C_BadCount C_BadCount N_C_BadCount bs_C_BadCount bm_C_BadCount true sn_C_BadCount sub_C_BadCount ab_C_BadCount col_C_BadCount dd_C_BadCount m0_C_BadCount m1_C_BadCount m2_C_BadCount m3_C_BadCount m5_C_BadCount "ValueError.__new__"))
    (bm_C_BadCount' : PySem.HandSPX.refsVE bm_C_BadCount = true)
    (sa_C_BadCount : PySem.W.findIn K (.ref C_BadCount) "__setattr__" = some (some (.builtin "object.__setattr__")))
    (ga_C_BadCount : PySem.W.findIn K (.ref C_BadCount) "__getattribute__" = some (some (.builtin "BaseException.__getattribute__")))
    (gg_C_BadCount : PySem.W.findIn K (.ref C_BadCount) "__getattr__" = some none)
    (kC_C_BadCount : PySem.W.keepIn K (.ref C_BadCount) = true)
    (eC_C_BadCount : PySem.W.subIn K (.ref C_BadCount) (.type "BaseException") = some true)
    (tC_C_BadCount : PySem.W.typeIn K (.ref C_BadCount) = some (.type "type"))
    (hC_C_BadCount : PySem.W.hasDictIn K C_BadCount = true)
    (iC_C_BadCount : PySem.W.isClsIn K C_BadCount = true)
    (sC_C_BadCount : PySem.W.subIn K (.ref C_BadCount) (.ref C_BadCount) = some true)
    (n_C_BadCount_what : PySem.W.findIn K (.ref C_BadCount) "what" = some none)
    (n_C_BadCount_count : PySem.W.findIn K (.ref C_BadCount) "count" = some none)
    (a_EBadCount : PySem.W.findIn K (.ref C_BadCount) "__init__" = some (some (.ref f_EBadCount)))
    (t_EBadCount : PySem.W.typeIn K (.ref f_EBadCount) = some (.type "function"))
    (l_EBadCount : K.lookup f_EBadCount = some ⟨oc_EBadCount, od_EBadCount, .func (PySem.W.fnOf "__init__" "BadCount.__init__" (defArgs s_EBadCount) (defBody s_EBadCount) (defScope s_EBadCount) .none kV_EBadCount dc_EBadCount pm_EBadCount an_EBadCount cd_EBadCount ct_EBadCount), sl_EBadCount⟩)
    (c_of_EBadCount : PySem.W.codeIn K cd_EBadCount "BadCount.__init__" = true)
    (k_EBadCount : PySem.W.keepIn K (.ref f_EBadCount) = true)
    (z_abs : PySem.W.nsIn K mainGlobals "abs" = some none)
    (z_isinstance : PySem.W.nsIn K mainGlobals "isinstance" = some none)
    (z_len : PySem.W.nsIn K mainGlobals "len" = some none)
    (z_list : PySem.W.nsIn K mainGlobals "list" = some none)
    (z_range : PySem.W.nsIn K mainGlobals "range" = some none)
    (z_set : PySem.W.nsIn K mainGlobals "set" = some none)
    (z_sorted : PySem.W.nsIn K mainGlobals "sorted" = some none)
    (z_tuple : PySem.W.nsIn K mainGlobals "tuple" = some none)
    (g_MOST_LINES : PySem.W.nsIn K mainGlobals "MOST_LINES" = some (some (.int 6 t_MOST_LINES)))
    (g_MOST_WORDS : PySem.W.nsIn K mainGlobals "MOST_WORDS" = some (some (.int 4 t_MOST_WORDS)))
    (a_C_Memory : PySem.W.nsIn K mainGlobals "Memory" = some (some (.ref C_Memory)))
    (pg_C_Memory : PySem.W.plainGet K C_Memory Str.empty = true)
    (hd_C_Memory : PySem.W.hasDictIn K C_Memory = true)
    (po_C_Memory : PySem.W.plainOver K C_Memory = true)
    (sa_C_Memory : PySem.W.findIn K (.ref C_Memory) "__setattr__" = some (some (.builtin "object.__setattr__")))
    (mk_C_Memory : PySem.W.makesIn K C_Memory = true)
    (kc_C_Memory : PySem.W.keepIn K (.ref C_Memory) = true)
    (n_C_Memory_sizes : PySem.W.findIn K (.ref C_Memory) "sizes" = some none)
    (a_C_Store : PySem.W.nsIn K mainGlobals "Store" = some (some (.ref C_Store)))
    (pg_C_Store : PySem.W.plainGet K C_Store Str.empty = true)
    (hd_C_Store : PySem.W.hasDictIn K C_Store = true)
    (po_C_Store : PySem.W.plainOver K C_Store = true)
    (sa_C_Store : PySem.W.findIn K (.ref C_Store) "__setattr__" = some (some (.builtin "object.__setattr__")))
    (mk_C_Store : PySem.W.makesIn K C_Store = true)
    (kc_C_Store : PySem.W.keepIn K (.ref C_Store) = true)
    (n_C_Store_line : PySem.W.findIn K (.ref C_Store) "line" = some none)
    (n_C_Store_word : PySem.W.findIn K (.ref C_Store) "word" = some none)
    (n_C_Store_number : PySem.W.findIn K (.ref C_Store) "number" = some none)
    (a_C_Flush : PySem.W.nsIn K mainGlobals "Flush" = some (some (.ref C_Flush)))
    (pg_C_Flush : PySem.W.plainGet K C_Flush Str.empty = true)
    (hd_C_Flush : PySem.W.hasDictIn K C_Flush = true)
    (po_C_Flush : PySem.W.plainOver K C_Flush = true)
    (sa_C_Flush : PySem.W.findIn K (.ref C_Flush) "__setattr__" = some (some (.builtin "object.__setattr__")))
    (mk_C_Flush : PySem.W.makesIn K C_Flush = true)
    (kc_C_Flush : PySem.W.keepIn K (.ref C_Flush) = true)
    (n_C_Flush_line : PySem.W.findIn K (.ref C_Flush) "line" = some none)
    (a_C_Fence : PySem.W.nsIn K mainGlobals "Fence" = some (some (.ref C_Fence)))
    (pg_C_Fence : PySem.W.plainGet K C_Fence Str.empty = true)
    (hd_C_Fence : PySem.W.hasDictIn K C_Fence = true)
    (po_C_Fence : PySem.W.plainOver K C_Fence = true)
    (sa_C_Fence : PySem.W.findIn K (.ref C_Fence) "__setattr__" = some (some (.builtin "object.__setattr__")))
    (mk_C_Fence : PySem.W.makesIn K C_Fence = true)
    (kc_C_Fence : PySem.W.keepIn K (.ref C_Fence) = true)
    (ie_C_Fence : PySem.W.findIn K (.ref C_Fence) "__init__" = some (some (.builtin "object.__init__")))
    (a_C_Is : PySem.W.nsIn K mainGlobals "Is" = some (some (.ref C_Is)))
    (pg_C_Is : PySem.W.plainGet K C_Is Str.empty = true)
    (hd_C_Is : PySem.W.hasDictIn K C_Is = true)
    (po_C_Is : PySem.W.plainOver K C_Is = true)
    (sa_C_Is : PySem.W.findIn K (.ref C_Is) "__setattr__" = some (some (.builtin "object.__setattr__")))
    (mk_C_Is : PySem.W.makesIn K C_Is = true)
    (kc_C_Is : PySem.W.keepIn K (.ref C_Is) = true)
    (n_C_Is_line : PySem.W.findIn K (.ref C_Is) "line" = some none)
    (n_C_Is_word : PySem.W.findIn K (.ref C_Is) "word" = some none)
    (n_C_Is_numbers : PySem.W.findIn K (.ref C_Is) "numbers" = some none)
    (a_C_Copy : PySem.W.nsIn K mainGlobals "Copy" = some (some (.ref C_Copy)))
    (pg_C_Copy : PySem.W.plainGet K C_Copy Str.empty = true)
    (hd_C_Copy : PySem.W.hasDictIn K C_Copy = true)
    (po_C_Copy : PySem.W.plainOver K C_Copy = true)
    (sa_C_Copy : PySem.W.findIn K (.ref C_Copy) "__setattr__" = some (some (.builtin "object.__setattr__")))
    (mk_C_Copy : PySem.W.makesIn K C_Copy = true)
    (kc_C_Copy : PySem.W.keepIn K (.ref C_Copy) = true)
    (n_C_Copy_line : PySem.W.findIn K (.ref C_Copy) "line" = some none)
    (n_C_Copy_word : PySem.W.findIn K (.ref C_Copy) "word" = some none)
    (n_C_Copy_from_line : PySem.W.findIn K (.ref C_Copy) "from_line" = some none)
    (n_C_Copy_from_word : PySem.W.findIn K (.ref C_Copy) "from_word" = some none)
    (bi_n : PySem.W.specialIn K (.builtin "object.__class__") "__get__" = some (some (.builtin "getset_descriptor.__get__")))
    (bi_t : PySem.W.takesIn K (.builtin "object.__class__") = some true)
    (oh_C_Memory : PySem.W.findIn K (.ref C_Memory) "__class__" = some (some (.builtin "object.__class__")))
    (om_C_Memory : PySem.W.mroIn K C_Memory (.type "object") = some true)
    (oh_C_Store : PySem.W.findIn K (.ref C_Store) "__class__" = some (some (.builtin "object.__class__")))
    (om_C_Store : PySem.W.mroIn K C_Store (.type "object") = some true)
    (oh_C_Flush : PySem.W.findIn K (.ref C_Flush) "__class__" = some (some (.builtin "object.__class__")))
    (om_C_Flush : PySem.W.mroIn K C_Flush (.type "object") = some true)
    (oh_C_Fence : PySem.W.findIn K (.ref C_Fence) "__class__" = some (some (.builtin "object.__class__")))
    (om_C_Fence : PySem.W.mroIn K C_Fence (.type "object") = some true)
    (oh_C_Is : PySem.W.findIn K (.ref C_Is) "__class__" = some (some (.builtin "object.__class__")))
    (om_C_Is : PySem.W.mroIn K C_Is (.type "object") = some true)
    (oh_C_Copy : PySem.W.findIn K (.ref C_Copy) "__class__" = some (some (.builtin "object.__class__")))
    (om_C_Copy : PySem.W.mroIn K C_Copy (.type "object") = some true)
    (kc1_C_Copy : PySem.W.isClsIn K C_Copy = true)
    (kc2_C_Copy : PySem.W.typeIn K (.ref C_Copy) = some (.type "type"))
    (kc1_C_Fence : PySem.W.isClsIn K C_Fence = true)
    (kc2_C_Fence : PySem.W.typeIn K (.ref C_Fence) = some (.type "type"))
    (kc1_C_Flush : PySem.W.isClsIn K C_Flush = true)
    (kc2_C_Flush : PySem.W.typeIn K (.ref C_Flush) = some (.type "type"))
    (kc1_C_Is : PySem.W.isClsIn K C_Is = true)
    (kc2_C_Is : PySem.W.typeIn K (.ref C_Is) = some (.type "type"))
    (kc1_C_Memory : PySem.W.isClsIn K C_Memory = true)
    (kc2_C_Memory : PySem.W.typeIn K (.ref C_Memory) = some (.type "type"))
    (kc1_C_Store : PySem.W.isClsIn K C_Store = true)
    (kc2_C_Store : PySem.W.typeIn K (.ref C_Store) = some (.type "type"))
    (sb_C_Memory_C_Copy : PySem.W.subIn K (.ref C_Memory) (.ref C_Copy) = some false)
    (nq_C_Memory_C_Copy : C_Memory ≠ C_Copy)
    (sb_C_Memory_C_Fence : PySem.W.subIn K (.ref C_Memory) (.ref C_Fence) = some false)
    (nq_C_Memory_C_Fence : C_Memory ≠ C_Fence)
    (sb_C_Memory_C_Flush : PySem.W.subIn K (.ref C_Memory) (.ref C_Flush) = some false)
    (nq_C_Memory_C_Flush : C_Memory ≠ C_Flush)
    (sb_C_Memory_C_Is : PySem.W.subIn K (.ref C_Memory) (.ref C_Is) = some false)
    (nq_C_Memory_C_Is : C_Memory ≠ C_Is)
    (sb_C_Memory_C_Store : PySem.W.subIn K (.ref C_Memory) (.ref C_Store) = some false)
    (nq_C_Memory_C_Store : C_Memory ≠ C_Store)
    (sb_C_Store_C_Copy : PySem.W.subIn K (.ref C_Store) (.ref C_Copy) = some false)
    (nq_C_Store_C_Copy : C_Store ≠ C_Copy)
    (sb_C_Store_C_Fence : PySem.W.subIn K (.ref C_Store) (.ref C_Fence) = some false)
    (nq_C_Store_C_Fence : C_Store ≠ C_Fence)
    (sb_C_Store_C_Flush : PySem.W.subIn K (.ref C_Store) (.ref C_Flush) = some false)
    (nq_C_Store_C_Flush : C_Store ≠ C_Flush)
    (sb_C_Store_C_Is : PySem.W.subIn K (.ref C_Store) (.ref C_Is) = some false)
    (nq_C_Store_C_Is : C_Store ≠ C_Is)
    (sb_C_Store_C_Memory : PySem.W.subIn K (.ref C_Store) (.ref C_Memory) = some false)
    (nq_C_Store_C_Memory : C_Store ≠ C_Memory)
    (sb_C_Flush_C_Copy : PySem.W.subIn K (.ref C_Flush) (.ref C_Copy) = some false)
    (nq_C_Flush_C_Copy : C_Flush ≠ C_Copy)
    (sb_C_Flush_C_Fence : PySem.W.subIn K (.ref C_Flush) (.ref C_Fence) = some false)
    (nq_C_Flush_C_Fence : C_Flush ≠ C_Fence)
    (sb_C_Flush_C_Is : PySem.W.subIn K (.ref C_Flush) (.ref C_Is) = some false)
    (nq_C_Flush_C_Is : C_Flush ≠ C_Is)
    (sb_C_Flush_C_Memory : PySem.W.subIn K (.ref C_Flush) (.ref C_Memory) = some false)
    (nq_C_Flush_C_Memory : C_Flush ≠ C_Memory)
    (sb_C_Flush_C_Store : PySem.W.subIn K (.ref C_Flush) (.ref C_Store) = some false)
    (nq_C_Flush_C_Store : C_Flush ≠ C_Store)
    (sb_C_Fence_C_Copy : PySem.W.subIn K (.ref C_Fence) (.ref C_Copy) = some false)
    (nq_C_Fence_C_Copy : C_Fence ≠ C_Copy)
    (sb_C_Fence_C_Flush : PySem.W.subIn K (.ref C_Fence) (.ref C_Flush) = some false)
    (nq_C_Fence_C_Flush : C_Fence ≠ C_Flush)
    (sb_C_Fence_C_Is : PySem.W.subIn K (.ref C_Fence) (.ref C_Is) = some false)
    (nq_C_Fence_C_Is : C_Fence ≠ C_Is)
    (sb_C_Fence_C_Memory : PySem.W.subIn K (.ref C_Fence) (.ref C_Memory) = some false)
    (nq_C_Fence_C_Memory : C_Fence ≠ C_Memory)
    (sb_C_Fence_C_Store : PySem.W.subIn K (.ref C_Fence) (.ref C_Store) = some false)
    (nq_C_Fence_C_Store : C_Fence ≠ C_Store)
    (sb_C_Is_C_Copy : PySem.W.subIn K (.ref C_Is) (.ref C_Copy) = some false)
    (nq_C_Is_C_Copy : C_Is ≠ C_Copy)
    (sb_C_Is_C_Fence : PySem.W.subIn K (.ref C_Is) (.ref C_Fence) = some false)
    (nq_C_Is_C_Fence : C_Is ≠ C_Fence)
    (sb_C_Is_C_Flush : PySem.W.subIn K (.ref C_Is) (.ref C_Flush) = some false)
    (nq_C_Is_C_Flush : C_Is ≠ C_Flush)
    (sb_C_Is_C_Memory : PySem.W.subIn K (.ref C_Is) (.ref C_Memory) = some false)
    (nq_C_Is_C_Memory : C_Is ≠ C_Memory)
    (sb_C_Is_C_Store : PySem.W.subIn K (.ref C_Is) (.ref C_Store) = some false)
    (nq_C_Is_C_Store : C_Is ≠ C_Store)
    (sb_C_Copy_C_Fence : PySem.W.subIn K (.ref C_Copy) (.ref C_Fence) = some false)
    (nq_C_Copy_C_Fence : C_Copy ≠ C_Fence)
    (sb_C_Copy_C_Flush : PySem.W.subIn K (.ref C_Copy) (.ref C_Flush) = some false)
    (nq_C_Copy_C_Flush : C_Copy ≠ C_Flush)
    (sb_C_Copy_C_Is : PySem.W.subIn K (.ref C_Copy) (.ref C_Is) = some false)
    (nq_C_Copy_C_Is : C_Copy ≠ C_Is)
    (sb_C_Copy_C_Memory : PySem.W.subIn K (.ref C_Copy) (.ref C_Memory) = some false)
    (nq_C_Copy_C_Memory : C_Copy ≠ C_Memory)
    (sb_C_Copy_C_Store : PySem.W.subIn K (.ref C_Copy) (.ref C_Store) = some false)
    (nq_C_Copy_C_Store : C_Copy ≠ C_Store)
    (ne_C_Store : PySem.W.findIn K (.ref C_Store) "__ne__" = some (some (.builtin "object.__ne__")))
    (ne_C_Flush : PySem.W.findIn K (.ref C_Flush) "__ne__" = some (some (.builtin "object.__ne__")))
    (ne_C_Copy : PySem.W.findIn K (.ref C_Copy) "__ne__" = some (some (.builtin "object.__ne__")))
    (ne_C_Is : PySem.W.findIn K (.ref C_Is) "__ne__" = some (some (.builtin "object.__ne__")))
    (ne_C_Fence : PySem.W.findIn K (.ref C_Fence) "__ne__" = some (some (.builtin "object.__ne__")))
    (ne_C_Memory : PySem.W.findIn K (.ref C_Memory) "__ne__" = some (some (.builtin "object.__ne__")))
    (a_law_source : PySem.W.nsIn K mainGlobals "_law_source" = some (some (.ref f_law_source)))
    (l_law_source : K.lookup f_law_source = some ⟨oc_law_source, od_law_source, .func (PySem.W.fnOf "_law_source" "_law_source" (defArgs s_law_source) (defBody s_law_source) (defScope s_law_source) .none kV_law_source dc_law_source pm_law_source an_law_source cd_law_source ct_law_source), sl_law_source⟩)
    (c_of_law_source : PySem.W.codeIn K cd_law_source "_law_source" = true)
    (k_law_source : PySem.W.keepIn K (.ref f_law_source) = true)
    (a_Store__eq : PySem.W.findIn K (.ref C_Store) "__eq__" = some (some (.ref f_Store__eq)))
    (i_Store__eq : PySem.W.isFn K (.ref f_Store__eq) = true)
    (l_Store__eq : K.lookup f_Store__eq = some ⟨oc_Store__eq, od_Store__eq, .func (PySem.W.fnOf "__eq__" "Store.__eq__" (defArgs s_Store__eq) (defBody s_Store__eq) (defScope s_Store__eq) .none kV_Store__eq dc_Store__eq pm_Store__eq an_Store__eq cd_Store__eq ct_Store__eq), sl_Store__eq⟩)
    (c_of_Store__eq : PySem.W.codeIn K cd_Store__eq "Store.__eq__" = true)
    (k_Store__eq : PySem.W.keepIn K (.ref f_Store__eq) = true)
    (a_Flush__eq : PySem.W.findIn K (.ref C_Flush) "__eq__" = some (some (.ref f_Flush__eq)))
    (i_Flush__eq : PySem.W.isFn K (.ref f_Flush__eq) = true)
    (l_Flush__eq : K.lookup f_Flush__eq = some ⟨oc_Flush__eq, od_Flush__eq, .func (PySem.W.fnOf "__eq__" "Flush.__eq__" (defArgs s_Flush__eq) (defBody s_Flush__eq) (defScope s_Flush__eq) .none kV_Flush__eq dc_Flush__eq pm_Flush__eq an_Flush__eq cd_Flush__eq ct_Flush__eq), sl_Flush__eq⟩)
    (c_of_Flush__eq : PySem.W.codeIn K cd_Flush__eq "Flush.__eq__" = true)
    (k_Flush__eq : PySem.W.keepIn K (.ref f_Flush__eq) = true)
    (a_Copy__eq : PySem.W.findIn K (.ref C_Copy) "__eq__" = some (some (.ref f_Copy__eq)))
    (i_Copy__eq : PySem.W.isFn K (.ref f_Copy__eq) = true)
    (l_Copy__eq : K.lookup f_Copy__eq = some ⟨oc_Copy__eq, od_Copy__eq, .func (PySem.W.fnOf "__eq__" "Copy.__eq__" (defArgs s_Copy__eq) (defBody s_Copy__eq) (defScope s_Copy__eq) .none kV_Copy__eq dc_Copy__eq pm_Copy__eq an_Copy__eq cd_Copy__eq ct_Copy__eq), sl_Copy__eq⟩)
    (c_of_Copy__eq : PySem.W.codeIn K cd_Copy__eq "Copy.__eq__" = true)
    (k_Copy__eq : PySem.W.keepIn K (.ref f_Copy__eq) = true)
    (a_Is__eq : PySem.W.findIn K (.ref C_Is) "__eq__" = some (some (.ref f_Is__eq)))
    (i_Is__eq : PySem.W.isFn K (.ref f_Is__eq) = true)
    (l_Is__eq : K.lookup f_Is__eq = some ⟨oc_Is__eq, od_Is__eq, .func (PySem.W.fnOf "__eq__" "Is.__eq__" (defArgs s_Is__eq) (defBody s_Is__eq) (defScope s_Is__eq) .none kV_Is__eq dc_Is__eq pm_Is__eq an_Is__eq cd_Is__eq ct_Is__eq), sl_Is__eq⟩)
    (c_of_Is__eq : PySem.W.codeIn K cd_Is__eq "Is.__eq__" = true)
    (k_Is__eq : PySem.W.keepIn K (.ref f_Is__eq) = true)
    (a_Fence__eq : PySem.W.findIn K (.ref C_Fence) "__eq__" = some (some (.ref f_Fence__eq)))
    (i_Fence__eq : PySem.W.isFn K (.ref f_Fence__eq) = true)
    (l_Fence__eq : K.lookup f_Fence__eq = some ⟨oc_Fence__eq, od_Fence__eq, .func (PySem.W.fnOf "__eq__" "Fence.__eq__" (defArgs s_Fence__eq) (defBody s_Fence__eq) (defScope s_Fence__eq) .none kV_Fence__eq dc_Fence__eq pm_Fence__eq an_Fence__eq cd_Fence__eq ct_Fence__eq), sl_Fence__eq⟩)
    (c_of_Fence__eq : PySem.W.codeIn K cd_Fence__eq "Fence.__eq__" = true)
    (k_Fence__eq : PySem.W.keepIn K (.ref f_Fence__eq) = true)
    (a_Memory__eq : PySem.W.findIn K (.ref C_Memory) "__eq__" = some (some (.ref f_Memory__eq)))
    (i_Memory__eq : PySem.W.isFn K (.ref f_Memory__eq) = true)
    (l_Memory__eq : K.lookup f_Memory__eq = some ⟨oc_Memory__eq, od_Memory__eq, .func (PySem.W.fnOf "__eq__" "Memory.__eq__" (defArgs s_Memory__eq) (defBody s_Memory__eq) (defScope s_Memory__eq) .none kV_Memory__eq dc_Memory__eq pm_Memory__eq an_Memory__eq cd_Memory__eq ct_Memory__eq), sl_Memory__eq⟩)
    (c_of_Memory__eq : PySem.W.codeIn K cd_Memory__eq "Memory.__eq__" = true)
    (k_Memory__eq : PySem.W.keepIn K (.ref f_Memory__eq) = true)
    (a_Store__init : PySem.W.findIn K (.ref C_Store) "__init__" = some (some (.ref f_Store__init)))
    (i_Store__init : PySem.W.isFn K (.ref f_Store__init) = true)
    (l_Store__init : K.lookup f_Store__init = some ⟨oc_Store__init, od_Store__init, .func (PySem.W.fnOf "__init__" "Store.__init__" (defArgs s_Store__init) (defBody s_Store__init) (defScope s_Store__init) .none kV_Store__init dc_Store__init pm_Store__init an_Store__init cd_Store__init ct_Store__init), sl_Store__init⟩)
    (c_of_Store__init : PySem.W.codeIn K cd_Store__init "Store.__init__" = true)
    (k_Store__init : PySem.W.keepIn K (.ref f_Store__init) = true)
    (a_Flush__init : PySem.W.findIn K (.ref C_Flush) "__init__" = some (some (.ref f_Flush__init)))
    (i_Flush__init : PySem.W.isFn K (.ref f_Flush__init) = true)
    (l_Flush__init : K.lookup f_Flush__init = some ⟨oc_Flush__init, od_Flush__init, .func (PySem.W.fnOf "__init__" "Flush.__init__" (defArgs s_Flush__init) (defBody s_Flush__init) (defScope s_Flush__init) .none kV_Flush__init dc_Flush__init pm_Flush__init an_Flush__init cd_Flush__init ct_Flush__init), sl_Flush__init⟩)
    (c_of_Flush__init : PySem.W.codeIn K cd_Flush__init "Flush.__init__" = true)
    (k_Flush__init : PySem.W.keepIn K (.ref f_Flush__init) = true)
    (a_Copy__init : PySem.W.findIn K (.ref C_Copy) "__init__" = some (some (.ref f_Copy__init)))
    (i_Copy__init : PySem.W.isFn K (.ref f_Copy__init) = true)
    (l_Copy__init : K.lookup f_Copy__init = some ⟨oc_Copy__init, od_Copy__init, .func (PySem.W.fnOf "__init__" "Copy.__init__" (defArgs s_Copy__init) (defBody s_Copy__init) (defScope s_Copy__init) .none kV_Copy__init dc_Copy__init pm_Copy__init an_Copy__init cd_Copy__init ct_Copy__init), sl_Copy__init⟩)
    (c_of_Copy__init : PySem.W.codeIn K cd_Copy__init "Copy.__init__" = true)
    (k_Copy__init : PySem.W.keepIn K (.ref f_Copy__init) = true)
    (a_check_sizes : PySem.W.nsIn K mainGlobals "check_sizes" = some (some (.ref f_check_sizes)))
    (l_check_sizes : K.lookup f_check_sizes = some ⟨oc_check_sizes, od_check_sizes, .func (PySem.W.fnOf "check_sizes" "check_sizes" (defArgs s_check_sizes) (defBody s_check_sizes) (defScope s_check_sizes) .none kV_check_sizes dc_check_sizes pm_check_sizes an_check_sizes cd_check_sizes ct_check_sizes), sl_check_sizes⟩)
    (c_of_check_sizes : PySem.W.codeIn K cd_check_sizes "check_sizes" = true)
    (k_check_sizes : PySem.W.keepIn K (.ref f_check_sizes) = true)
    (a_Memory__init : PySem.W.findIn K (.ref C_Memory) "__init__" = some (some (.ref f_Memory__init)))
    (i_Memory__init : PySem.W.isFn K (.ref f_Memory__init) = true)
    (l_Memory__init : K.lookup f_Memory__init = some ⟨oc_Memory__init, od_Memory__init, .func (PySem.W.fnOf "__init__" "Memory.__init__" (defArgs s_Memory__init) (defBody s_Memory__init) (defScope s_Memory__init) .none kV_Memory__init dc_Memory__init pm_Memory__init an_Memory__init cd_Memory__init ct_Memory__init), sl_Memory__init⟩)
    (c_of_Memory__init : PySem.W.codeIn K cd_Memory__init "Memory.__init__" = true)
    (k_Memory__init : PySem.W.keepIn K (.ref f_Memory__init) = true)
    (a_law_draw : PySem.W.nsIn K mainGlobals "_law_draw" = some (some (.ref f_law_draw)))
    (l_law_draw : K.lookup f_law_draw = some ⟨oc_law_draw, od_law_draw, .func (PySem.W.fnOf "_law_draw" "_law_draw" (defArgs s_law_draw) (defBody s_law_draw) (defScope s_law_draw) .none kV_law_draw dc_law_draw pm_law_draw an_law_draw cd_law_draw ct_law_draw), sl_law_draw⟩)
    (c_of_law_draw : PySem.W.codeIn K cd_law_draw "_law_draw" = true)
    (k_law_draw : PySem.W.keepIn K (.ref f_law_draw) = true)
    (a_law_sizes : PySem.W.nsIn K mainGlobals "_law_sizes" = some (some (.ref f_law_sizes)))
    (l_law_sizes : K.lookup f_law_sizes = some ⟨oc_law_sizes, od_law_sizes, .func (PySem.W.fnOf "_law_sizes" "_law_sizes" (defArgs s_law_sizes) (defBody s_law_sizes) (defScope s_law_sizes) .none kV_law_sizes dc_law_sizes pm_law_sizes an_law_sizes cd_law_sizes ct_law_sizes), sl_law_sizes⟩)
    (c_of_law_sizes : PySem.W.codeIn K cd_law_sizes "_law_sizes" = true)
    (k_law_sizes : PySem.W.keepIn K (.ref f_law_sizes) = true)
    (a_law_memory_right : PySem.W.nsIn K mainGlobals "_law_memory_right" = some (some (.ref f_law_memory_right)))
    (l_law_memory_right : K.lookup f_law_memory_right = some ⟨oc_law_memory_right, od_law_memory_right, .func (PySem.W.fnOf "_law_memory_right" "_law_memory_right" (defArgs s_law_memory_right) (defBody s_law_memory_right) (defScope s_law_memory_right) .none kV_law_memory_right dc_law_memory_right pm_law_memory_right an_law_memory_right cd_law_memory_right ct_law_memory_right), sl_law_memory_right⟩)
    (c_of_law_memory_right : PySem.W.codeIn K cd_law_memory_right "_law_memory_right" = true)
    (k_law_memory_right : PySem.W.keepIn K (.ref f_law_memory_right) = true)
    (a_law_pick : PySem.W.nsIn K mainGlobals "_law_pick" = some (some (.ref f_law_pick)))
    (l_law_pick : K.lookup f_law_pick = some ⟨oc_law_pick, od_law_pick, .func (PySem.W.fnOf "_law_pick" "_law_pick" (defArgs s_law_pick) (defBody s_law_pick) (defScope s_law_pick) .none kV_law_pick dc_law_pick pm_law_pick an_law_pick cd_law_pick ct_law_pick), sl_law_pick⟩)
    (c_of_law_pick : PySem.W.codeIn K cd_law_pick "_law_pick" = true)
    (k_law_pick : PySem.W.keepIn K (.ref f_law_pick) = true)
    (a_law_number : PySem.W.nsIn K mainGlobals "_law_number" = some (some (.ref f_law_number)))
    (l_law_number : K.lookup f_law_number = some ⟨oc_law_number, od_law_number, .func (PySem.W.fnOf "_law_number" "_law_number" (defArgs s_law_number) (defBody s_law_number) (defScope s_law_number) .none kV_law_number dc_law_number pm_law_number an_law_number cd_law_number ct_law_number), sl_law_number⟩)
    (c_of_law_number : PySem.W.codeIn K cd_law_number "_law_number" = true)
    (k_law_number : PySem.W.keepIn K (.ref f_law_number) = true)
    (a_Is__init : PySem.W.findIn K (.ref C_Is) "__init__" = some (some (.ref f_Is__init)))
    (i_Is__init : PySem.W.isFn K (.ref f_Is__init) = true)
    (l_Is__init : K.lookup f_Is__init = some ⟨oc_Is__init, od_Is__init, .func (PySem.W.fnOf "__init__" "Is.__init__" (defArgs s_Is__init) (defBody s_Is__init) (defScope s_Is__init) .none kV_Is__init dc_Is__init pm_Is__init an_Is__init cd_Is__init ct_Is__init), sl_Is__init⟩)
    (c_of_Is__init : PySem.W.codeIn K cd_Is__init "Is.__init__" = true)
    (k_Is__init : PySem.W.keepIn K (.ref f_Is__init) = true)
    (a_law_right : PySem.W.nsIn K mainGlobals "_law_right" = some (some (.ref f_law_right)))
    (l_law_right : K.lookup f_law_right = some ⟨oc_law_right, od_law_right, .func (PySem.W.fnOf "_law_right" "_law_right" (defArgs s_law_right) (defBody s_law_right) (defScope s_law_right) .none kV_law_right dc_law_right pm_law_right an_law_right cd_law_right ct_law_right), sl_law_right⟩)
    (c_of_law_right : PySem.W.codeIn K cd_law_right "_law_right" = true)
    (k_law_right : PySem.W.keepIn K (.ref f_law_right) = true)
    (a_law : PySem.W.nsIn K mainGlobals "law" = some (some (.ref f_law)))
    (l_law : K.lookup f_law = some ⟨oc_law, od_law, .func (PySem.W.fnOf "law" "law" (defArgs s_law) (defBody s_law) (defScope s_law) .none kV_law dc_law pm_law an_law cd_law ct_law), sl_law⟩)
    (c_of_law : PySem.W.codeIn K cd_law "law" = true)
    (k_law : PySem.W.keepIn K (.ref f_law) = true) :
    LawAtS l w K (L2.CX l.prog w) 8 63 "_law_script" mg fa h := by
  have e := hfa.symm.trans (PySem.W.mg_of X G a_law)
  cases e
  have FEBadCount := fun_mk (st := s_EBadCount) l_EBadCount c_of_EBadCount k_EBadCount
  have Flaw_source := fun_mk (st := s_law_source) l_law_source c_of_law_source k_law_source
  have FStore__eq := fun_mk (st := s_Store__eq) l_Store__eq c_of_Store__eq k_Store__eq
  have FFlush__eq := fun_mk (st := s_Flush__eq) l_Flush__eq c_of_Flush__eq k_Flush__eq
  have FCopy__eq := fun_mk (st := s_Copy__eq) l_Copy__eq c_of_Copy__eq k_Copy__eq
  have FIs__eq := fun_mk (st := s_Is__eq) l_Is__eq c_of_Is__eq k_Is__eq
  have FFence__eq := fun_mk (st := s_Fence__eq) l_Fence__eq c_of_Fence__eq k_Fence__eq
  have FMemory__eq := fun_mk (st := s_Memory__eq) l_Memory__eq c_of_Memory__eq k_Memory__eq
  have FStore__init := fun_mk (st := s_Store__init) l_Store__init c_of_Store__init k_Store__init
  have FFlush__init := fun_mk (st := s_Flush__init) l_Flush__init c_of_Flush__init k_Flush__init
  have FCopy__init := fun_mk (st := s_Copy__init) l_Copy__init c_of_Copy__init k_Copy__init
  have Fcheck_sizes := fun_mk (st := s_check_sizes) l_check_sizes c_of_check_sizes k_check_sizes
  have FMemory__init := fun_mk (st := s_Memory__init) l_Memory__init c_of_Memory__init k_Memory__init
  have Flaw_draw := fun_mk (st := s_law_draw) l_law_draw c_of_law_draw k_law_draw
  have Flaw_sizes := fun_mk (st := s_law_sizes) l_law_sizes c_of_law_sizes k_law_sizes
  have Flaw_memory_right := fun_mk (st := s_law_memory_right) l_law_memory_right c_of_law_memory_right k_law_memory_right
  have Flaw_pick := fun_mk (st := s_law_pick) l_law_pick c_of_law_pick k_law_pick
  have Flaw_number := fun_mk (st := s_law_number) l_law_number c_of_law_number k_law_number
  have FIs__init := fun_mk (st := s_Is__init) l_Is__init c_of_Is__init k_Is__init
  have Flaw_right := fun_mk (st := s_law_right) l_law_right c_of_law_right k_law_right
  have Flaw := fun_mk (st := s_law) l_law c_of_law k_law
  obtain ⟨ct, hct, e_BadCount, e_Memory, e_Store, e_Flush, e_Fence, e_Is, e_Copy⟩ : ∃ ct : Ct, ct.tabs = [] ∧ ct "BadCount" = C_BadCount ∧ ct "Memory" = C_Memory ∧ ct "Store" = C_Store ∧ ct "Flush" = C_Flush ∧ ct "Fence" = C_Fence ∧ ct "Is" = C_Is ∧ ct "Copy" = C_Copy :=
    ⟨⟨ctOf [("BadCount", C_BadCount), ("Memory", C_Memory), ("Store", C_Store), ("Flush", C_Flush), ("Fence", C_Fence), ("Is", C_Is), ("Copy", C_Copy)], []⟩, rfl, by rfl, by rfl, by rfl, by rfl, by rfl, by rfl, by rfl⟩
  subst e_BadCount
  subst e_Memory
  subst e_Store
  subst e_Flush
  subst e_Fence
  subst e_Is
  subst e_Copy
  refine ⟨PySem.W.fnOf "law" "law" (defArgs s_law) (defBody s_law) (defScope s_law) .none kV_law dc_law pm_law an_law cd_law ct_law, [], spD K ct [.v] .v m_law, ?_, ?_, ?_, fun s u => .of_eq (by rfl), ?_, fun base Kb Gb TBs => ?_⟩
  · intro p hp
    cases hp
  · intro p hp
    cases hp
  · intro p hp
    cases hp
  · intro H a ns hl _ ht hS
    refine law_sp (fun p hp => ?_) hS (law_true ns hl)
    rw [hct] at hp
    cases hp
  · have oC_BadCount : OexC K (ct "BadCount") := ⟨⟨nm_C_BadCount, qn_C_BadCount, N_C_BadCount, bs_C_BadCount, bm_C_BadCount, sn_C_BadCount, sub_C_BadCount, ab_C_BadCount, col_C_BadCount, dd_C_BadCount, m0_C_BadCount, m1_C_BadCount, m2_C_BadCount, m3_C_BadCount, m5_C_BadCount, x_C_BadCount, bm_C_BadCount'⟩, sa_C_BadCount, eC_C_BadCount, tC_C_BadCount, kC_C_BadCount⟩
    have E_BadCount : Err l.prog w K mg base "BadCount" (ct "BadCount") 1 ["self", "what", "count"] (spInit2 (ct "BadCount") ("what" : Str) ("count" : Str)) :=
      ⟨oC_BadCount, _, _, a_EBadCount, t_EBadCount, ok_EBadCount FEBadCount oC_BadCount n_C_BadCount_what n_C_BadCount_count, PySem.W.mg_of X G a_C_BadCount, FEBadCount.binds (ps := ["self", "what", "count"]) fun _ _ _ _ _ _ us hl => match us, hl with | [_, _, _], _ => rfl⟩
    have cC_Memory : Cls K (ct "Memory") := ⟨pg_C_Memory, hd_C_Memory, po_C_Memory, sa_C_Memory⟩
    have cC_Store : Cls K (ct "Store") := ⟨pg_C_Store, hd_C_Store, po_C_Store, sa_C_Store⟩
    have cC_Flush : Cls K (ct "Flush") := ⟨pg_C_Flush, hd_C_Flush, po_C_Flush, sa_C_Flush⟩
    have cC_Fence : Cls K (ct "Fence") := ⟨pg_C_Fence, hd_C_Fence, po_C_Fence, sa_C_Fence⟩
    have cC_Is : Cls K (ct "Is") := ⟨pg_C_Is, hd_C_Is, po_C_Is, sa_C_Is⟩
    have cC_Copy : Cls K (ct "Copy") := ⟨pg_C_Copy, hd_C_Copy, po_C_Copy, sa_C_Copy⟩
    have wC_Memory : OwnC K (ct "Memory") := ⟨cC_Memory, oh_C_Memory, bi_n, bi_t, om_C_Memory⟩
    have wC_Store : OwnC K (ct "Store") := ⟨cC_Store, oh_C_Store, bi_n, bi_t, om_C_Store⟩
    have wC_Flush : OwnC K (ct "Flush") := ⟨cC_Flush, oh_C_Flush, bi_n, bi_t, om_C_Flush⟩
    have wC_Fence : OwnC K (ct "Fence") := ⟨cC_Fence, oh_C_Fence, bi_n, bi_t, om_C_Fence⟩
    have wC_Is : OwnC K (ct "Is") := ⟨cC_Is, oh_C_Is, bi_n, bi_t, om_C_Is⟩
    have wC_Copy : OwnC K (ct "Copy") := ⟨cC_Copy, oh_C_Copy, bi_n, bi_t, om_C_Copy⟩
    have T : TF l.prog w K ct mg base :=
      { cl := clsT_mk (fa_cons ⟨cC_Memory, n_C_Memory_sizes⟩ (fa_cons ⟨cC_Store, n_C_Store_line⟩ (fa_cons ⟨cC_Store, n_C_Store_word⟩ (fa_cons ⟨cC_Store, n_C_Store_number⟩ (fa_cons ⟨cC_Flush, n_C_Flush_line⟩ (fa_cons ⟨cC_Is, n_C_Is_line⟩ (fa_cons ⟨cC_Is, n_C_Is_word⟩ (fa_cons ⟨cC_Is, n_C_Is_numbers⟩ (fa_cons ⟨cC_Copy, n_C_Copy_line⟩ (fa_cons ⟨cC_Copy, n_C_Copy_word⟩ (fa_cons ⟨cC_Copy, n_C_Copy_from_line⟩ (fa_cons ⟨cC_Copy, n_C_Copy_from_word⟩ (fa_nil))))))))))))),
        isa := isT_mk (fa_cons ⟨wC_Memory, kit_no nq_C_Memory_C_Copy kc1_C_Copy kc2_C_Copy sb_C_Memory_C_Copy⟩ (fa_cons ⟨wC_Memory, kit_no nq_C_Memory_C_Fence kc1_C_Fence kc2_C_Fence sb_C_Memory_C_Fence⟩ (fa_cons ⟨wC_Memory, kit_no nq_C_Memory_C_Flush kc1_C_Flush kc2_C_Flush sb_C_Memory_C_Flush⟩ (fa_cons ⟨wC_Memory, kit_no nq_C_Memory_C_Is kc1_C_Is kc2_C_Is sb_C_Memory_C_Is⟩ (fa_cons ⟨wC_Memory, kit_self⟩ (fa_cons ⟨wC_Memory, kit_no nq_C_Memory_C_Store kc1_C_Store kc2_C_Store sb_C_Memory_C_Store⟩ (fa_cons ⟨wC_Store, kit_no nq_C_Store_C_Copy kc1_C_Copy kc2_C_Copy sb_C_Store_C_Copy⟩ (fa_cons ⟨wC_Store, kit_no nq_C_Store_C_Fence kc1_C_Fence kc2_C_Fence sb_C_Store_C_Fence⟩ (fa_cons ⟨wC_Store, kit_no nq_C_Store_C_Flush kc1_C_Flush kc2_C_Flush sb_C_Store_C_Flush⟩ (fa_cons ⟨wC_Store, kit_no nq_C_Store_C_Is kc1_C_Is kc2_C_Is sb_C_Store_C_Is⟩ (fa_cons ⟨wC_Store, kit_no nq_C_Store_C_Memory kc1_C_Memory kc2_C_Memory sb_C_Store_C_Memory⟩ (fa_cons ⟨wC_Store, kit_self⟩ (fa_cons ⟨wC_Flush, kit_no nq_C_Flush_C_Copy kc1_C_Copy kc2_C_Copy sb_C_Flush_C_Copy⟩ (fa_cons ⟨wC_Flush, kit_no nq_C_Flush_C_Fence kc1_C_Fence kc2_C_Fence sb_C_Flush_C_Fence⟩ (fa_cons ⟨wC_Flush, kit_self⟩ (fa_cons ⟨wC_Flush, kit_no nq_C_Flush_C_Is kc1_C_Is kc2_C_Is sb_C_Flush_C_Is⟩ (fa_cons ⟨wC_Flush, kit_no nq_C_Flush_C_Memory kc1_C_Memory kc2_C_Memory sb_C_Flush_C_Memory⟩ (fa_cons ⟨wC_Flush, kit_no nq_C_Flush_C_Store kc1_C_Store kc2_C_Store sb_C_Flush_C_Store⟩ (fa_cons ⟨wC_Fence, kit_no nq_C_Fence_C_Copy kc1_C_Copy kc2_C_Copy sb_C_Fence_C_Copy⟩ (fa_cons ⟨wC_Fence, kit_self⟩ (fa_cons ⟨wC_Fence, kit_no nq_C_Fence_C_Flush kc1_C_Flush kc2_C_Flush sb_C_Fence_C_Flush⟩ (fa_cons ⟨wC_Fence, kit_no nq_C_Fence_C_Is kc1_C_Is kc2_C_Is sb_C_Fence_C_Is⟩ (fa_cons ⟨wC_Fence, kit_no nq_C_Fence_C_Memory kc1_C_Memory kc2_C_Memory sb_C_Fence_C_Memory⟩ (fa_cons ⟨wC_Fence, kit_no nq_C_Fence_C_Store kc1_C_Store kc2_C_Store sb_C_Fence_C_Store⟩ (fa_cons ⟨wC_Is, kit_no nq_C_Is_C_Copy kc1_C_Copy kc2_C_Copy sb_C_Is_C_Copy⟩ (fa_cons ⟨wC_Is, kit_no nq_C_Is_C_Fence kc1_C_Fence kc2_C_Fence sb_C_Is_C_Fence⟩ (fa_cons ⟨wC_Is, kit_no nq_C_Is_C_Flush kc1_C_Flush kc2_C_Flush sb_C_Is_C_Flush⟩ (fa_cons ⟨wC_Is, kit_self⟩ (fa_cons ⟨wC_Is, kit_no nq_C_Is_C_Memory kc1_C_Memory kc2_C_Memory sb_C_Is_C_Memory⟩ (fa_cons ⟨wC_Is, kit_no nq_C_Is_C_Store kc1_C_Store kc2_C_Store sb_C_Is_C_Store⟩ (fa_cons ⟨wC_Copy, kit_self⟩ (fa_cons ⟨wC_Copy, kit_no nq_C_Copy_C_Fence kc1_C_Fence kc2_C_Fence sb_C_Copy_C_Fence⟩ (fa_cons ⟨wC_Copy, kit_no nq_C_Copy_C_Flush kc1_C_Flush kc2_C_Flush sb_C_Copy_C_Flush⟩ (fa_cons ⟨wC_Copy, kit_no nq_C_Copy_C_Is kc1_C_Is kc2_C_Is sb_C_Copy_C_Is⟩ (fa_cons ⟨wC_Copy, kit_no nq_C_Copy_C_Memory kc1_C_Memory kc2_C_Memory sb_C_Copy_C_Memory⟩ (fa_cons ⟨wC_Copy, kit_no nq_C_Copy_C_Store kc1_C_Store kc2_C_Store sb_C_Copy_C_Store⟩ (fa_nil))))))))))))))))))))))))))))))))))))),
        isb := (isB_cons kc1_C_Copy kc2_C_Copy (isB_cons kc1_C_Fence kc2_C_Fence (isB_cons kc1_C_Flush kc2_C_Flush (isB_cons kc1_C_Is kc2_C_Is (isB_cons kc1_C_Memory kc2_C_Memory (isB_cons kc1_C_Store kc2_C_Store isB_nil)))))),
        b_abs := PySem.W.mg_none_of X G z_abs,
        b_isinstance := PySem.W.mg_none_of X G z_isinstance,
        b_len := PySem.W.mg_none_of X G z_len,
        b_list := PySem.W.mg_none_of X G z_list,
        b_range := PySem.W.mg_none_of X G z_range,
        b_set := PySem.W.mg_none_of X G z_set,
        b_sorted := PySem.W.mg_none_of X G z_sorted,
        b_tuple := PySem.W.mg_none_of X G z_tuple,
        g_MOST_LINES := ⟨_, PySem.W.mg_of X G g_MOST_LINES⟩,
        g_MOST_WORDS := ⟨_, PySem.W.mg_of X G g_MOST_WORDS⟩,
        gC_Copy := PySem.W.mg_of X G a_C_Copy,
        gC_Fence := PySem.W.mg_of X G a_C_Fence,
        gC_Flush := PySem.W.mg_of X G a_C_Flush,
        gC_Is := PySem.W.mg_of X G a_C_Is,
        gC_Memory := PySem.W.mg_of X G a_C_Memory,
        gC_Store := PySem.W.mg_of X G a_C_Store,
        B_Fence := ⟨PySem.W.mg_of X G a_C_Fence, mk_C_Fence, ie_C_Fence, kc_C_Fence, om_C_Fence⟩,
        E_BadCount := E_BadCount }
    have F_law_source : Cal l.prog w K mg base (L2.CX l.prog w) "_law_source" 1 ["_law_cell"] (spD K ct [Kd.v] .f m_law_source) :=
      ⟨_, _, ok_law_source Flaw_source T , PySem.W.mg_of X G a_law_source, k_law_source, Flaw_source.binds (ps := ["_law_cell"]) fun _ _ _ _ _ _ us hl => match us, hl with | [_], _ => rfl⟩
    have D_Store_eq : Dun l.prog w K mg base (L2.CX l.prog w) (ct "Store") "__eq__" 1 ["self", "other"] (spD K ct [Kd.v, Kd.v] .v m_Store__eq) :=
      ⟨_, _, ok_Store__eq FStore__eq T , a_Store__eq, i_Store__eq, FStore__eq.binds (ps := ["self", "other"]) fun _ _ _ _ _ _ us hl => match us, hl with | [_, _], _ => rfl⟩
    have D_Flush_eq : Dun l.prog w K mg base (L2.CX l.prog w) (ct "Flush") "__eq__" 1 ["self", "other"] (spD K ct [Kd.v, Kd.v] .v m_Flush__eq) :=
      ⟨_, _, ok_Flush__eq FFlush__eq T , a_Flush__eq, i_Flush__eq, FFlush__eq.binds (ps := ["self", "other"]) fun _ _ _ _ _ _ us hl => match us, hl with | [_, _], _ => rfl⟩
    have D_Copy_eq : Dun l.prog w K mg base (L2.CX l.prog w) (ct "Copy") "__eq__" 1 ["self", "other"] (spD K ct [Kd.v, Kd.v] .v m_Copy__eq) :=
      ⟨_, _, ok_Copy__eq FCopy__eq T , a_Copy__eq, i_Copy__eq, FCopy__eq.binds (ps := ["self", "other"]) fun _ _ _ _ _ _ us hl => match us, hl with | [_, _], _ => rfl⟩
    have D_Is_eq : Dun l.prog w K mg base (L2.CX l.prog w) (ct "Is") "__eq__" 1 ["self", "other"] (spD K ct [Kd.v, Kd.v] .v m_Is__eq) :=
      ⟨_, _, ok_Is__eq FIs__eq T , a_Is__eq, i_Is__eq, FIs__eq.binds (ps := ["self", "other"]) fun _ _ _ _ _ _ us hl => match us, hl with | [_, _], _ => rfl⟩
    have D_Fence_eq : Dun l.prog w K mg base (L2.CX l.prog w) (ct "Fence") "__eq__" 1 ["self", "other"] (spD K ct [Kd.v, Kd.v] .v m_Fence__eq) :=
      ⟨_, _, ok_Fence__eq FFence__eq T , a_Fence__eq, i_Fence__eq, FFence__eq.binds (ps := ["self", "other"]) fun _ _ _ _ _ _ us hl => match us, hl with | [_, _], _ => rfl⟩
    have D_Memory_eq : Dun l.prog w K mg base (L2.CX l.prog w) (ct "Memory") "__eq__" 1 ["self", "other"] (spD K ct [Kd.v, Kd.v] .v m_Memory__eq) :=
      ⟨_, _, ok_Memory__eq FMemory__eq T , a_Memory__eq, i_Memory__eq, FMemory__eq.binds (ps := ["self", "other"]) fun _ _ _ _ _ _ us hl => match us, hl with | [_, _], _ => rfl⟩
    have M_Store : Mak l.prog w K mg base (L2.CX l.prog w) "Store" (ct "Store") 1 ["self", "line", "word", "number"] (spD K ct [Kd.p, Kd.v, Kd.v, Kd.v] .v m_Store__init) :=
      ⟨_, _, ⟨mk_C_Store, a_Store__init, i_Store__init, kc_C_Store⟩, ok_Store__init FStore__init T , PySem.W.mg_of X G a_C_Store, FStore__init.binds (ps := ["self", "line", "word", "number"]) fun _ _ _ _ _ _ us hl => match us, hl with | [_, _, _, _], _ => rfl⟩
    have M_Flush : Mak l.prog w K mg base (L2.CX l.prog w) "Flush" (ct "Flush") 1 ["self", "line"] (spD K ct [Kd.p, Kd.v] .v m_Flush__init) :=
      ⟨_, _, ⟨mk_C_Flush, a_Flush__init, i_Flush__init, kc_C_Flush⟩, ok_Flush__init FFlush__init T , PySem.W.mg_of X G a_C_Flush, FFlush__init.binds (ps := ["self", "line"]) fun _ _ _ _ _ _ us hl => match us, hl with | [_, _], _ => rfl⟩
    have M_Copy : Mak l.prog w K mg base (L2.CX l.prog w) "Copy" (ct "Copy") 1 ["self", "line", "word", "from_line", "from_word"] (spD K ct [Kd.p, Kd.v, Kd.v, Kd.v, Kd.v] .v m_Copy__init) :=
      ⟨_, _, ⟨mk_C_Copy, a_Copy__init, i_Copy__init, kc_C_Copy⟩, ok_Copy__init FCopy__init T , PySem.W.mg_of X G a_C_Copy, FCopy__init.binds (ps := ["self", "line", "word", "from_line", "from_word"]) fun _ _ _ _ _ _ us hl => match us, hl with | [_, _, _, _, _], _ => rfl⟩
    have F_check_sizes : Cal l.prog w K mg base (L2.CX l.prog w) "check_sizes" 3 ["sizes"] (spD K ct [Kd.b] .v m_check_sizes) :=
      ⟨_, _, ok_check_sizes Fcheck_sizes T , PySem.W.mg_of X G a_check_sizes, k_check_sizes, Fcheck_sizes.binds (ps := ["sizes"]) fun _ _ _ _ _ _ us hl => match us, hl with | [_], _ => rfl⟩
    have M_Memory : Mak l.prog w K mg base (L2.CX l.prog w) "Memory" (ct "Memory") 4 ["self", "sizes"] (spD K ct [Kd.p, Kd.b] .v m_Memory__init) :=
      ⟨_, _, ⟨mk_C_Memory, a_Memory__init, i_Memory__init, kc_C_Memory⟩, ok_Memory__init FMemory__init T F_check_sizes, PySem.W.mg_of X G a_C_Memory, FMemory__init.binds (ps := ["self", "sizes"]) fun _ _ _ _ _ _ us hl => match us, hl with | [_, _], _ => rfl⟩
    have F_law_draw : Cal l.prog w K mg base (L2.CX l.prog w) "_law_draw" 1 ["_law_source_here", "_law_many"] (spD K ct [Kd.p, Kd.v] .v m_law_draw) :=
      ⟨_, _, ok_law_draw Flaw_draw T , PySem.W.mg_of X G a_law_draw, k_law_draw, Flaw_draw.binds (ps := ["_law_source_here", "_law_many"]) fun _ _ _ _ _ _ us hl => match us, hl with | [_, _], _ => rfl⟩
    have F_law_sizes : Cal l.prog w K mg base (L2.CX l.prog w) "_law_sizes" 2 ["_law_source_here", "_law_most"] (spD K ct [Kd.p, Kd.v] .f m_law_sizes) :=
      ⟨_, _, ok_law_sizes Flaw_sizes T F_law_draw, PySem.W.mg_of X G a_law_sizes, k_law_sizes, Flaw_sizes.binds (ps := ["_law_source_here", "_law_most"]) fun _ _ _ _ _ _ us hl => match us, hl with | [_, _], _ => rfl⟩
    have N_Memory_sizes : Nak l.prog w K mg base (L2.CX l.prog w) "Memory" (ct "Memory") 4 ["self", "sizes"] (spD K ct [Kd.p, Kd.b] .v m_Memory__init) ["sizes"] [0] :=
      ⟨_, _, ⟨mk_C_Memory, a_Memory__init, i_Memory__init, kc_C_Memory⟩, ok_Memory__init FMemory__init T F_check_sizes, PySem.W.mg_of X G a_C_Memory, nbinds FMemory__init fun _ _ _ _ _ _ us ws h1 h2 => match us, ws, h1, h2 with | [_], [_], _, _ => rfl⟩
    have ET : EqTabP l.prog w K mg base ct 1 ocT := (eqt_cons D_Store_eq (eqt_cons D_Flush_eq (eqt_cons D_Copy_eq (eqt_cons D_Is_eq (eqt_cons D_Fence_eq (eqt_cons D_Memory_eq eqt_nil))))))
    have NET : NeT K ct ocT := (net_cons ne_C_Store om_C_Store (net_cons ne_C_Flush om_C_Flush (net_cons ne_C_Copy om_C_Copy (net_cons ne_C_Is om_C_Is (net_cons ne_C_Fence om_C_Fence (net_cons ne_C_Memory om_C_Memory net_nil))))))
    have F_law_memory_right : Cal l.prog w K mg base (L2.CX l.prog w) "_law_memory_right" 6 ["_law_source_here"] (spD K ct [Kd.p] .v m_law_memory_right) :=
      ⟨_, _, ok_law_memory_right Flaw_memory_right T M_Memory F_law_sizes N_Memory_sizes ET NET, PySem.W.mg_of X G a_law_memory_right, k_law_memory_right, Flaw_memory_right.binds (ps := ["_law_source_here"]) fun _ _ _ _ _ _ us hl => match us, hl with | [_], _ => rfl⟩
    have F_law_pick : Cal l.prog w K mg base (L2.CX l.prog w) "_law_pick" 2 ["_law_source_here", "_law_items"] (spD K ct [Kd.p, Kd.v] .v m_law_pick) :=
      ⟨_, _, ok_law_pick Flaw_pick T F_law_draw, PySem.W.mg_of X G a_law_pick, k_law_pick, Flaw_pick.binds (ps := ["_law_source_here", "_law_items"]) fun _ _ _ _ _ _ us hl => match us, hl with | [_, _], _ => rfl⟩
    have F_law_number : Cal l.prog w K mg base (L2.CX l.prog w) "_law_number" 3 ["_law_source_here"] (spD K ct [Kd.p] .v m_law_number) :=
      ⟨_, _, ok_law_number Flaw_number T F_law_draw F_law_pick, PySem.W.mg_of X G a_law_number, k_law_number, Flaw_number.binds (ps := ["_law_source_here"]) fun _ _ _ _ _ _ us hl => match us, hl with | [_], _ => rfl⟩
    have M_Is : Mak l.prog w K mg base (L2.CX l.prog w) "Is" (ct "Is") 1 ["self", "line", "word", "numbers"] (spD K ct [Kd.p, Kd.v, Kd.v, Kd.v] .v m_Is__init) :=
      ⟨_, _, ⟨mk_C_Is, a_Is__init, i_Is__init, kc_C_Is⟩, ok_Is__init FIs__init T , PySem.W.mg_of X G a_C_Is, FIs__init.binds (ps := ["self", "line", "word", "numbers"]) fun _ _ _ _ _ _ us hl => match us, hl with | [_, _, _, _], _ => rfl⟩
    have N_Copy_from_word_from_line_word_line : Nak l.prog w K mg base (L2.CX l.prog w) "Copy" (ct "Copy") 1 ["self", "line", "word", "from_line", "from_word"] (spD K ct [Kd.p, Kd.v, Kd.v, Kd.v, Kd.v] .v m_Copy__init) ["from_word", "from_line", "word", "line"] [3, 2, 1, 0] :=
      ⟨_, _, ⟨mk_C_Copy, a_Copy__init, i_Copy__init, kc_C_Copy⟩, ok_Copy__init FCopy__init T , PySem.W.mg_of X G a_C_Copy, nbinds FCopy__init fun _ _ _ _ _ _ us ws h1 h2 => match us, ws, h1, h2 with | [_], [_, _, _, _], _, _ => rfl⟩
    have N_Store_number_word_line : Nak l.prog w K mg base (L2.CX l.prog w) "Store" (ct "Store") 1 ["self", "line", "word", "number"] (spD K ct [Kd.p, Kd.v, Kd.v, Kd.v] .v m_Store__init) ["number", "word", "line"] [2, 1, 0] :=
      ⟨_, _, ⟨mk_C_Store, a_Store__init, i_Store__init, kc_C_Store⟩, ok_Store__init FStore__init T , PySem.W.mg_of X G a_C_Store, nbinds FStore__init fun _ _ _ _ _ _ us ws h1 h2 => match us, ws, h1, h2 with | [_], [_, _, _], _, _ => rfl⟩
    have N_Flush_line : Nak l.prog w K mg base (L2.CX l.prog w) "Flush" (ct "Flush") 1 ["self", "line"] (spD K ct [Kd.p, Kd.v] .v m_Flush__init) ["line"] [0] :=
      ⟨_, _, ⟨mk_C_Flush, a_Flush__init, i_Flush__init, kc_C_Flush⟩, ok_Flush__init FFlush__init T , PySem.W.mg_of X G a_C_Flush, nbinds FFlush__init fun _ _ _ _ _ _ us ws h1 h2 => match us, ws, h1, h2 with | [_], [_], _, _ => rfl⟩
    have F_law_right : Cal l.prog w K mg base (L2.CX l.prog w) "_law_right" 7 ["_law_source_here"] (spD K ct [Kd.p] .v m_law_right) :=
      ⟨_, _, ok_law_right Flaw_right T M_Copy M_Flush M_Is M_Store F_law_memory_right F_law_number N_Copy_from_word_from_line_word_line N_Store_number_word_line N_Flush_line ET NET, PySem.W.mg_of X G a_law_right, k_law_right, Flaw_right.binds (ps := ["_law_source_here"]) fun _ _ _ _ _ _ us hl => match us, hl with | [_], _ => rfl⟩
    exact ok_law Flaw T F_law_right F_law_source
end Dn
open PySem PySem.W PyProof.Rows
set_option maxRecDepth 100000 in
set_option maxHeartbeats 0 in
theorem PySem.Challenge.cw_lateststore_k01_memories_and_commands_holds : PySem.Challenge.rw_lateststore_k01_memories_and_commands.Holds := by
  w_on; o_law; k_head; (case hw => w_witness2)
  k_fill
  refine LamX.walk_ofTs (l := PySem.Challenge.rw_lateststore_k01_memories_and_commands) (n := 63) (k := 8) (x := "_law_script") (CX := fun w => L2.CX (PySem.Challenge.rw_lateststore_k01_memories_and_commands).prog w) rfl (by decide) rfl ⟨rfl, by decide, by decide⟩ (fun w h Y => PySem.W.kIn_of Y) ?F (fun _ _ _ _ _ ⟨_, _, _, _, _, _, _, _, _, _, _, _, z⟩ => z)
  case F =>
    intro w mg fa h Y KX G hmg
    refine' Dn.all_mk (ts := []) KX G hmg (fun P hP => nomatch hP) ?a_C_BadCount ?x_C_BadCount ?bm_C_BadCount' ?sa_C_BadCount ?ga_C_BadCount ?gg_C_BadCount ?kC_C_BadCount ?eC_C_BadCount ?tC_C_BadCount ?hC_C_BadCount ?iC_C_BadCount ?sC_C_BadCount ?n_C_BadCount_what ?n_C_BadCount_count ?a_EBadCount ?t_EBadCount ?l_EBadCount ?c_of_EBadCount ?k_EBadCount ?z_abs ?z_isinstance ?z_len ?z_list ?z_range ?z_set ?z_sorted ?z_tuple ?g_MOST_LINES ?g_MOST_WORDS ?a_C_Memory ?pg_C_Memory ?hd_C_Memory ?po_C_Memory ?sa_C_Memory ?mk_C_Memory ?kc_C_Memory ?n_C_Memory_sizes ?a_C_Store ?pg_C_Store ?hd_C_Store ?po_C_Store ?sa_C_Store ?mk_C_Store ?kc_C_Store ?n_C_Store_line ?n_C_Store_word ?n_C_Store_number ?a_C_Flush ?pg_C_Flush ?hd_C_Flush ?po_C_Flush ?sa_C_Flush ?mk_C_Flush ?kc_C_Flush ?n_C_Flush_line ?a_C_Fence ?pg_C_Fence ?hd_C_Fence ?po_C_Fence ?sa_C_Fence ?mk_C_Fence ?kc_C_Fence ?ie_C_Fence ?a_C_Is ?pg_C_Is ?hd_C_Is ?po_C_Is ?sa_C_Is ?mk_C_Is ?kc_C_Is ?n_C_Is_line ?n_C_Is_word ?n_C_Is_numbers ?a_C_Copy ?pg_C_Copy ?hd_C_Copy ?po_C_Copy ?sa_C_Copy ?mk_C_Copy ?kc_C_Copy ?n_C_Copy_line ?n_C_Copy_word ?n_C_Copy_from_line ?n_C_Copy_from_word ?bi_n ?bi_t ?oh_C_Memory ?om_C_Memory ?oh_C_Store ?om_C_Store ?oh_C_Flush ?om_C_Flush ?oh_C_Fence ?om_C_Fence ?oh_C_Is ?om_C_Is ?oh_C_Copy ?om_C_Copy ?kc1_C_Copy ?kc2_C_Copy ?kc1_C_Fence ?kc2_C_Fence ?kc1_C_Flush ?kc2_C_Flush ?kc1_C_Is ?kc2_C_Is ?kc1_C_Memory ?kc2_C_Memory ?kc1_C_Store ?kc2_C_Store ?sb_C_Memory_C_Copy ?nq_C_Memory_C_Copy ?sb_C_Memory_C_Fence ?nq_C_Memory_C_Fence ?sb_C_Memory_C_Flush ?nq_C_Memory_C_Flush ?sb_C_Memory_C_Is ?nq_C_Memory_C_Is ?sb_C_Memory_C_Store ?nq_C_Memory_C_Store ?sb_C_Store_C_Copy ?nq_C_Store_C_Copy ?sb_C_Store_C_Fence ?nq_C_Store_C_Fence ?sb_C_Store_C_Flush ?nq_C_Store_C_Flush ?sb_C_Store_C_Is ?nq_C_Store_C_Is ?sb_C_Store_C_Memory ?nq_C_Store_C_Memory ?sb_C_Flush_C_Copy ?nq_C_Flush_C_Copy ?sb_C_Flush_C_Fence ?nq_C_Flush_C_Fence ?sb_C_Flush_C_Is ?nq_C_Flush_C_Is ?sb_C_Flush_C_Memory ?nq_C_Flush_C_Memory ?sb_C_Flush_C_Store ?nq_C_Flush_C_Store ?sb_C_Fence_C_Copy ?nq_C_Fence_C_Copy ?sb_C_Fence_C_Flush ?nq_C_Fence_C_Flush ?sb_C_Fence_C_Is ?nq_C_Fence_C_Is ?sb_C_Fence_C_Memory ?nq_C_Fence_C_Memory ?sb_C_Fence_C_Store ?nq_C_Fence_C_Store ?sb_C_Is_C_Copy ?nq_C_Is_C_Copy ?sb_C_Is_C_Fence ?nq_C_Is_C_Fence ?sb_C_Is_C_Flush ?nq_C_Is_C_Flush ?sb_C_Is_C_Memory ?nq_C_Is_C_Memory ?sb_C_Is_C_Store ?nq_C_Is_C_Store ?sb_C_Copy_C_Fence ?nq_C_Copy_C_Fence ?sb_C_Copy_C_Flush ?nq_C_Copy_C_Flush ?sb_C_Copy_C_Is ?nq_C_Copy_C_Is ?sb_C_Copy_C_Memory ?nq_C_Copy_C_Memory ?sb_C_Copy_C_Store ?nq_C_Copy_C_Store ?ne_C_Store ?ne_C_Flush ?ne_C_Copy ?ne_C_Is ?ne_C_Fence ?ne_C_Memory ?a_law_source ?l_law_source ?c_of_law_source ?k_law_source ?a_Store__eq ?i_Store__eq ?l_Store__eq ?c_of_Store__eq ?k_Store__eq ?a_Flush__eq ?i_Flush__eq ?l_Flush__eq ?c_of_Flush__eq ?k_Flush__eq ?a_Copy__eq ?i_Copy__eq ?l_Copy__eq ?c_of_Copy__eq ?k_Copy__eq ?a_Is__eq ?i_Is__eq ?l_Is__eq ?c_of_Is__eq ?k_Is__eq ?a_Fence__eq ?i_Fence__eq ?l_Fence__eq ?c_of_Fence__eq ?k_Fence__eq ?a_Memory__eq ?i_Memory__eq ?l_Memory__eq ?c_of_Memory__eq ?k_Memory__eq ?a_Store__init ?i_Store__init ?l_Store__init ?c_of_Store__init ?k_Store__init ?a_Flush__init ?i_Flush__init ?l_Flush__init ?c_of_Flush__init ?k_Flush__init ?a_Copy__init ?i_Copy__init ?l_Copy__init ?c_of_Copy__init ?k_Copy__init ?a_check_sizes ?l_check_sizes ?c_of_check_sizes ?k_check_sizes ?a_Memory__init ?i_Memory__init ?l_Memory__init ?c_of_Memory__init ?k_Memory__init ?a_law_draw ?l_law_draw ?c_of_law_draw ?k_law_draw ?a_law_sizes ?l_law_sizes ?c_of_law_sizes ?k_law_sizes ?a_law_memory_right ?l_law_memory_right ?c_of_law_memory_right ?k_law_memory_right ?a_law_pick ?l_law_pick ?c_of_law_pick ?k_law_pick ?a_law_number ?l_law_number ?c_of_law_number ?k_law_number ?a_Is__init ?i_Is__init ?l_Is__init ?c_of_Is__init ?k_Is__init ?a_law_right ?l_law_right ?c_of_law_right ?k_law_right ?a_law ?l_law ?c_of_law ?k_law
    (case a_C_BadCount => k_is)
    (case x_C_BadCount => k_is)
    (case bm_C_BadCount' => decide +kernel)
    (case sa_C_BadCount => k_is)
    (case ga_C_BadCount => k_is)
    (case gg_C_BadCount => k_is)
    (case kC_C_BadCount => k_is)
    (case eC_C_BadCount => k_is)
    (case tC_C_BadCount => k_is)
    (case hC_C_BadCount => k_is)
    (case iC_C_BadCount => k_is)
    (case sC_C_BadCount => first | rfl | k_is)
    (case n_C_BadCount_what => k_is)
    (case n_C_BadCount_count => k_is)
    (case a_EBadCount => k_is)
    (case t_EBadCount => k_is)
    (case l_EBadCount => k_is)
    (case c_of_EBadCount => k_is)
    (case k_EBadCount => k_is)
    (case z_abs => k_is)
    (case z_isinstance => k_is)
    (case z_len => k_is)
    (case z_list => k_is)
    (case z_range => k_is)
    (case z_set => k_is)
    (case z_sorted => k_is)
    (case z_tuple => k_is)
    (case g_MOST_LINES => k_is)
    (case g_MOST_WORDS => k_is)
    (case a_C_Memory => k_is)
    (case pg_C_Memory => k_is)
    (case hd_C_Memory => k_is)
    (case po_C_Memory => k_is)
    (case sa_C_Memory => k_is)
    (case mk_C_Memory => k_is)
    (case kc_C_Memory => k_is)
    (case n_C_Memory_sizes => k_is)
    (case a_C_Store => k_is)
    (case pg_C_Store => k_is)
    (case hd_C_Store => k_is)
    (case po_C_Store => k_is)
    (case sa_C_Store => k_is)
    (case mk_C_Store => k_is)
    (case kc_C_Store => k_is)
    (case n_C_Store_line => k_is)
    (case n_C_Store_word => k_is)
    (case n_C_Store_number => k_is)
    (case a_C_Flush => k_is)
    (case pg_C_Flush => k_is)
    (case hd_C_Flush => k_is)
    (case po_C_Flush => k_is)
    (case sa_C_Flush => k_is)
    (case mk_C_Flush => k_is)
    (case kc_C_Flush => k_is)
    (case n_C_Flush_line => k_is)
    (case a_C_Fence => k_is)
    (case pg_C_Fence => k_is)
    (case hd_C_Fence => k_is)
    (case po_C_Fence => k_is)
    (case sa_C_Fence => k_is)
    (case mk_C_Fence => k_is)
    (case kc_C_Fence => k_is)
    (case ie_C_Fence => k_is)
    (case a_C_Is => k_is)
    (case pg_C_Is => k_is)
    (case hd_C_Is => k_is)
    (case po_C_Is => k_is)
    (case sa_C_Is => k_is)
    (case mk_C_Is => k_is)
    (case kc_C_Is => k_is)
    (case n_C_Is_line => k_is)
    (case n_C_Is_word => k_is)
    (case n_C_Is_numbers => k_is)
    (case a_C_Copy => k_is)
    (case pg_C_Copy => k_is)
    (case hd_C_Copy => k_is)
    (case po_C_Copy => k_is)
    (case sa_C_Copy => k_is)
    (case mk_C_Copy => k_is)
    (case kc_C_Copy => k_is)
    (case n_C_Copy_line => k_is)
    (case n_C_Copy_word => k_is)
    (case n_C_Copy_from_line => k_is)
    (case n_C_Copy_from_word => k_is)
    (case bi_n => k_is)
    (case bi_t => k_is)
    (case oh_C_Memory => k_is)
    (case om_C_Memory => k_is)
    (case oh_C_Store => k_is)
    (case om_C_Store => k_is)
    (case oh_C_Flush => k_is)
    (case om_C_Flush => k_is)
    (case oh_C_Fence => k_is)
    (case om_C_Fence => k_is)
    (case oh_C_Is => k_is)
    (case om_C_Is => k_is)
    (case oh_C_Copy => k_is)
    (case om_C_Copy => k_is)
    (case kc1_C_Copy => k_is)
    (case kc2_C_Copy => k_is)
    (case kc1_C_Fence => k_is)
    (case kc2_C_Fence => k_is)
    (case kc1_C_Flush => k_is)
    (case kc2_C_Flush => k_is)
    (case kc1_C_Is => k_is)
    (case kc2_C_Is => k_is)
    (case kc1_C_Memory => k_is)
    (case kc2_C_Memory => k_is)
    (case kc1_C_Store => k_is)
    (case kc2_C_Store => k_is)
    (case sb_C_Memory_C_Copy => first | rfl | k_is)
    (case nq_C_Memory_C_Copy => decide)
    (case sb_C_Memory_C_Fence => first | rfl | k_is)
    (case nq_C_Memory_C_Fence => decide)
    (case sb_C_Memory_C_Flush => first | rfl | k_is)
    (case nq_C_Memory_C_Flush => decide)
    (case sb_C_Memory_C_Is => first | rfl | k_is)
    (case nq_C_Memory_C_Is => decide)
    (case sb_C_Memory_C_Store => first | rfl | k_is)
    (case nq_C_Memory_C_Store => decide)
    (case sb_C_Store_C_Copy => first | rfl | k_is)
    (case nq_C_Store_C_Copy => decide)
    (case sb_C_Store_C_Fence => first | rfl | k_is)
    (case nq_C_Store_C_Fence => decide)
    (case sb_C_Store_C_Flush => first | rfl | k_is)
    (case nq_C_Store_C_Flush => decide)
    (case sb_C_Store_C_Is => first | rfl | k_is)
    (case nq_C_Store_C_Is => decide)
    (case sb_C_Store_C_Memory => first | rfl | k_is)
    (case nq_C_Store_C_Memory => decide)
    (case sb_C_Flush_C_Copy => first | rfl | k_is)
    (case nq_C_Flush_C_Copy => decide)
    (case sb_C_Flush_C_Fence => first | rfl | k_is)
    (case nq_C_Flush_C_Fence => decide)
    (case sb_C_Flush_C_Is => first | rfl | k_is)
    (case nq_C_Flush_C_Is => decide)
    (case sb_C_Flush_C_Memory => first | rfl | k_is)
    (case nq_C_Flush_C_Memory => decide)
    (case sb_C_Flush_C_Store => first | rfl | k_is)
    (case nq_C_Flush_C_Store => decide)
    (case sb_C_Fence_C_Copy => first | rfl | k_is)
    (case nq_C_Fence_C_Copy => decide)
    (case sb_C_Fence_C_Flush => first | rfl | k_is)
    (case nq_C_Fence_C_Flush => decide)
    (case sb_C_Fence_C_Is => first | rfl | k_is)
    (case nq_C_Fence_C_Is => decide)
    (case sb_C_Fence_C_Memory => first | rfl | k_is)
    (case nq_C_Fence_C_Memory => decide)
    (case sb_C_Fence_C_Store => first | rfl | k_is)
    (case nq_C_Fence_C_Store => decide)
    (case sb_C_Is_C_Copy => first | rfl | k_is)
    (case nq_C_Is_C_Copy => decide)
    (case sb_C_Is_C_Fence => first | rfl | k_is)
    (case nq_C_Is_C_Fence => decide)
    (case sb_C_Is_C_Flush => first | rfl | k_is)
    (case nq_C_Is_C_Flush => decide)
    (case sb_C_Is_C_Memory => first | rfl | k_is)
    (case nq_C_Is_C_Memory => decide)
    (case sb_C_Is_C_Store => first | rfl | k_is)
    (case nq_C_Is_C_Store => decide)
    (case sb_C_Copy_C_Fence => first | rfl | k_is)
    (case nq_C_Copy_C_Fence => decide)
    (case sb_C_Copy_C_Flush => first | rfl | k_is)
    (case nq_C_Copy_C_Flush => decide)
    (case sb_C_Copy_C_Is => first | rfl | k_is)
    (case nq_C_Copy_C_Is => decide)
    (case sb_C_Copy_C_Memory => first | rfl | k_is)
    (case nq_C_Copy_C_Memory => decide)
    (case sb_C_Copy_C_Store => first | rfl | k_is)
    (case nq_C_Copy_C_Store => decide)
    (case ne_C_Store => k_is)
    (case ne_C_Flush => k_is)
    (case ne_C_Copy => k_is)
    (case ne_C_Is => k_is)
    (case ne_C_Fence => k_is)
    (case ne_C_Memory => k_is)
    (case a_law_source => k_is)
    (case l_law_source => k_is)
    (case c_of_law_source => k_is)
    (case k_law_source => k_is)
    (case a_Store__eq => k_is)
    (case i_Store__eq => k_is)
    (case l_Store__eq => k_is)
    (case c_of_Store__eq => k_is)
    (case k_Store__eq => k_is)
    (case a_Flush__eq => k_is)
    (case i_Flush__eq => k_is)
    (case l_Flush__eq => k_is)
    (case c_of_Flush__eq => k_is)
    (case k_Flush__eq => k_is)
    (case a_Copy__eq => k_is)
    (case i_Copy__eq => k_is)
    (case l_Copy__eq => k_is)
    (case c_of_Copy__eq => k_is)
    (case k_Copy__eq => k_is)
    (case a_Is__eq => k_is)
    (case i_Is__eq => k_is)
    (case l_Is__eq => k_is)
    (case c_of_Is__eq => k_is)
    (case k_Is__eq => k_is)
    (case a_Fence__eq => k_is)
    (case i_Fence__eq => k_is)
    (case l_Fence__eq => k_is)
    (case c_of_Fence__eq => k_is)
    (case k_Fence__eq => k_is)
    (case a_Memory__eq => k_is)
    (case i_Memory__eq => k_is)
    (case l_Memory__eq => k_is)
    (case c_of_Memory__eq => k_is)
    (case k_Memory__eq => k_is)
    (case a_Store__init => k_is)
    (case i_Store__init => k_is)
    (case l_Store__init => k_is)
    (case c_of_Store__init => k_is)
    (case k_Store__init => k_is)
    (case a_Flush__init => k_is)
    (case i_Flush__init => k_is)
    (case l_Flush__init => k_is)
    (case c_of_Flush__init => k_is)
    (case k_Flush__init => k_is)
    (case a_Copy__init => k_is)
    (case i_Copy__init => k_is)
    (case l_Copy__init => k_is)
    (case c_of_Copy__init => k_is)
    (case k_Copy__init => k_is)
    (case a_check_sizes => k_is)
    (case l_check_sizes => k_is)
    (case c_of_check_sizes => k_is)
    (case k_check_sizes => k_is)
    (case a_Memory__init => k_is)
    (case i_Memory__init => k_is)
    (case l_Memory__init => k_is)
    (case c_of_Memory__init => k_is)
    (case k_Memory__init => k_is)
    (case a_law_draw => k_is)
    (case l_law_draw => k_is)
    (case c_of_law_draw => k_is)
    (case k_law_draw => k_is)
    (case a_law_sizes => k_is)
    (case l_law_sizes => k_is)
    (case c_of_law_sizes => k_is)
    (case k_law_sizes => k_is)
    (case a_law_memory_right => k_is)
    (case l_law_memory_right => k_is)
    (case c_of_law_memory_right => k_is)
    (case k_law_memory_right => k_is)
    (case a_law_pick => k_is)
    (case l_law_pick => k_is)
    (case c_of_law_pick => k_is)
    (case k_law_pick => k_is)
    (case a_law_number => k_is)
    (case l_law_number => k_is)
    (case c_of_law_number => k_is)
    (case k_law_number => k_is)
    (case a_Is__init => k_is)
    (case i_Is__init => k_is)
    (case l_Is__init => k_is)
    (case c_of_Is__init => k_is)
    (case k_Is__init => k_is)
    (case a_law_right => k_is)
    (case l_law_right => k_is)
    (case c_of_law_right => k_is)
    (case k_law_right => k_is)
    (case a_law => k_is)
    (case l_law => k_is)
    (case c_of_law => k_is)
    (case k_law => k_is)
