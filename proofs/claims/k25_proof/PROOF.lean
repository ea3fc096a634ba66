import PyProof.Rows.All
import Wide.All
import OpenK.AllK
import Wide.FinOn
import HandS.ForMost
import HandS.ForExc
import HandS.IsInst
import HandS.Codes
import HandS.Lambda
import HandS.Nested
import HandS.Conv
import HandS.Wide
import HandS.WideMore
import HandS.WideBits
import HandS.Style
import HandS.Flow
import HandS.ExcInit
import HandS.ExcField
import HandS.ExcIs
import HandS.EndTab
import HandS.NoneIn
import HandS.Deep
import HandS.TupAny
import HandS.ExcCtx
import KE.GoesMore
import HandS.Sort
import HandS.Strs
import HandS.ExcInitHot
import KE.KTypeName
import PySem.Challenge.RW_editlots_k25_fields_and_records
import HandS.HeadHook4
import HandS.HeadWalk
import HandS.Head2
import HandS.TupMul
import HandS.TryOnly
import HandS.Zip
import HandS.HotCalls
import HandS.Text
import HandS.TupSets
import HandS.SortInts
import HandS.SetFor
import HandS.More
set_option Elab.async false
set_option linter.all false
set_option maxRecDepth 100000
set_option maxHeartbeats 4000000
/-! Ed, the layer of this project's proofs over HandS: callables by value with room and guards known; closures with the cells they hold; repr of data; draws from the pool. -/
namespace Ed
open PySem PySem.Spec PyProof.Rows L2

/-! ### callables by value -/
/-- room for k calls, and no repr under way -/
structure RoomG (k : Nat) (A : Around) : Prop where
  r : Room k A
  g : A.guards = some []
theorem RoomG.mono {j k : Nat} {A : Around} (x : RoomG k A) (h : j ≤ k) : RoomG j A := ⟨x.r.mono h, x.g⟩
theorem RoomG.u64 {k : Nat} {A : Around} (x : RoomG k A) : A.units + 64 < cLine := by
  have := x.r.un
  omega
theorem RoomG.u65 {k : Nat} {A : Around} (x : RoomG k A) : A.units + 65 < cLine := by
  have := x.r.un
  omega
theorem RoomG.step {k : Nat} {A : Around} (x : RoomG (k + 1) A) (env : Env) : RoomG k (A.deeper env) := ⟨x.r.deeper env, x.g⟩

/-- the object at f, called by positional arguments, does what sp says -/
structure FnV (P : Program) (w : World) (K : PySem.W.Frag) (mg : Str → Option Value) (base : Heap) (k : Nat) (f : Addr) (sp : Sp) : Prop where
  run : ∀ (A : Around) (outer : List Env) (s : Shared) (H : Hp) (us : List Value) (vs : List V) (Q : VK) (E : XK), RoomG k A → Env0 P w K mg base A outer s H → Vals vs us → sp vs H Q E →
    codeAny (model P w) A (.call (.ref f) ⟨us, []⟩) (CR (L2N.CX P w) outer P w H s Q E) s
section
variable {P : Program} {w : World} {K : PySem.W.Frag} {mg : Str → Option Value} {base : Heap} {j k : Nat} {f : Addr} {sp sp' : Sp}
theorem FnV.mono (F : FnV P w K mg base j f sp) (h : j ≤ k) : FnV P w K mg base k f sp := ⟨fun A outer s H us vs Q E hr => F.run A outer s H us vs Q E (hr.mono h)⟩
theorem FnV.imp (F : FnV P w K mg base k f sp) (h : ∀ vs H Q E, sp' vs H Q E → sp vs H Q E) : FnV P w K mg base k f sp' :=
  ⟨fun A outer s H us vs Q E hr he hv hs => F.run A outer s H us vs Q E hr he hv (h _ _ _ _ hs)⟩
end

/-- a def of the text, where it stands behind the top; cd: its code object -/
structure DefAt (K : PySem.W.Frag) (mg : Str → Option Value) (x qual : Str) (st : Stmt) (ps : List Str) (f : Addr) (cd : Value) : Prop where
  ex : ∃ (oc : Value) (od : Option Addr) (kV doc pm : Value) (an : Option Addr) (ct : Value) (osl : Array (Option Value)),
    K.lookup f = some ⟨oc, od, .func (PySem.W.fnOf x qual (defArgs st) (defBody st) (defScope st) .none kV doc pm an cd ct), osl⟩
  code : PySem.W.codeIn K cd qual = true
  kp : PySem.W.keepIn K (.ref f) = true
  bind : ∀ (kV doc pm : Value) (an : Option Addr) (ct : Value) (us : List Value), us.length = ps.length → bindArgs (PySem.W.fnOf x qual (defArgs st) (defBody st) (defScope st) .none kV doc pm an cd ct) ⟨us, []⟩ = pure (ps.zip us)

/-- what is handed back at a body's end -/
def flowV : Flow → Value
  | .ret v => v
  | _ => .none
/-- what a body's end gives a caller -/
theorem cr_of_flow {X : Cx} {P : Program} {w : World} {H : Hp} {Q : VK} {E : XK} {fl : Flow} {s' : Shared} (hp : X.prog = P) (hw : X.w = w) (hH : X.H_0 = H) (hx : X.ex = [])
    (h : SP X [] { nx := fun _ H' => Q .non H', rt := Q } fl s') : CR (L2N.CX P w) X.outer P w H X.s_0 Q E (.ok (.ret (flowV fl))) s' := by
  subst hp hw hH
  have fin : ∀ {σ' : L2.St} {H' : Hp} {v : V} {u : Value}, Inv X [] σ' H' s' → L2.RelV v u → Q v H' → CE X.outer X.prog X.w X.H_0 X.s_0 Q u s' := fun {σ' H' v u} J rv q =>
    ⟨v, H', J.os, J.bare, by have b := J.base; rw [hx] at b; exact b, J.hok, rv, q⟩
  cases fl with
  | ret u =>
    obtain ⟨v, σ', H', J, rv, q⟩ := h
    exact fin J rv q
  | next =>
    obtain ⟨σ', H', J, q⟩ := h
    exact fin (v := V.non) (u := Value.none) J rfl q
  | brk =>
    obtain ⟨_, _, _, q⟩ := h
    exact q.elim
  | cont =>
    obtain ⟨_, _, _, q⟩ := h
    exact q.elim

section
variable {P : Program} {w : World} {K : PySem.W.Frag} {mg : Str → Option Value} {base : Heap} {N ps : List Str} {x qual : Str} {st : Stmt} {f : Addr} {cd : Value} {k : Nat} {sp : Sp}
/-- a def by its body -/
theorem fnv_def (D : DefAt K mg x qual st ps f cd) (S : FnScope N ps (defScope st)) (len : ∀ vs H Q E, sp vs H Q E → vs.length = ps.length)
    (body : ∀ (A : Around) (outer : List Env) (s : Shared) (H : Hp) (vs : List V) (Q : VK) (E : XK), RoomG k (A.deeper (envOfC qual (defScope st) s.heap.objs.size f cd)) → sp vs H Q E →
      ∃ t, PSs (cxOf (L2N.CX P w) P w K mg base N qual (defScope st) f cd A outer s H E) (defBody st) t ∧ t { nx := fun _ H' => Q .non H', rt := Q } (start N vs) H) :
    FnV P w K mg base (k + 1) f sp := by
  constructor
  intro A outer s H us vs Q E hr e0 rv hsp
  have hl : vs.length = ps.length := len _ _ _ _ hsp
  have hul : us.length = ps.length := rv.length.symm.trans hl
  have keepB : ∀ b o, base.get? b = some o → s.heap.get? b = some o := fun b o e => (e0.bs b o e).1
  obtain ⟨oc, od, kV, doc, pm, an, ct, osl, lk⟩ := D.ex
  have KX := e0.mod.kin.keeps keepB
  have kinds : ∀ y ∈ ps.zip us, (defScope st).names.lookup y.1 = some .local ∨ ((defScope st).names.lookup y.1 = some .cell ∧ ((cellsFrom (s.heap.objs.size + 1) (defScope st).names []).lookup y.1).isSome = true) := by
    rintro ⟨n, v⟩ hy
    exact (S.par n (List.of_mem_zip hy).1).imp id fun q => ⟨q, PySem.W.cellsFrom_some _ _ _ (.inl q)⟩
  apply codeAny_call_function hr.r.depth (KX _ _ lk) rfl S.co S.gen rfl (PySem.W.codeRec_of KX D.code)
  rw [D.bind kV doc pm an ct us hul]
  apply wpAny_pure
  apply wpAny_newFunctionEnv_cells S.kind kinds
  intro env he s1 x1
  subst he
  refine ⟨(e0.mod.nolimit.keeps keepB).keeps x1.toInCall.keep, codeAny_func ?_⟩
  obtain ⟨t, ht, hq⟩ := body A outer s H vs Q E (hr.step _) hsp
  have I := inv_start (CX := L2N.CX P w) (E := E) (cd := cd) (f := f) S hr.r.hd e0 hl rv x1
  exact wpAny_mono (ht.run [] s1 _ H _ I hq) (fun fl s' h => by
    have q := cr_of_flow (E := E) (X := cxOf (L2N.CX P w) P w K mg base N qual (defScope st) f cd A outer s H E) rfl rfl rfl rfl h
    cases fl <;> exact q) fun e s' h => h
end

/-! ### calls -/
/-- K or H knows the object at f for a function -/
def IsFn (K : PySem.W.Frag) (H : Hp) (f : Addr) : Prop :=
  (∃ oc od fd sl, K.lookup f = some ⟨oc, od, .func fd, sl⟩) ∨ ∃ oc od fd sl u, H f = some (.frz ⟨oc, od, .func fd, sl⟩ u)
theorem IsFn.there {X : Cx} {pins : List (Addr × Obj)} {σ : L2.St} {H : Hp} {s : Shared} {f : Addr} (i : IsFn X.K H f) (I : Inv X pins σ H s) : PySem.W.FnAt f s.heap := by
  rcases i with ⟨oc, od, fd, sl, e⟩ | ⟨oc, od, fd, sl, u, e⟩
  · exact ⟨oc, od, fd, sl, I.kIn _ _ e⟩
  · exact ⟨oc, od, fd, sl, (I.hok f _ e).1⟩
/-- a def that may be called by its name -/
structure CalV (P : Program) (w : World) (K : PySem.W.Frag) (mg : Str → Option Value) (base : Heap) (k : Nat) (x : Str) (sp : Sp) : Prop where
  ex : ∃ f, FnV P w K mg base k f sp ∧ mg x = some (.ref f) ∧ ∃ oc od fd sl, K.lookup f = some ⟨oc, od, .func fd, sl⟩
section
variable {X : Cx} {j k : Nat} {f : Addr} {sp : Sp} {x : Str} {pins : List (Addr × Obj)} {σ : L2.St} {H : Hp} {s : Shared} {us : List Value} {vs : List V} {Q : VK} {E : XK} {p pos : Pos} {e : Expr} {es : List Expr} {t : TA}
theorem run_v (F : FnV X.prog X.w X.K X.mg X.base k f sp) (hr : RoomG k X.A) (I : Inv X pins σ H s) (hx : ∀ e s', L2N.CX X.prog X.w X.stack H s E e s' → X.xe e s') (r : Vals vs us) (h : sp vs H Q E) :
    wpAny (model X.prog X.w) X.A (call (.ref f) us) (EP X pins σ Q) X.xe s := by
  apply wpAny_call
  refine codeAny_mono (F.run X.A X.stack s H us vs Q E hr I.env0 r h) fun res s' hq => ?_
  match res, hq with
  | .error e, hq => exact hx e s' hq
  | .ok (.ret u), hq => exact I.after hq
  | .ok .next, hq => exact hq.elim
  | .ok .brk, hq => exact hq.elim
  | .ok .cont, hq => exact hq.elim
theorem at0 (σ : L2.St) : PassesAt (L2N.CX X.prog X.w) X σ E0 := fun _ _ _ _ _ _ c => c.choose_spec.choose_spec.choose_spec.choose_spec.choose_spec.2.2.2.2.2.2.2.elim
/-- x(e, ..), x a def of the module -/
theorem pe_v {E : L2.St → XK} (c : CalV X.prog X.w X.K X.mg X.base k x sp) (hr : RoomG j X.A) (hk : k ≤ j) (hg : Gl X x) (hx : ∀ σ, PassesAt (L2N.CX X.prog X.w) X σ (E σ)) (ha : PA X (e :: es) t)
    (hdb : (x == ("__debug__" : Str)) = false := by decide) (hst : starEach (e :: es) X.env = (false, eval e X.env) :: starEach es X.env := by rfl) (hpl : (backTo pos (starEach es X.env)).any (·.1) = false := by rfl) :
    PE X (.Call (.Name x p) (e :: es) [] pos) (tCallS sp E t) := by
  constructor
  intro pins s σ H Q I h
  obtain ⟨f, F, hm, oc, od, fd, sl, lk⟩ := c.ex
  apply wpAny_Call_Name_kw
  refine ld_glob I hg hm ?_ hdb
  refine PySem.W.callWith_F ⟨oc, od, fd, sl, I.kIn _ _ lk⟩ (thn (ha.run pos pins s σ H _ I h) ?_) hst hpl
  rintro us s1 ⟨vs, H1, I1, r, q⟩
  exact ⟨⟨oc, od, fd, sl, I1.kIn _ _ lk⟩, run_v F (hr.mono hk) I1 (fun e s' hc => hx σ pins H1 s1 e s' I1 hc) r q⟩
/-- .. that raises nothing -/
theorem pe_vn (c : CalV X.prog X.w X.K X.mg X.base k x sp) (hr : RoomG j X.A) (hk : k ≤ j) (hg : Gl X x) (ha : PA X (e :: es) t)
    (hdb : (x == ("__debug__" : Str)) = false := by decide) (hst : starEach (e :: es) X.env = (false, eval e X.env) :: starEach es X.env := by rfl) (hpl : (backTo pos (starEach es X.env)).any (·.1) = false := by rfl) :
    PE X (.Call (.Name x p) (e :: es) [] pos) (tCallS sp (fun _ => E0) t) := pe_v c hr hk hg (fun σ => at0 σ) ha hdb hst hpl
/-- a name of the frame that holds a function, called -/
def tCallF (P : Program) (w : World) (K : PySem.W.Frag) (mg : Str → Option Value) (base : Heap) (j i : Nat) (E : L2.St → XK) (t : TA) : TE := fun σ H Q =>
  ∃ f sp, σ[i]? = some (some (.ref f)) ∧ FnV P w K mg base j f sp ∧ IsFn K H f ∧ t σ H fun vs H1 => IsFn K H1 f ∧ sp vs H1 Q (E σ)
theorem pe_vl {i : Nat} {E : L2.St → XK} (hr : RoomG j X.A) (hN : X.N[i]? = some x) (hv : Vis X.env.scope x) (hx : ∀ σ, PassesAt (L2N.CX X.prog X.w) X σ (E σ)) (ha : PA X (e :: es) t)
    (hdb : (x == ("__debug__" : Str)) = false := by decide) (hcd : (x == ("__classdict__" : Str)) = false := by decide)
    (hst : starEach (e :: es) X.env = (false, eval e X.env) :: starEach es X.env := by rfl) (hpl : (backTo pos (starEach es X.env)).any (·.1) = false := by rfl) :
    PE X (.Call (.Name x p) (e :: es) [] pos) (tCallF X.prog X.w X.K X.mg X.base j i E t) := by
  constructor
  intro pins s σ H Q I h
  obtain ⟨f, sp, hs, F, hf, ht⟩ := h
  apply wpAny_Call_Name_kw
  refine thn ((pe_var (pos := p) hN hv hdb hcd).run pins s σ H (fun v H1 => v = .ref f ∧ H1 = H) I ⟨.ref f, hs, rfl, rfl⟩) ?_
  rintro u s1 ⟨v, H1, I1, r1, rfl, rfl⟩
  cases r1
  refine PySem.W.callWith_F (hf.there I1) (thn (ha.run pos pins s1 σ _ _ I1 ht) ?_) hst hpl
  rintro us s2 ⟨vs, H2, I2, r, hf2, q⟩
  exact ⟨hf2.there I2, run_v F hr I2 (fun e s' hc => hx σ pins H2 s2 e s' I2 hc) r q⟩
theorem pe_vl0 {i : Nat} {E : L2.St → XK} (hr : RoomG j X.A) (hN : X.N[i]? = some x) (hv : Vis X.env.scope x) (hx : ∀ σ, PassesAt (L2N.CX X.prog X.w) X σ (E σ))
    (hdb : (x == ("__debug__" : Str)) = false := by decide) (hcd : (x == ("__classdict__" : Str)) = false := by decide) :
    PE X (.Call (.Name x p) [] [] pos) (tCallF X.prog X.w X.K X.mg X.base j i E tNil) := by
  constructor
  intro pins s σ H Q I h
  obtain ⟨f, sp, hs, F, hf, _, q⟩ := h
  apply wpAny_Call_Name_kw
  refine thn ((pe_var (pos := p) hN hv hdb hcd).run pins s σ H (fun v H1 => v = .ref f ∧ H1 = H) I ⟨.ref f, hs, rfl, rfl⟩) ?_
  rintro u s1 ⟨v, H1, I1, r1, rfl, rfl⟩
  cases r1
  exact PySem.W.callWith_F0 (hf.there I1) (run_v (us := []) F hr I1 (fun e s' hc => hx σ pins _ s1 e s' I1 hc) .nil q)
end

/-! ### closures: where a callee runs, the cells that a lambda captured are known objects; within the lambda they are its own -/
open Classical in
/-- the cells forgotten -/
noncomputable def unc (cl : List (Str × Addr)) (H : Hp) : Hp := fun b => if ∃ y, cl.lookup y = some b then none else H b
open Classical in
/-- what stood at the cells, H, put back -/
noncomputable def rec_ (cl : List (Str × Addr)) (H H' : Hp) : Hp := fun b => if ∃ y, cl.lookup y = some b then H b else H' b
open Classical in
/-- the cells known -/
noncomputable def cov (cl : List (Str × Addr)) (h : Heap) (H : Hp) : Hp := fun b => if ∃ y, cl.lookup y = some b then (h.get? b).map (fun o => HO.frz o (.own 0)) else H b
section
variable {cl : List (Str × Addr)} {H H' H2 : Hp} {h h' : Heap} {b : Addr} {P : Program} {w : World}
theorem unc_in (e : ∃ y, cl.lookup y = some b) : unc cl H b = none := if_pos e
theorem unc_out (e : ¬ ∃ y, cl.lookup y = some b) : unc cl H b = H b := if_neg e
theorem rec_in (e : ∃ y, cl.lookup y = some b) : rec_ cl H H' b = H b := if_pos e
theorem rec_out (e : ¬ ∃ y, cl.lookup y = some b) : rec_ cl H H' b = H' b := if_neg e
theorem cov_in (e : ∃ y, cl.lookup y = some b) : cov cl h H b = (h.get? b).map (fun o => HO.frz o (.own 0)) := if_pos e
theorem cov_out (e : ¬ ∃ y, cl.lookup y = some b) : cov cl h H b = H b := if_neg e
theorem unc_some {u : HO} (e : unc cl H b = some u) : H b = some u ∧ ¬ ∃ y, cl.lookup y = some b := by
  by_cases q : ∃ y, cl.lookup y = some b
  · rw [unc_in q] at e
    cases e
  · rw [unc_out q] at e
    exact ⟨e, q⟩
/-- a heap map with the cells dropped is still held, where the cells held nothing but known objects -/
theorem hok_unc (x : HOk P w H h) (fz : ∀ y c u, cl.lookup y = some c → H c = some u → ∃ o, u = .frz o (.own 0)) : HOk P w (unc cl H) h := by
  intro b u e
  obtain ⟨e1, nb⟩ := unc_some e
  refine (x b u e1).stay (fun _ _ _ q => q) (fun c q => ?_) fun c xs q => ?_
  · refine (unc_out ?_).trans q
    rintro ⟨y, hy⟩
    obtain ⟨o, z⟩ := fz y c _ hy q
    cases z
  · refine (unc_out ?_).trans q
    rintro ⟨y, hy⟩
    obtain ⟨o, z⟩ := fz y c _ hy q
    cases z
theorem hok_cov (x : HOk P w H h) (fr : ∀ y c, cl.lookup y = some c → H c = none) : HOk P w (cov cl h H) h := by
  intro b u e
  have keepO : ∀ c v, H c = some v → cov cl h H c = some v := fun c v q => by
    refine (cov_out ?_).trans q
    rintro ⟨y, hy⟩
    rw [fr y c hy] at q
    cases q
  by_cases q : ∃ y, cl.lookup y = some b
  · rw [cov_in q] at e
    cases ho : h.get? b with
    | none =>
      rw [ho] at e
      cases e
    | some o =>
      rw [ho] at e
      cases e
      exact ⟨ho, o, ho⟩
  · rw [cov_out q] at e
    exact (x b u e).stay (fun _ _ _ q => q) (fun c q => keepO c _ q) fun c xs q => keepO c _ q
end

/-- the captured cells: known objects that hold these values (none: something) -/
structure CellsT (cl : List (Str × Addr)) (fr : List Str) (ws : List (Option V)) (H : Hp) : Prop where
  len : ws.length = fr.length
  all : ∀ y c, cl.lookup y = some c → ∃ (o : Obj) (v : Option Value), H c = some (.frz o (.own 0)) ∧ o.data = .cell v
  inj : ∀ x y c, cl.lookup x = some c → cl.lookup y = some c → x = y
  has : ∀ (i : Nat) (y : Str), fr[i]? = some y → ∃ c, cl.lookup y = some c ∧ ∀ v, ws[i]? = some (some v) → ∃ (o : Obj) (u : Value), H c = some (.frz o (.own 0)) ∧ o.data = .cell (some u) ∧ L2.RelV v u
section
variable {P : Program} {w : World} {K : PySem.W.Frag} {mg : Str → Option Value} {base : Heap} {cl : List (Str × Addr)} {fr ps N : List Str} {ws : List (Option V)} {H H' : Hp} {A : Around} {outer : List Env} {s : Shared} {k : Nat}
theorem CellsT.frz (C : CellsT cl fr ws H) : ∀ y c u, cl.lookup y = some c → H c = some u → ∃ o, u = .frz o (.own 0) := fun y c u e q => by
  obtain ⟨o, v, z, _⟩ := C.all y c e
  rw [z] at q
  cases q
  exact ⟨o, rfl⟩
theorem CellsT.known (C : CellsT cl fr ws H) {b : Addr} (e : ∃ y, cl.lookup y = some b) : ∃ o, H b = some (.frz o (.own 0)) := by
  obtain ⟨y, hy⟩ := e
  obtain ⟨o, v, z, _⟩ := C.all y b hy
  exact ⟨o, z⟩
theorem CellsT.free (C : CellsT cl fr ws H) {b : Addr} (e : H b = none) : ¬ ∃ y, cl.lookup y = some b := fun q => by
  obtain ⟨o, z⟩ := C.known q
  rw [e] at z
  cases z
theorem CellsT.cells (C : CellsT cl fr ws H) (x : HOk P w H s.heap) : NdefX.CellsAt cl fr ws s.heap (unc cl H) := by
  refine ⟨C.len, fun y c e => ⟨unc_in ⟨y, e⟩, ?_⟩, C.inj, fun i y e => ?_⟩
  · obtain ⟨o, v, z, d⟩ := C.all y c e
    exact ⟨v, o, (x c _ z).1, d⟩
  · obtain ⟨c, hc, hv⟩ := C.has i y e
    refine ⟨c, hc, fun v ev => ?_⟩
    obtain ⟨o, u, z, d, r⟩ := hv v ev
    exact ⟨u, r, o, (x c _ z).1, d⟩
theorem CellsT.env0 (C : CellsT cl fr ws H) (e0 : Env0 P w K mg base A outer s H) : Env0 P w K mg base A outer s (unc cl H) where
  frames := e0.frames
  mod := e0.mod
  bs := fun b o e => ⟨(e0.bs b o e).1, (unc_out (C.free (e0.bs b o e).2)).trans (e0.bs b o e).2⟩
  bsz := e0.bsz
  funs := e0.funs
  frf := fun b hb => (unc_out (C.free (e0.frf b hb))).trans (e0.frf b hb)
  hok := hok_unc e0.hok C.frz
  bare := e0.bare
/-- what was done with the cells as the callee's own, told with the cells known -/
theorem CellsT.un (C : CellsT cl fr ws H) (frf : ∀ b ∈ frs outer, H b = none) {h h' : Heap} (u : Un (frs outer) [] (unc cl H) H' h h') : Un (frs outer) [] H (rec_ cl H H') h h' where
  keep := fun b o e n hb hx => u.keep b o e ((unc_out (C.free n)).trans n) hb hx
  slot := fun b o e n hb hx => u.slot b o e ((unc_out (C.free n)).trans n) hb hx
  free := fun b o e n hx => (rec_out (C.free n)).trans (u.free b o e ((unc_out (C.free n)).trans n) hx)
  there := u.there
  tups := fun b xs e => by
    have nb : ¬ ∃ y, cl.lookup y = some b := fun q => by
      obtain ⟨o, z⟩ := C.known q
      rw [e] at z
      cases z
    exact (rec_out nb).trans (u.tups b xs ((unc_out nb).trans e))
  frzs := fun b o v e => by
    by_cases q : ∃ y, cl.lookup y = some b
    · exact (rec_in q).trans e
    · exact (rec_out q).trans (u.frzs b o v ((unc_out q).trans e))
  tbls := fun b qs e => by
    have nb : ¬ ∃ y, cl.lookup y = some b := fun q => by
      obtain ⟨o, z⟩ := C.known q
      rw [e] at z
      cases z
    obtain ⟨more, z⟩ := u.tbls b qs ((unc_out nb).trans e)
    exact ⟨more, (rec_out nb).trans z⟩
theorem CellsT.hok (C : CellsT cl fr ws H) {h h' : Heap} (kp : ∀ b o, h.get? b = some o → (∃ y, cl.lookup y = some b) → h'.get? b = some o) (fr' : ∀ b o, h.get? b = some o → (∃ y, cl.lookup y = some b) → H' b = none) (x : HOk P w H h) (x' : HOk P w H' h') : HOk P w (rec_ cl H H') h' := by
  intro b u e
  by_cases q : ∃ y, cl.lookup y = some b
  · rw [rec_in q] at e
    obtain ⟨o, z⟩ := C.known q
    rw [z] at e
    cases e
    have ho := (x b _ z).1
    exact ⟨kp b o ho q, o, kp b o ho q⟩
  · rw [rec_out q] at e
    have nc : ∀ c v, H' c = some v → ¬ ∃ y, cl.lookup y = some c := fun c v hc hq => by
      obtain ⟨o, z⟩ := C.known hq
      rw [fr' c o (x c _ z).1 hq] at hc
      cases hc
    exact (x' b u e).stay (fun _ _ _ q => q) (fun c z => (rec_out (nc c _ z)).trans z) fun c xs z => (rec_out (nc c _ z)).trans z
/-- nothing is known of the cells -/
def NoCell (cl : List (Str × Addr)) (H : Hp) : Prop := ∀ y c, cl.lookup y = some c → H c = none
/-- the reading of a lambda's promise -/
def spLam (g : Addr) (ob : Obj) (c' : Addr) (q : Str) (cl : List (Str × Addr)) (fr : List Str) (sp : List (Option V) → Sp) : Sp := fun vs H Q E =>
  H g = some (.frz ob (.own 0)) ∧ H c' = some (LamX.CodeO c' q) ∧ ∃ ws, CellsT cl fr ws H ∧ sp ws vs H Q E
theorem fnv_lam {q : Str} {params : Arguments} {body : Expr} {scope : Scope} {pm ctv : Value} {c' g : Addr} {sp : List (Option V) → Sp}
    (S : NdefX.NScope N ps fr scope) (hb : ∀ us : List Value, us.length = ps.length → bindArgs (PySem.W.kla_fn "<lambda>" q params body scope cl pm (.ref c') ctv) ⟨us, []⟩ = pure (ps.zip us))
    (len : ∀ ws vs H Q E, sp ws vs H Q E → vs.length = ps.length) (nc : ∀ y, cl.lookup y = some c' → False)
    (hbody : ∀ (A : Around) (outer : List Env) (s : Shared) (H : Hp) (vs : List V) (ws : List (Option V)) (Q : VK) (E : XK), RoomG k (A.deeper (NdefX.envF ⟨"<lambda>", q, params, [], scope, cl, c'⟩ g s.heap.objs.size)) → CellsT cl fr ws H → sp ws vs H Q E →
      ∃ te, PE (NdefX.ncx (L2N.CX P w) P w K mg base N ⟨"<lambda>", q, params, [], scope, cl, c'⟩ g A outer s (unc cl H) (fun cls d H' => NoCell cl H' → E cls d (rec_ cl H H'))) body te ∧ te (NdefX.startF N vs ws) (unc cl H) (fun v H' => NoCell cl H' → Q v (rec_ cl H H'))) :
    FnV P w K mg base (k + 1) g (spLam g (PySem.W.kla_obj "<lambda>" q params body scope cl pm c' ctv) c' q cl fr sp) := by
  constructor
  intro A outer s H us vs Q E hr e0 rv hsp
  obtain ⟨hg, hc, ws, C, hw⟩ := hsp
  have hl := len _ _ _ _ _ hw
  have e1 := C.env0 e0
  have lim : s.heap.NoLimit := e0.mod.nolimit.keeps fun b o e => (e0.bs b o e).1
  have hcu : unc cl H c' = some (LamX.CodeO c' q) := (unc_out (fun ⟨y, hy⟩ => nc y hy)).trans hc
  apply PySem.W.kla_callFunE hr.r.depth (e0.hok g _ hg).1 rfl S.co S.gen rfl (NdefX.codeO_at e0.hok hc)
  rw [hb us (rv.length.symm.trans hl)]
  apply wpAny_pure
  refine wpAny_newFunctionEnv S.nocell (fun z hz => S.par z.1 (List.of_mem_zip (a := z.1) (b := z.2) hz).1) (fun h₁ hns hsb => ?_) S.kind
  refine ⟨lim.fresh _ hsb, ?_⟩
  show codeAny _ _ (.expr body (NdefX.envF ⟨"<lambda>", q, params, [], scope, cl, c'⟩ g s.heap.objs.size)) _ _
  apply PySem.W.kla_codeExpr
  have kp : ∀ b o, s.heap.get? b = some o → h₁.get? b = some o := fun b o e => hsb.extBut b o (Nat.ne_of_lt (Heap.lt_size e)) (Heap.get?_push_of_some _ e)
  obtain ⟨te, ht, hq⟩ := hbody A outer s H vs ws Q E (hr.step _) C hw
  have I := NdefX.inv_startN (CX := L2N.CX P w) (E := fun cls d H' => NoCell cl H' → E cls d (rec_ cl H H')) (F := ⟨"<lambda>", q, params, [], scope, cl, c'⟩) (f := g) (tk := s.toks + (ps.zip us).length) S hr.r.hd e1 hl rv (C.cells e0.hok) hns kp
  have ncf : ∀ b, (∃ y, cl.lookup y = some b) → b ∉ frs outer := fun b hq hb => C.free (e0.frf b hb) hq
  have conv : ∀ (B : Heap) (H' : Hp), (∀ b o, s.heap.get? b = some o → unc cl H b = none → b ∉ frs outer → B.get? b = some o) → (∀ b o, s.heap.get? b = some o → unc cl H b = none → H' b = none) → HOk P w H' B → HOk P w (rec_ cl H H') B := fun B H' k1 k2 x' =>
    C.hok (fun b o e hq => k1 b o e (unc_in hq) (ncf b hq)) (fun b o e hq => k2 b o e (unc_in hq)) e0.hok x'
  -- an exception that leaves it, told with the cells known
  have out : ∀ e s', L2N.CX P w outer (unc cl H) s (fun cls d H' => NoCell cl H' → E cls d (rec_ cl H H')) e s' → L2N.CX P w outer H s E e s' := by
    rintro e s' ⟨a, B, H', cls, d, rfl, fl, hok, ub, na, os, ag, hE⟩
    have ncell : ¬ ∃ y, cl.lookup y = some a := fun hq => by
      obtain ⟨o, z⟩ := C.known hq
      have y1 := ub.keep a o (e0.hok a _ z).1 (unc_in hq) (ncf a hq)
      rw [fl.2.1] at y1
      cases y1
    refine ⟨a, B, rec_ cl H H', cls, d, rfl, fl, conv B H' ub.keep ub.free hok, ⟨fun b o e n hb => ub.keep b o e ((unc_out (C.free n)).trans n) hb, ub.slot, fun b o e n => (rec_out (C.free n)).trans (ub.free b o e ((unc_out (C.free n)).trans n)), ub.there, fun b xs e => ?_, fun b o v e => ?_, fun b qs e => ?_⟩, (rec_out ncell).trans na, os, ag, hE fun y c e => ub.free c _ ((e0.hok c _ (C.known ⟨y, e⟩).choose_spec).1) (unc_in ⟨y, e⟩)⟩
    · have nb : ¬ ∃ y, cl.lookup y = some b := fun q => by
        obtain ⟨o, z⟩ := C.known q
        rw [e] at z
        cases z
      exact (rec_out nb).trans (ub.tups b xs ((unc_out nb).trans e))
    · by_cases hq : ∃ y, cl.lookup y = some b
      · exact (rec_in hq).trans e
      · exact (rec_out hq).trans (ub.frzs b o v ((unc_out hq).trans e))
    · have nb : ¬ ∃ y, cl.lookup y = some b := fun q => by
        obtain ⟨o, z⟩ := C.known q
        rw [e] at z
        cases z
      obtain ⟨more, z⟩ := ub.tbls b qs ((unc_out nb).trans e)
      exact ⟨more, (rec_out nb).trans z⟩
  refine wpAny_mono (ht.run [] _ _ _ _ I hq) (fun v s' hv => ?_) fun e s' he => ?_
  · obtain ⟨z, H', J, rz, qz⟩ := hv
    exact ⟨z, rec_ cl H H', J.os, J.bare, C.un e0.frf J.base, conv s'.heap H' (fun b o e n hb => J.base.keep b o e n hb (by simp [NdefX.ncx])) (fun b o e n => J.base.free b o e n (by simp [NdefX.ncx])) J.hok, rz, qz fun y c e => J.base.free c _ ((e0.hok c _ (C.known ⟨y, e⟩).choose_spec).1) (unc_in ⟨y, e⟩) (by simp [NdefX.ncx])⟩
  · exact wpAny_mono he (fun _ s'' z => out _ s'' z) fun _ s'' z => out _ s'' z
end
end Ed

set_option Elab.async false
set_option linter.all false
set_option maxRecDepth 100000
set_option maxHeartbeats 4000000
/-! Ed: lambdas made, and calls that hand one on. -/
namespace Ed
open PySem PySem.Spec PyProof.Rows L2

/-! ### a lambda is made -/
section
variable {X : Cx} {pins : List (Addr × Obj)} {σ : L2.St} {H : Hp} {s : Shared}
/-- one more object, known as it is -/
theorem track_push {o : Obj} {t' : Nat} (I : Inv X pins σ H s) (hf : o.isFreed = false := by rfl) : Inv X pins σ (upd H s.heap.objs.size (.frz o (.own 0))) { s with heap := s.heap.push o, toks := t' } := by
  have e : (s.heap.push o).get? s.heap.objs.size = some o := Heap.get?_push_size _ hf
  exact I.laid (fun b u z => Heap.get?_push_of_some _ z) (Nat.le_refl _) ⟨e, o, e⟩
theorem lam_made {T : List (Addr × Str)} {c P : Addr} {params : Arguments} {body : Expr} {scope : Scope} {pos : Pos} {E : Value → Shared → Prop} {Q : Value → Shared → Prop} (I : Inv X pins σ H s) (TB : LamX.TabB X.base X.mg c P) (hcode : X.env.code = .ref c)
    (hm : (P, X.env.qual ++ "<lambda>") ∈ T) (hu : ∀ p ∈ T, p.1 = P → p.2 = X.env.qual ++ "<lambda>") (hT : LamX.Tabs T H) (hdef : defaultsOf params X.env = ([], [])) (hfree : ∀ y ∈ scope.names, y.2 = .free → ∃ c, X.env.cells.lookup y.1 = some c)
    (h : ∀ (g c' : Addr) (pm ctv : Value) (H1 : Hp) (s' : Shared), Inv X pins σ H1 s' → LamX.ExtN H H1 → LamX.Tabs T H1 → H g = none →
      H1 g = some (.frz (PySem.W.kla_obj "<lambda>" (X.env.qual ++ "<lambda>") params body scope (cloFrom X.env.cells scope.names []) pm c' ctv) (.own 0)) → H1 c' = some (LamX.CodeO c' (X.env.qual ++ "<lambda>")) → Q (.ref g) s') :
    wpAny (model X.prog X.w) X.A (eval (.Lambda params body scope pos) X.env) Q E s := by
  obtain ⟨ps, hP, ht, ha⟩ := hT _ hm
  apply PySem.W.kla_eval hdef
  have bmP := TB.bm.keeps I.bk
  have rawP : s.heap.get? P = some { cls := .none, data := .fields ps } := I.hok P _ hP
  have ext2 : ∀ {H2 : Hp} {p : Addr} {o : Obj}, LamX.ExtN H H2 → H2 p = none → LamX.ExtN H (upd H2 p (.frz o (.own 0))) := fun {H2 p o} e n b u q nt => (upd_ne (ne_of_none (e b u q nt) n)).trans (e b u q nt)
  have tab2 : ∀ {H2 : Hp} {p : Addr} {o : Obj}, LamX.Tabs T H2 → H2 p = none → LamX.Tabs T (upd H2 p (.frz o (.own 0))) := fun {H2 p o} e n => e.ext fun b u q => (upd_ne (ne_of_none q n)).trans q
  cases hc : codeAmong pos ps.toList with
  | some cv =>
    obtain ⟨c', rfl, hco⟩ := ha pos cv hc
    apply PySem.W.kla_makeFunctionHit (mg := X.mg) (closure_ok hfree) I.ok.glob (I.mod.glob.keeps I.bk) hcode (TB.code.keeps I.bk) rawP ht hc bmP
    intro ctv h' tk hx hsz
    have I1 : Inv X pins σ H { s with heap := h', toks := tk } := I.kept hx
    have nF : H h'.objs.size = none := I1.hok.fresh (Nat.le_refl _)
    exact h h'.objs.size c' _ ctv _ _ (track_push I1) (ext2 (LamX.ExtN.refl H) nF) (tab2 hT nF) nF upd_same ((upd_ne (ne_of_none hco nF)).trans hco)
  | none =>
    apply PySem.W.kla_makeFunction (mg := X.mg) (closure_ok hfree) I.ok.glob (I.mod.glob.keeps I.bk) hcode (TB.code.keeps I.bk) rawP ht hc TB.gP bmP
    intro c' ctv h' tk hx hge hlt hrec htb
    obtain ⟨c2, oc, vs, t, e2, hoc, hd, hv⟩ := hrec
    obtain rfl : c' = c2 := Value.ref.inj e2
    have nC : H c' = none := I.hok.fresh hge
    have I1 := LamX.inv_table (t' := tk) (more := #[rawInt pos.line, rawInt pos.col, .ref c']) I hP (fun b o hb e => hx b o hb e) htb hge ⟨oc, vs, t, hoc, hd, hv⟩
    have nF := I1.hok.fresh (Nat.le_refl h'.objs.size)
    have hE : LamX.ExtN H (upd (upd H P (.tbl (ps ++ #[rawInt pos.line, rawInt pos.col, .ref c']))) c' (LamX.CodeO c' (X.env.qual ++ "<lambda>"))) := by
      intro b o e nt
      have nP : b ≠ P := fun z => by
        subst z
        rw [hP] at e
        exact nt ps (Option.some.inj e).symm
      exact (upd_ne (ne_of_none e nC)).trans ((upd_ne nP).trans e)
    have hT1 : LamX.Tabs T (upd (upd H P (.tbl (ps ++ #[rawInt pos.line, rawInt pos.col, .ref c']))) c' (LamX.CodeO c' (X.env.qual ++ "<lambda>"))) := by
      intro p hp
      by_cases hb : p.1 = P
      · rw [hu p hp hb, hb]
        refine ⟨ps ++ #[rawInt pos.line, rawInt pos.col, .ref c'], (upd_ne (ne_of_none hP nC)).trans upd_same, ?_, fun p' cv hcv => ?_⟩
        · rw [Array.toList_append]
          exact PySem.TriplesOk_snoc _ _ _ _ ht
        · rw [Array.toList_append] at hcv
          rcases LamX.among_app _ ht hcv with z | z
          · obtain ⟨c0, z1, z2⟩ := ha p' cv z
            exact ⟨c0, z1, hE _ _ z2 LamX.codeO_ne⟩
          · exact ⟨c', z, upd_same⟩
      · obtain ⟨qs, a1, a2, a3⟩ := hT p hp
        refine ⟨qs, (upd_ne (ne_of_none a1 nC)).trans ((upd_ne hb).trans a1), a2, fun p' cv hcv => ?_⟩
        obtain ⟨c0, z1, z2⟩ := a3 p' cv hcv
        exact ⟨c0, z1, hE _ _ z2 LamX.codeO_ne⟩
    have nF0 : H h'.objs.size = none := I.hok.fresh (Nat.le_trans hge (Nat.le_of_lt hlt))
    exact h h'.objs.size c' _ ctv _ _ (track_push I1) (ext2 hE nF) (tab2 hT1 nF) nF0 upd_same ((upd_ne (Nat.ne_of_lt hlt)).trans upd_same)
end
/-- lambda ..: .., its cells those of the frame -/
def tLamb (X : Cx) (T : List (Addr × Str)) (params : Arguments) (body : Expr) (scope : Scope) : TE := fun σ H Q => LamX.Tabs T H ∧ ∀ (g c' : Addr) (pm ctv : Value) (H1 : Hp), LamX.ExtN H H1 → LamX.Tabs T H1 → H g = none →
  H1 g = some (.frz (PySem.W.kla_obj "<lambda>" (X.env.qual ++ "<lambda>") params body scope (cloFrom X.env.cells scope.names []) pm c' ctv) (.own 0)) → H1 c' = some (LamX.CodeO c' (X.env.qual ++ "<lambda>")) →
  (∀ y, (cloFrom X.env.cells scope.names []).lookup y = some c' → False) → Q (.ref g) H1
section
variable {X : Cx}
theorem pe_lam {T : List (Addr × Str)} {c P : Addr} {params : Arguments} {body : Expr} {scope : Scope} {pos : Pos} (TB : LamX.TabB X.base X.mg c P) (hcode : X.env.code = .ref c)
    (hm : (P, X.env.qual ++ "<lambda>") ∈ T) (hu : ∀ p ∈ T, p.1 = P → p.2 = X.env.qual ++ "<lambda>") (hdef : defaultsOf params X.env = ([], []))
    (hfree : ∀ y ∈ scope.names, y.2 = .free → X.env.scope.names.lookup y.1 = some .cell ∨ X.env.scope.names.lookup y.1 = some .free) : PE X (.Lambda params body scope pos) (tLamb X T params body scope) := by
  constructor
  intro pins s σ H Q I h
  have hf : ∀ y ∈ scope.names, y.2 = .free → ∃ c, X.env.cells.lookup y.1 = some c := fun y hy e => I.ok.has _ (hfree y hy e)
  refine lam_made I TB hcode hm hu h.1 hdef hf fun g c' pm ctv H1 s' I1 e1 t1 n1 g1 k1 => ⟨.ref g, H1, I1, rfl, h.2 g c' pm ctv H1 e1 t1 n1 g1 k1 fun y hy => ?_⟩
  have z := I1.freeC y c' (NdefX.clo_cm hf hy)
  rw [k1] at z
  cases z
end

/-! ### a call with the frame's cells known -/
structure CovOf (env : Env) (N : List Str) (σ : L2.St) (H Hc : Hp) : Prop where
  out : ∀ b, (¬ ∃ y, env.cells.lookup y = some b) → Hc b = H b
  free : ∀ y c, env.cells.lookup y = some c → H c = none
  known : ∀ y c, env.cells.lookup y = some c → ∃ (o : Obj) (v : Option Value), Hc c = some (.frz o (.own 0)) ∧ o.data = .cell v
  inj : ∀ x y c, env.cells.lookup x = some c → env.cells.lookup y = some c → x = y
  slot : ∀ (i : Nat) (y : Str), N[i]? = some y → (env.scope.names.lookup y = some .cell ∨ env.scope.names.lookup y = some .free) → ∃ c, env.cells.lookup y = some c ∧
    ∀ v, σ[i]? = some (some v) → ∃ (o : Obj) (u : Value), Hc c = some (.frz o (.own 0)) ∧ o.data = .cell (some u) ∧ L2.RelV v u
theorem CovOf.same {env : Env} {N : List Str} {σ : L2.St} {H Hc : Hp} (C : CovOf env N σ H Hc) {b : Addr} {u : HO} (e : H b = some u) : Hc b = some u := by
  refine (C.out b ?_).trans e
  rintro ⟨y, hy⟩
  rw [C.free y b hy] at e
  cases e
/-- what was there, when the callee is back -/
theorem CovOf.back {env : Env} {N : List Str} {σ : L2.St} {H Hc H2 : Hp} (C : CovOf env N σ H Hc) {b : Addr} {u : HO} (e : H b = some u) (e2 : H2 b = some u) : unc env.cells H2 b = some u := by
  refine (unc_out ?_).trans e2
  rintro ⟨y, hy⟩
  rw [C.free y b hy] at e
  cases e
section
variable {X : Cx} {pins : List (Addr × Obj)} {σ : L2.St} {H H2 : Hp} {s s' : Shared}
theorem covOf (I : Inv X pins σ H s) : CovOf X.env X.N σ H (cov X.env.cells s.heap H) := by
  have at_ : ∀ y c v, X.env.cells.lookup y = some c → s.heap.IsCell c v → ∃ o : Obj, cov X.env.cells s.heap H c = some (.frz o (.own 0)) ∧ o.data = .cell v := fun y c v e ⟨o, ho, hd⟩ =>
    ⟨o, by rw [cov_in ⟨y, e⟩, ho]; rfl, hd⟩
  refine ⟨fun b nb => cov_out nb, I.freeC, fun y c e => ?_, I.ok.inj, fun i y e k => ?_⟩
  · obtain ⟨v, z⟩ := I.cell y c e
    obtain ⟨o, z1, z2⟩ := at_ y c v e z
    exact ⟨o, v, z1, z2⟩
  · obtain ⟨c, hc⟩ := I.ok.has y k
    refine ⟨c, hc, fun v ev => ?_⟩
    obtain ⟨m, _, hl⟩ := I.loc
    obtain ⟨u, r, l⟩ := hl i y v e ev (.inr k)
    rcases l with ⟨z, _⟩ | ⟨_, c2, e2, z⟩
    · have z' : X.env.scope.names.lookup y = some .local := z
      rcases k with k | k <;> rw [k] at z' <;> cases z'
    · rw [hc] at e2
      cases e2
      obtain ⟨o, z1, z2⟩ := at_ y c _ hc z
      exact ⟨o, u, z1, z2, r⟩
theorem cov_env0 (I : Inv X pins σ H s) (hfn : ∀ x, X.fn x = true) : Env0 X.prog X.w X.K X.mg X.base X.A X.stack s (cov X.env.cells s.heap H) ∧ ∀ y c, X.env.cells.lookup y = some c → c ∉ frs X.stack := by
  have hi : ∀ y c, X.env.cells.lookup y = some c → X.s_0.heap.objs.size ≤ c := fun y c e => I.ok.cab y c (hfn y) e
  have nfr : ∀ y c, X.env.cells.lookup y = some c → c ∉ frs X.stack := fun y c e hb => by
    rcases List.mem_cons.mp (I.stkSub c hb) with z | z
    · exact I.cne y c e z
    · obtain ⟨_, o, ho, _⟩ := I.ok.funs.mem z
      exact absurd (Heap.lt_size ho) (Nat.not_lt.mpr (hi y c e))
  have e0 := I.env0
  refine ⟨⟨e0.frames, e0.mod, fun b o e => ⟨(e0.bs b o e).1, (cov_out fun ⟨y, hy⟩ => ?_).trans (e0.bs b o e).2⟩, e0.bsz, e0.funs, fun b hb => (cov_out fun ⟨y, hy⟩ => nfr y b hy hb).trans (e0.frf b hb), hok_cov I.hok I.freeC, e0.bare⟩, nfr⟩
  have h1 := Heap.lt_size e
  have h2 := hi y b hy
  exact absurd (Nat.lt_of_lt_of_le h1 (Nat.le_trans I.ok.bsz h2)) (Nat.lt_irrefl _)
/-- behind the call: the cells are the frame's own again -/
theorem cov_after (I : Inv X pins σ H s) (hfn : ∀ x, X.fn x = true) (u : Un (frs X.stack) [] (cov X.env.cells s.heap H) H2 s.heap s'.heap) (hok : HOk X.prog X.w H2 s'.heap) (os : s'.os = s.os) (ag : AllBare s'.gens) : Inv X pins σ (unc X.env.cells H2) s' := by
  obtain ⟨_, nfr⟩ := cov_env0 I hfn
  have cellAt : ∀ b, (∃ y, X.env.cells.lookup y = some b) → ∃ o, s.heap.get? b = some o ∧ H2 b = some (.frz o (.own 0)) := fun b hb => by
    obtain ⟨y, hy⟩ := hb
    obtain ⟨v, o, ho, hd⟩ := I.cell y b hy
    exact ⟨o, ho, u.frzs b o _ (by rw [cov_in ⟨y, hy⟩, ho]; rfl)⟩
  have nC : ∀ {b v}, H b = some v → ¬ ∃ y, X.env.cells.lookup y = some b := fun {b v} e ⟨y, hy⟩ => by
    rw [I.freeC y b hy] at e
    cases e
  refine I.call' (ch := []) os ⟨fun b o e n hb hx => ?_, fun b o e n hb hx => ?_, fun b o e n hx => ?_, u.there, fun b xs e => ?_, fun b o v e => ?_, fun b qs e => ?_⟩ (hok_unc hok fun y c v e q => ?_) ag (fun _ z => nomatch z)
  · by_cases hc : ∃ y, X.env.cells.lookup y = some b
    · obtain ⟨o2, ho, z⟩ := cellAt b hc
      rw [e] at ho
      cases ho
      exact (hok b _ z).1
    · exact u.keep b o e ((cov_out hc).trans n) hb hx
  · exact u.slot b o e ((cov_out fun ⟨y, hy⟩ => nfr y b hy hb).trans n) hb hx
  · by_cases hc : ∃ y, X.env.cells.lookup y = some b
    · exact unc_in hc
    · exact (unc_out hc).trans (u.free b o e ((cov_out hc).trans n) hx)
  · exact (unc_out (nC e)).trans (u.tups b xs ((cov_out (nC e)).trans e))
  · exact (unc_out (nC e)).trans (u.frzs b o v ((cov_out (nC e)).trans e))
  · obtain ⟨more, z⟩ := u.tbls b qs ((cov_out (nC e)).trans e)
    exact ⟨more, (unc_out (nC e)).trans z⟩
  · obtain ⟨o, _, z⟩ := cellAt c ⟨y, e⟩
    rw [z] at q
    cases q
    exact ⟨o, rfl⟩
end
/-- x(e, ..), a lambda of this frame among the arguments: raises nothing -/
def tCallC (X : Cx) (sp : Sp) (t : TA) : TE := fun σ H Q => t σ H fun vs H1 => ∀ Hc, CovOf X.env X.N σ H1 Hc → sp vs Hc (fun v H2 => Q v (unc X.env.cells H2)) E0
section
variable {X : Cx} {j k : Nat} {sp : Sp} {x : Str} {p pos : Pos} {e : Expr} {es : List Expr} {t : TA}
theorem pe_vc (c : CalV X.prog X.w X.K X.mg X.base k x sp) (hr : RoomG j X.A) (hk : k ≤ j) (hg : Gl X x) (hfn : ∀ x, X.fn x = true) (ha : PA X (e :: es) t)
    (hdb : (x == ("__debug__" : Str)) = false := by decide) (hst : starEach (e :: es) X.env = (false, eval e X.env) :: starEach es X.env := by rfl) (hpl : (backTo pos (starEach es X.env)).any (·.1) = false := by rfl) :
    PE X (.Call (.Name x p) (e :: es) [] pos) (tCallC X sp t) := by
  constructor
  intro pins s σ H Q I h
  obtain ⟨f, F, hm, oc, od, fd, sl, lk⟩ := c.ex
  apply wpAny_Call_Name_kw
  refine ld_glob I hg hm ?_ hdb
  refine PySem.W.callWith_F ⟨oc, od, fd, sl, I.kIn _ _ lk⟩ (thn (ha.run pos pins s σ H _ I h) ?_) hst hpl
  rintro us s1 ⟨vs, H1, I1, r, q⟩
  refine ⟨⟨oc, od, fd, sl, I1.kIn _ _ lk⟩, ?_⟩
  apply wpAny_call
  refine codeAny_mono (F.run X.A X.stack s1 _ us vs _ E0 (hr.mono hk) (cov_env0 I1 hfn).1 r (q _ (covOf I1))) fun res s' hq => ?_
  match res, hq with
  | .error e, ⟨_, _, _, _, _, _, _, _, _, _, _, _, z⟩ => exact z.elim
  | .ok (.ret u), ⟨v, H2, os, bare, un, hok, rv, qv⟩ => exact ⟨v, _, cov_after I1 hfn un hok os bare, rv, qv⟩
  | .ok .next, hq => exact hq.elim
  | .ok .brk, hq => exact hq.elim
  | .ok .cont, hq => exact hq.elim
end
/-- the captured cells of a lambda, as the callee knows them -/
theorem CovOf.cells {env : Env} {N : List Str} {σ : L2.St} {H Hc : Hp} (C : CovOf env N σ H Hc) {scope : Scope} {fr : List Str} {js : List Nat} (hf : ∀ y ∈ scope.names, y.2 = .free → env.scope.names.lookup y.1 = some .cell ∨ env.scope.names.lookup y.1 = some .free)
    (hc : ∀ y ∈ scope.names, y.2 = .free → ∃ c, env.cells.lookup y.1 = some c) (hfr : ∀ y ∈ fr, (y, NameKind.free) ∈ scope.names) (hjs : js.map (fun j => N[j]?) = fr.map some) : CellsT (cloFrom env.cells scope.names []) fr (js.map (NdefX.slotAt σ)) Hc := by
  have len : js.length = fr.length := by
    have z := congrArg List.length hjs
    rwa [List.length_map, List.length_map] at z
  refine ⟨by rw [List.length_map]; exact len, fun y c e => C.known y c (NdefX.clo_cm hc e), fun a b c e1 e2 => C.inj a b c (NdefX.clo_cm hc e1) (NdefX.clo_cm hc e2), fun i y e => ?_⟩
  have hy := hfr y (List.mem_of_getElem? e)
  have hj : ∃ j, js[i]? = some j ∧ N[j]? = some y := by
    have z : (js.map fun j => N[j]?)[i]? = some (some y) := by
      rw [hjs, List.getElem?_map, e]
      rfl
    rw [List.getElem?_map] at z
    cases ej : js[i]? with
    | none =>
      rw [ej] at z
      cases z
    | some j =>
      rw [ej] at z
      exact ⟨j, rfl, Option.some.inj z⟩
  obtain ⟨j, j1, j2⟩ := hj
  obtain ⟨c, c1, c2⟩ := C.slot j y j2 (hf (y, .free) hy rfl)
  refine ⟨c, NdefX.clo_has hc hy c1, fun v ev => c2 v ?_⟩
  rw [List.getElem?_map, j1] at ev
  exact NdefX.slotAt_some (Option.some.inj ev)
end Ed

set_option Elab.async false
set_option linter.all false
set_option maxRecDepth 100000
set_option maxHeartbeats 4000000
/-! Ed: data in tuples, what a call leaves as it was, repr, the source of draws. -/
namespace Ed
open PySem PySem.Spec PyProof.Rows L2

/-! ### data told by tuples, ints, texts, bools and None -/
/-- the object at a is a tuple of xs, known as it is, without a dict of its own -/
def Tp (H : Hp) (a : Addr) (xs : List V) : Prop := ∃ o : Obj, H a = some (.frz o (.tup xs)) ∧ o.dict = none
theorem Tp.sq {K : PySem.W.Frag} {H : Hp} {a : Addr} {xs : List V} (t : Tp H a xs) : SqT K H a xs := .inl (.inr ⟨t.choose, t.choose_spec.1⟩)
theorem Tp.ne_none {H : Hp} {a p : Addr} {xs : List V} (t : Tp H a xs) (n : H p = none) : a ≠ p := ne_of_none t.choose_spec.1 n
theorem Tp.made {H : Hp} {p : Addr} {o : Obj} {xs : List V} (d : o.dict = none) : Tp (upd H p (.frz o (.tup xs))) p xs := ⟨o, upd_same, d⟩
mutual
inductive Td (H : Hp) : V → PyData → Prop
  | non : Td H .non .none
  | bl (b : Bool) : Td H (.bl b) (.bool b)
  | int (i : Int) : Td H (.int i) (.int i)
  | str (x : Str) : Td H (.str x) (.str x)
  | tup {a : Addr} {xs : List V} {ds : List PyData} : Tp H a xs → TdAll H xs ds → Td H (.ref a) (.tuple ds)
inductive TdAll (H : Hp) : List V → List PyData → Prop
  | nil : TdAll H [] []
  | cons {v : V} {vs : List V} {d : PyData} {ds : List PyData} : Td H v d → TdAll H vs ds → TdAll H (v :: vs) (d :: ds)
end
/-- tuples stay -/
def TX (H H' : Hp) : Prop := ∀ b xs, Tp H b xs → Tp H' b xs
theorem TX.refl (H : Hp) : TX H H := fun _ _ e => e
theorem TX.trans {H H1 H2 : Hp} (a : TX H H1) (b : TX H1 H2) : TX H H2 := fun c xs e => b c xs (a c xs e)
theorem TX.new {H : Hp} {p : Addr} {o : HO} (n : H p = none) : TX H (upd H p o) := fun b xs ⟨t, e, d⟩ => ⟨t, (upd_ne (ne_of_none e n)).trans e, d⟩
theorem TX.lst {H : Hp} {p : Addr} {ys : List V} {o : HO} (n : H p = some (.lst ys)) : TX H (upd H p o) := fun b xs ⟨t, e, d⟩ => ⟨t, (upd_ne fun z => by
  rw [z, n] at e
  cases e).trans e, d⟩
theorem TX.of {H H' : Hp} (k : ∀ b o, H b = some o → H' b = some o) : TX H H' := fun b xs ⟨t, e, d⟩ => ⟨t, k _ _ e, d⟩
mutual
theorem Td.mono {H H' : Hp} (e : TX H H') : ∀ {d : PyData} {v : V}, Td H v d → Td H' v d
  | .none, _, .non => .non
  | .bool b, _, .bl _ => .bl b
  | .int i, _, .int _ => .int i
  | .str x, _, .str _ => .str x
  | .tuple ds, _, .tup h q => .tup (e _ _ h) (TdAll.mono e q)
theorem TdAll.mono {H H' : Hp} (e : TX H H') : ∀ {ds : List PyData} {vs : List V}, TdAll H vs ds → TdAll H' vs ds
  | [], _, .nil => .nil
  | _ :: _, _, .cons a b => .cons (Td.mono e a) (TdAll.mono e b)
end
mutual
theorem Td.dp {K : PySem.W.Frag} {H : Hp} : ∀ {d : PyData} {v : V}, Td H v d → Dp K H v d
  | .none, _, .non => .non
  | .bool b, _, .bl _ => .bl b
  | .int i, _, .int _ => .int i
  | .str x, _, .str _ => .str x
  | .tuple ds, _, .tup h q => .tup h.sq (TdAll.dp q)
theorem TdAll.dp {K : PySem.W.Frag} {H : Hp} : ∀ {ds : List PyData} {vs : List V}, TdAll H vs ds → DpAll K H vs ds
  | [], _, .nil => .nil
  | _ :: _, _, .cons a b => .cons (Td.dp a) (TdAll.dp b)
end
theorem TdAll.len {H : Hp} : ∀ {ds : List PyData} {vs : List V}, TdAll H vs ds → vs.length = ds.length
  | [], _, .nil => rfl
  | _ :: _, _, .cons _ b => congrArg Nat.succ (TdAll.len b)
theorem TdAll.get {H : Hp} : ∀ {ds : List PyData} {vs : List V} {i : Nat} {v : V}, TdAll H vs ds → vs[i]? = some v → ∃ d, ds[i]? = some d ∧ Td H v d
  | [], _, i, v, .nil, e => by simp at e
  | d :: _, _, 0, v, .cons a _, e => ⟨d, rfl, by
      have z : _ = v := Option.some.inj e
      subst z
      exact a⟩
  | _ :: _, _, i + 1, v, .cons _ b, e => TdAll.get (i := i) b (by simpa using e)
theorem TdAll.at_ {H : Hp} : ∀ {ds : List PyData} {vs : List V} {i : Nat} {d : PyData}, TdAll H vs ds → ds[i]? = some d → ∃ v, vs[i]? = some v ∧ Td H v d
  | [], _, i, d, .nil, e => by simp at e
  | _ :: _, v :: _, 0, d, .cons a _, e => ⟨v, rfl, by
      have z : _ = d := Option.some.inj e
      subst z
      exact a⟩
  | _ :: _, _, i + 1, d, .cons _ b, e => TdAll.at_ (i := i) b (by simpa using e)
theorem TdAll.snoc {H : Hp} : ∀ {ds : List PyData} {vs : List V} {d : PyData} {v : V}, TdAll H vs ds → Td H v d → TdAll H (vs ++ [v]) (ds ++ [d])
  | [], _, d, v, .nil, a => .cons a .nil
  | _ :: _, _, d, v, .cons q r, a => .cons q (TdAll.snoc r a)
theorem Td.tuple_inv {H : Hp} {v : V} {ds : List PyData} (h : Td H v (.tuple ds)) : ∃ a xs, v = .ref a ∧ Tp H a xs ∧ TdAll H xs ds := by
  cases h with
  | tup e q => exact ⟨_, _, rfl, e, q⟩

/-! ### what stays -/
/-- all stays but the lists at S; tables of code objects grow rightly -/
structure Ex (T : List (Addr × Str)) (S : List Addr) (H H' : Hp) : Prop where
  keep : ∀ b o, b ∉ S → H b = some o → (∀ ps, o ≠ .tbl ps) → H' b = some o
  tups : TX H H'
  tabs : LamX.Tabs T H → LamX.Tabs T H'
section
variable {T : List (Addr × Str)} {S S' : List Addr} {H H1 H2 : Hp} {p : Addr} {o : HO}
theorem Ex.refl (H : Hp) : Ex T S H H := ⟨fun _ _ _ e _ => e, TX.refl H, fun t => t⟩
theorem Ex.trans (a : Ex T S H H1) (b : Ex T S H1 H2) : Ex T S H H2 := ⟨fun c o n e t => b.keep c o n (a.keep c o n e t) t, a.tups.trans b.tups, fun t => b.tabs (a.tabs t)⟩
theorem Ex.weak (a : Ex T S H H1) (h : ∀ b ∈ S, b ∈ S') : Ex T S' H H1 := ⟨fun c o n e t => a.keep c o (fun z => n (h c z)) e t, a.tups, a.tabs⟩
theorem Ex.of_same (e : ∀ b o, H b = some o → H1 b = some o) : Ex T S H H1 := ⟨fun b o _ q _ => e b o q, TX.of e, fun t => t.ext e⟩
theorem Ex.upd_new (n : H p = none) : Ex T S H (upd H p o) := Ex.of_same fun b u e => (upd_ne (ne_of_none e n)).trans e
/-- something new beside, later -/
theorem Ex.new (a : Ex T S H H1) (n : H1 p = none) : Ex T S H (upd H1 p o) := a.trans (Ex.upd_new n)
theorem Ex.none_of (a : Ex T S H H1) (n : H1 p = none) (hp : p ∉ S) : H p = none ∨ ∃ ps, H p = some (.tbl ps) := by
  cases e : H p with
  | none => exact .inl rfl
  | some u =>
    by_cases q : ∃ ps, u = .tbl ps
    · obtain ⟨ps, rfl⟩ := q
      exact .inr ⟨ps, rfl⟩
    · rw [a.keep p u hp e fun ps z => q ⟨ps, z⟩] at n
      cases n
/-- nothing that counts stood there -/
def Fresh (H : Hp) (p : Addr) : Prop := ∀ u, H p = some u → ∃ ps, u = .tbl ps
theorem Fresh.of {H : Hp} {p : Addr} (n : H p = none) : Fresh H p := fun u e => by
  rw [n] at e
  cases e
theorem Ex.fresh (a : Ex T S H H1) (n : H1 p = none) (hp : p ∉ S) : Fresh H p := fun u e => by
  rcases a.none_of n hp with z | ⟨ps, z⟩
  · rw [z] at e
    cases e
  · rw [z] at e
    cases e
    exact ⟨ps, rfl⟩
/-- a list written: one of S, or one that was not there at first -/
theorem Ex.put {ys : List V} {zs : List V} (a : Ex T S H H1) (h1 : H1 p = some (.lst ys)) (h0 : p ∈ S ∨ Fresh H p) : Ex T S H (upd H1 p (.lst zs)) := by
  have tx : TX H (upd H1 p (.lst zs)) := a.tups.trans (TX.lst h1)
  refine ⟨fun b u n e t => (upd_ne fun z => ?_).trans (a.keep b u n e t), tx, fun t q hq => ?_⟩
  · rcases h0 with h0 | h0
    · exact n (z ▸ h0)
    · rw [z] at e
      obtain ⟨ps, z2⟩ := h0 u e
      exact t ps z2
  · obtain ⟨ps, a1, a2, a3⟩ := a.tabs t q hq
    have ne : ∀ c u, H1 c = some u → u ≠ .lst ys → upd H1 p (.lst zs) c = some u := fun c u e d => (upd_ne fun z => by
      rw [z, h1] at e
      exact d (Option.some.inj e).symm).trans e
    refine ⟨ps, ne _ _ a1 (by simp), a2, fun p' cv hc => ?_⟩
    obtain ⟨c, c1, c2⟩ := a3 p' cv hc
    exact ⟨c, c1, ne _ _ c2 (by unfold LamX.CodeO; simp)⟩
theorem Ex.seq {K : PySem.W.Frag} {a : Addr} {xs : List V} (e : Ex T S H H1) (n : a ∉ S) (h : SqL K H a xs) : SqL K H1 a xs := by
  rcases h with (h | ⟨o, h⟩) | h
  · exact .inl (.inl (e.keep _ _ n h (by simp)))
  · exact .inl (.inr ⟨o, e.keep _ _ n h (by simp)⟩)
  · exact .inr h
theorem Ex.at_lst {a : Addr} {xs : List V} (e : Ex T S H H1) (n : a ∉ S) (h : H a = some (.lst xs)) : H1 a = some (.lst xs) := e.keep _ _ n h (by simp)
theorem Ex.at_frz {a : Addr} {o : Obj} {u : HO} (e : Ex T S H H1) (n : a ∉ S) (h : H a = some (.frz o u)) : H1 a = some (.frz o u) := e.keep _ _ n h (by simp)
end
/-- within a lambda: the cells are dropped and put back -/
theorem Ex.cells {T : List (Addr × Str)} {S : List Addr} {cl : List (Str × Addr)} {fr : List Str} {ws : List (Option V)} {H H' : Hp} (C : CellsT cl fr ws H) (e : Ex T S (unc cl H) H') (n0 : NoCell cl H') : Ex T S H (rec_ cl H H') := by
  have nb : ∀ b u, H b = some u → (∀ o, u ≠ .frz o (.own 0)) → ¬ ∃ y, cl.lookup y = some b := fun b u e d q => by
    obtain ⟨o, z⟩ := C.known q
    rw [z] at e
    exact d o (Option.some.inj e).symm
  refine ⟨fun b u n q t => ?_, fun b xs ⟨o, q, d⟩ => ?_, fun t => ?_⟩
  · by_cases z : ∃ y, cl.lookup y = some b
    · exact (rec_in z).trans q
    · exact (rec_out z).trans (e.keep b u n ((unc_out z).trans q) t)
  · have z := nb b _ q (by simp)
    obtain ⟨o2, q2, d2⟩ := e.tups b xs ⟨o, (unc_out z).trans q, d⟩
    exact ⟨o2, (rec_out z).trans q2, d2⟩
  · have t1 : LamX.Tabs T (unc cl H) := fun p hp => by
      obtain ⟨ps, a1, a2, a3⟩ := t p hp
      refine ⟨ps, (unc_out (nb _ _ a1 (by simp))).trans a1, a2, fun p' cv hc => ?_⟩
      obtain ⟨c, c1, c2⟩ := a3 p' cv hc
      exact ⟨c, c1, (unc_out (nb _ _ c2 (by unfold LamX.CodeO; simp))).trans c2⟩
    intro p hp
    obtain ⟨ps, a1, a2, a3⟩ := e.tabs t1 p hp
    obtain ⟨ps0, b1, _, _⟩ := t p hp
    have np : ¬ ∃ y, cl.lookup y = some p.1 := nb _ _ b1 (by simp)
    refine ⟨ps, (rec_out np).trans a1, a2, fun p' cv hc => ?_⟩
    obtain ⟨c, c1, c2⟩ := a3 p' cv hc
    refine ⟨c, c1, ?_⟩
    by_cases z : ∃ y, cl.lookup y = some c
    · obtain ⟨y, hy⟩ := z
      rw [n0 y c hy] at c2
      cases c2
    · exact (rec_out z).trans c2
theorem Ex.uncov {T : List (Addr × Str)} {S : List Addr} {env : Env} {N : List Str} {σ : L2.St} {H Hc H2 : Hp} (C : CovOf env N σ H Hc) (hS : ∀ y c, env.cells.lookup y = some c → c ∉ S) (e : Ex T S Hc H2) : Ex T S H (unc env.cells H2) := by
  have nb : ∀ b u, H b = some u → ¬ ∃ y, env.cells.lookup y = some b := fun b u e ⟨y, hy⟩ => by
    rw [C.free y b hy] at e
    cases e
  refine ⟨fun b u n q t => (unc_out (nb b u q)).trans (e.keep b u n (C.same q) t), fun b xs ⟨o, q, d⟩ => ?_, fun t p hp => ?_⟩
  · obtain ⟨o2, q2, d2⟩ := e.tups b xs ⟨o, C.same q, d⟩
    exact ⟨o2, (unc_out (nb b _ q)).trans q2, d2⟩
  have t1 : LamX.Tabs T Hc := t.ext fun b o q => C.same q
  obtain ⟨ps, a1, a2, a3⟩ := e.tabs t1 p hp
  obtain ⟨ps0, b1, _, _⟩ := t p hp
  refine ⟨ps, (unc_out (nb _ _ b1)).trans a1, a2, fun p' cv hc => ?_⟩
  obtain ⟨c, c1, c2⟩ := a3 p' cv hc
  refine ⟨c, c1, (unc_out ?_).trans c2⟩
  rintro ⟨y, hy⟩
  obtain ⟨o, v, z, _⟩ := C.known y c hy
  have z2 := e.at_frz (hS y c hy) z
  rw [c2] at z2
  unfold LamX.CodeO at z2
  cases z2

/-! ### repr -/
def rRepr (K : PySem.W.Frag) : List V → Hp → VK → Prop := fun xs H Q => ∃ x d, xs = [x] ∧ Dp K H x d ∧ d.showable = true ∧ d.hasDict = false ∧ d.depth ≤ 60 ∧ d.shown.length ≤ sizeLine ∧ Q (.str d.shown) H
theorem call_repr {X : Cx} (hg : X.A.guards = some []) (hu : X.A.units + 65 < cLine) : CallR X (.builtin "repr") (rRepr X.K) := by
  intro pins s σ H xs us Q I r h
  obtain ⟨x, d, rfl, hd, hs, hnd, hdp, hz, q⟩ := h
  obtain ⟨u, rfl, rx⟩ := vals1 r
  have fin : ∀ (h' : Heap) (t : Tok) (tk : Nat), (∀ b o, s.heap.get? b = some o → h'.get? b = some o) → EP X pins σ Q (.str d.shown t) { s with heap := h', toks := tk } := fun h' t tk hk =>
    ⟨.str d.shown, H, I.kept hk, ⟨t, rfl⟩, q⟩
  match x, d, hd with
  | .non, _, .non =>
    cases rx
    exact PySem.P.repr_of_none (fin s.heap _ _ fun _ _ e => e)
  | .bl b, _, .bl _ =>
    cases rx
    exact PySem.P.repr_of_bool (by cases b <;> exact fin s.heap _ _ fun _ _ e => e)
  | .int i, _, .int _ =>
    obtain ⟨t, rfl⟩ := rx
    exact PySem.P.repr_of_int (by simpa [PyData.showable] using hs) (fin s.heap _ _ fun _ _ e => e)
  | .str y, _, .str _ =>
    obtain ⟨t, rfl⟩ := rx
    exact PySem.P.repr_of_str (fin s.heap _ _ fun _ _ e => e) (by simpa only [PyData.shown] using hz)
  | .ref a, d, hd =>
    cases rx
    obtain ⟨as, hr⟩ := Dp.reads I d (.ref a) (.ref a) hd rfl
    exact repr_of_reads' hr hs (PyData.noDict_hsm hnd) hg (by omega) (fun _ _ e => e) (fun h' t tk hk => fin h' t tk hk) hz
end Ed

set_option Elab.async false
set_option linter.all false
set_option maxRecDepth 100000
set_option maxHeartbeats 4000000
/-! Ed: enumerate of a tuple, a range as a value, the place of data in a tuple. -/
namespace Ed
open PySem PySem.Spec PyProof.Rows L2
open AutoSeq1 (wpAny_loadPart')

/-! ### a range as a value -/
theorem cr_range1 {X : Cx} : CallR X (.type "range") (fun vs H Q => ∃ n, vs = [V.int n] ∧ ∀ p, H p = none → Q (.ref p) (upd H p (.rng 0 n))) := by
  intro pins s σ H vs us Q I r h
  obtain ⟨n, rfl, q⟩ := h
  obtain ⟨u, rfl, t, rfl⟩ := vals1 r
  apply call_range_1
  have e := Heap.get?_push_size s.heap (o := { cls := .type "range", data := .fields #[.int 0 s.toks, .int n t, .int 1 (s.toks + 1)] }) rfl
  exact ⟨.ref s.heap.objs.size, _, I.laid (o := .rng 0 n) (fun b o z => Heap.get?_push_of_some _ z) (Nat.le_refl _) ⟨_, _, _, e⟩, rfl, q _ (I.hok.fresh (Nat.le_refl _))⟩
def iRngV (tl : TE) : TI := fun σ H R => tl σ H fun x H1 => ∃ a lo hi, x = .ref a ∧ H1 a = some (.rng lo hi) ∧ (-(2 ^ 62) ≤ lo ∧ lo < 2 ^ 62 ∧ -(2 ^ 62) ≤ hi ∧ hi < 2 ^ 62) ∧ R (Itr lo (hi - lo).toNat) H1
theorem pi_rngV {X : Cx} {tg l : Expr} {tl : TE} (hl : PE X l tl) : PI X tg l (iRngV tl) := by
  constructor
  intro pins s σ H R I h
  refine thn (hl.run pins s σ H _ I h) ?_
  rintro v s1 ⟨x, H1, I1, r1, a, lo, hi, rfl, ha, ⟨b1, b2, b3, b4⟩, q⟩
  cases r1
  obtain ⟨t, u, z, ho⟩ := I1.hok a _ ha
  have hrg : IsRange s1.heap a lo hi 1 t u z := ho
  apply wpAny_pyIter_range hrg (small_one b1 b2 b3 b4)
  refine ⟨_, [s1.heap.objs.size], _, _, H1, rfl, I1.kept (t' := s1.toks) fun b o e => Heap.get?_push_of_some _ e, turn_range _ lo (hi - lo).toNat, ?_, fun b hb => ?_, q⟩
  · have e2 : (((hi - lo).toNat : Nat) : Int) - ((0 : Nat) : Int) = Builtin.Range.rangeSize lo hi 1 := by
      rw [rangeSize_one]
      split <;> omega
    show IsRangeIter _ _ (lo + ((0 : Nat) : Int) * 1) ((((hi - lo).toNat : Nat) : Int) - ((0 : Nat) : Int)) 1
    rw [e2, show lo + ((0 : Nat) : Int) * 1 = lo by simp]
    exact Heap.get?_push_size _ rfl
  · rw [List.mem_singleton.mp hb]
    exact I1.fpOk (Nat.le_refl _) (I1.hok.fresh (Nat.le_refl _))

/-! ### enumerate(t), t a tuple -/
theorem enum_tuple_made (l : Addr) (items : Array Value) (n : Nat) (dct : Option Addr) (sl : Array (Option Value)) :
    Meets (Builtin.«enumerate.__new__» ⟨[.type "enumerate", .ref l], []⟩) (fun _ R s => s.heap.get? l = some { cls := .type "tuple", dict := dct, data := .seq items n, slots := sl } ∧
      R (.ok (.ret (.ref (s.heap.push { cls := .type "tuple_iterator", data := .fields #[.ref l, .int 0 0] }).objs.size)))
        { s with heap := (s.heap.push { cls := .type "tuple_iterator", data := .fields #[.ref l, .int 0 0] }).push { cls := .type "enumerate", data := .fields #[.none, .bool false, .ref s.heap.objs.size, rawInt 0, .none, .none] } }) := by
  refine .of_wp fun prog w A R s h => ?_
  obtain ⟨hp, g, d, tk, os⟩ := s
  obtain ⟨hl, h⟩ := h
  have isE := sub_enumerate
  have hT : Heap.IsTuple (Shared.heap ⟨hp, g, d, tk, os⟩) l items := ⟨_, hl, rfl, n, rfl⟩
  wp_walk using wpAny_loadPart' hl
  refine wpAny_stack_any fun st => wpAny_pure ?_
  split
  · rename_i c _ _ _ _ _
    cases (c == Value.type "enumerate") <;> (wp_walk using wpAny_loadPart' hl, wpAny_pyIter_tuple hT; exact ⟨_, rfl, h⟩)
  · wp_walk using wpAny_loadPart' hl, wpAny_pyIter_tuple hT
    exact ⟨_, rfl, h⟩
theorem call_enum_tuple {prog : Program} {w : World} {A : Around} {E : Value → Shared → Prop} {s : Shared} {l : Addr} {items : Array Value} {Q : Value → Shared → Prop} (hL : s.heap.IsTuple l items)
    (h : ∀ h', IsEnum h' (s.heap.objs.size + 1) s.heap.objs.size 0 .none → h'.IsTupleIter s.heap.objs.size l 0 → (∀ b o, s.heap.get? b = some o → h'.get? b = some o) → Q (.ref (s.heap.objs.size + 1)) { s with heap := h' }) :
    wpAny (model prog w) A (call (.type "enumerate") [.ref l]) Q E s := by
  obtain ⟨⟨c, dct, dt, sl⟩, hl, hc, n, hd⟩ := hL
  cases (show c = .type "tuple" from hc)
  cases (show dt = .seq items n from hd)
  apply callType_new F.called_enumerate (by decide) (F.typeCall_enumerate_1 _) (F.newCall_enumerate_1 _) (fun obj => F.args_object_init_2 obj _) F.entry_enumerate_new (enum_tuple_made l items n dct sl)
  refine ⟨hl, ?_⟩
  have hz : (s.heap.push { cls := .type "tuple_iterator", data := .fields #[.ref l, .int 0 0] }).objs.size = s.heap.objs.size + 1 := Heap.size_push ..
  show _ ∧ _
  rw [hz]
  have made := Heap.get?_push_size (s.heap.push { cls := .type "tuple_iterator", data := .fields #[.ref l, .int 0 0] }) (o := { cls := .type "enumerate", data := .fields #[.none, .bool false, .ref s.heap.objs.size, rawInt 0, .none, .none] }) rfl
  rw [hz] at made
  exact ⟨⟨_, made, rfl⟩, h _ made ⟨_, Heap.get?_push_of_some _ (Heap.get?_push_size _ rfl), rfl, rfl⟩ fun b o x => Heap.get?_push_of_some _ (Heap.get?_push_of_some _ x)⟩
/-- the tuple at a, each item in a new pair behind its number -/
def IteT (K : PySem.W.Frag) (a : Addr) : It :=
  ⟨fun i H => ∃ (xs : List V) (x : V), SqT K H a xs ∧ xs[i]? = some x, fun i H v H' => ∃ p x, v = .ref p ∧ H p = none ∧ H' = upd H p (.tup [.int (i : Nat), x]) ∧ ∀ xs, SqT K H a xs → xs[i]? = some x, fun i H => ∃ xs : List V, SqT K H a xs ∧ xs.length = i⟩
theorem turn_enumT {P : Program} {w : World} {K : PySem.W.Frag} {elts : List Expr} {kk : Nat} {tpos : Pos} (a e it : Addr) (items : Array Value) (hat : a ≠ it) (hae : e ≠ a) :
    Turn P w K (.Tuple elts kk tpos) (IteT K a) [e, it] e (fun i h => (∃ old, IsEnum h e it ((i : Nat) : Int) old) ∧ h.IsTupleIter it a i ∧ e ≠ it) where
  mem := List.mem_cons_self
  obj := by
    rintro i h ⟨⟨old, he⟩, ⟨o, ho, _, hd⟩, _⟩ b hb
    rcases List.mem_cons.mp hb with rfl | hb
    · exact ⟨_, he, fun v q => nomatch q⟩
    · rw [List.mem_singleton.mp hb]
      refine ⟨o, ho, fun v q => ?_⟩
      rw [hd] at q
      cases q
  keep := by
    rintro i h h' ⟨⟨old, he⟩, hi, hne⟩ k
    exact ⟨⟨old, k e List.mem_cons_self _ he⟩, hi.at fun o q => k it (List.mem_cons_of_mem _ List.mem_cons_self) o q, hne⟩
  item := by
    intro X hP hw hK hc i pins s σ H E I hf st hg
    subst hP hw hK
    obtain ⟨⟨old, he⟩, hit, hne⟩ := st
    obtain ⟨xs, x, hq, hx⟩ := hg
    obtain ⟨its, rv, p, hz⟩ := I.tuple hq
    obtain ⟨u, hu, ru⟩ := rv.get hx
    have hT0 : s.heap.IsTuple a its.toArray := p
    have hel : e < s.heap.objs.size := Heap.lt_size he
    have hil : it < s.heap.objs.size := by
      obtain ⟨_, q, _⟩ := hit
      exact Heap.lt_size q
    have hh : X.A.in1.handled = none := I.ok.hd hc
    have D := Draws.tuple (prog := X.prog) (w := X.w) hh it a hat its.toArray
    have hlt : i < its.toArray.size := by
      have := (List.getElem?_eq_some_iff.mp hu).1
      simpa using this
    have hef : e ∉ [it, a] := by
      simp only [List.mem_cons, List.not_mem_nil, or_false, not_or]
      exact ⟨hne, hae⟩
    refine wpAny_pyNext_enum_itemD D he ⟨hit, hT0⟩ hlt hne hef fun y h' tk hy ho st' hT hsz hk => ?_
    have ey : y = u := by
      have z : its.toArray[i]? = some u := by simpa using hu
      rw [z] at hy
      exact (Option.some.inj hy).symm
    subst ey
    refine ⟨_, rfl, ?_⟩
    refine wpAny_letOwnedTupleGo_enum (s := { s with heap := h', toks := tk + 1 }) ho fun h2 he2 sb => ?_
    have hT2 := (sb.2 _ (Nat.ne_of_gt hel)).trans hT
    have nw : ObjOk X.prog X.w (upd H s.heap.objs.size (.tup [.int (i : Nat), x])) h2 s.heap.objs.size (.tup [.int (i : Nat), x]) := by
      refine ⟨(by show 2 ≤ sizeLine; decide), _, .cons ⟨_, rfl⟩ (.cons ru .nil), ⟨_, hT2, rfl, _, rfl⟩⟩
    have kp : ∀ b ob, b ∉ [e, it] → s.heap.get? b = some ob → h2.get? b = some ob := by
      intro b ob hb q
      have n1 : b ≠ e := fun z => hb (by simp [z])
      have n2 : b ≠ it := fun z => hb (by simp [z])
      exact (sb.2 b n1).trans (hk b ob n1 n2 q)
    have I1 : Inv X pins σ (upd H s.heap.objs.size (.tup [.int (i : Nat), x])) { s with heap := h2, toks := tk + 1 } := I.turnedNew kp hf (Nat.le_refl _) nw
    refine ⟨.ref s.heap.objs.size, _, I1, rfl, ⟨_, x, rfl, I.hok.fresh (Nat.le_refl _), rfl, fun ys hy => ?_⟩, ⟨⟨y, ?_⟩, st'.1.at fun o q => (sb.2 it (Ne.symm hne)).trans q, hne⟩, fun b hb => ?_⟩
    · rw [I.tuple_inj hy hq]
      exact hx
    · rw [show ((i + 1 : Nat) : Int) = (i : Int) + 1 by omega]
      exact he2
    · have hb' : b < s.heap.objs.size := by
        rcases List.mem_cons.mp hb with z | z
        · rw [z]
          exact hel
        · rw [List.mem_singleton.mp z]
          exact hil
      exact (upd_ne (Nat.ne_of_lt hb')).trans (hf b hb).1
  done := by
    intro X hP hw hK hc i pins s σ H E I hf st hg
    subst hP hw hK
    obtain ⟨⟨old, he⟩, hit, hne⟩ := st
    obtain ⟨xs, hq, hx⟩ := hg
    obtain ⟨its, rv, p, hz⟩ := I.tuple hq
    have hT0 : s.heap.IsTuple a its.toArray := p
    have hl := rv.length
    obtain ⟨f0, f1, f2, f3, f4, f5⟩ := hf it (List.mem_cons_of_mem _ List.mem_cons_self)
    have hh : X.A.in1.handled = none := I.ok.hd hc
    have D := Draws.tuple (prog := X.prog) (w := X.w) hh it a hat its.toArray
    have en : i = its.toArray.size := by simp; omega
    subst en
    exact wpAny_pyNext_enum_endD D he ⟨hit, hT0⟩ fun h' eb => ⟨rfl, I.turned (t' := s.toks) (fun b o hb e => eb b o hb e) f0 f1 f3 f4 f5⟩
  self := by
    rintro A i s Q E ⟨⟨_, he⟩, _⟩ h
    exact wpAny_pyIter_enum he h
def iEnumT (K : PySem.W.Frag) (ta : TA) : TI := fun σ H R => ta σ H fun vs H1 => ∃ a xs, vs = [.ref a] ∧ SqT K H1 a xs ∧ R (IteT K a) H1
theorem pi_enumT {X : Cx} {e : Expr} {ta : TA} {p pos tpos : Pos} {elts : List Expr} {kk : Nat} (hg : Gl X "enumerate") (hm : X.mg "enumerate" = none) (ha : PA X [e] ta) (hs : starEach [e] X.env = [(false, eval e X.env)] := by rfl) :
    PI X (.Tuple elts kk tpos) (.Call (.Name "enumerate" p) [e] [] pos) (iEnumT X.K ta) := by
  constructor
  intro pins s σ H R I h
  refine Call_ (ld_blt I hg hm boot_enumerate (PyProof.Rows.callWith_type1 (thn (ha.run pos pins s σ H _ I h) ?_) hs rfl))
  rintro us s1 ⟨vs, H1, I1, r1, a, xs, rfl, hq, q⟩
  obtain ⟨u, rfl, ru⟩ := vals1 r1
  cases ru
  obtain ⟨its, rv, p', hz⟩ := I1.tuple hq
  have hT0 : s1.heap.IsTuple a its.toArray := p'
  have hal : a < s1.heap.objs.size := by
    obtain ⟨o, ho, _⟩ := hT0
    exact Heap.lt_size ho
  refine call_enum_tuple hT0 fun h' he hit hk => wpAny_pyIter_enum he ?_
  refine ⟨s1.heap.objs.size + 1, [s1.heap.objs.size + 1, s1.heap.objs.size], _, _, H1, rfl, I1.kept (t' := s1.toks) hk, turn_enumT a _ _ its.toArray (Nat.ne_of_lt hal) (Nat.ne_of_gt (Nat.lt_succ_of_lt hal)), ⟨⟨.none, he⟩, hit, Nat.succ_ne_self _⟩, fun b hb => ?_, q⟩
  have hle : s1.heap.objs.size ≤ b := by
    rcases List.mem_cons.mp hb with z | z
    · rw [z]
      exact Nat.le_succ _
    · rw [List.mem_singleton.mp z]
      exact Nat.le_refl _
  exact I1.fpOk hle (I1.hok.fresh hle)
/-- a loop over it that leaves the tuple: the item's pair is new -/
theorem for_enumT {K : PySem.W.Frag} {a : Addr} {xs : List V} {g : TG} {tb : TS} {D : Ends} {σ : L2.St} {H : Hp} (Pv : Nat → L2.St → Hp → Prop) (h0 : Pv 0 σ H) (hl : ∀ i σ H, i ≤ xs.length → Pv i σ H → SqT K H a xs)
    (hs : ∀ i x σ H p, xs[i]? = some x → Pv i σ H → H p = none → g (.ref p) σ (upd H p (.tup [.int (i : Nat), x])) fun σ2 H2 => tb { D with nx := Pv (i + 1), ct := Pv (i + 1), bk := D.nx } σ2 H2) (hd : ∀ σ H, Pv xs.length σ H → D.nx σ H) :
    ∃ W : Nat → Nat → L2.St → Hp → Prop, (∃ m, W 0 m σ H) ∧ ∀ i m σ H, W i m σ H →
      ((IteT K a).stop i H ∧ D.nx σ H) ∨ ((IteT K a).go i H ∧ ∃ N : L2.St → Hp → Prop, (∀ σ' H', N σ' H' → ∃ m', m' < m ∧ W (i + 1) m' σ' H') ∧ ∀ x H', (IteT K a).yld i H x H' → g x σ H' fun σ2 H2 => tb { D with nx := N, ct := N, bk := D.nx } σ2 H2) := by
  refine ⟨fun i m σ H => m = xs.length - i ∧ i ≤ xs.length ∧ Pv i σ H, ⟨xs.length, by simp, Nat.zero_le _, h0⟩, ?_⟩
  rintro i m σ H ⟨rfl, hi, p⟩
  have q := hl i σ H hi p
  rcases Nat.lt_or_ge i xs.length with lt | ge
  · right
    refine ⟨⟨xs, xs[i], q, List.getElem?_eq_getElem lt⟩, Pv (i + 1), fun σ' H' p' => ⟨xs.length - (i + 1), by omega, rfl, lt, p'⟩, ?_⟩
    rintro x H' ⟨pp, y, rfl, hn, rfl, hy⟩
    exact hs i y σ H pp (hy xs q) p hn
  · have e : i = xs.length := by omega
    subst e
    exact .inl ⟨⟨xs, q, rfl⟩, hd σ H p⟩
end Ed

set_option Elab.async false
set_option linter.all false
set_option maxRecDepth 100000
set_option maxHeartbeats 4000000
/-! Ed: own errors under one class with __init__: made, raised, caught, asked. -/
namespace PySem.W
section
variable {prog : Program} {w : World} {A : Around} {E : Value → Shared → Prop} {s : Shared} {K : Frag} {x D : Addr} {ox : Obj} {od : Option Obj}
/-- what a class says, so that e.__class__ of its errors is the plain one -/
structure ErrC (K : Frag) (D : Addr) : Prop where
  ga : findIn K (.ref D) "__getattribute__" = some (some (.builtin "BaseException.__getattribute__"))
  gg : findIn K (.ref D) "__getattr__" = some none
  su : subIn K (.ref D) (.type "BaseException") = some true
  hd : hasDictIn K D = true
  cl : findIn K (.ref D) "__class__" = some (some (.builtin "object.__class__"))
  sg : specialIn K (.builtin "object.__class__") "__get__" = some (some (.builtin "getset_descriptor.__get__"))
  tk : takesIn K (.builtin "object.__class__") = some true
  mo : mroIn K D (.type "object") = some true
theorem ErrC.find (C : ErrC K D) : findObj K D od "__class__" = some (.bind (.builtin "getset_descriptor.__get__") (.builtin "object.__class__")) := by
  obtain ⟨cd, hc, _⟩ := any_some C.hd
  unfold findObj
  rw [hc, Option.bind_some, C.cl, Option.bind_some]
  simp [C.sg, C.tk]
theorem ErrC.class_at {Q : Option Value → Shared → Prop} (C : ErrC K D) (X : K.In s.heap) (I : InstAt s.heap x ox D od) (h : Q (some (.ref D)) { s with toks := s.toks + 1 }) : wpAny (model prog w) A (getAttr? (.ref x) "__class__") Q E s := by
  have hf := C.find (od := od)
  obtain ⟨hp, g, d, t, os⟩ := s
  have tyL := I.type (M := model prog w)
  have gaL := looks_findIn (M := model prog w) X C.ga
  have ggL := looks_findIn (M := model prog w) X C.gg
  have atL := looks_find (M := model prog w) X I hf
  have isB : Looks (model prog w) hp (isInstance (.ref x) (.type "BaseException")) true := tyL.andThen (looks_subIn X C.su)
  have ne : (Value.builtin "BaseException.__getattribute__" == Value.builtin "object.__getattribute__") = false := by decide +kernel
  have ne1 : (onTheHeap (Value.ref D) && Value.builtin "BaseException.__getattribute__" == Value.builtin "object.__getattribute__") = false := by
    rw [ne]
    rfl
  unfold getAttr? getAttrBy? getAttrBy
  apply wpAny_bind
  apply wpAny_mkText
  apply wpAny_bind
  apply wpAny_attempt
  apply wpAny_holding
  apply wpAny_bind
  apply tyL.at
  apply wpAny_bind
  apply gaL.at
  dsimp only
  rw [ne1, if_neg Bool.false_ne_true]
  unfold getAttrByItsOwn hookBefore
  apply wpAny_bind
  rw [if_pos (show onTheHeap (Value.ref D) = true from rfl)]
  apply ggL.at
  apply wpAny_bind
  apply wpAny_attempt
  apply wpAny_holding
  unfold callGetattribute
  rw [if_neg (show ¬ (false && onTheHeap (Value.builtin "BaseException.__getattribute__")) = true from Bool.false_ne_true)]
  unfold boundAndCalled
  rw [PySem.F.excAttr_ValueError.ga.bind (.ref x)]
  apply wpAny_bind
  apply wpAny_pure
  show wpAny _ _ (call (.builtin "BaseException.__getattribute__") [.ref x, .str "__class__" t]) _ _ _
  apply wpAny_call
  apply codeAny_call_builtin PySem.F.excAttr_ValueError.ga.plain PySem.F.entry_bexc_ga
  refine @check_slot (model prog w) _ _ ⟨hp, g, d, t + 1, os⟩ "BaseException.__getattribute__" "BaseException" "__getattribute__" (.ref x) [.str "__class__" t] [] _ (by decide +kernel) (by decide +kernel) isB (PySem.F.args_bexc_ga (.ref x) (.str "__class__" t)) ?_
  unfold Builtin.«object.__getattribute__»
  apply wpAny_bind
  apply wpAny_of_eq (a := ((Value.ref x : Value), [Value.str "__class__" t])) (by first | rfl | (simp only [slotArgs]; rfl))
  apply wpAny_bind
  apply wpAny_pure
  apply wpAny_bind
  apply tyL.at
  apply wpAny_bind
  apply atL.at
  show wpAny _ _ (holding [Value.builtin "object.__class__"] (call (.builtin "getset_descriptor.__get__") [.builtin "object.__class__", .ref x, .ref D]) >>= ret) _ _ _
  apply wpAny_bind
  apply wpAny_holding
  apply wpAny_call
  apply class_get (s := ⟨hp, g, d, t + 1, os⟩) (ox := ox) (od := od) X I C.mo
  apply wpAny_pure
  show wpAny _ _ (handedOut (.ref D)) _ _ _
  rw [handedOut_of (v := .ref D) rfl]
  first
    | exact wpAny_pure (wpAny_pure h)
    | exact wpAny_pure h
    | exact wpAny_pure (wpAny_bind (wpAny_pure (wpAny_pure h)))
theorem ErrC.kit (C : ErrC K D) : KitX K (.ref x) (.ref D) (fun h => InstAt h x ox D od) where
  ty := fun _ _ _ I => I.type
  it := fun _ _ X _ => by
    obtain ⟨cd, hc, _⟩ := any_some C.hd
    unfold clsIn at hc
    split at hc
    · rename_i c' d' cd' sl' ho
      intro A' Q' E' s' k q
      unfold isType loadHead
      exact wpAny_bind (wpAny_loadPart (k _ _ (X _ _ ho)) (wpAny_pure q))
    · cases hc
  ne := fun h tp dd its n sl X htp => by
    obtain ⟨cd, hc, _⟩ := any_some C.hd
    cases e : (Value.ref D == Value.ref tp) with
    | false => rfl
    | true =>
      cases Value.ref.inj (beq_iff_eq.mp e)
      unfold clsIn at hc
      split at hc
      · rename_i c' d' cd' sl' ho
        cases (X _ _ ho).symm.trans htp
      · cases hc
  ca := fun X I k => C.class_at X I k
end

/-! ### e.__class__.__name__ -/
section
variable {prog : Program} {w : World} {A : Around} {E : Value → Shared → Prop} {s : Shared} {K : Frag} {x C : Addr} {ox : Obj} {od : Option Obj} {R : Result → Shared → Prop}
theorem exc_class {expr : Bool} {Q : Value → Shared → Prop} (T : ErrC K C) (X : K.In s.heap) (I : InstAt s.heap x ox C od) (h : Q (.ref C) { s with toks := s.toks + 1 }) :
    wpAny (model prog w) A (getAttr (.ref x) "__class__" expr) Q E s := by
  have hf := T.find (od := od)
  obtain ⟨hp, g, d, t, os⟩ := s
  have L0 := I.type (M := model prog w)
  have L1 := looks_findIn (M := model prog w) X T.ga
  have L2 := looks_findIn (M := model prog w) X T.gg
  have L3 := looks_find (M := model prog w) X I hf
  have sub : Looks (model prog w) hp (isInstance (.ref x) (.type "BaseException")) true := L0.andThen (looks_subIn X T.su)
  have hx0 : (expr && onTheHeap (Value.builtin "BaseException.__getattribute__")) = false := by cases expr <;> rfl
  have hx2 : (Value.builtin "BaseException.__getattribute__" == Value.builtin "object.__getattribute__") = false := by decide +kernel
  have hx1 : (onTheHeap (Value.ref C) && Value.builtin "BaseException.__getattribute__" == Value.builtin "object.__getattribute__") = false := by rw [hx2]; rfl
  unfold getAttr getAttrBy
  refine wpAny_bind (wpAny_mkText (wpAny_holding (wpAny_bind (L0.at (wpAny_bind (L1.at ?_))))))
  show wpAny _ _ (if (onTheHeap (Value.ref C) && Value.builtin "BaseException.__getattribute__" == Value.builtin "object.__getattribute__") = true then _ else _) _ _ _
  rw [hx1, if_neg Bool.false_ne_true]
  unfold getAttrByItsOwn hookBefore
  refine wpAny_bind ?_
  rw [if_pos (show onTheHeap (Value.ref C) = true from rfl)]
  refine L2.at ?_
  refine wpAny_bind (wpAny_attempt (wpAny_holding ?_))
  unfold callGetattribute
  rw [hx0, if_neg Bool.false_ne_true]
  unfold boundAndCalled
  rw [PySem.F.excAttr_ValueError.ga.bind (.ref x)]
  refine wpAny_bind (wpAny_pure ?_)
  show wpAny _ _ (call (.builtin "BaseException.__getattribute__") [.ref x, .str "__class__" t]) _ _ _
  refine wpAny_call (codeAny_call_builtin PySem.F.excAttr_ValueError.ga.plain PySem.F.entry_bexc_ga ?_)
  refine @check_slot (model prog w) _ _ ⟨hp, g, d, t + 1, os⟩ "BaseException.__getattribute__" "BaseException" "__getattribute__" (.ref x) [.str "__class__" t] [] _ (by decide +kernel) (by decide +kernel) sub (PySem.F.args_bexc_ga (.ref x) (.str "__class__" t)) ?_
  unfold Builtin.«object.__getattribute__»
  refine wpAny_bind (wpAny_of_eq (a := ((Value.ref x : Value), [Value.str "__class__" t])) (by first | rfl | (simp only [slotArgs]; rfl)) ?_)
  refine wpAny_bind (wpAny_pure (wpAny_bind (L0.at (wpAny_bind (L3.at ?_)))))
  show wpAny _ _ (holding [Value.builtin "object.__class__"] (call (.builtin "getset_descriptor.__get__") [.builtin "object.__class__", .ref x, .ref C]) >>= ret) _ _ _
  refine wpAny_bind (wpAny_holding (wpAny_call (class_get (s := ⟨hp, g, d, t + 1, os⟩) (ox := ox) (od := od) X I T.mo ?_)))
  refine wpAny_pure ?_
  show wpAny _ _ (handedOut (.ref C)) _ _ _
  rw [handedOut_of (v := .ref C) rfl]
  first
    | exact wpAny_pure h
    | exact wpAny_pure (wpAny_pure h)
    | exact wpAny_pure (wpAny_bind (wpAny_pure (wpAny_pure h)))
/-- the class's own name, as it stands in its object -/
structure NmC (K : Frag) (C : Addr) (nm : Str) : Prop where
  rd : readsIn K C (.type "type") = true
  sl : ∃ o t, K.lookup C = some o ∧ (o.slots[2]?).join = some (.str nm t)
  fc : findCls K (.ref C) (.type "type") "__name__" = some (.get (.builtin "getset_descriptor.__get__") (.builtin "type.__name__") (.ref C) (.type "type"))
open Builtin Builtin.Getset_descriptor in
theorem nm_get {tp : Value} {nm : Str} {t2 : Tok} {o : Obj} (X : K.In s.heap) (ht : typeIn K (.ref C) = some (.type "type")) (hC : K.lookup C = some o) (hs : (o.slots[2]?).join = some (.str nm t2)) (h : R (.ok (.ret (.str nm t2))) s) :
    codeAny (model prog w) A (.call (.builtin "getset_descriptor.__get__") ⟨[.builtin "type.__name__", .ref C, tp], []⟩) R s := by
  obtain ⟨hh, g, dr, t, os⟩ := s
  have hx : hh.get? C = some o := X _ _ hC
  have L0 : Looks (model prog w) hh (typeOf (.ref C)) (.type "type") := looks_typeIn X ht
  have L1 : Looks (model prog w) hh (isSubtype (.type "type") (.type "type")) true := Looks.of_pure (by rw [isSubtype_type]; kernel_rfl)
  refine codeAny_call_builtin KF.slot_gs.plain KF.entry_gs (KF.slot_gs.check _ _ _ _ _ _ _ _ ktyn_type (KF.args_gs _ _ _) ?_)
  unfold Builtin.«getset_descriptor.__get__» descrGet
  rw [dga_obj]
  refine wpAny_bind (wpAny_pure ?_)
  unfold descrGetter descrCheckInstance descrNameAndClass isInstance
  simp only [ktyn_owner]
  repeat lk
  refine ⟨Code.quiet_builtin _ (by decide +kernel), codeAny_builtin ktyn_entry ?_⟩
  unfold Builtin.«type.__name__» keptObject slotAt
  dsimp only
  refine wpAny_bind (wpAny_bind (wpAny_loadPart_at hx (wpAny_pure ?_)))
  rw [hs]
  first
    | exact wpAny_pure h
    | exact wpAny_pure (wpAny_pure h)
    | exact wpAny_bind (wpAny_pure h)
    | exact wpAny_bind (wpAny_bind (wpAny_pure h))
    | exact wpAny_bind (wpAny_bind (wpAny_pure (wpAny_pure h)))
    | (trace_state; exact wpAny_bind (wpAny_pure (wpAny_pure h)))
theorem cls_nm {nm : Str} {expr : Bool} {Q : Value → Shared → Prop} (X : K.In s.heap) (N : NmC K C nm) (h : ∀ tk, Q (.str nm tk) { s with toks := s.toks + 1 }) : wpAny (model prog w) A (getAttr (.ref C) "__name__" expr) Q E s := by
  obtain ⟨o, t, hC, hs⟩ := N.sl
  have ht : typeIn K (.ref C) = some (.type "type") := by
    have hr := N.rd
    simp only [readsIn, Bool.and_eq_true, beq_iff_eq] at hr
    exact hr.1.1.1.2
  refine cls_bind X N.rd N.fc (wpAny_call (nm_get (s := { s with toks := s.toks + 1 }) X ht hC hs ?_))
  exact handed_on rfl (h _)
end
end PySem.W
namespace Ed
open PySem PySem.Spec PyProof.Rows L2
/-- isinstance(e, C), e the error that the suite holds, of the class D with its own dict -/
theorem call_isErr {X : Cx} {a D : Addr} {d : Addr} {fs : List (Str × V)} {oe : Obj} {pn : List (Addr × Obj)} (C : PySem.W.ErrC X.K D) (hz : Zc (.ref D) (some d) oe) (hf : ∃ vs, oe.data = .fields vs) :
    CallR (X.suite a ((a, oe) :: pn)) (.builtin "isinstance") (fun xs H Q => ∃ (c : V) (cv : Value) (b : Bool), xs = [.ref a, c] ∧ H d = some (.xd fs) ∧ (∀ u, RelV c u → u = cv) ∧ PySem.W.kitOne X.K (.ref D) cv = some b ∧ Q (.bl b) H) := by
  intro pins s σ H xs us Q I r h
  obtain ⟨c, cv, b, rfl, hd, hcv, e, q⟩ := h
  obtain ⟨u1, u2, rfl, r1, r2⟩ := vals2 r
  cases r1
  cases hcv _ r2
  obtain ⟨hget, _⟩ := I.pin (a, oe) (List.mem_append.mpr (.inl List.mem_cons_self))
  obtain ⟨vs, hv⟩ := hf
  obtain ⟨mA, ⟨o, es, ep, ho, hdd, _⟩, _⟩ := I.hok d _ hd
  have J : PySem.W.InstAt s.heap a oe D (some o) := by
    refine ⟨hget, hz.1, ?_, ?_⟩
    · unfold PySem.W.notCls
      rw [hv]
    · rw [hz.2]
      exact ho
  exact PySem.W.kia_one (C.kit (od := some o)) I.kIn J e (fun z => nomatch z) fun tk => ⟨.bl b, H, I.kept (t' := tk) fun _ _ z => z, rfl, q⟩
/-- what an error's own dict holds -/
abbrev xdw (nm : Str) (y : V) : List (Str × V) := [(("called" : Str), V.str nm), (("what" : Str), y)]
/-- what the base error's __init__(self, what) does -/
def spErrInit (K : PySem.W.Frag) : Sp := fun vs H Q _ => ∃ (a C : Addr) (y : V) (nm : Str), vs = [.ref a, y] ∧ OexC K C ∧ PySem.W.ErrC K C ∧ PySem.W.NmC K C nm ∧ PySem.W.findIn K (.ref C) "what" = some none ∧ PySem.W.findIn K (.ref C) "called" = some none ∧ H a = some (exo a C none) ∧
  ∀ dx, H dx = none → dx ≠ a → Q .non (upd (upd (upd H dx (exd dx [(("what" : Str), y)])) a (exo a C (some dx))) dx (exd dx (xdw nm y)))
/-- a class of errors under that -/
structure ErrK (K : PySem.W.Frag) (mg : Str → Option Value) (x : Str) (C fI : Addr) : Prop where
  ox : OexC K C
  ini : PySem.W.findIn K (.ref C) "__init__" = some (some (.ref fI))
  wh : PySem.W.findIn K (.ref C) "what" = some none
  cd : PySem.W.findIn K (.ref C) "called" = some none
  nm : ∃ nm, PySem.W.NmC K C nm
  mg : mg x = some (.ref C)
  er : PySem.W.ErrC K C
/-- what a raise leaves: a new dict with the what, all else as it was -/
theorem err_inner {K : PySem.W.Frag} {mg : Str → Option Value} {x : Str} {C fI : Addr} (T : ErrK K mg x C fI) {y : V} {H1 : Hp} {Q : XK}
    (h : ∀ d H2 nm, H1 d = none → H2 d = some (.xd (xdw nm y)) → (∀ c u, H1 c = some u → H2 c = some u) → Q (.ref C) (some d) H2) :
    [y].length ≤ 1000 ∧ ∀ a, H1 a = none → spErrInit K (.ref a :: ([y] ++ [])) (upd H1 a (exo a C none)) (fun v H2 => v = .non ∧ ∃ (d : Addr) (fs : List (Str × V)), H2 a = some (exo a C (some d)) ∧ H2 d = some (exd d fs) ∧ H1 d = none ∧ Q (.ref C) (some d) (upd (del H2 a) d (.xd fs))) (fun _ _ _ => False) := by
  obtain ⟨nm, hnm⟩ := T.nm
  refine ⟨(by show 1 ≤ 1000; decide), fun a ha => ⟨a, C, y, nm, rfl, T.ox, T.er, hnm, T.wh, T.cd, upd_same, fun dx hdx ne => ⟨rfl, dx, xdw nm y, (upd_ne ne.symm).trans upd_same, upd_same, ?_, ?_⟩⟩⟩
  · exact (upd_ne ne).symm.trans hdx
  · have hd0 : H1 dx = none := (upd_ne ne).symm.trans hdx
    refine h dx _ nm hd0 upd_same fun c u e => ?_
    have n1 : c ≠ dx := ne_of_none e hd0
    have n2 : c ≠ a := ne_of_none e ha
    exact (upd_ne n1).trans ((del_ne n2).trans ((upd_ne n1).trans ((upd_ne n2).trans ((upd_ne n1).trans ((upd_ne n2).trans e)))))
/-- e.__class__.__name__, e the error that is being made -/
def tNm (K : PySem.W.Frag) (te : TE) : TE := fun σ H Q => te σ H fun x H1 => ∃ (a C dx : Addr) (nm : Str) (fs : List (Str × V)), x = .ref a ∧ PySem.W.ErrC K C ∧ PySem.W.NmC K C nm ∧ H1 a = some (exo a C (some dx)) ∧ H1 dx = some (exd dx fs) ∧ Q (.str nm) H1
theorem pe_nm {X : Cx} {e : Expr} {te : TE} {p1 p2 : Pos} (he : PE X e te) (hb : attributeBase e "__class__" X.env (eval e X.env) = eval e X.env := by rfl)
    (hb2 : attributeBase (.Attribute e "__class__" p1) "__name__" X.env (eval (.Attribute e "__class__" p1) X.env) = eval (.Attribute e "__class__" p1) X.env := by rfl) : PE X (.Attribute (.Attribute e "__class__" p1) "__name__" p2) (tNm X.K te) := by
  refine ⟨fun pins s σ H Q I h => attr_of hb2 (attr_of hb (thn (he.run pins s σ H _ I h) fun u s1 hh => ?_))⟩
  obtain ⟨x, H1, I1, rx, a, C, dx, nm, fs, ex, T, N, ea, ed, q⟩ := hh
  subst ex
  obtain rfl : u = Value.ref a := rx
  obtain ⟨t1, ho⟩ := exo_at I1.hok ea
  obtain ⟨mA, hns, rel⟩ := exd_at I1.hok ed
  obtain ⟨oD, _, _, hoD, _, _⟩ := hns.count (within_of rel)
  have J : PySem.W.InstAt s1.heap a { cls := .ref C, dict := some dx, data := .fields #[.ref t1, .none, .none, .none, .bool false, .none] } C (some oD) := ⟨ho, rfl, rfl, hoD⟩
  refine PySem.W.exc_class T I1.kIn J ?_
  refine PySem.W.cls_nm (s := { s1 with toks := s1.toks + 1 }) I1.kIn N fun tk => ⟨.str nm, H1, (I1.tok _).tok _, ⟨tk, rfl⟩, q⟩
/-- C(e): what is known of the error's own record, its context too -/
theorem pmk_err {X : Cx} {x : Str} {C fI : Addr} {fd : FuncData} {p pos : Pos} {e : Expr} {te : TE} {k : Nat} (T : ErrK X.K X.mg x C fI) (tI : PySem.W.typeIn X.K (.ref fI) = some (.type "function"))
    (F : FnOk X.prog X.w X.K X.mg X.base CX0 k fI fd ["self", "what"] (spErrInit X.K)) (b : L2.Binds X.K fd ["self", "what"] []) (hr : Room (k + 1) X.A) (hg : Gl X x) (ha : PA X [e] (tCons te tNil))
    (hdb : (x == ("__debug__" : Str)) = false := by decide) (hst : starEach (e :: []) X.env = (false, eval e X.env) :: starEach [] X.env := by rfl) (hpl : (backTo pos (starEach [] X.env)).any (·.1) = false := by rfl) :
    L2N.PMk X (.Call (.Name x p) [e] [] pos) (tMkO C (spErrInit X.K) [] (tCons te tNil)) := by
  intro pins s σ H Q I h
  obtain ⟨_, _, _, _, bm, _, _, _, _, _, _, _, _, _, _, hC, hbm⟩ := T.ox.cls
  refine wpAny_Call_Name_kw (ld_glob I hg T.mg ?_ hdb)
  refine PySem.W.callWith_K (h₀ := X.base) I.ok.mod.kin T.ox.kC (thn (ha.run pos pins s σ H _ I h) fun us s1 ⟨vs, H1, I1, r1, hz, q1⟩ => ⟨I1.kIn, ?_⟩) hst hpl
  obtain ⟨hp, g, dr, tk, os⟩ := s1
  have up : hp.objs.size ≤ hp.objs.size + 1 := Nat.le_succ _
  have own := q1 (hp.objs.size + 1) (I1.hok.fresh up)
  have kp : ∀ b o, hp.get? b = some o → ((hp.push (PySem.W.kdv_tup us)).push (PySem.HandSPX.excO C hp.objs.size)).get? b = some o := fun b o z => Heap.get?_push_of_some _ (Heap.get?_push_of_some _ z)
  have at_ : ((hp.push (PySem.W.kdv_tup us)).push (PySem.HandSPX.excO C hp.objs.size)).get? (hp.objs.size + 1) = some (PySem.HandSPX.excO C hp.objs.size) := by heap_get
  have I2 := I1.laid (t' := tk) (a := hp.objs.size + 1) (o := exo (hp.objs.size + 1) C none) (h' := (hp.push (PySem.W.kdv_tup us)).push (PySem.HandSPX.excO C hp.objs.size)) kp up (exo_ok at_)
  have r2 : Vals (V.ref (hp.objs.size + 1) :: (vs ++ [])) (Value.ref (hp.objs.size + 1) :: (us ++ [])) := .cons rfl (r1.append .nil)
  have two : (Value.ref (hp.objs.size + 1) :: us ++ []).length = 2 := by
    have z := r2.length
    rw [F.len _ _ _ _ own] at z
    exact z.symm
  have few : us.length ≤ sizeLine := by
    rw [← Paired.length r1, sizeLine_eq]
    omega
  refine wpAny_call (PySem.HandSPX.call_own PySem.F.excBase_ValueError (fun Y => PySem.HandSPX.refsVE_contains Y bm hbm) (I1.kIn _ _ hC) (PySem.W.looks_findIn I1.kIn T.ini) (fun self => PySem.W.bind_fn I1.kIn self tI) few (codeAny_mono (F.run _ X.stack _ _ ⟨Value.ref (hp.objs.size + 1) :: us, []⟩ _ _ _ (fun _ _ _ => False) (hr.make C us []) (I2.env0.make C us []) (b _ _ I2.kIn two) r2 own) fun r s' hr' => ?_))
  match r, hr' with
  | .error er, hr' => exact hr'.elim
  | .ok (.ret u), hr' =>
    obtain ⟨v, H2, os2, bare2, un2, hok2, rv, ev, d, fs, ea, ed, hd1, q2⟩ := hr'
    subst ev
    obtain ⟨h2, g2, d2, t2, os'⟩ := s'
    obtain ⟨t0, G, J, kG, ge, hoe, na⟩ := mk_end0 (d2 := d2) (t2 := t2) I1 up kp un2 hok2 os2 bare2 ea ed hd1
    exact ⟨rv, hp.objs.size + 1, _, _, ⟨G, g2, d2, t2, os'⟩, _, .ref C, some d, rfl, J, kG, ge, hoe, ⟨rfl, rfl, fun vs hv => by cases hv; rfl⟩, rfl, rfl, na, rfl, bare2, raises_own T.ox.exC T.ox.tyC, q2⟩
  | .ok .next, hr' => exact hr'.elim
  | .ok .brk, hr' => exact hr'.elim
  | .ok .cont, hr' => exact hr'.elim

/-! ### t.index(x), flat -/
def rIndexF (K : PySem.W.Frag) : V → List V → Hp → VK → Prop := fun x xs H Q => ∃ (p : Addr) (ys : List V) (z : V) (j : Nat), x = .ref p ∧ xs = [z] ∧ SqT K H p ys ∧ flatV z = true ∧ ys.all flatV = true ∧ (∃ y, ys[j]? = some y ∧ eqV y z = true) ∧ (∀ m y, m < j → ys[m]? = some y → eqV y z = false) ∧ Q (.int (j : Nat)) H
theorem mt_tup_indexF {X : Cx} : MtR X "tuple.index" (rIndexF X.K) := by
  intro pins s σ H x xs v us Q I rx rs h
  obtain ⟨p, ys, z, j, rfl, rfl, hq, fz, fy, ⟨y, hy, ey⟩, hno, q⟩ := h
  cases rx
  obtain ⟨u, rfl, ru⟩ := vals1 rs
  obtain ⟨its, r, ⟨⟨cls, dd, dt, sl⟩, ho, hc, n, hd⟩, hz⟩ := I.tuple hq
  cases (show cls = .type "tuple" from hc)
  cases (show dt = .seq its.toArray n from hd)
  have len := r.length
  have flat : ∀ (m : Nat) (w : V), ys[m]? = some w → flatV w = true := fun m w hw => List.all_eq_true.mp fy w (List.mem_of_getElem? hw)
  have at_ : ∀ (m : Nat) (hm : m < its.toArray.size), ∃ w, ys[m]? = some w ∧ eqU z its.toArray[m] = eqV w z := fun m hm => by
    have hm' : m < ys.length := by
      rw [len]
      simpa using hm
    obtain ⟨w', h1, h2⟩ := r.get (i := m) (x := ys[m]) (List.getElem?_eq_getElem hm')
    have e1 : its.toArray[m] = w' := by
      have := (List.getElem?_eq_some_iff.mp h1).2
      simpa using this
    exact ⟨ys[m], List.getElem?_eq_getElem hm', by rw [e1]; exact eqU_of h2 (flat m _ (List.getElem?_eq_getElem hm'))⟩
  have hj : j < its.toArray.size := by
    have := (List.getElem?_eq_some_iff.mp hy).1
    rw [len] at this
    simpa using this
  have tyT : s.TypeIs (.ref p) "tuple" := ⟨_, ho, rfl⟩
  refine call_meets PySem.F.slot_tuple_index tyT PySem.F.entry_tuple_index (PySem.F.args_tuple_index_2 _ _) (TI.tuple_indexAt p its.toArray n dd sl u (eqU z) j hj ?_ ?_) ?_
  rotate_left 2
  · exact ⟨ho, fun w hw => mem_eqAt ru fz r fy w (by simpa using hw), .int (j : Nat), H, I.tok _, ⟨_, rfl⟩, q⟩
  · obtain ⟨w, h1, h2⟩ := at_ j hj
    rw [hy] at h1
    cases h1
    rw [h2]
    exact ey
  · intro m hm hmj
    obtain ⟨w, h1, h2⟩ := at_ m hm
    rw [h2]
    exact hno m w hmj h1

/-! ### x is True, x is False, x of any flat kind -/
theorem op_isFl {X : Cx} : OpR X (compareOp .Is) (fun x y H Q => flatV x = true ∧ ∃ b : Bool, y = .bl b ∧ Q (.bl (decide (x = .bl b))) H) := by
  intro pins s σ H x y v u Q I rx ry h
  obtain ⟨fx, b, rfl, q⟩ := h
  cases (show u = Value.bool b from ry)
  by_cases e : x = .bl b
  · subst e
    cases (show v = Value.bool b from rx)
    exact wpAny_is_self rfl ⟨.bl true, H, I, rfl, by simpa using q⟩
  · have ne : v ≠ Value.bool b := by
      intro z
      subst z
      cases x with
      | non => cases rx
      | bl c =>
        cases (show Value.bool b = Value.bool c from rx)
        exact e rfl
      | int i =>
        obtain ⟨t, z⟩ := rx
        cases z
      | str i =>
        obtain ⟨t, z⟩ := rx
        cases z
      | _ => cases fx
    refine wpAny_is_other ?_ ne ⟨.bl false, H, I, rfl, by simpa [e] using q⟩
    cases x with
    | non =>
      cases rx
      rfl
    | bl c =>
      cases (show v = Value.bool c from rx)
      rfl
    | int i =>
      obtain ⟨t, rfl⟩ := rx
      rfl
    | str i =>
      obtain ⟨t, rfl⟩ := rx
      rfl
    | _ => cases fx

/-! ### tuples made, known as they are -/
def tTupF (t : TA) : TE := fun σ H Q => t σ H fun xs H1 => xs.length ≤ sizeLine ∧ ∀ (p : Addr) (o : Obj), H1 p = none → o.dict = none → Q (.ref p) (upd H1 p (.frz o (.tup xs)))
theorem pe_tupF {X : Cx} {es : List Expr} {t : TA} {pos : Pos} {x1} (h : PA X es t) : PE X (.Tuple es x1 pos) (tTupF t) := by
  constructor
  intro pins s σ H Q I hq
  apply wpAny_Tuple_spliced
  refine thn (h.run pos pins s σ H _ I hq) ?_
  rintro us s1 ⟨xs, H1, I1, r, z, q⟩
  refine ⟨by rw [← r.length]; exact z, ?_⟩
  have hf := I1.hok.fresh (Nat.le_refl s1.heap.objs.size)
  have made := Heap.get?_push_size s1.heap (o := { cls := .type "tuple", data := .seq us.toArray }) rfl
  exact ⟨.ref s1.heap.objs.size, _, I1.laid (o := .frz { cls := .type "tuple", data := .seq us.toArray } (.tup xs)) (t' := s1.toks) (fun b u e => Heap.get?_push_of_some _ e) (Nat.le_refl _) ⟨made, z, us, r, ⟨_, made, rfl, _, rfl⟩⟩, rfl, q _ _ hf rfl⟩
/-- tuple(x), x a list: a new tuple; x a tuple: itself -/
def kTupF (K : PySem.W.Frag) : V → Hp → VK → Prop := fun x H Q => (∃ p xs, x = .ref p ∧ SqL K H p xs ∧ ∀ (q : Addr) (o : Obj), H q = none → o.dict = none → Q (.ref q) (upd H q (.frz o (.tup xs)))) ∨ (∃ p xs, x = .ref p ∧ SqT K H p xs ∧ Q (.ref p) H)
theorem pe_tupleF {X : Cx} {a : Expr} {ta : TE} {p pos : Pos} (hg : Gl X "tuple") (hm : X.mg "tuple" = none) (ha : PE X a ta) (na : starEach [a] X.env = (false, eval a X.env) :: starEach [] X.env := by rfl) :
    PE X (.Call (.Name "tuple" p) [a] [] pos) (tThen ta (kTupF X.K)) := by
  constructor
  intro pins s σ H Q I h
  refine Call_ (ld_blt I hg hm boot_tuple (PyProof.Rows.callWith_type1 (one_arg ha I h (fun v s2 x H2 I2 r q => ?_) na) na))
  rcases q with ⟨b, xs, rfl, hs, q⟩ | ⟨b, xs, rfl, hs, q⟩
  · cases r
    obtain ⟨its, rv, pl, hz⟩ := I2.list hs
    refine call_tuple_list pl.isList (fun h' hk => ?_) (by rw [List.size_toArray, ← rv.length]; exact hz)
    have I3 : Inv X pins σ H2 { s2 with heap := h' } := I2.kept (t' := s2.toks) hk
    have made := Heap.get?_push_size h' (o := { cls := .type "tuple", data := .seq its.toArray }) rfl
    have I4 := I3.laid (o := .frz { cls := .type "tuple", data := .seq its.toArray } (.tup xs)) (t' := s2.toks) (fun b o e => Heap.get?_push_of_some _ e) (Nat.le_refl _) ⟨made, hz, its, rv, ⟨_, made, rfl, _, rfl⟩⟩
    exact ⟨.ref h'.objs.size, _, I4, rfl, q _ _ (I3.hok.fresh (Nat.le_refl _)) rfl⟩
  · cases r
    obtain ⟨its, rv, pl, hz⟩ := I2.tuple hs
    exact call_tuple_tup pl ⟨.ref b, H2, I2, rfl, q⟩
/-! ### t.m(e, ..), t a tuple known as it is -/
def tBMT (r : V → List V → Hp → VK → Prop) (to : TE) (t : TA) : TE := fun σ H Q => to σ H fun x H1 => (∃ (p : Addr) (xs : List V), x = .ref p ∧ Tp H1 p xs) ∧ t σ H1 fun ys H2 => r x ys H2 Q
theorem pe_bmT {X : Cx} {o e : Expr} {es : List Expr} {to : TE} {t : TA} {name : Str} {apos cpos : Pos} {id : String} {r : V → List V → Hp → VK → Prop} (slot : Slot "tuple" name id) (hty : typeOf (.builtin id) = pure (.type "method_descriptor")) (hm : MtR X id r) (ho : PE X o to) (ha : PA X (e :: es) t)
    (hbase : attributeBase o name X.env (eval o X.env) = eval o X.env := by rfl)
    (hfew : ((backTo cpos (starEach (e :: es) X.env)).all (fun x => !x.1) && (backToKw cpos (keywordEach [] X.env)).all (fun x => x.1.isSome) && decide ((e :: es).length + ([] : List Keyword).length + (if ([] : List Keyword).isEmpty then 0 else 1) < 30)) = true := by rfl)
    (hline : (apos.endLine == cpos.line) = true := by rfl) (hs : starEach (e :: es) X.env = (false, eval e X.env) :: starEach es X.env := by rfl) (hplain : (backTo cpos (starEach es X.env)).any (·.1) = false := by rfl) :
    PE X (.Call (.Attribute o name apos) (e :: es) [] cpos) (tBMT r to t) := by
  constructor
  intro pins s σ H Q I h
  refine wpAny_Call_method_late hbase hfew hline rfl (thn (ho.run pins s σ H _ I h) ?_)
  rintro v s1 ⟨x, H1, I1, r1, ⟨p, xs, rfl, ob, hp, hd⟩, q1⟩
  cases r1
  obtain ⟨hget, _, its, _, o2, ho2, hc2, _⟩ := I1.hok p _ hp
  have hcls : ob.cls = .type "tuple" := by
    rw [hget] at ho2
    cases ho2
    exact hc2
  refine ⟨"tuple", id, PySem.F.plainAttrs_tuple, slot, hty, ⟨ob, hget, hcls⟩, fun a e => ?_, ?_⟩
  · cases e
    exact ⟨ob, hget, hd⟩
  · have hA := ha.run cpos pins s1 σ H1 _ I1 q1
    rw [hs] at hA ⊢
    refine Calls.callWith_builtin (by show (false || (backTo cpos (starEach es X.env)).any (·.1)) = false; rw [hplain]; rfl) (Calls.evalArgs_plain (thn hA ?_))
    rintro us s2 ⟨vs, H2, I2, r2, q2⟩
    exact hm pins s2 σ H2 (.ref p) vs (.ref p) us Q I2 rfl r2 q2
end Ed

set_option Elab.async false
set_option linter.all false
set_option maxRecDepth 100000
set_option maxHeartbeats 4000000
/-! Ed: comprehensions whose elements are data. -/
namespace Ed
open PySem PySem.Spec PyProof.Rows L2
/-- the source of draws at a -/
def SrcOk (H : Hp) (a : Addr) : Prop := ∃ b m : Int, H a = some (.lst [.int b, .int m]) ∧ 0 ≤ b ∧ 0 ≤ m ∧ m < 2147483647
def Srcs (S : List Addr) (H : Hp) : Prop := ∀ a ∈ S, SrcOk H a
theorem Srcs.nil {H : Hp} : Srcs [] H := fun _ h => by cases h
theorem Srcs.one {H : Hp} {a : Addr} (h : SrcOk H a) : Srcs [a] H := fun b hb => by
  rw [List.mem_singleton.mp hb]
  exact h
theorem SrcOk.upd {H : Hp} {a p : Addr} {o : HO} (h : SrcOk H a) (n : a ≠ p) : SrcOk (L2.upd H p o) a := by
  obtain ⟨b, m, e, r⟩ := h
  exact ⟨b, m, (upd_ne n).trans e, r⟩
theorem SrcOk.ne {H : Hp} {a p : Addr} (h : SrcOk H a) (n : H p = none) : a ≠ p := by
  obtain ⟨b, m, e, r⟩ := h
  exact ne_of_none e n
theorem SrcOk.ex {T : List (Addr × Str)} {S : List Addr} {H H1 : Hp} {a : Addr} (h : SrcOk H a) (e : Ex T S H H1) (n : a ∉ S) : SrcOk H1 a := by
  obtain ⟨b, m, e1, r⟩ := h
  exact ⟨b, m, e.at_lst n e1, r⟩
theorem Srcs.upd {S : List Addr} {H : Hp} {p : Addr} {o : HO} (h : Srcs S H) (n : p ∉ S) : Srcs S (L2.upd H p o) := fun a ha => (h a ha).upd fun z => n (z ▸ ha)
theorem Srcs.free {S : List Addr} {H : Hp} {p : Addr} (h : Srcs S H) (n : H p = none) : p ∉ S := fun hp => (h p hp).ne n rfl
/-- what a comprehension has made so far -/
structure LcS (T : List (Addr × Str)) (S : List Addr) (H0 : Hp) (D : Addr) (ds : List PyData) (H : Hp) : Prop where
  ex : Ex T S H0 H
  sr : Srcs S H
  at_ : ∃ acc, H D = some (.lst acc) ∧ TdAll H acc ds
theorem LcS.more {T : List (Addr × Str)} {S : List Addr} {H0 H H4 : Hp} {D : Addr} {ds : List PyData} {y : V} {d : PyData} (L : LcS T S H0 D ds H) (fD : Fresh H0 D) (nD : D ∉ S) (e4 : Ex T S H H4) (s4 : Srcs S H4) (hy : Td H4 y d) (sz : ds.length < sizeLine) :
    ∃ acc, H4 D = some (.lst acc) ∧ acc.length < sizeLine ∧ LcS T S H0 D (ds ++ [d]) (L2.upd H4 D (.lst (acc ++ [y]))) := by
  obtain ⟨acc, hacc, hall⟩ := L.at_
  have h4 := e4.at_lst nD hacc
  refine ⟨acc, h4, by rw [hall.len]; exact sz, (L.ex.trans e4).put h4 (.inr fD), s4.upd nD, _, upd_same, ?_⟩
  exact TdAll.mono (TX.lst h4) ((TdAll.mono e4.tups hall).snoc hy)
theorem map_range_snoc {α : Type} (f : Nat → α) (i : Nat) : (List.range (i + 1)).map f = (List.range i).map f ++ [f i] := by
  rw [List.range_succ, List.map_append]
  rfl
section
variable {T : List (Addr × Str)} {S : List Addr} {H0 H1 : Hp} {D : Addr} {g : TG} {te : TE} {vs : List Nat} {σ : L2.St} {Qd : Hp → Prop}
/-- over a range -/
theorem lc_rangeM {lo : Int} {n : Nat} (ds : Nat → PyData) (e0 : Ex T S H0 H1) (s0 : Srcs S H1) (nD : H1 D = none) (hn : n < sizeLine)
    (step : ∀ (i : Nat) (H' : Hp) (Q' : VK), i < n → Ex T S H0 H' → Srcs S H' → (∀ y H4, Ex T S H' H4 → Srcs S H4 → Td H4 y (ds i) → Q' y H4) → g (.int (lo + i)) (wipe σ vs) H' fun σ2 H2 => wipe σ2 vs = wipe σ vs ∧ te σ2 H2 Q')
    (hd : ∀ H' acc, Ex T S H0 H' → Srcs S H' → H' D = some (.lst acc) → TdAll H' acc ((List.range n).map ds) → Qd H') :
    ∃ W : Nat → Nat → Hp → Prop, (∃ m, W 0 m (L2.upd H1 D (.lst []))) ∧ ∀ i m H, W i m H →
      ((Itr lo n).stop i H ∧ Qd H) ∨ ((Itr lo n).go i H ∧ ∃ Nx : Hp → Prop, (∀ H', Nx H' → ∃ m', m' < m ∧ W (i + 1) m' H') ∧ ∀ x H', (Itr lo n).yld i H x H' → g x (wipe σ vs) H' fun σ2 H2 => wipe σ2 vs = wipe σ vs ∧ tYes σ2 H2 fun b H3 =>
        if b = true then te σ2 H3 fun y H4 => ∃ acc, H4 D = some (.lst acc) ∧ acc.length < sizeLine ∧ Nx (L2.upd H4 D (.lst (acc ++ [y]))) else Nx H3) := by
  have hDS := s0.free nD
  have fD : Fresh H0 D := e0.fresh nD hDS
  refine lc_range (lo := lo) (n := n) (fun i H => LcS T S H0 D ((List.range i).map ds) H) ⟨e0.new nD, s0.upd hDS, [], upd_same, .nil⟩ (fun i H hi L => ?_) fun H L => ?_
  · have q := step i H (fun y H4 => ∃ acc, H4 D = some (.lst acc) ∧ acc.length < sizeLine ∧ LcS T S H0 D ((List.range (i + 1)).map ds) (L2.upd H4 D (.lst (acc ++ [y])))) hi L.ex L.sr fun y H4 e4 s4 hy => by
      rw [map_range_snoc]
      exact L.more fD hDS e4 s4 hy (by rw [List.length_map, List.length_range]; omega)
    exact q
  · obtain ⟨acc, h1, h2⟩ := L.at_
    exact hd H acc L.ex L.sr h1 h2
/-- over a tuple of data -/
theorem lc_tupM {K : PySem.W.Frag} {a : Addr} {xs : List V} {es : List PyData} (ds : List PyData) (e0 : Ex T S H0 H1) (s0 : Srcs S H1) (nD : H1 D = none) (ha : Tp H0 a xs) (hes : TdAll H0 xs es) (hn : xs.length < sizeLine) (hl : ds.length = es.length)
    (step : ∀ (i : Nat) (x : V) (e d : PyData) (H' : Hp) (Q' : VK), xs[i]? = some x → es[i]? = some e → ds[i]? = some d → Ex T S H0 H' → Srcs S H' → Td H' x e → (∀ y H4, Ex T S H' H4 → Srcs S H4 → Td H4 y d → Q' y H4) → g x (wipe σ vs) H' fun σ2 H2 => wipe σ2 vs = wipe σ vs ∧ te σ2 H2 Q')
    (hd : ∀ H' acc, Ex T S H0 H' → Srcs S H' → H' D = some (.lst acc) → TdAll H' acc ds → Qd H') :
    ∃ W : Nat → Nat → Hp → Prop, (∃ m, W 0 m (L2.upd H1 D (.lst []))) ∧ ∀ i m H, W i m H →
      ((Itt K a).stop i H ∧ Qd H) ∨ ((Itt K a).go i H ∧ ∃ Nx : Hp → Prop, (∀ H', Nx H' → ∃ m', m' < m ∧ W (i + 1) m' H') ∧ ∀ x H', (Itt K a).yld i H x H' → g x (wipe σ vs) H' fun σ2 H2 => wipe σ2 vs = wipe σ vs ∧ tYes σ2 H2 fun b H3 =>
        if b = true then te σ2 H3 fun y H4 => ∃ acc, H4 D = some (.lst acc) ∧ acc.length < sizeLine ∧ Nx (L2.upd H4 D (.lst (acc ++ [y]))) else Nx H3) := by
  have hDS := s0.free nD
  have fD : Fresh H0 D := e0.fresh nD hDS
  have hlx := hes.len
  refine lc_tup (K := K) (a := a) (xs := xs) (fun i H => LcS T S H0 D (ds.take i) H) ⟨e0.new nD, s0.upd hDS, [], upd_same, .nil⟩ (fun i H _ L => (L.ex.tups _ _ ha).sq) (fun i x H hx L => ?_) fun H L => ?_
  · obtain ⟨e, he, hxe⟩ := hes.get hx
    have hi : i < ds.length := by
      have := (List.getElem?_eq_some_iff.mp hx).1
      omega
    have hdi : ds[i]? = some ds[i] := List.getElem?_eq_getElem hi
    have q := step i x e ds[i] H (fun y H4 => ∃ acc, H4 D = some (.lst acc) ∧ acc.length < sizeLine ∧ LcS T S H0 D (ds.take (i + 1)) (L2.upd H4 D (.lst (acc ++ [y])))) hx he hdi L.ex L.sr (hxe.mono L.ex.tups) fun y H4 e4 s4 hy => by
      rw [List.take_add_one, hdi]
      exact L.more fD hDS e4 s4 hy (by rw [List.length_take]; omega)
    exact q
  · obtain ⟨acc, h1, h2⟩ := L.at_
    rw [hlx, ← hl, List.take_length] at h2
    exact hd H acc L.ex L.sr h1 h2
end
/-- the same two, the machine named outright: for what stands within a comprehension -/
theorem pe_tupleK {X : Cx} {K : PySem.W.Frag} {a : Expr} {ta : TE} {p pos : Pos} (hK : X.K = K) (hg : Gl X "tuple") (hm : X.mg "tuple" = none) (ha : PE X a ta) (na : starEach [a] X.env = (false, eval a X.env) :: starEach [] X.env := by rfl) :
    PE X (.Call (.Name "tuple" p) [a] [] pos) (tThen ta (kTupF K)) := by
  subst hK
  exact pe_tupleF hg hm ha na
theorem pe_vlK {X : Cx} {P : Program} {w : World} {K : PySem.W.Frag} {mg : Str → Option Value} {base : Heap} {j i : Nat} {x : Str} {E : L2.St → XK} {p pos : Pos} {e : Expr} {es : List Expr} {t : TA} (hq : X.prog = P ∧ X.w = w ∧ X.K = K ∧ X.mg = mg ∧ X.base = base)
    (hr : RoomG j X.A) (hN : X.N[i]? = some x) (hv : Vis X.env.scope x) (hx : ∀ σ, PassesAt (L2N.CX X.prog X.w) X σ (E σ)) (ha : PA X (e :: es) t)
    (hdb : (x == ("__debug__" : Str)) = false := by decide) (hcd : (x == ("__classdict__" : Str)) = false := by decide)
    (hst : starEach (e :: es) X.env = (false, eval e X.env) :: starEach es X.env := by rfl) (hpl : (backTo pos (starEach es X.env)).any (·.1) = false := by rfl) :
    PE X (.Call (.Name x p) (e :: es) [] pos) (tCallF P w K mg base j i E t) := by
  obtain ⟨rfl, rfl, rfl, rfl, rfl⟩ := hq
  exact pe_vl hr hN hv hx ha hdb hcd hst hpl
theorem pi_tupK {X : Cx} {K : PySem.W.Frag} {tg l : Expr} {tl : TE} (hK : X.K = K) (hl : PE X l tl) : PI X tg l (iTup K tl) := by
  subst hK
  exact pi_tup hl
section
variable {T : List (Addr × Str)} {S : List Addr} {H0 H1 : Hp} {D : Addr} {g : TG} {te : TE} {vs : List Nat} {σ : L2.St} {Qd : Hp → Prop}
/-- over a tuple of data, each element one of several -/
theorem lc_tupP {K : PySem.W.Frag} {a : Addr} {xs : List V} {es : List PyData} (ok : PyData → Prop) (e0 : Ex T S H0 H1) (s0 : Srcs S H1) (nD : H1 D = none) (ha : Tp H0 a xs) (hes : TdAll H0 xs es) (hn : xs.length < sizeLine)
    (step : ∀ (i : Nat) (x : V) (e : PyData) (H' : Hp) (Q' : VK), xs[i]? = some x → es[i]? = some e → Ex T S H0 H' → Srcs S H' → Td H' x e → (∀ y d H4, Ex T S H' H4 → Srcs S H4 → Td H4 y d → ok d → Q' y H4) → g x (wipe σ vs) H' fun σ2 H2 => wipe σ2 vs = wipe σ vs ∧ te σ2 H2 Q')
    (hd : ∀ H' acc ds, Ex T S H0 H' → Srcs S H' → H' D = some (.lst acc) → TdAll H' acc ds → ds.length = es.length → (∀ d ∈ ds, ok d) → Qd H') :
    ∃ W : Nat → Nat → Hp → Prop, (∃ m, W 0 m (L2.upd H1 D (.lst []))) ∧ ∀ i m H, W i m H →
      ((Itt K a).stop i H ∧ Qd H) ∨ ((Itt K a).go i H ∧ ∃ Nx : Hp → Prop, (∀ H', Nx H' → ∃ m', m' < m ∧ W (i + 1) m' H') ∧ ∀ x H', (Itt K a).yld i H x H' → g x (wipe σ vs) H' fun σ2 H2 => wipe σ2 vs = wipe σ vs ∧ tYes σ2 H2 fun b H3 =>
        if b = true then te σ2 H3 fun y H4 => ∃ acc, H4 D = some (.lst acc) ∧ acc.length < sizeLine ∧ Nx (L2.upd H4 D (.lst (acc ++ [y]))) else Nx H3) := by
  have hDS := s0.free nD
  have fD : Fresh H0 D := e0.fresh nD hDS
  have hlx := hes.len
  refine lc_tup (K := K) (a := a) (xs := xs) (fun i H => ∃ ds : List PyData, ds.length = i ∧ (∀ d ∈ ds, ok d) ∧ LcS T S H0 D ds H) ⟨[], rfl, by simp, e0.new nD, s0.upd hDS, [], upd_same, .nil⟩ ?_ (fun i x H hx L => ?_) fun H L => ?_
  · rintro i H _ ⟨ds, _, _, L⟩
    exact (L.ex.tups _ _ ha).sq
  · obtain ⟨ds, hl, hok, L⟩ := L
    obtain ⟨e, he, hxe⟩ := hes.get hx
    have hi : i < xs.length := (List.getElem?_eq_some_iff.mp hx).1
    have q := step i x e H (fun y H4 => ∃ acc, H4 D = some (.lst acc) ∧ acc.length < sizeLine ∧ ∃ ds : List PyData, ds.length = i + 1 ∧ (∀ d ∈ ds, ok d) ∧ LcS T S H0 D ds (L2.upd H4 D (.lst (acc ++ [y])))) hx he L.ex L.sr (hxe.mono L.ex.tups) fun y d H4 e4 s4 hy hkd => by
      obtain ⟨acc, g1, g2, g3⟩ := L.more fD hDS e4 s4 hy (by omega)
      refine ⟨acc, g1, g2, ds ++ [d], by simp [hl], fun z hz => ?_, g3⟩
      rcases List.mem_append.mp hz with hz | hz
      · exact hok z hz
      · rw [List.mem_singleton.mp hz]
        exact hkd
    exact q
  · obtain ⟨ds, hl, hok, L⟩ := L
    obtain ⟨acc, h1, h2⟩ := L.at_
    exact hd H acc ds L.ex L.sr h1 h2 (hl.trans hlx) hok
end
end Ed

set_option Elab.async false
set_option linter.all false
set_option maxRecDepth 100000
set_option maxHeartbeats 4000000
/-! Ed: the suite of an except clause; all with the machine named outright. -/
namespace Ed
open PySem PySem.Spec PyProof.Rows L2
theorem call_isErrK {X : Cx} {K : PySem.W.Frag} {a : Addr} {cls : Value} {d : Option Addr} {oe : Obj} {pn : List (Addr × Obj)} (hK : X.K = K) (hz : Zc cls d oe) (hf : ∃ vs, oe.data = .fields vs) :
    CallR (X.suite a ((a, oe) :: pn)) (.builtin "isinstance") (fun xs H Q => ∃ (c : V) (cv : Value) (b : Bool) (D dd : Addr) (fs : List (Str × V)), xs = [.ref a, c] ∧ cls = .ref D ∧ d = some dd ∧ PySem.W.ErrC K D ∧ H dd = some (.xd fs) ∧ (∀ u, RelV c u → u = cv) ∧ PySem.W.kitOne K (.ref D) cv = some b ∧ Q (.bl b) H) := by
  intro pins s σ H xs us Q I r h
  obtain ⟨c, cv, b, D, dd, fs, e1, rfl, rfl, C, e2, e3, e4, q⟩ := h
  subst hK
  exact call_isErr (fs := fs) C hz hf pins s σ H xs us Q I r ⟨c, cv, b, e1, e2, e3, e4, q⟩
theorem call_reprK {X : Cx} {K : PySem.W.Frag} (hK : X.K = K) (hg : X.A.guards = some []) (hu : X.A.units + 65 < cLine) : CallR X (.builtin "repr") (rRepr K) := by
  subst hK
  exact call_repr hg hu
theorem pe_vl0K {X : Cx} {P : Program} {w : World} {K : PySem.W.Frag} {mg : Str → Option Value} {base : Heap} {j i : Nat} {x : Str} {E : L2.St → XK} {p pos : Pos} (hq : X.prog = P ∧ X.w = w ∧ X.K = K ∧ X.mg = mg ∧ X.base = base)
    (hr : RoomG j X.A) (hN : X.N[i]? = some x) (hv : Vis X.env.scope x) (hx : ∀ σ, PassesAt (L2N.CX X.prog X.w) X σ (E σ))
    (hdb : (x == ("__debug__" : Str)) = false := by decide) (hcd : (x == ("__classdict__" : Str)) = false := by decide) :
    PE X (.Call (.Name x p) [] [] pos) (tCallF P w K mg base j i E tNil) := by
  obtain ⟨rfl, rfl, rfl, rfl, rfl⟩ := hq
  exact pe_vl0 hr hN hv hx hdb hcd
theorem xfc_of {K : PySem.W.Frag} {D : Addr} (C : PySem.W.ErrC K D) : XfC K D := ⟨C.ga, C.gg, C.su, C.hd⟩
end Ed

set_option Elab.async false
set_option linter.all false
set_option maxRecDepth 100000
set_option maxHeartbeats 4000000
/-! Ed: what repr shows of small data; lists of flat values by comprehension. -/
namespace Ed
open PySem PySem.Spec PyProof.Rows L2
/-- data that repr shows -/
structure Sh (d : PyData) : Prop where
  sho : d.showable = true
  nod : d.hasDict = false
  dep : d.depth ≤ 60
  len : d.shown.length ≤ sizeLine
/-- small data: depth at most p, text of at most q letters -/
structure ShB (p q : Nat) (d : PyData) : Prop where
  sho : d.showable = true
  nod : d.hasDict = false
  dep : d.depth ≤ p
  len : d.shown.length ≤ q
theorem ShB.sh {p q : Nat} {d : PyData} (h : ShB p q d) (hp : p ≤ 60) (hq : q ≤ 16777216) : Sh d := ⟨h.sho, h.nod, Nat.le_trans h.dep hp, Nat.le_trans h.len hq⟩
theorem ShB.mono {p q p' q' : Nat} {d : PyData} (h : ShB p q d) (hp : p ≤ p') (hq : q ≤ q') : ShB p' q' d := ⟨h.sho, h.nod, Nat.le_trans h.dep hp, Nat.le_trans h.len hq⟩
theorem shAll {p q : Nat} : ∀ {ds : List PyData}, (∀ d ∈ ds, ShB p q d) → PyData.showableAll ds = true ∧ PyData.hasDictAll ds = false ∧ PyData.depthAll ds ≤ p ∧ ((PyData.shownAll ds).map (·.length)).sum ≤ ds.length * q ∧ (PyData.shownAll ds).length = ds.length
  | [], _ => ⟨by simp [PyData.showableAll], by simp [PyData.hasDictAll], by simp [PyData.depthAll], by simp [PyData.shownAll], by simp [PyData.shownAll]⟩
  | d :: ds, h => by
    obtain ⟨h1, h2, h3, h4, h5⟩ := shAll fun x hx => h x (List.mem_cons_of_mem _ hx)
    have z := h d List.mem_cons_self
    refine ⟨by rw [PyData.showableAll, z.sho, h1]; rfl, by rw [PyData.hasDictAll, z.nod, h2]; rfl, ?_, ?_, ?_⟩
    · rw [PyData.depthAll]
      exact Nat.max_le.mpr ⟨z.dep, h3⟩
    · rw [PyData.shownAll, List.map_cons, List.sum_cons, List.length_cons, Nat.add_mul, Nat.one_mul]
      have := z.len
      omega
    · rw [PyData.shownAll, List.length_cons, h5, List.length_cons]
theorem shTup {p q : Nat} {ds : List PyData} (h : ∀ d ∈ ds, ShB p q d) : ShB (p + 1) (ds.length * q + 2 * ds.length + 3) (.tuple ds) := by
  obtain ⟨h1, h2, h3, h4, h5⟩ := shAll h
  refine ⟨by rw [PyData.showable]; exact h1, by rw [PyData.hasDict]; exact h2, by rw [PyData.depth]; omega, ?_⟩
  rw [PyData.shown]
  have := tupleText_len_le (PyData.shownAll ds)
  omega
theorem shTupN {p q n : Nat} {ds : List PyData} (h : ∀ d ∈ ds, ShB p q d) (hn : ds.length ≤ n) : ShB (p + 1) (n * q + 2 * n + 3) (.tuple ds) := by
  refine (shTup h).mono (Nat.le_refl _) ?_
  have : ds.length * q ≤ n * q := Nat.mul_le_mul_right q hn
  omega
theorem shInt {i : Int} (h0 : 0 ≤ i) (h1 : i ≤ 12) : ShB 0 4 (.int i) := by
  obtain ⟨n, rfl⟩ := Int.eq_ofNat_of_zero_le h0
  have a1 : ∀ n : Fin 13, (PyData.int (n.val : Int)).showable = true := by decide +kernel
  have a2 : ∀ n : Fin 13, (PyData.int (n.val : Int)).shown.length ≤ 4 := by decide +kernel
  have hn : n < 13 := by omega
  exact ⟨a1 ⟨n, hn⟩, by rw [PyData.hasDict], by rw [PyData.depth]; omega, a2 ⟨n, hn⟩⟩
theorem shNon : ShB 0 4 .none := ⟨by decide +kernel, by decide +kernel, by decide +kernel, by decide +kernel⟩
section
variable {T : List (Addr × Str)} {S : List Addr} {H0 H1 : Hp} {D : Addr} {g : TG} {te : TE} {vs : List Nat} {σ : L2.St} {Qd : Hp → Prop}
structure LcF (T : List (Addr × Str)) (S : List Addr) (H0 : Hp) (D : Addr) (ok : V → Prop) (i : Nat) (H : Hp) : Prop where
  ex : Ex T S H0 H
  sr : Srcs S H
  at_ : ∃ acc : List V, H D = some (.lst acc) ∧ acc.length = i ∧ ∀ y ∈ acc, ok y
theorem LcF.more {H H4 : Hp} {ok : V → Prop} {i : Nat} {y : V} (L : LcF T S H0 D ok i H) (fD : Fresh H0 D) (nD : D ∉ S) (e4 : Ex T S H H4) (s4 : Srcs S H4) (hy : ok y) (sz : i < sizeLine) :
    ∃ acc, H4 D = some (.lst acc) ∧ acc.length < sizeLine ∧ LcF T S H0 D ok (i + 1) (L2.upd H4 D (.lst (acc ++ [y]))) := by
  obtain ⟨acc, hacc, hl, hok⟩ := L.at_
  have h4 := e4.at_lst nD hacc
  refine ⟨acc, h4, by omega, (L.ex.trans e4).put h4 (.inr fD), s4.upd nD, _, upd_same, by simp [hl], fun z hz => ?_⟩
  rcases List.mem_append.mp hz with hz | hz
  · exact hok z hz
  · rw [List.mem_singleton.mp hz]
    exact hy
/-- over a range, flat values -/
theorem lc_rangeV {lo : Int} {n : Nat} (ok : V → Prop) (e0 : Ex T S H0 H1) (s0 : Srcs S H1) (nD : H1 D = none) (hn : n < sizeLine)
    (step : ∀ (i : Nat) (H' : Hp) (Q' : VK), i < n → Ex T S H0 H' → Srcs S H' → (∀ y H4, Ex T S H' H4 → Srcs S H4 → ok y → Q' y H4) → g (.int (lo + i)) (wipe σ vs) H' fun σ2 H2 => wipe σ2 vs = wipe σ vs ∧ te σ2 H2 Q')
    (hd : ∀ H' acc, Ex T S H0 H' → Srcs S H' → H' D = some (.lst acc) → acc.length = n → (∀ y ∈ acc, ok y) → Qd H') :
    ∃ W : Nat → Nat → Hp → Prop, (∃ m, W 0 m (L2.upd H1 D (.lst []))) ∧ ∀ i m H, W i m H →
      ((Itr lo n).stop i H ∧ Qd H) ∨ ((Itr lo n).go i H ∧ ∃ Nx : Hp → Prop, (∀ H', Nx H' → ∃ m', m' < m ∧ W (i + 1) m' H') ∧ ∀ x H', (Itr lo n).yld i H x H' → g x (wipe σ vs) H' fun σ2 H2 => wipe σ2 vs = wipe σ vs ∧ tYes σ2 H2 fun b H3 =>
        if b = true then te σ2 H3 fun y H4 => ∃ acc, H4 D = some (.lst acc) ∧ acc.length < sizeLine ∧ Nx (L2.upd H4 D (.lst (acc ++ [y]))) else Nx H3) := by
  have hDS := s0.free nD
  have fD : Fresh H0 D := e0.fresh nD hDS
  refine lc_range (lo := lo) (n := n) (fun i H => LcF T S H0 D ok i H) ⟨e0.new nD, s0.upd hDS, [], upd_same, rfl, by simp⟩ (fun i H hi L => ?_) fun H L => ?_
  · have q := step i H (fun y H4 => ∃ acc, H4 D = some (.lst acc) ∧ acc.length < sizeLine ∧ LcF T S H0 D ok (i + 1) (L2.upd H4 D (.lst (acc ++ [y])))) hi L.ex L.sr fun y H4 e4 s4 hy => L.more fD hDS e4 s4 hy (by omega)
    exact q
  · obtain ⟨acc, h1, h2, h3⟩ := L.at_
    exact hd H acc L.ex L.sr h1 h2 h3
/-- over a list, flat values -/
theorem lc_listV {K : PySem.W.Frag} {a : Addr} {xs : List V} (ok : V → Prop) (e0 : Ex T S H0 H1) (s0 : Srcs S H1) (nD : H1 D = none) (ha : SqL K H0 a xs) (haS : a ∉ S) (hn : xs.length < sizeLine)
    (step : ∀ (i : Nat) (x : V) (H' : Hp) (Q' : VK), xs[i]? = some x → Ex T S H0 H' → Srcs S H' → (∀ y H4, Ex T S H' H4 → Srcs S H4 → ok y → Q' y H4) → g x (wipe σ vs) H' fun σ2 H2 => wipe σ2 vs = wipe σ vs ∧ te σ2 H2 Q')
    (hd : ∀ H' acc, Ex T S H0 H' → Srcs S H' → H' D = some (.lst acc) → acc.length = xs.length → (∀ y ∈ acc, ok y) → Qd H') :
    ∃ W : Nat → Nat → Hp → Prop, (∃ m, W 0 m (L2.upd H1 D (.lst []))) ∧ ∀ i m H, W i m H →
      ((Itl K a).stop i H ∧ Qd H) ∨ ((Itl K a).go i H ∧ ∃ Nx : Hp → Prop, (∀ H', Nx H' → ∃ m', m' < m ∧ W (i + 1) m' H') ∧ ∀ x H', (Itl K a).yld i H x H' → g x (wipe σ vs) H' fun σ2 H2 => wipe σ2 vs = wipe σ vs ∧ tYes σ2 H2 fun b H3 =>
        if b = true then te σ2 H3 fun y H4 => ∃ acc, H4 D = some (.lst acc) ∧ acc.length < sizeLine ∧ Nx (L2.upd H4 D (.lst (acc ++ [y]))) else Nx H3) := by
  have hDS := s0.free nD
  have fD : Fresh H0 D := e0.fresh nD hDS
  refine lc_list (K := K) (a := a) (xs := xs) (fun i H => LcF T S H0 D ok i H) ⟨e0.new nD, s0.upd hDS, [], upd_same, rfl, by simp⟩ (fun i H _ L => L.ex.seq haS ha) (fun i x H hx L => ?_) fun H L => ?_
  · have hi : i < xs.length := (List.getElem?_eq_some_iff.mp hx).1
    have q := step i x H (fun y H4 => ∃ acc, H4 D = some (.lst acc) ∧ acc.length < sizeLine ∧ LcF T S H0 D ok (i + 1) (L2.upd H4 D (.lst (acc ++ [y])))) hx L.ex L.sr fun y H4 e4 s4 hy => L.more fD hDS e4 s4 hy (by omega)
    exact q
  · obtain ⟨acc, h1, h2, h3⟩ := L.at_
    exact hd H acc L.ex L.sr h1 h2 h3
end
theorem pi_listK {X : Cx} {K : PySem.W.Frag} {tg l : Expr} {tl : TE} (hK : X.K = K) (hl : PE X l tl) : PI X tg l (iList K tl) := by
  subst hK
  exact pi_list hl
theorem ix_seqK {X : Cx} {K : PySem.W.Frag} (hK : X.K = K) : IxR X (rIx K) := by
  subst hK
  exact ix_seq
end Ed

set_option Elab.async false
set_option linter.all false
set_option maxRecDepth 100000
set_option maxHeartbeats 4000000
/-! where each def of the text stands, and what the top leaves -/
namespace Ed
open PySem PySem.Spec PyProof.Rows L2
def topS (i : Nat) : Stmt := PySem.Challenge.pw_editlots_k25_fields_and_records.main.body.getD i (.Pass ⟨0, 0, 0, 0⟩)
abbrev s_whole : Stmt := topS 6
abbrev n_whole : List Str := ["thing"]
theorem sc_whole : FnScope n_whole ["thing"] (defScope s_whole) := ⟨rfl, rfl, rfl, by decide +kernel, rfl, by decide +kernel, by decide +kernel⟩
abbrev s_whole_between : Stmt := topS 7
abbrev n_whole_between : List Str := ["thing", "low", "high"]
theorem sc_whole_between : FnScope n_whole_between ["thing", "low", "high"] (defScope s_whole_between) := ⟨rfl, rfl, rfl, by decide +kernel, rfl, by decide +kernel, by decide +kernel⟩
abbrev s_tuple_between : Stmt := topS 8
abbrev n_tuple_between : List Str := ["thing", "least", "most"]
theorem sc_tuple_between : FnScope n_tuple_between ["thing", "least", "most"] (defScope s_tuple_between) := ⟨rfl, rfl, rfl, by decide +kernel, rfl, by decide +kernel, by decide +kernel⟩
abbrev s_made_kind : Stmt := topS 12
abbrev n_made_kind : List Str := ["thing", "wrong"]
theorem sc_made_kind : FnScope n_made_kind ["thing"] (defScope s_made_kind) := ⟨rfl, rfl, rfl, by decide +kernel, rfl, by decide +kernel, by decide +kernel⟩
abbrev s_is_kind : Stmt := topS 13
abbrev n_is_kind : List Str := ["thing"]
theorem sc_is_kind : FnScope n_is_kind ["thing"] (defScope s_is_kind) := ⟨rfl, rfl, rfl, by decide +kernel, rfl, by decide +kernel, by decide +kernel⟩
abbrev s_wrong_kind : Stmt := topS 14
abbrev n_wrong_kind : List Str := ["thing", "sizes", "hands", "size"]
theorem sc_wrong_kind : FnScope n_wrong_kind ["thing"] (defScope s_wrong_kind) := ⟨rfl, rfl, rfl, by decide +kernel, rfl, by decide +kernel, by decide +kernel⟩
abbrev s_hands_fit : Stmt := topS 15
abbrev n_hands_fit : List Str := ["sizes", "hands", "hand"]
theorem sc_hands_fit : FnScope n_hands_fit ["sizes", "hands"] (defScope s_hands_fit) := ⟨rfl, rfl, rfl, by decide +kernel, rfl, by decide +kernel, by decide +kernel⟩
abbrev s_amount_fits : Stmt := topS 16
abbrev n_amount_fits : List Str := ["sizes", "thing", "size", "part"]
theorem sc_amount_fits : FnScope n_amount_fits ["sizes", "thing"] (defScope s_amount_fits) := ⟨rfl, rfl, rfl, by decide +kernel, rfl, by decide +kernel, by decide +kernel⟩
abbrev s_made_fields : Stmt := topS 19
abbrev n_made_fields : List Str := ["thing", "wrong"]
theorem sc_made_fields : FnScope n_made_fields ["thing"] (defScope s_made_fields) := ⟨rfl, rfl, rfl, by decide +kernel, rfl, by decide +kernel, by decide +kernel⟩
abbrev s_made_record : Stmt := topS 20
abbrev n_made_record : List Str := ["fields", "thing"]
theorem sc_made_record : FnScope n_made_record ["fields", "thing"] (defScope s_made_record) := ⟨rfl, rfl, rfl, by decide +kernel, rfl, by decide +kernel, by decide +kernel⟩
abbrev s_wrong_fields : Stmt := topS 21
abbrev n_wrong_fields : List Str := ["thing", "field", "kind"]
theorem sc_wrong_fields : FnScope n_wrong_fields ["thing"] (defScope s_wrong_fields) := ⟨rfl, rfl, rfl, by decide +kernel, rfl, by decide +kernel, by decide +kernel⟩
abbrev s_check_record : Stmt := topS 22
abbrev n_check_record : List Str := ["fields", "thing", "field", "_", "hands"]
theorem sc_check_record : FnScope n_check_record ["fields", "thing"] (defScope s_check_record) := ⟨rfl, rfl, rfl, by decide +kernel, rfl, by decide +kernel, by decide +kernel⟩
abbrev s__law_pool : Stmt := topS 24
abbrev n__law_pool : List Str := ["script", "k", "cell", "big", "mixed"]
theorem sc__law_pool : FnScope n__law_pool ["script", "k"] (defScope s__law_pool) := ⟨rfl, rfl, rfl, by decide +kernel, rfl, by decide +kernel, by decide +kernel⟩
abbrev s__law_take : Stmt := topS 25
abbrev n__law_take : List Str := ["source", "top", "drawn"]
theorem sc__law_take : FnScope n__law_take ["source", "top"] (defScope s__law_take) := ⟨rfl, rfl, rfl, by decide +kernel, rfl, by decide +kernel, by decide +kernel⟩
abbrev s__law_one : Stmt := topS 26
abbrev n__law_one : List Str := ["source", "things"]
theorem sc__law_one : FnScope n__law_one ["source", "things"] (defScope s__law_one) := ⟨rfl, rfl, rfl, by decide +kernel, rfl, by decide +kernel, by decide +kernel⟩
abbrev s__law_mixed : Stmt := topS 27
abbrev n__law_mixed : List Str := ["source", "things", "rest", "found", "at"]
theorem sc__law_mixed : FnScope n__law_mixed ["source", "things"] (defScope s__law_mixed) := ⟨rfl, rfl, rfl, by decide +kernel, rfl, by decide +kernel, by decide +kernel⟩
abbrev s__law_v_all_amounts : Stmt := topS 28
abbrev n__law_v_all_amounts : List Str := ["sizes", "found", "size", "longer", "one", "number"]
theorem sc__law_v_all_amounts : FnScope n__law_v_all_amounts ["sizes"] (defScope s__law_v_all_amounts) := ⟨rfl, rfl, rfl, by decide +kernel, rfl, by decide +kernel, by decide +kernel⟩
abbrev s__law_v_sizes : Stmt := topS 29
abbrev n__law_v_sizes : List Str := ["source", "place"]
theorem sc__law_v_sizes : FnScope n__law_v_sizes ["source"] (defScope s__law_v_sizes) := ⟨rfl, rfl, rfl, by decide +kernel, rfl, by decide +kernel, by decide +kernel⟩
abbrev s__law_v_kind : Stmt := topS 30
abbrev n__law_v_kind : List Str := ["source", "top", "sizes", "every", "held"]
theorem sc__law_v_kind : FnScope n__law_v_kind ["source", "top"] (defScope s__law_v_kind) := ⟨rfl, rfl, rfl, by decide +kernel, rfl, by decide +kernel, by decide +kernel⟩
abbrev s__law_v_fields : Stmt := topS 31
abbrev n__law_v_fields : List Str := ["source", "top", "states_top", "field"]
theorem sc__law_v_fields : FnScope n__law_v_fields ["source", "top", "states_top"] (defScope s__law_v_fields) := ⟨rfl, rfl, rfl, by decide +kernel, rfl, by decide +kernel, by decide +kernel⟩
abbrev s__law_v_some_record : Stmt := topS 32
abbrev n__law_v_some_record : List Str := ["source", "sorts", "sort"]
theorem sc__law_v_some_record : FnScope n__law_v_some_record ["source", "sorts"] (defScope s__law_v_some_record) := ⟨rfl, rfl, rfl, by decide +kernel, rfl, by decide +kernel, by decide +kernel⟩
abbrev s__law_is_whole : Stmt := topS 33
abbrev n__law_is_whole : List Str := ["thing", "low"]
theorem sc__law_is_whole : FnScope n__law_is_whole ["thing", "low"] (defScope s__law_is_whole) := ⟨rfl, rfl, rfl, by decide +kernel, rfl, by decide +kernel, by decide +kernel⟩
abbrev s__law_is_hand : Stmt := topS 34
abbrev n__law_is_hand : List Str := ["sizes", "thing", "k"]
theorem sc__law_is_hand : FnScope n__law_is_hand ["sizes", "thing"] (defScope s__law_is_hand) := ⟨rfl, rfl, rfl, by decide +kernel, rfl, by decide +kernel, by decide +kernel⟩
abbrev s__law_wrong_kind : Stmt := topS 35
abbrev n__law_wrong_kind : List Str := ["thing", "sizes", "hands", "one", "hand", "at"]
theorem sc__law_wrong_kind : FnScope n__law_wrong_kind ["thing"] (defScope s__law_wrong_kind) := ⟨rfl, rfl, rfl, by decide +kernel, rfl, by decide +kernel, by decide +kernel⟩
abbrev s__law_wrong_fields : Stmt := topS 36
abbrev n__law_wrong_fields : List Str := ["thing", "at"]
theorem sc__law_wrong_fields : FnScope n__law_wrong_fields ["thing"] (defScope s__law_wrong_fields) := ⟨rfl, rfl, rfl, by decide +kernel, rfl, by decide +kernel, by decide +kernel⟩
abbrev s__law_wrong_record : Stmt := topS 37
abbrev n__law_wrong_record : List Str := ["sorts", "thing", "at"]
theorem sc__law_wrong_record : FnScope n__law_wrong_record ["sorts", "thing"] (defScope s__law_wrong_record) := ⟨rfl, rfl, rfl, by decide +kernel, rfl, by decide +kernel, by decide +kernel⟩
abbrev s__law_odd_kind : Stmt := topS 38
abbrev n__law_odd_kind : List Str := ["source", "kind", "sizes", "hands", "at", "far", "some", "k"]
theorem sc__law_odd_kind : FnScope n__law_odd_kind ["source", "kind"] (defScope s__law_odd_kind) := ⟨rfl, rfl, rfl, by decide +kernel, rfl, by decide +kernel, by decide +kernel⟩
abbrev s__law_heard : Stmt := topS 39
abbrev n__law_heard : List Str := ["call", "fault", "words", "word"]
theorem sc__law_heard : FnScope n__law_heard ["call"] (defScope s__law_heard) := ⟨rfl, rfl, rfl, by decide +kernel, rfl, by decide +kernel, by decide +kernel⟩
abbrev s__law_due : Stmt := topS 40
abbrev n__law_due : List Str := ["word", "wrong", "thing"]
theorem sc__law_due : FnScope n__law_due ["word", "wrong", "thing"] (defScope s__law_due) := ⟨rfl, rfl, rfl, by decide +kernel, rfl, by decide +kernel, by decide +kernel⟩
abbrev s__law_kind_right : Stmt := topS 41
abbrev n__law_kind_right : List Str := ["thing", "wrong"]
theorem sc__law_kind_right : FnScope n__law_kind_right ["thing"] (defScope s__law_kind_right) := ⟨rfl, rfl, rfl, by decide +kernel, rfl, by decide +kernel, by decide +kernel⟩
abbrev s__law_fields_right : Stmt := topS 42
abbrev n__law_fields_right : List Str := ["thing"]
theorem sc__law_fields_right : FnScope n__law_fields_right ["thing"] (defScope s__law_fields_right) := ⟨rfl, rfl, rfl, by decide +kernel, rfl, by decide +kernel, by decide +kernel⟩
abbrev s__law_record_right : Stmt := topS 43
abbrev n__law_record_right : List Str := ["sorts", "thing", "wrong", "due"]
theorem sc__law_record_right : FnScope n__law_record_right ["sorts", "thing"] (defScope s__law_record_right) := ⟨rfl, rfl, rfl, by decide +kernel, rfl, by decide +kernel, by decide +kernel⟩
abbrev s_law : Stmt := topS 44
abbrev n_law : List Str := ["script", "source", "sorts", "line", "turn", "at", "odd", "bent", "many", "state", "wrong", "thing"]
theorem sc_law : FnScope n_law ["script"] (defScope s_law) := ⟨rfl, rfl, rfl, by decide +kernel, rfl, by decide +kernel, by decide +kernel⟩
abbrev k_Refused : Stmt := topS 1
abbrev k_BadKind : Stmt := topS 2
abbrev k_BadFields : Stmt := topS 3
abbrev k_BadRecord : Stmt := topS 4
/-- where the classes stand, and the __init__ of the first -/
structure Cl where
  Refused : Addr
  BadKind : Addr
  BadFields : Addr
  BadRecord : Addr
  ini : Addr
theorem q__law_kind_right : ((("_law_kind_right" : Str) ++ ".<locals>.") ++ "<lambda>") = ("_law_kind_right.<locals>.<lambda>" : Str) := by decide +kernel
theorem q__law_fields_right : ((("_law_fields_right" : Str) ++ ".<locals>.") ++ "<lambda>") = ("_law_fields_right.<locals>.<lambda>" : Str) := by decide +kernel
theorem q__law_record_right : ((("_law_record_right" : Str) ++ ".<locals>.") ++ "<lambda>") = ("_law_record_right.<locals>.<lambda>" : Str) := by decide +kernel
/-- what the top has written: each def, the names of the built-in ones, the constants -/
structure Txt (K : PySem.W.Frag) (mg : Str → Option Value) (base : Heap) (T : List (Addr × Str)) (c : Cl) : Prop where
  d_whole : ∃ (f : Addr) (cd : Value), DefAt K mg "whole" "whole" s_whole ["thing"] f cd ∧ mg "whole" = some (.ref f)
  d_whole_between : ∃ (f : Addr) (cd : Value), DefAt K mg "whole_between" "whole_between" s_whole_between ["thing", "low", "high"] f cd ∧ mg "whole_between" = some (.ref f)
  d_tuple_between : ∃ (f : Addr) (cd : Value), DefAt K mg "tuple_between" "tuple_between" s_tuple_between ["thing", "least", "most"] f cd ∧ mg "tuple_between" = some (.ref f)
  d_made_kind : ∃ (f : Addr) (cd : Value), DefAt K mg "made_kind" "made_kind" s_made_kind ["thing"] f cd ∧ mg "made_kind" = some (.ref f)
  d_is_kind : ∃ (f : Addr) (cd : Value), DefAt K mg "is_kind" "is_kind" s_is_kind ["thing"] f cd ∧ mg "is_kind" = some (.ref f)
  d_wrong_kind : ∃ (f : Addr) (cd : Value), DefAt K mg "wrong_kind" "wrong_kind" s_wrong_kind ["thing"] f cd ∧ mg "wrong_kind" = some (.ref f)
  d_hands_fit : ∃ (f : Addr) (cd : Value), DefAt K mg "hands_fit" "hands_fit" s_hands_fit ["sizes", "hands"] f cd ∧ mg "hands_fit" = some (.ref f)
  d_amount_fits : ∃ (f : Addr) (cd : Value), DefAt K mg "amount_fits" "amount_fits" s_amount_fits ["sizes", "thing"] f cd ∧ mg "amount_fits" = some (.ref f)
  d_made_fields : ∃ (f : Addr) (cd : Value), DefAt K mg "made_fields" "made_fields" s_made_fields ["thing"] f cd ∧ mg "made_fields" = some (.ref f)
  d_made_record : ∃ (f : Addr) (cd : Value), DefAt K mg "made_record" "made_record" s_made_record ["fields", "thing"] f cd ∧ mg "made_record" = some (.ref f)
  d_wrong_fields : ∃ (f : Addr) (cd : Value), DefAt K mg "wrong_fields" "wrong_fields" s_wrong_fields ["thing"] f cd ∧ mg "wrong_fields" = some (.ref f)
  d_check_record : ∃ (f : Addr) (cd : Value), DefAt K mg "check_record" "check_record" s_check_record ["fields", "thing"] f cd ∧ mg "check_record" = some (.ref f)
  d__law_pool : ∃ (f : Addr) (cd : Value), DefAt K mg "_law_pool" "_law_pool" s__law_pool ["script", "k"] f cd ∧ mg "_law_pool" = some (.ref f)
  d__law_take : ∃ (f : Addr) (cd : Value), DefAt K mg "_law_take" "_law_take" s__law_take ["source", "top"] f cd ∧ mg "_law_take" = some (.ref f)
  d__law_one : ∃ (f : Addr) (cd : Value), DefAt K mg "_law_one" "_law_one" s__law_one ["source", "things"] f cd ∧ mg "_law_one" = some (.ref f)
  d__law_mixed : ∃ (f : Addr) (cd : Value), DefAt K mg "_law_mixed" "_law_mixed" s__law_mixed ["source", "things"] f cd ∧ mg "_law_mixed" = some (.ref f)
  d__law_v_all_amounts : ∃ (f : Addr) (cd : Value), DefAt K mg "_law_v_all_amounts" "_law_v_all_amounts" s__law_v_all_amounts ["sizes"] f cd ∧ mg "_law_v_all_amounts" = some (.ref f)
  d__law_v_sizes : ∃ (f : Addr) (cd : Value), DefAt K mg "_law_v_sizes" "_law_v_sizes" s__law_v_sizes ["source"] f cd ∧ mg "_law_v_sizes" = some (.ref f)
  d__law_v_kind : ∃ (f : Addr) (cd : Value), DefAt K mg "_law_v_kind" "_law_v_kind" s__law_v_kind ["source", "top"] f cd ∧ mg "_law_v_kind" = some (.ref f)
  d__law_v_fields : ∃ (f : Addr) (cd : Value), DefAt K mg "_law_v_fields" "_law_v_fields" s__law_v_fields ["source", "top", "states_top"] f cd ∧ mg "_law_v_fields" = some (.ref f)
  d__law_v_some_record : ∃ (f : Addr) (cd : Value), DefAt K mg "_law_v_some_record" "_law_v_some_record" s__law_v_some_record ["source", "sorts"] f cd ∧ mg "_law_v_some_record" = some (.ref f)
  d__law_is_whole : ∃ (f : Addr) (cd : Value), DefAt K mg "_law_is_whole" "_law_is_whole" s__law_is_whole ["thing", "low"] f cd ∧ mg "_law_is_whole" = some (.ref f)
  d__law_is_hand : ∃ (f : Addr) (cd : Value), DefAt K mg "_law_is_hand" "_law_is_hand" s__law_is_hand ["sizes", "thing"] f cd ∧ mg "_law_is_hand" = some (.ref f)
  d__law_wrong_kind : ∃ (f : Addr) (cd : Value), DefAt K mg "_law_wrong_kind" "_law_wrong_kind" s__law_wrong_kind ["thing"] f cd ∧ mg "_law_wrong_kind" = some (.ref f)
  d__law_wrong_fields : ∃ (f : Addr) (cd : Value), DefAt K mg "_law_wrong_fields" "_law_wrong_fields" s__law_wrong_fields ["thing"] f cd ∧ mg "_law_wrong_fields" = some (.ref f)
  d__law_wrong_record : ∃ (f : Addr) (cd : Value), DefAt K mg "_law_wrong_record" "_law_wrong_record" s__law_wrong_record ["sorts", "thing"] f cd ∧ mg "_law_wrong_record" = some (.ref f)
  d__law_odd_kind : ∃ (f : Addr) (cd : Value), DefAt K mg "_law_odd_kind" "_law_odd_kind" s__law_odd_kind ["source", "kind"] f cd ∧ mg "_law_odd_kind" = some (.ref f)
  d__law_heard : ∃ (f : Addr) (cd : Value), DefAt K mg "_law_heard" "_law_heard" s__law_heard ["call"] f cd ∧ mg "_law_heard" = some (.ref f)
  d__law_due : ∃ (f : Addr) (cd : Value), DefAt K mg "_law_due" "_law_due" s__law_due ["word", "wrong", "thing"] f cd ∧ mg "_law_due" = some (.ref f)
  d__law_kind_right : ∃ (f c P : Addr), DefAt K mg "_law_kind_right" "_law_kind_right" s__law_kind_right ["thing"] f (.ref c) ∧ mg "_law_kind_right" = some (.ref f) ∧ LamX.TabB base mg c P ∧ (P, ("_law_kind_right.<locals>.<lambda>" : Str)) ∈ T ∧ ∀ p ∈ T, p.1 = P → p.2 = ("_law_kind_right.<locals>.<lambda>" : Str)
  d__law_fields_right : ∃ (f c P : Addr), DefAt K mg "_law_fields_right" "_law_fields_right" s__law_fields_right ["thing"] f (.ref c) ∧ mg "_law_fields_right" = some (.ref f) ∧ LamX.TabB base mg c P ∧ (P, ("_law_fields_right.<locals>.<lambda>" : Str)) ∈ T ∧ ∀ p ∈ T, p.1 = P → p.2 = ("_law_fields_right.<locals>.<lambda>" : Str)
  d__law_record_right : ∃ (f c P : Addr), DefAt K mg "_law_record_right" "_law_record_right" s__law_record_right ["sorts", "thing"] f (.ref c) ∧ mg "_law_record_right" = some (.ref f) ∧ LamX.TabB base mg c P ∧ (P, ("_law_record_right.<locals>.<lambda>" : Str)) ∈ T ∧ ∀ p ∈ T, p.1 = P → p.2 = ("_law_record_right.<locals>.<lambda>" : Str)
  d_law : ∃ (f : Addr) (cd : Value), DefAt K mg "law" "law" s_law ["script"] f cd ∧ mg "law" = some (.ref f)
  n_all : mg "all" = none
  n_bool : mg "bool" = none
  n_enumerate : mg "enumerate" = none
  n_int : mg "int" = none
  n_isinstance : mg "isinstance" = none
  n_len : mg "len" = none
  n_list : mg "list" = none
  n_max : mg "max" = none
  n_min : mg "min" = none
  n_range : mg "range" = none
  n_repr : mg "repr" = none
  n_set : mg "set" = none
  n_tuple : mg "tuple" = none
  n_zip : mg "zip" = none
  g_MOST_STATES : ∃ t, mg "MOST_STATES" = some (.int 12 t)
  g_MOST_SIZES : ∃ t, mg "MOST_SIZES" = some (.int 12 t)
  g_MOST_FIELDS : ∃ t, mg "MOST_FIELDS" = some (.int 6 t)
  i_ty : PySem.W.typeIn K (.ref c.ini) = some (.type "function")
  i_fun : ∃ fd : FuncData, Fun K "__init__" "Refused.__init__" (inClass k_Refused 0) c.ini fd ∧ L2.Binds K fd ["self", "what"] []
  e_Refused : ErrK K mg "Refused" c.Refused c.ini
  e_BadKind : ErrK K mg "BadKind" c.BadKind c.ini
  e_BadFields : ErrK K mg "BadFields" c.BadFields c.ini
  e_BadRecord : ErrK K mg "BadRecord" c.BadRecord c.ini
  x_BadKind : PySem.W.exmOne K (.ref c.BadKind) (.ref c.Refused) = some true
  k_BadKind_BadKind : PySem.W.kitOne K (.ref c.BadKind) (.ref c.BadKind) = some true
  k_BadKind_BadFields : PySem.W.kitOne K (.ref c.BadKind) (.ref c.BadFields) = some false
  k_BadKind_BadRecord : PySem.W.kitOne K (.ref c.BadKind) (.ref c.BadRecord) = some false
  x_BadFields : PySem.W.exmOne K (.ref c.BadFields) (.ref c.Refused) = some true
  k_BadFields_BadKind : PySem.W.kitOne K (.ref c.BadFields) (.ref c.BadKind) = some false
  k_BadFields_BadFields : PySem.W.kitOne K (.ref c.BadFields) (.ref c.BadFields) = some true
  k_BadFields_BadRecord : PySem.W.kitOne K (.ref c.BadFields) (.ref c.BadRecord) = some false
  x_BadRecord : PySem.W.exmOne K (.ref c.BadRecord) (.ref c.Refused) = some true
  k_BadRecord_BadKind : PySem.W.kitOne K (.ref c.BadRecord) (.ref c.BadKind) = some false
  k_BadRecord_BadFields : PySem.W.kitOne K (.ref c.BadRecord) (.ref c.BadFields) = some false
  k_BadRecord_BadRecord : PySem.W.kitOne K (.ref c.BadRecord) (.ref c.BadRecord) = some true
theorem DefAt.cal {P : Program} {w : World} {K : PySem.W.Frag} {mg : Str → Option Value} {base : Heap} {x : Str} {st : Stmt} {ps : List Str} {f : Addr} {cd : Value} {k : Nat} {sp : Sp} (D : DefAt K mg x x st ps f cd) (hm : mg x = some (.ref f)) (F : FnV P w K mg base k f sp) : CalV P w K mg base k x sp := by
  obtain ⟨oc, od, kV, doc, pm, an, ct, osl, lk⟩ := D.ex
  exact ⟨f, F, hm, oc, od, _, osl, lk⟩

theorem sc_init : FnScope ["self", "what"] ["self", "what"] (defScope (inClass k_Refused 0)) := ⟨rfl, rfl, rfl, by decide +kernel, rfl, by decide +kernel, by decide +kernel⟩
theorem ok_init {P : Program} {w : World} {K : PySem.W.Frag} {mg : Str → Option Value} {base : Heap} {f : Addr} {fd : FuncData} (F : Fun K "__init__" "Refused.__init__" (inClass k_Refused 0) f fd) : FnOk P w K mg base CX0 1 f fd ["self", "what"] (spErrInit K) := by
  refine F.ok sc_init (fun vs H Q E h => ?_) (fun cdv A outer s H vs Q E hr h => ?_)
  · obtain ⟨a, C, y, nm, rfl, _⟩ := h
    rfl
  · obtain ⟨a, C, y, nm, rfl, ox, er, hnm, wh, cdd, ha, q⟩ := h
    refine ⟨_, pss_cons (ps_ost (pv 0) (pv 1)) (pss_one (ps_ost (pv 0) (pe_nm (pv 0)))), y, rfl, .ref a, rfl, a, C, rfl, ox, wh, .inl ⟨ha, fun dx hd ne => ?_⟩⟩
    have e1 : (upd (upd H dx (exd dx [(("what" : Str), y)])) a (exo a C (some dx))) a = some (exo a C (some dx)) := upd_same
    have e2 : (upd (upd H dx (exd dx [(("what" : Str), y)])) a (exo a C (some dx))) dx = some (exd dx [(("what" : Str), y)]) := (upd_ne ne).trans upd_same
    exact ⟨.ref a, rfl, a, C, dx, nm, _, rfl, er, hnm, e1, e2, .ref a, rfl, a, C, rfl, ox, cdd, .inr ⟨dx, _, e1, e2, (by show 1 ≤ 900; decide), q dx hd ne⟩⟩
end Ed

set_option Elab.async false
set_option linter.all false
set_option maxRecDepth 100000
set_option maxHeartbeats 4000000
/-! Ed: the end of a law's row by functions with room and guards. -/
namespace Ed
open PySem PySem.Spec PyProof.Rows L2
/-- a class of errors as the text has it: all that is asked of it -/
def oexB (K : PySem.W.Frag) (C : Addr) : Bool := match K.lookup C with
  | some ⟨.type "type", _, .cls cd, sl⟩ => (match cd.mro, sl.toList with
    | .ref C' :: bm, [_, _, _, _, some (.builtin n), _] => C' == C && n == "ValueError.__new__" && cd.hasDict && !cd.hasDel && PySem.HandSPX.refsVE bm
    | _, _ => false)
  | _ => false
theorem oexB_ok {K : PySem.W.Frag} {C : Addr} (q : oexB K C = true) : ∃ nm q N bs bm sn sub ab col dd k0 k1 k2 k3 k5, K.lookup C = some (excClassObj nm q C N bs bm true sn sub ab col dd k0 k1 k2 k3 k5 "ValueError.__new__") ∧ PySem.HandSPX.refsVE bm = true := by
  unfold oexB at q
  split at q
  · rename_i dd cd sl ho
    split at q
    · rename_i C' bm k0 k1 k2 k3 n k5 hm hs
      simp only [Bool.and_eq_true, beq_iff_eq, Bool.not_eq_true'] at q
      obtain ⟨⟨⟨⟨e1, e2⟩, e3⟩, e4⟩, e5⟩ := q
      obtain ⟨nm, bs, mro, ns, qn, hd, sn, sub, ab, col, del⟩ := cd
      obtain ⟨l⟩ := sl
      dsimp only at hm hs e3 e4
      subst e1 e2 e3 e4 hm hs
      exact ⟨_, _, _, _, _, _, _, _, _, _, _, _, _, _, _, ho, e5⟩
    · cases q
  · cases q
def nmB (K : PySem.W.Frag) (C : Addr) : Bool := PySem.W.readsIn K C (.type "type") && ((match K.lookup C with
  | some (o : Obj) => (match ((o.slots[2]?).join : Option Value) with
    | some (Value.str _ _) => true
    | _ => false)
  | none => false) && (match PySem.W.findCls K (.ref C) (.type "type") "__name__" with
  | some (.get (.builtin g) (.builtin a) (.ref c) (.type t)) => g == "getset_descriptor.__get__" && (a == "type.__name__" && (c == C && t == "type"))
  | _ => false))
theorem nmB_ok {K : PySem.W.Frag} {C : Addr} (q : nmB K C = true) : ∃ nm, PySem.W.NmC K C nm := by
  unfold nmB at q
  rw [Bool.and_eq_true, Bool.and_eq_true] at q
  obtain ⟨q1, q2, q3⟩ := q
  split at q2
  · rename_i o ho
    split at q2
    · rename_i nm t hs
      split at q3
      · rename_i g a c t2 hf
        simp only [Bool.and_eq_true, beq_iff_eq] at q3
        obtain ⟨rfl, rfl, rfl, rfl⟩ := q3
        exact ⟨nm, q1, ⟨o, t, ho, hs⟩, hf⟩
      · cases q3
    · cases q2
  · cases q2
def errB (K : PySem.W.Frag) (C fI : Addr) : Bool :=
  nmB K C && (decide (PySem.W.findIn K (.ref C) "called" = some none) && (oexB K C && (decide (PySem.W.findIn K (.ref C) "__setattr__" = some (some (.builtin "object.__setattr__"))) && (decide (PySem.W.subIn K (.ref C) (.type "BaseException") = some true) && (decide (PySem.W.typeIn K (.ref C) = some (.type "type")) && (PySem.W.keepIn K (.ref C) &&
  (decide (PySem.W.findIn K (.ref C) "__init__" = some (some (.ref fI))) && (decide (PySem.W.findIn K (.ref C) "what" = some none) &&
  (decide (PySem.W.findIn K (.ref C) "__getattribute__" = some (some (.builtin "BaseException.__getattribute__"))) && (decide (PySem.W.findIn K (.ref C) "__getattr__" = some none) && (PySem.W.hasDictIn K C &&
  (decide (PySem.W.findIn K (.ref C) "__class__" = some (some (.builtin "object.__class__"))) && (decide (PySem.W.specialIn K (.builtin "object.__class__") "__get__" = some (some (.builtin "getset_descriptor.__get__"))) && (decide (PySem.W.takesIn K (.builtin "object.__class__") = some true) && decide (PySem.W.mroIn K C (.type "object") = some true)))))))))))))))
theorem errB_ok {K : PySem.W.Frag} {mg : Str → Option Value} {x : Str} {C fI : Addr} (q : errB K C fI = true) (m : mg x = some (.ref C)) : ErrK K mg x C fI := by
  unfold errB at q
  simp only [Bool.and_eq_true, decide_eq_true_eq] at q
  obtain ⟨q15, q16, q1, q2, q3, q4, q5, q6, q7, q8, q9, q10, q11, q12, q13, q14⟩ := q
  exact ⟨⟨oexB_ok q1, q2, q3, q4, q5⟩, q6, q7, q16, nmB_ok q15, m, ⟨q8, q9, q3, q10, q11, q12, q13, q14⟩⟩
/-- a def of the text off the head's facts -/
theorem defAt_of {K : PySem.W.Frag} {mg : Str → Option Value} {x : Str} {st : Stmt} {ps : List Str} {f : Addr} {fd : FuncData} (F : FunD K x x (defArgs st) (defBody st) (defScope st) [] [] f fd)
    (hb : ∀ (kV doc pm cd : Value) (an : Option Addr) (ct : Value) (us : List Value), us.length = ps.length → bindArgs (PySem.W.fnOf x x (defArgs st) (defBody st) (defScope st) .none kV doc pm an cd ct) ⟨us, []⟩ = pure (ps.zip us)) :
    DefAt K mg x x st ps f fd.code := by
  obtain ⟨oc, od, dV, kV, doc, pm, an, cdv, ct, osl, rfl, lk, cd, dfl, _⟩ := F.ex
  have e : dV = .none := by
    rcases dfl with ⟨_, z⟩ | ⟨z, _⟩
    · exact z
    · exact (z rfl).elim
  subst e
  exact ⟨⟨oc, od, kV, doc, pm, an, ct, osl, lk⟩, cd, F.kp, fun kV doc pm an ct us h => hb kV doc pm _ an ct us h⟩
theorem code_ref {K : PySem.W.Frag} {x : Str} {st : Stmt} {ps : List Str} {f : Addr} {fd : FuncData} (F : FunD K x x (defArgs st) (defBody st) (defScope st) [] [] f fd) (hf : He.fAd K (x, none) = f) : fd.code = .ref (He.cT K (x, none)).1 := by
  obtain ⟨oc, od, dV, kV, doc, pm, an, cdv, ct, osl, rfl, lk, cd, _, _⟩ := F.ex
  obtain ⟨c, rfl⟩ := He.codeIn_ref cd
  subst hf
  rw [show (He.cT K (x, none)).1 = He.codeOf K (x, none) from rfl, He.codeOf_eq lk rfl]
end Ed

set_option Elab.async false
set_option linter.all false
set_option maxRecDepth 100000
set_option maxHeartbeats 4000000
/-! Ed: a law's row, its function known with room and guards, tables of code objects in use. -/
namespace Ed
open PySem PySem.Spec PyProof.Rows L2
/-- what is known at the law's start: the tables are empty; the script, unless it is the text's own -/
def startH (ts : List Addr) (a : Addr) (o : HO) (tr : Bool) : Hp := fun b => if b ∈ ts then some (.tbl #[]) else if tr = true ∧ b = a then some o else none
theorem startH_tab {ts : List Addr} {a b : Addr} {o : HO} {tr : Bool} (h : b ∈ ts) : startH ts a o tr b = some (.tbl #[]) := if_pos h
theorem startH_list {ts : List Addr} {a : Addr} {o : HO} (h : a ∉ ts) : startH ts a o true a = some o := (if_neg h).trans (if_pos ⟨rfl, rfl⟩)
theorem startH_seen {ts : List Addr} {a b : Addr} {o u : HO} {tr : Bool} (h : startH ts a o tr b = some u) : (b ∈ ts ∧ u = .tbl #[]) ∨ (b ∉ ts ∧ tr = true ∧ b = a ∧ u = o) := by
  unfold startH at h
  by_cases h1 : b ∈ ts
  · rw [if_pos h1] at h
    exact .inl ⟨h1, (Option.some.inj h).symm⟩
  · rw [if_neg h1] at h
    by_cases h2 : tr = true ∧ b = a
    · rw [if_pos h2] at h
      exact .inr ⟨h1, h2.1, h2.2, (Option.some.inj h).symm⟩
    · rw [if_neg h2] at h
      cases h
/-- the list at a, whatever else happens -/
def ScrA (K : PySem.W.Frag) (H : Hp) (a : Addr) (ns : List Int) : Prop := ∀ H' : Hp, (∀ o u, H a = some (.frz o u) → H' a = some (.frz o u)) → SqL K H' a (ns.map V.int)
theorem ScrA.sq {K : PySem.W.Frag} {H : Hp} {a : Addr} {ns : List Int} (h : ScrA K H a ns) : SqL K H a (ns.map V.int) := h H fun _ _ e => e
theorem law_callV {P : Program} {w : World} {K : PySem.W.Frag} {mg mb : Str → Option Value} {k : Nat} {fa a : Addr} {cs : List (Addr × Addr)} {sp : Sp} {s₁ : Shared} {vs : List Value} {ns : List Int}
    (KX : K.In s₁.heap) (hns : s₁.heap.Ns mainGlobals mg) (hb : s₁.heap.Ns builtinsNs mb) (hbb : ∀ x : Str, x ≠ "__name__" → mb x = bootBuiltins x) (hlim : s₁.heap.NoLimit) (hg : s₁.gens = #[])
    (hT : ∀ p ∈ cs, s₁.heap.get? p.2 = some { cls := .none, data := .fields #[] }) (nT : ∀ p ∈ cs, K.lookup p.2 = none) (C : ∀ p ∈ cs, PySem.W.CodeHd s₁.heap p.1 p.2)
    (hbm : ∃ (bm : Addr) (ob : Obj), mg "__builtins__" = some (.ref bm) ∧ bm ≠ builtinsNs ∧ s₁.heap.get? bm = some ob ∧ ob.cls = .type "module" ∧ ob.dict = some builtinsNs ∧ ob.data = .plain)
    (ha : s₁.heap.get? a = some { cls := .type "list", data := .seq vs.toArray }) (hi : IntsAre vs ns) (hl : ns.length ≤ sizeLine) (hr : RoomG k callerA)
    (F : ∀ base : Heap, K.In base → base.Ns mainGlobals mg → (∀ p ∈ cs, LamX.TabB base mg p.1 p.2) → FnV P w K mg base k fa sp)
    (hsp : ∀ H : Hp, (∀ p ∈ cs, H p.2 = some (.tbl #[])) → ScrA K H a ns → sp [.ref a] H (fun v _ => v = .bl true) fun _ _ _ => False) :
    codeAny (model P w) callerA (.call (.ref fa) ⟨[.ref a], []⟩) (fun r s' => r = .ok (.ret (.bool true)) ∧ OldK s₁.heap s'.heap ∧ s'.os = s₁.os ∧ AllBare s'.gens) s₁ := by
  have rv := vals_ints hi
  have lenV := hi.length
  -- the tables, and that the script is none of them
  have tabO : ∀ b ∈ cs.map (·.2), s₁.heap.get? b = some { cls := .none, data := .fields #[] } := fun b hb => by
    obtain ⟨p, hp, rfl⟩ := List.mem_map.mp hb
    exact hT p hp
  have tabM : ∀ p ∈ cs, p.2 ∈ cs.map (·.2) := fun p hp => List.mem_map.mpr ⟨p, hp, rfl⟩
  have aT : a ∉ cs.map (·.2) := fun z => by
    have q := tabO a z
    rw [ha] at q
    have q2 := congrArg Obj.data (Option.some.inj q)
    dsimp only at q2
    cases q2
  obtain ⟨L, eL⟩ : ∃ L : HO, L = .frz { cls := .type "list", data := .seq vs.toArray } (.lst (ns.map V.int)) := ⟨_, rfl⟩
  obtain ⟨H, eH⟩ : ∃ H : Hp, H = startH (cs.map (·.2)) a L (K.lookup a).isNone := ⟨_, rfl⟩
  have seen : ∀ b u, H b = some u → (b ∈ cs.map (·.2) ∧ u = .tbl #[]) ∨ (b ∉ cs.map (·.2) ∧ (K.lookup a).isNone = true ∧ b = a ∧ u = L) := fun b u e => by
    rw [eH] at e
    exact startH_seen e
  have hH : ∀ p ∈ cs, H p.2 = some (.tbl #[]) := fun p hp => by
    rw [eH]
    exact startH_tab (tabM p hp)
  have hS : ScrA K H a ns := by
    intro H' keep
    cases e : K.lookup a with
    | some o =>
      have e2 := KX a o e
      rw [ha] at e2
      cases e2
      exact .inr ⟨_, vs.toArray, _, e, rfl, rfl, rfl, by rw [List.size_toArray, lenV]; exact hl, by simpa using rv⟩
    | none =>
      refine .inl (.inr ⟨{ cls := .type "list", data := .seq vs.toArray }, keep _ _ ?_⟩)
      rw [eH, e, ← eL]
      exact startH_list aT
  have hok : HOk P w H s₁.heap := fun b u e => by
    rcases seen b u e with ⟨h1, rfl⟩ | ⟨_, _, rfl, rfl⟩
    · exact tabO b h1
    · rw [eL]
      exact ⟨ha, by rw [List.length_map]; exact hl, vs, _, rv, ha⟩
  -- what is neither the script nor a table is in the base
  have stays : ∀ {b : Addr} {o : Obj}, s₁.heap.get? b = some o → (b = a → (K.lookup a).isNone = false) → b ∉ cs.map (·.2) → (hidT s₁.heap H).get? b = some o := fun {b o} e n1 n2 => hidT_get e (by
    cases q : H b with
    | none => rfl
    | some u =>
      rcases seen b u q with ⟨h1, _⟩ | ⟨_, h2, h3, _⟩
      · exact (n2 h1).elim
      · rw [n1 h3] at h2
        cases h2)
  have plain : ∀ {b : Addr} {o : Obj}, s₁.heap.get? b = some o → (∀ vs n, o.data ≠ .seq vs n) → o.data ≠ .fields #[] → (hidT s₁.heap H).get? b = some o := fun {b o} e n1 n2 => stays e (fun z => by
      rw [z, ha] at e
      cases e
      exact (n1 _ _ rfl).elim) fun z => by
      rw [tabO b z] at e
      cases e
      exact n2 rfl
  have nsB : ∀ {b : Addr} {m : Str → Option Value}, s₁.heap.Ns b m → (hidT s₁.heap H).Ns b m := fun {b m} ⟨o, es, ep, e, d, r⟩ => ⟨o, es, ep, plain e (fun vs n z => by rw [d] at z; cases z) (fun z => by rw [d] at z; cases z), d, r⟩
  have kB : K.In (hidT s₁.heap H) := fun b o e => stays (KX b o e) (fun z => by
      rw [z] at e
      rw [e]
      rfl) fun z => by
      obtain ⟨p, hp, ep⟩ := List.mem_map.mp z
      rw [← ep, nT p hp] at e
      cases e
  have mod : L2.Mod K mg (hidT s₁.heap H) := ⟨kB, nsB hns, ⟨mb, nsB hb, hbb⟩, by
    obtain ⟨mc, h1, h2⟩ := hlim
    exact ⟨mc, nsB h1, h2⟩⟩
  have nG : ∀ b ∈ cs.map (·.2), mainGlobals ≠ b := fun b hb z => by
    obtain ⟨o, es, ep, e, hd, _⟩ := hns
    rw [z, tabO b hb] at e
    cases e
    cases hd
  have TB : ∀ p ∈ cs, LamX.TabB (hidT s₁.heap H) mg p.1 p.2 := fun p hp => by
    refine ⟨?_, ?_, nG _ (tabM p hp)⟩
    · obtain ⟨o, us, file, tf, flags, tg, inF, text, tt, e1, r1, r2, r3, r4, r5, r6, r7, r8, hne⟩ := C p hp
      refine ⟨o, us, file, tf, flags, tg, inF, text, tt, plain e1 (fun vs n z => ?_) (fun z => ?_), r1, r2, r3, r4, r5, r6, r7, r8, hne⟩
      · rw [r2] at z
        cases z
      · rw [r2] at z
        cases z
        simp at r3
    · obtain ⟨bm, ob, b1, b2, b3, b4, b5, b6⟩ := hbm
      refine ⟨bm, ob, b1, b2, fun q => ?_, fun q => ?_, plain b3 (fun vs n z => ?_) (fun z => ?_), b4, b5, b6⟩
      · obtain ⟨o, es, ep, e, hd, _⟩ := hns
        rw [q, e] at b3
        cases b3
        rw [hd] at b6
        cases b6
      · rw [q, hT p hp] at b3
        cases b3
        cases b6
      · rw [b6] at z
        cases z
      · rw [b6] at z
        cases z
  have e0 : Env0 P w K mg (hidT s₁.heap H) callerA [] s₁ H := ⟨rfl, mod, fun b o e => of_hidT e, Nat.le_of_eq (hidT_size _ _), trivial, fun b hb => absurd (show b ∈ ([] : List Addr) from hb) (by simp), hok, .of_eq hg⟩
  refine codeAny_mono ((F _ kB (nsB hns) TB).run callerA [] s₁ H [.ref a] [.ref a] _ _ hr e0 (.cons rfl .nil) (hsp H hH hS)) fun r s' h => ?_
  match r, h with
  | .error e, ⟨_, _, _, _, _, _, _, _, _, _, _, _, z⟩ => exact z.elim
  | .ok .next, h => exact False.elim h
  | .ok .brk, h => exact False.elim h
  | .ok .cont, h => exact False.elim h
  | .ok (.ret u), ⟨v, H', os, bare, un, hok', r', q⟩ =>
    have q : v = .bl true := q
    subst q
    obtain rfl : u = Value.bool true := r'
    have kept : ∀ b o, b ∉ cs.map (·.2) → s₁.heap.get? b = some o → s'.heap.get? b = some o := fun b o nb e => by
      cases z : H b with
      | none => exact un.keep b o e z (by intro z; exact absurd (show b ∈ ([] : List Addr) from z) (by simp)) (by simp)
      | some u =>
        rcases seen b u z with ⟨h1, _⟩ | ⟨_, _, h3, h4⟩
        · exact (nb h1).elim
        · rw [h4, eL] at z
          rw [h3, ha] at e
          cases e
          rw [h3] at z ⊢
          exact (hok' a _ (un.frzs a _ _ z)).1
    have grown : ∀ b ∈ cs.map (·.2), ∃ more : Array Value, s'.heap.get? b = some { cls := .none, data := .fields more } := fun b hb => by
      obtain ⟨p, hp, rfl⟩ := List.mem_map.mp hb
      obtain ⟨more, z⟩ := un.tbls p.2 #[] (hH p hp)
      exact ⟨_, hok' p.2 _ z⟩
    refine ⟨rfl, ⟨fun b o e => ?_, fun b o e => ?_⟩, os, bare⟩
    · by_cases hb : b ∈ cs.map (·.2)
      · obtain ⟨more, hm⟩ := grown b hb
        obtain ⟨p, hp, rfl⟩ := List.mem_map.mp hb
        rw [hT p hp] at e
        cases e
        exact .inr (.inl ⟨((C p hp).tab (hT p hp)).isCodeTable, rfl, #[], more, rfl, by rw [Array.empty_append]; exact hm⟩)
      · exact .inl (kept b o hb e)
    · by_cases hb : b ∈ cs.map (·.2)
      · obtain ⟨more, hm⟩ := grown b hb
        exact ⟨_, hm⟩
      · exact ⟨o, kept b o hb e⟩
/-- what the head's facts give of the law's function -/
def LawV (l : PySem.W.OpenLaw) (w : World) (K : PySem.W.Frag) (k n : Nat) (mg : Str → Option Value) (fa : Addr) (h : Heap) : Prop :=
  ∃ (cs : List (Addr × Addr)) (sp : Sp), (∀ p ∈ cs, h.get? p.2 = some { cls := .none, data := .fields #[] }) ∧ (∀ p ∈ cs, K.lookup p.2 = none) ∧ (∀ p ∈ cs, PySem.W.CodeHd h p.1 p.2) ∧
    (∀ (H : Hp) (a : Addr) (ns : List Int), ns.length ≤ n → (∀ z ∈ ns, Builtin.Int.intBits z ≤ 1048576) → (∀ p ∈ cs, H p.2 = some (.tbl #[])) → ScrA K H a ns → sp [.ref a] H (fun v _ => v = .bl true) fun _ _ _ => False) ∧
    ∀ base : Heap, K.In base → base.Ns mainGlobals mg → (∀ p ∈ cs, LamX.TabB base mg p.1 p.2) → FnV l.prog w K mg base k fa sp
theorem walk_v {l : PySem.W.OpenLaw} {n k : Nat} {q : Program} {loose : List Str} {XP : (Str → Option Value) → Heap → Prop} {YP : World → Heap → Prop} {d : DefRec}
    (hn : l.most = some n) (hn2 : n ≤ sizeLine) (hdf : d.params.defaults = []) (hr : RoomG k callerA)
    (F : ∀ (w : World) (mg : Str → Option Value) (fa : Addr) (h : Heap), YP w h → h.Ns mainGlobals mg → mg d.name = some (.ref fa) → ∃ K : PySem.W.Frag, K.In h ∧ LawV l w K k n mg fa h) :
    PySem.W.WalkO q loose XP YP l.row.toRowW d [] (fun f vs => PySem.call f vs) := by
  refine Att.attach_callB hn hdf fun w s₀ s₁ mg mb fa o pm cd doc a vs ns G Y ho hd hcd hmg hobj hints hlen hbits hg => ?_
  obtain ⟨K, KX, cs, sp, hT, nT, C, hsp, hF⟩ := F w mg fa _ Y G.T.g hmg
  exact law_callV KX G.T.g G.T.b G.T.builtins G.T.nolimit hg hT nT C G.T.bmain hobj hints (Nat.le_trans hlen hn2) hr hF fun H hH hS => hsp H a ns hlen hbits hH hS
end Ed

set_option Elab.async false
set_option linter.all false
set_option maxRecDepth 100000
set_option maxHeartbeats 4000000
/-! Ed: the head's facts, the statics' table among them (a class's name is read through it). -/
namespace Ed
open PySem PySem.Spec PyProof.Rows L2 He
section
variable {fa : List Fa} {fn : List DefD} {ts : List Tab} {tf : List Defn} {ex : PySem.W.Frag → Bool} {w : World}
theorem says_by {h : Heap} {l : List Addr} (e : ((obsT fa fn ts (frT h.get? l), ex (frT h.get? l) && tabsB h.get? tf (frT h.get? l)) : AlX) = valX fn ts w) : SaysX fa fn ts tf ex w h (frT h.get? l) := by
  have both := congrArg (fun z : AlX => z.2) e
  obtain ⟨more, tabs⟩ := ba (show (ex (frT h.get? l) && tabsB h.get? tf (frT h.get? l)) = true from both)
  have one : ∀ p ∈ tf, PySem.W.codeHdIn (frT h.get? l) (cT (frT h.get? l) p).1 (cT (frT h.get? l) p).2 = true ∧ ∃ o, h.get? (cT (frT h.get? l) p).2 = some o ∧ emptyTab o = true := by
    intro p hp
    obtain ⟨u1, u2⟩ := ba (List.all_eq_true.mp tabs p hp)
    refine ⟨u1, ?_⟩
    split at u2
    · rename_i o ho
      exact ⟨o, ho, u2⟩
    · cases u2
  refine ⟨congrArg (fun z : AlX => z.1) e, more, fun p hp => (one p hp).1, fun p hp => ?_, fun p hp => ?_⟩
  · obtain ⟨_, o, q, z⟩ := one p hp
    exact frT_none q z
  · obtain ⟨_, o, q, z⟩ := one p hp
    exact q.trans (congrArg some (emptyTab_eq z))
end
def adS (n : Nat) (g : Addr → Option Obj) : List Addr := asD g n ++ [cStatics]
def obS (n : Nat) (fa : List Fa) (fn : List DefD) (tf : List Defn) (ex : PySem.W.Frag → Bool) (g : Addr → Option Obj) : AlX := (obsT fa fn [] (frT g (adS n g)), ex (frT g (adS n g)) && tabsB g tf (frT g (adS n g)))
def hookS (n : Nat) (fa : List Fa) (fn : List DefD) (tf : List Defn) (ex : PySem.W.Frag → Bool) : PySem.W.Hook where
  α := AlX
  obs s := obS n fa fn tf ex s.heap.get?
  val w := valX fn [] w
  says w h := ∃ K : PySem.W.Frag, K.In h ∧ SaysX fa fn [] tf ex w h K
  of _ _ e := ⟨_, frT_in, says_by e⟩
  keeps _ _ _ z k := let ⟨K, hK, c⟩ := z
    ⟨K, hK.keeps k, c.t, c.more, c.hd, c.out, fun p hp => k _ _ (c.empty p hp)⟩
theorem obS_eq {n : Nat} {fa : List Fa} {fn : List DefD} {tf : List Defn} {ex : PySem.W.Frag → Bool} {g : Addr → Option Obj} {s : Shared} (h : ∀ a, g a = s.heap.get? a) : obS n fa fn tf ex g = (hookS n fa fn tf ex).obs s := by
  obtain rfl : g = s.heap.get? := funext h
  rfl
end Ed

set_option Elab.async false
set_option linter.all false
set_option maxRecDepth 100000
set_option maxHeartbeats 4000000
/-! Ed: tuples of data: put together, cut, looked into. -/
namespace Ed
open PySem PySem.Spec PyProof.Rows L2
/-- all that was there is there -/
def Keep (H H' : Hp) : Prop := ∀ b o, H b = some o → H' b = some o
theorem Keep.refl (H : Hp) : Keep H H := fun _ _ e => e
theorem Keep.new {H : Hp} {p : Addr} {o : HO} (n : H p = none) : Keep H (upd H p o) := fun b u e => (upd_ne (ne_of_none e n)).trans e
theorem Keep.ex {T : List (Addr × Str)} {S : List Addr} {H H' : Hp} (k : Keep H H') : Ex T S H H' := Ex.of_same k
theorem TdAll.app {H : Hp} : ∀ {ds es : List PyData} {vs us : List V}, TdAll H vs ds → TdAll H us es → TdAll H (vs ++ us) (ds ++ es)
  | [], _, _, _, .nil, b => b
  | _ :: _, _, _, _, .cons a r, b => .cons a (TdAll.app r b)
theorem TdAll.drop {H : Hp} : ∀ {n : Nat} {ds : List PyData} {vs : List V}, TdAll H vs ds → TdAll H (vs.drop n) (ds.drop n)
  | 0, _, _, a => a
  | n + 1, [], _, .nil => .nil
  | n + 1, _ :: _, _, .cons _ r => TdAll.drop (n := n) r
theorem TdAll.take {H : Hp} : ∀ {n : Nat} {ds : List PyData} {vs : List V}, TdAll H vs ds → TdAll H (vs.take n) (ds.take n)
  | 0, _, _, _ => .nil
  | n + 1, [], _, .nil => .nil
  | n + 1, _ :: _, _, .cons a r => .cons a (TdAll.take (n := n) r)
theorem TdAll.nil_iff {H : Hp} {ds : List PyData} {vs : List V} (a : TdAll H vs ds) : vs = [] ↔ ds = [] := by
  cases a <;> simp
def cutD (ds : List PyData) (lo hi : Option Int) : List PyData := (ds.drop (HT.sIx ds.length 0 lo)).take (HT.sIx ds.length ds.length hi - HT.sIx ds.length 0 lo)
theorem cutD_upto {ds : List PyData} {k : Nat} (h : k ≤ ds.length) : cutD ds none (some (k : Int)) = ds.take k := by
  unfold cutD
  rw [HT.sIx_nat, HT.sIx_none]
  simp [Nat.min_eq_left h]
theorem cutD_from {ds : List PyData} {k : Nat} (h : k ≤ ds.length) : cutD ds (some (k : Int)) none = ds.drop k := by
  unfold cutD
  rw [HT.sIx_nat, HT.sIx_none, Nat.min_eq_left h]
  exact List.take_of_length_le (by rw [List.length_drop]; omega)
section
variable {X : Cx}
def rCatD : R2 := fun x y H Q => ∃ ds es, Td H x (.tuple ds) ∧ Td H y (.tuple es) ∧ ds.length + es.length ≤ sizeLine ∧ ∀ z H', Keep H H' → Td H' z (.tuple (ds ++ es)) → Q z H'
theorem op_catD : OpR X (binaryOp .Add) rCatD := by
  intro pins s σ H x y v u Q I rx ry h
  obtain ⟨ds, es, hx, hy, hz, q⟩ := h
  obtain ⟨a, xs, rfl, ta, ax⟩ := hx.tuple_inv
  obtain ⟨b, ys, rfl, tb, ay⟩ := hy.tuple_inv
  cases rx
  cases ry
  obtain ⟨i1, r1, p1, _⟩ := I.tuple (ta.sq (K := X.K))
  obtain ⟨i2, r2, p2, _⟩ := I.tuple (tb.sq (K := X.K))
  have l1 := ax.len
  have l2 := ay.len
  by_cases e : xs = []
  · have e1 := ax.nil_iff.mp e
    subst e
    cases r1
    refine cat_tup0 p1 p2 ⟨.ref b, H, I, rfl, q _ _ (Keep.refl H) ?_⟩
    rw [e1]
    exact hy
  · refine HT.cat_tup p1 p2 (fun z => e (r1.nil_iff.mp z)) (fun z => ⟨.ref a, H, I, rfl, q _ _ (Keep.refl H) ?_⟩) (fun _ => ?_) (by rw [← r1.length, ← r2.length, l1, l2]; exact hz)
    · have e2 := ay.nil_iff.mp (r2.nil_iff.mp z)
      rw [e2, List.append_nil]
      exact hx
    · have nF := I.hok.fresh (Nat.le_refl s.heap.objs.size)
      have made := Heap.get?_push_size s.heap (o := { cls := .type "tuple", data := .seq (i1 ++ i2).toArray }) rfl
      have J := I.laid (o := .frz { cls := .type "tuple", data := .seq (i1 ++ i2).toArray } (.tup (xs ++ ys))) (t' := s.toks) (fun b u e => Heap.get?_push_of_some _ e) (Nat.le_refl _) ⟨made, by rw [List.length_append, l1, l2]; exact hz, _, r1.append r2, ⟨_, made, rfl, _, rfl⟩⟩
      have kp := Keep.new (o := .frz { cls := .type "tuple", data := .seq (i1 ++ i2).toArray } (.tup (xs ++ ys))) nF
      exact ⟨.ref s.heap.objs.size, _, J, rfl, q _ _ kp (.tup (Tp.made rfl) ((ax.app ay).mono (TX.of kp)))⟩
def rSlD : V → Option Int → Option Int → Hp → VK → Prop := fun x lo hi H Q => ∃ ds, Td H x (.tuple ds) ∧ ∀ z H', Keep H H' → Td H' z (.tuple (cutD ds lo hi)) → Q z H'
theorem sl_tupD : SlR X rSlD := by
  intro pins s σ H x v vl vu lo hi sl Q I rx hs pl pu h
  obtain ⟨ds, hx, q⟩ := h
  obtain ⟨a, xs, rfl, ta, ax⟩ := hx.tuple_inv
  cases rx
  obtain ⟨its, r, ht, hz⟩ := I.tuple (ta.sq (K := X.K))
  have l1 := ax.len
  have hlen : its.toArray.size = xs.length := by rw [List.size_toArray]; exact r.length.symm
  refine ⟨"tuple", _, PyProof.Rows.slot_tuple_getitem.lookup, ht.typeIs, ?_⟩
  by_cases hw : HT.sIx xs.length 0 lo = 0 ∧ HT.sIx xs.length xs.length hi = xs.length
  · refine getItem_tuple_whole ht hs pl pu (by rw [hlen]; exact hw) ⟨.ref a, H, I, rfl, q _ _ (Keep.refl H) ?_⟩
    have e : cutD ds lo hi = ds := by
      unfold cutD
      rw [← l1, hw.1, hw.2]
      rw [l1]
      simp
    rw [e]
    exact hx
  · refine HT.getItem_tuple_cut ht hs pl pu (by rw [hlen]; exact hw) ?_ (by rw [hlen]; exact hz)
    rw [hlen]
    have nF := I.hok.fresh (Nat.le_refl s.heap.objs.size)
    have made := Heap.get?_push_size s.heap (o := { cls := .type "tuple", data := .seq ((its.toArray.toList.drop (HT.sIx xs.length 0 lo)).take (HT.sIx xs.length xs.length hi - HT.sIx xs.length 0 lo)).toArray }) rfl
    have J := I.laid (o := .frz { cls := .type "tuple", data := .seq ((its.toArray.toList.drop (HT.sIx xs.length 0 lo)).take (HT.sIx xs.length xs.length hi - HT.sIx xs.length 0 lo)).toArray } (.tup (cutV xs lo hi))) (t' := s.toks) (fun b u e => Heap.get?_push_of_some _ e) (Nat.le_refl _)
      ⟨made, Nat.le_trans (cutV_length xs lo hi) hz, _, (r.drop (HT.sIx xs.length 0 lo)).take (HT.sIx xs.length xs.length hi - HT.sIx xs.length 0 lo), ⟨_, made, rfl, _, rfl⟩⟩
    have kp := Keep.new (o := .frz { cls := .type "tuple", data := .seq ((its.toArray.toList.drop (HT.sIx xs.length 0 lo)).take (HT.sIx xs.length xs.length hi - HT.sIx xs.length 0 lo)).toArray } (.tup (cutV xs lo hi))) nF
    refine ⟨.ref s.heap.objs.size, _, J, rfl, q _ _ kp (.tup (Tp.made rfl) ?_)⟩
    have := (ax.drop (n := HT.sIx xs.length 0 lo)).take (n := HT.sIx xs.length xs.length hi - HT.sIx xs.length 0 lo)
    rw [show cutD ds lo hi = (ds.drop (HT.sIx xs.length 0 lo)).take (HT.sIx xs.length xs.length hi - HT.sIx xs.length 0 lo) by
      unfold cutD
      rw [l1]]
    exact this.mono (TX.of kp)
/-- t[i] of data -/
def rIxD : R2 := fun x y H Q => ∃ ds i d, Td H x (.tuple ds) ∧ y = .int i ∧ atI ds i = some d ∧ ∀ z, Td H z d → Q z H
theorem ix_tupD : IxR X rIxD := by
  intro value slice pins s σ H x y v u Q I rx ry h hs
  obtain ⟨ds, i, d, hx, rfl, hd, q⟩ := h
  obtain ⟨a, xs, rfl, ta, ax⟩ := hx.tuple_inv
  obtain ⟨z, hz, hzd⟩ : ∃ z, atI xs i = some z ∧ Td H z d := by
    unfold atI at hd ⊢
    rw [ax.len]
    cases e : ixN ds.length i with
    | none =>
      rw [e] at hd
      cases hd
    | some j =>
      rw [e] at hd
      exact ax.at_ hd
  exact ix_tup value slice pins s σ H _ _ v u Q I rx ry ⟨a, xs, i, z, rfl, rfl, ta.sq, hz, q z hzd⟩ hs
end
end Ed

set_option Elab.async false
set_option linter.all false
set_option maxRecDepth 100000
set_option maxHeartbeats 4000000
/-! Ev: what a def does, told by a function over plain data: states of slots that hold data or own a list; the relation to the heap. -/
namespace Ev
open PySem PySem.Spec PyProof.Rows L2 Ed

/-- what an owned object holds -/
inductive OD where
  | lst (ds : List PyData)
  | dK (kvs : List (Key × PyData))
  | dT (kvs : List (List Key × PyData))
/-- a result, or an error: its class, its what -/
inductive Rs (α : Type) where
  | ok (a : α)
  | err (c : Str) (x : PyData)
/-- what a def hands back: data, or a new object that nothing else has -/
inductive Rv where
  | dat (d : PyData)
  | fr (o : OD)
/-- what a slot holds -/
inductive Sl where
  | no
  | dat (d : PyData)
  | own (o : OD)
  | fn (F : List PyData → Option (Rs PyData))
  | scr (ns : List Int)
abbrev M (α : Type) := List Sl → Option (Rs α × List Sl)
abbrev FnD := List Sl → Option (Rs Rv × List Sl)

/-! ### data in the heap, out of the forbidden addresses N -/
abbrev As := Addr → Prop
mutual
inductive Rp (H : Hp) (N : As) : V → PyData → Prop
  | non : Rp H N .non .none
  | bl (b : Bool) : Rp H N (.bl b) (.bool b)
  | int (i : Int) : Rp H N (.int i) (.int i)
  | str (x : Str) : Rp H N (.str x) (.str x)
  | tup {a : Addr} {xs : List V} {ds : List PyData} : Tp H a xs → RpAll H N xs ds → Rp H N (.ref a) (.tuple ds)
  | lst {a : Addr} {xs : List V} {ds : List PyData} : H a = some (.lst xs) → ¬ N a → RpAll H N xs ds → Rp H N (.ref a) (.list ds)
inductive RpAll (H : Hp) (N : As) : List V → List PyData → Prop
  | nil : RpAll H N [] []
  | cons {v : V} {vs : List V} {d : PyData} {ds : List PyData} : Rp H N v d → RpAll H N vs ds → RpAll H N (v :: vs) (d :: ds)
end
/-- tuples stay, lists out of N stay and stay out of N' -/
structure Mo (H : Hp) (N : As) (H' : Hp) (N' : As) : Prop where
  tup : ∀ b xs, Tp H b xs → Tp H' b xs
  lst : ∀ b xs, H b = some (.lst xs) → ¬ N b → H' b = some (.lst xs) ∧ ¬ N' b
mutual
theorem Rp.mono {H H' : Hp} {N N' : As} (e : Mo H N H' N') : ∀ {d : PyData} {v : V}, Rp H N v d → Rp H' N' v d
  | .none, _, .non => .non
  | .bool b, _, .bl _ => .bl b
  | .int i, _, .int _ => .int i
  | .str x, _, .str _ => .str x
  | .tuple ds, _, .tup h q => .tup (e.tup _ _ h) (RpAll.mono e q)
  | .list ds, _, .lst h n q => .lst (e.lst _ _ h n).1 (e.lst _ _ h n).2 (RpAll.mono e q)
theorem RpAll.mono {H H' : Hp} {N N' : As} (e : Mo H N H' N') : ∀ {ds : List PyData} {vs : List V}, RpAll H N vs ds → RpAll H' N' vs ds
  | [], _, .nil => .nil
  | _ :: _, _, .cons a b => .cons (Rp.mono e a) (RpAll.mono e b)
end
mutual
theorem Rp.dp {K : PySem.W.Frag} {H : Hp} {N : As} : ∀ {d : PyData} {v : V}, Rp H N v d → Dp K H v d
  | .none, _, .non => .non
  | .bool b, _, .bl _ => .bl b
  | .int i, _, .int _ => .int i
  | .str x, _, .str _ => .str x
  | .tuple ds, _, .tup h q => .tup h.sq (RpAll.dp q)
  | .list ds, _, .lst h _ q => .lst (.inl (.inl h)) (RpAll.dp q)
theorem RpAll.dp {K : PySem.W.Frag} {H : Hp} {N : As} : ∀ {ds : List PyData} {vs : List V}, RpAll H N vs ds → DpAll K H vs ds
  | [], _, .nil => .nil
  | _ :: _, _, .cons a b => .cons (Rp.dp a) (RpAll.dp b)
end
section
variable {H : Hp} {N : As}
theorem RpAll.len : ∀ {ds : List PyData} {vs : List V}, RpAll H N vs ds → vs.length = ds.length
  | [], _, .nil => rfl
  | _ :: _, _, .cons _ b => congrArg Nat.succ (RpAll.len b)
theorem RpAll.get : ∀ {ds : List PyData} {vs : List V} {i : Nat} {v : V}, RpAll H N vs ds → vs[i]? = some v → ∃ d, ds[i]? = some d ∧ Rp H N v d
  | [], _, i, v, .nil, e => by simp at e
  | d :: _, _, 0, v, .cons a _, e => ⟨d, rfl, by
      have z : _ = v := Option.some.inj e
      subst z
      exact a⟩
  | _ :: _, _, i + 1, v, .cons _ b, e => RpAll.get (i := i) b (by simpa using e)
theorem RpAll.at_ : ∀ {ds : List PyData} {vs : List V} {i : Nat} {d : PyData}, RpAll H N vs ds → ds[i]? = some d → ∃ v, vs[i]? = some v ∧ Rp H N v d
  | [], _, i, d, .nil, e => by simp at e
  | _ :: _, v :: _, 0, d, .cons a _, e => ⟨v, rfl, by
      have z : _ = d := Option.some.inj e
      subst z
      exact a⟩
  | _ :: _, _, i + 1, d, .cons _ b, e => RpAll.at_ (i := i) b (by simpa using e)
theorem RpAll.app : ∀ {ds es : List PyData} {vs us : List V}, RpAll H N vs ds → RpAll H N us es → RpAll H N (vs ++ us) (ds ++ es)
  | [], _, _, _, .nil, r => r
  | _ :: _, _, _, _, .cons a b, r => .cons a (RpAll.app b r)
theorem RpAll.one {v : V} {d : PyData} (h : Rp H N v d) : RpAll H N [v] [d] := .cons h .nil
theorem RpAll.set {v : V} {d : PyData} (h : Rp H N v d) : ∀ {ds : List PyData} {vs : List V} (i : Nat), RpAll H N vs ds → RpAll H N (vs.set i v) (ds.set i d)
  | [], _, _, .nil => .nil
  | _ :: _, _, 0, .cons _ b => .cons h b
  | _ :: _, _, i + 1, .cons a b => .cons a (RpAll.set h i b)
theorem RpAll.erase : ∀ {ds : List PyData} {vs : List V} (i : Nat), RpAll H N vs ds → RpAll H N (vs.eraseIdx i) (ds.eraseIdx i)
  | [], _, _, .nil => .nil
  | _ :: _, _, 0, .cons _ b => b
  | _ :: _, _, i + 1, .cons a b => .cons a (RpAll.erase i b)
theorem RpAll.take : ∀ {ds : List PyData} {vs : List V} (i : Nat), RpAll H N vs ds → RpAll H N (vs.take i) (ds.take i)
  | _, _, 0, _ => .nil
  | [], _, _ + 1, .nil => .nil
  | _ :: _, _, i + 1, .cons a b => .cons a (RpAll.take i b)
theorem RpAll.drop : ∀ {ds : List PyData} {vs : List V} (i : Nat), RpAll H N vs ds → RpAll H N (vs.drop i) (ds.drop i)
  | _, _, 0, r => r
  | [], _, _ + 1, .nil => .nil
  | _ :: _, _, i + 1, .cons a b => RpAll.drop i b
theorem Rp.tuple_inv {v : V} {ds : List PyData} (h : Rp H N v (.tuple ds)) : ∃ a xs, v = .ref a ∧ Tp H a xs ∧ RpAll H N xs ds := by
  cases h with
  | tup e q => exact ⟨_, _, rfl, e, q⟩
theorem Rp.list_inv {v : V} {ds : List PyData} (h : Rp H N v (.list ds)) : ∃ a xs, v = .ref a ∧ H a = some (.lst xs) ∧ ¬ N a ∧ RpAll H N xs ds := by
  cases h with
  | lst e n q => exact ⟨_, _, rfl, e, n, q⟩
end
/-- data, or a list that is owned -/
inductive Vw (H : Hp) (N : As) : V → PyData → Prop
  | rp {v : V} {d : PyData} : Rp H N v d → Vw H N v d
  | own {a : Addr} {xs : List V} {ds : List PyData} : H a = some (.lst xs) → RpAll H N xs ds → Vw H N (.ref a) (.list ds)
theorem Vw.ext {H H' : Hp} {N : As} {v : V} {d : PyData} (e : ∀ b o, H b = some o → H' b = some o) (h : Vw H N v d) : Vw H' N v d := by
  have m : Mo H N H' N := ⟨fun b xs ⟨o, q, d⟩ => ⟨o, e _ _ q, d⟩, fun b xs q n => ⟨e _ _ q, n⟩⟩
  cases h with
  | rp r => exact .rp (r.mono m)
  | own h r => exact .own (e _ _ h) (r.mono m)
theorem Vw.dp {K : PySem.W.Frag} {H : Hp} {N : As} {v : V} {d : PyData} (h : Vw H N v d) : Dp K H v d := by
  cases h with
  | rp r => exact r.dp
  | own h r => exact .lst (.inl (.inl h)) r.dp
/-- a list or a tuple -/
theorem Vw.seqL {K : PySem.W.Frag} {H : Hp} {N : As} {v : V} {ds : List PyData} (h : Vw H N v (.list ds)) : ∃ a xs, v = .ref a ∧ H a = some (.lst xs) ∧ RpAll H N xs ds := by
  cases h with
  | rp r =>
    obtain ⟨a, xs, e, h, _, q⟩ := r.list_inv
    exact ⟨a, xs, e, h, q⟩
  | own h r => exact ⟨_, _, rfl, h, r⟩
theorem Vw.tup {H : Hp} {N : As} {v : V} {ds : List PyData} (h : Vw H N v (.tuple ds)) : Rp H N v (.tuple ds) := by
  cases h with
  | rp r => exact r
theorem Vw.flat {H : Hp} {N : As} {v : V} {d : PyData} (h : Vw H N v d) (n : ∀ ds, d ≠ .list ds) : Rp H N v d := by
  cases h with
  | rp r => exact r
  | own _ _ => exact (n _ rfl).elim
/-- what an owned object is -/
def OdR (H : Hp) (N : As) : HO → OD → Prop
  | .lst xs, .lst ds => RpAll H N xs ds
  | .dK kvs, .dK es => Paired (fun (p : Key × V) (q : Key × PyData) => p.1 = q.1 ∧ Rp H N p.2 q.2) kvs es
  | .dT kvs, .dT es => Paired (fun (p : List Key × V) (q : List Key × PyData) => p.1 = q.1 ∧ Rp H N p.2 q.2) kvs es
  | _, _ => False
theorem OdR.mono {H H' : Hp} {N N' : As} (e : Mo H N H' N') {u : HO} {o : OD} (h : OdR H N u o) : OdR H' N' u o := by
  cases u <;> cases o <;> first | exact h.elim | skip
  · exact RpAll.mono e h
  · exact Paired.mapP h fun p q z => ⟨z.1, Rp.mono e z.2⟩
  · exact Paired.mapP h fun p q z => ⟨z.1, Rp.mono e z.2⟩
theorem OdR.notTbl {H : Hp} {N : As} {u : HO} {o : OD} (h : OdR H N u o) : ∀ ps, u ≠ .tbl ps := by
  rintro ps rfl
  cases o <;> exact h

/-! ### what stays -/
/-- never written -/
def Imm : HO → Prop
  | .frz _ _ => True
  | .ext _ => True
  | _ => False
structure Step (T : List (Addr × Str)) (O : As) (H H' : Hp) : Prop where
  keep : ∀ b o, ¬ O b → H b = some o → (∀ ps, o ≠ .tbl ps) → H' b = some o
  imm : ∀ b o, Imm o → H b = some o → H' b = some o
  live : ∀ b, H b ≠ none → H' b ≠ none
  tabs : LamX.Tabs T H → LamX.Tabs T H'
section
variable {T : List (Addr × Str)} {O O' N : As} {H H1 H2 : Hp} {p : Addr} {o : HO}
theorem Step.refl (H : Hp) : Step T O H H := ⟨fun _ _ _ e _ => e, fun _ _ _ e => e, fun _ e => e, fun t => t⟩
theorem Step.trans (a : Step T O H H1) (b : Step T O H1 H2) : Step T O H H2 :=
  ⟨fun c o n e t => b.keep c o n (a.keep c o n e t) t, fun c o i e => b.imm c o i (a.imm c o i e), fun c n => b.live c (a.live c n), fun t => b.tabs (a.tabs t)⟩
/-- where more may be written later, if that was not there at first -/
theorem Step.trans2 (a : Step T O H H1) (b : Step T O' H1 H2) (h : ∀ c, O' c → O c ∨ H c = none) : Step T O H H2 :=
  ⟨fun c o n e t => b.keep c o (fun z => (h c z).elim n fun q => by
      rw [q] at e
      cases e) (a.keep c o n e t) t, fun c o i e => b.imm c o i (a.imm c o i e), fun c n => b.live c (a.live c n), fun t => b.tabs (a.tabs t)⟩
theorem Step.tup (a : Step T O H H1) : ∀ b xs, Tp H b xs → Tp H1 b xs := fun b xs ⟨o, e, d⟩ => ⟨o, a.imm b _ trivial e, d⟩
theorem Step.mo (a : Step T O H H1) (h : ∀ b, O b → N b) : Mo H N H1 N := ⟨a.tup, fun b xs e n => ⟨a.keep b _ (fun z => n (h b z)) e (by simp), n⟩⟩
theorem Step.none_of (a : Step T O H H1) (n : H1 p = none) : H p = none := Classical.byContradiction fun z => a.live p z n
end
/-- all is as it was; something new may be there -/
def Ext (H H' : Hp) : Prop := ∀ b o, H b = some o → H' b = some o
section
variable {T : List (Addr × Str)} {O N : As} {H H1 H2 : Hp} {p : Addr} {o : HO}
theorem Ext.refl (H : Hp) : Ext H H := fun _ _ e => e
theorem Ext.trans (a : Ext H H1) (b : Ext H1 H2) : Ext H H2 := fun c o e => b c o (a c o e)
theorem Ext.new (n : H p = none) : Ext H (upd H p o) := fun b u e => (upd_ne (ne_of_none e n)).trans e
theorem Ext.step (e : Ext H H1) : Step T O H H1 := ⟨fun b o _ q _ => e b o q, fun b o _ q => e b o q, fun b q => by
  cases z : H b with
  | none => exact (q z).elim
  | some u =>
    rw [e b u z]
    simp, fun t => t.ext e⟩
theorem Ext.mo (e : Ext H H1) : Mo H N H1 N := ⟨fun b xs ⟨o, q, d⟩ => ⟨o, e _ _ q, d⟩, fun b xs q n => ⟨e _ _ q, n⟩⟩
/-- .. where a new address is forbidden -/
theorem Ext.moAdd (e : Ext H H1) (n : H p = none) : Mo H N H1 (fun b => N b ∨ b = p) := ⟨fun b xs ⟨o, q, d⟩ => ⟨o, e _ _ q, d⟩, fun b xs q nb => ⟨e _ _ q, fun z => z.elim nb fun z => by
  rw [z, n] at q
  cases q⟩⟩
theorem Mo.weak {N' : As} (h : ∀ b, N b → N' b) : Mo H N' H N := ⟨fun _ _ t => t, fun b xs e n => ⟨e, fun z => n (h b z)⟩⟩
theorem Mo.trans {H0 H1 H2 : Hp} {N0 N1 N2 : As} (a : Mo H0 N0 H1 N1) (b : Mo H1 N1 H2 N2) : Mo H0 N0 H2 N2 := ⟨fun c xs t => b.tup _ _ (a.tup _ _ t), fun c xs e n => b.lst _ _ (a.lst _ _ e n).1 (a.lst _ _ e n).2⟩
theorem Mo.upd {a : Addr} {u u' : HO} (ha : H a = some u) (hn : N a) (hi : ¬ Imm u) : Mo H N (upd H a u') N := ⟨fun b xs ⟨o, q, d⟩ => ⟨o, (upd_ne fun z => by
  rw [z, ha] at q
  cases q
  exact hi trivial).trans q, d⟩, fun b xs q n => ⟨(upd_ne fun z => n (by rw [z]; exact hn)).trans q, n⟩⟩
/-- an object of O is written -/
theorem Step.write {a : Addr} {u u' : HO} (ha : H a = some u) (ho : O a) (hi : ¬ Imm u) (ht : ∀ ps, u ≠ .tbl ps) : Step T O H (upd H a u') := by
  refine ⟨fun b o n e _ => (upd_ne fun z => n (by rw [z]; exact ho)).trans e, fun b o i e => (upd_ne fun z => ?_).trans e, fun b n => ?_, fun t p hp => ?_⟩
  · rw [z, ha] at e
    cases e
    exact hi i
  · by_cases z : b = a
    · rw [z, upd_same]
      simp
    · rw [upd_ne z]
      exact n
  · obtain ⟨ps, a1, a2, a3⟩ := t p hp
    have ne : ∀ c v, H c = some v → v ≠ u → upd H a u' c = some v := fun c v e d => (upd_ne fun z => by
      rw [z, ha] at e
      exact d (Option.some.inj e).symm).trans e
    refine ⟨ps, ne _ _ a1 (Ne.symm (ht ps)), a2, fun p' cv hc => ?_⟩
    obtain ⟨c, c1, c2⟩ := a3 p' cv hc
    refine ⟨c, c1, ne _ _ c2 fun z => hi ?_⟩
    rw [← z]
    unfold LamX.CodeO
    trivial
end

/-! ### callables -/
structure Cfg where
  P : Program
  w : World
  K : PySem.W.Frag
  mg : Str → Option Value
  base : Heap
  T : List (Addr × Str)
  cl : Str → Addr
  lv : Nat
  io : List Nat
  kp : List (Addr × PyData)
  fx : List (Nat × Addr)
/-- a slot that may be written -/
def Cfg.loc (c : Cfg) (i : Nat) : Bool := !c.io.contains i && !(c.fx.any fun q => q.1 == i)
theorem loc_io {c : Cfg} {i : Nat} (h : c.loc i = true) : i ∉ c.io := fun z => by
  unfold Cfg.loc at h
  rw [List.contains_iff_mem.mpr z] at h
  cases h
theorem loc_fx {c : Cfg} {i : Nat} (h : c.loc i = true) {q : Nat × Addr} (hq : q ∈ c.fx) : q.1 ≠ i := fun z => by
  unfold Cfg.loc at h
  rw [Bool.and_eq_true] at h
  have := h.2
  rw [List.any_eq_true.mpr ⟨q, hq, by rw [z]; exact beq_self_eq_true i⟩] at this
  cases this
/-- the frame: forbidden, written, there at the entry; where the owned parameters are -/
structure Fm where
  N : As
  O : As
  B : As
  N0 : As
  ad : Nat → Addr
/-- what is never written stays -/
def Fu (T : List (Addr × Str)) (H H' : Hp) : Prop := (∀ b o, Imm o → H b = some o → H' b = some o) ∧ (LamX.Tabs T H → LamX.Tabs T H')
def ErrR (c : Cfg) (N : As) (H : Hp) (cn : Str) (x : PyData) (cls : Value) (d : Option Addr) : Prop :=
  ∃ (dd : Addr) (v : V × Str), cls = .ref (c.cl cn) ∧ d = some dd ∧ H dd = some (.xd (xdw v.2 v.1)) ∧ Rp H N v.1 x
/-- a callable of data only -/
def spF (c : Cfg) (F : List PyData → Option (Rs PyData)) : Sp := fun vs H Q E => ∃ (N O : As) (ds : List PyData), (∀ b, O b → N b) ∧ (∀ b, N b → H b ≠ none) ∧ RpAll H N vs ds ∧ LamX.Tabs c.T H ∧ ∃ r, F ds = some r ∧
  match r with
  | .ok d => ∀ v H', Step c.T (fun _ => False) H H' → Rp H' N v d → Q v H'
  | .err cn x => ∀ cls d H', Step c.T (fun _ => False) H H' → ErrR c N H' cn x cls d → E cls d H'
def CalF (c : Cfg) (H : Hp) (g : Addr) (F : List PyData → Option (Rs PyData)) : Prop :=
  ∃ sp, FnV c.P c.w c.K c.mg c.base c.lv g sp ∧ ∀ H', Fu c.T H H' → IsFn c.K H' g ∧ ∀ vs Q E, spF c F vs H' Q E → sp vs H' Q E
/-- a slot's value -/
def SlV (c : Cfg) (N O : As) (H : Hp) (v : V) : Sl → Prop
  | .no => True
  | .dat d => Rp H N v d
  | .own o => ∃ a u, v = .ref a ∧ O a ∧ H a = some u ∧ OdR H N u o
  | .fn F => ∃ g, v = .ref g ∧ CalF c H g F
  | .scr ns => ∃ a, v = .ref a ∧ ScrA c.K H a ns
def isOwn : Sl → Bool
  | .own _ => true
  | _ => false
structure StR (c : Cfg) (f : Fm) (σ : L2.St) (H : Hp) (ρ : List Sl) : Prop where
  len : ρ.length = σ.length
  sl : ∀ (i : Nat) (s : Sl), ρ[i]? = some s → s ≠ .no → ∃ v, σ[i]? = some (some v) ∧ SlV c f.N f.O H v s
  dis : ∀ (i j : Nat) (a : Addr) (s t : Sl), ρ[i]? = some s → ρ[j]? = some t → isOwn s = true → isOwn t = true → σ[i]? = some (some (.ref a)) → σ[j]? = some (some (.ref a)) → i = j
  on : ∀ b, f.O b → f.N b
  nk : ∀ b, f.N b → H b ≠ none
  n0 : ∀ b, f.N0 b → f.N b ∧ f.B b
  bk : ∀ b, f.B b → H b ≠ none
  ob : ∀ (i : Nat) (a : Addr) (s : Sl), ρ[i]? = some s → isOwn s = true → σ[i]? = some (some (.ref a)) → i ∉ c.io → ¬ f.B a
  io : ∀ i ∈ c.io, σ[i]? = some (some (.ref (f.ad i))) ∧ ∃ o, ρ[i]? = some (.own o)
  tabs : LamX.Tabs c.T H
  kp : ∀ q ∈ c.kp, ∃ w : V × Str, H q.1 = some (.xd (xdw w.2 w.1)) ∧ Rp H f.N w.1 q.2 ∧ ¬ f.O q.1
  fx : ∀ q ∈ c.fx, σ[q.1]? = some (some (.ref q.2))
theorem ScrA.fu {K : PySem.W.Frag} {T : List (Addr × Str)} {H H' : Hp} {a : Addr} {ns : List Int} (h : ScrA K H a ns) (s : Fu T H H') : ScrA K H' a ns := fun H2 k => h H2 fun o u e => k o u (s.1 a _ trivial e)
theorem Fu.of {T : List (Addr × Str)} {O : As} {H H' : Hp} (s : Step T O H H') : Fu T H H' := ⟨s.imm, s.tabs⟩
theorem Fu.trans {T : List (Addr × Str)} {H H1 H2 : Hp} (a : Fu T H H1) (b : Fu T H1 H2) : Fu T H H2 := ⟨fun c o i e => b.1 c o i (a.1 c o i e), fun t => b.2 (a.2 t)⟩
theorem CalF.mono {c : Cfg} {H H' : Hp} {g : Addr} {F : List PyData → Option (Rs PyData)} (h : CalF c H g F) (s : Fu c.T H H') : CalF c H' g F :=
  let ⟨sp, f, q⟩ := h
  ⟨sp, f, fun H2 z => q H2 (s.trans z)⟩
/-- behind what only adds -/
theorem StR.ext {c : Cfg} {f : Fm} {σ : L2.St} {H H' : Hp} {ρ : List Sl} (S : StR c f σ H ρ) (e : Ext H H') : StR c f σ H' ρ := by
  have st : Step c.T f.O H H' := e.step
  refine ⟨S.len, fun i s h n => ?_, S.dis, S.on, fun b z => st.live b (S.nk b z), S.n0, fun b z => st.live b (S.bk b z), S.ob, S.io, st.tabs S.tabs, fun q hq => by
    obtain ⟨w, h1, h2, h3⟩ := S.kp q hq
    exact ⟨w, e _ _ h1, h2.mono e.mo, h3⟩, S.fx⟩
  obtain ⟨v, e1, r⟩ := S.sl i s h n
  refine ⟨v, e1, ?_⟩
  cases s with
  | no => trivial
  | dat d => exact Rp.mono e.mo r
  | own o =>
    obtain ⟨a, u, rfl, ho, ha, hr⟩ := r
    exact ⟨a, u, rfl, ho, e _ _ ha, hr.mono e.mo⟩
  | fn F =>
    obtain ⟨g, rfl, hg⟩ := r
    exact ⟨g, rfl, hg.mono (Fu.of st)⟩
  | scr ns =>
    obtain ⟨a, rfl, h⟩ := r
    exact ⟨a, rfl, ScrA.fu h (Fu.of st)⟩
/-- from one frame to another -/
structure Gr (c : Cfg) (f : Fm) (H : Hp) (f' : Fm) (H' : Hp) : Prop where
  st : Step c.T f.O H H'
  nn : ∀ b, f'.N b → f.N b ∨ H b = none
  oo : ∀ b, f'.O b → f.O b ∨ H b = none
  B : f'.B = f.B
  n0 : f'.N0 = f.N0
  ad : f'.ad = f.ad
section
variable {c : Cfg} {f f1 f2 : Fm} {H H1 H2 : Hp}
theorem Gr.of (s : Step c.T f.O H H1) : Gr c f H f H1 := ⟨s, fun _ z => .inl z, fun _ z => .inl z, rfl, rfl, rfl⟩
theorem Gr.refl (f : Fm) (H : Hp) : Gr c f H f H := Gr.of (Step.refl H)
theorem Gr.ext (e : Ext H H1) : Gr c f H f H1 := Gr.of e.step
theorem Gr.trans (a : Gr c f H f1 H1) (b : Gr c f1 H1 f2 H2) : Gr c f H f2 H2 :=
  ⟨a.st.trans2 b.st a.oo, fun x z => (b.nn x z).elim (a.nn x) fun q => .inr (a.st.none_of q), fun x z => (b.oo x z).elim (a.oo x) fun q => .inr (a.st.none_of q), b.B.trans a.B, b.n0.trans a.n0, b.ad.trans a.ad⟩
theorem Gr.mo (a : Gr c f H f1 H1) (on : ∀ b, f.O b → f.N b) : Mo H f.N H1 f1.N := ⟨a.st.tup, fun b xs e n => ⟨a.st.keep b _ (fun z => n (on b z)) e (by simp), fun z => (a.nn b z).elim n fun q => by
  rw [q] at e
  cases e⟩⟩
end
end Ev

set_option Elab.async false
set_option linter.all false
set_option maxRecDepth 100000
set_option maxHeartbeats 4000000
/-! Ev: expressions. -/
namespace Ev
open PySem PySem.Spec PyProof.Rows L2 Ed

/-! ### the monad -/
def M.pure {α : Type} (a : α) : M α := fun ρ => some (.ok a, ρ)
def M.bind {α β : Type} (m : M α) (k : α → M β) : M β := fun ρ => match m ρ with
  | some (.ok a, ρ') => k a ρ'
  | some (.err c x, ρ') => some (.err c x, ρ')
  | none => none
def M.lift {α : Type} : Option α → M α
  | some a => fun ρ => some (.ok a, ρ)
  | none => fun _ => none
def M.stuck {α : Type} : M α := fun _ => none
def m1 (g : PyData → Option PyData) (a : M PyData) : M PyData := a.bind fun x => M.lift (g x)
/-- re: what the first operand holds when the second one is known -/
def m2A (g : PyData → PyData → Option PyData) (a : M PyData) (re : PyData → M PyData) (b : M PyData) : M PyData := a.bind fun d => b.bind fun y => (re d).bind fun x => M.lift (g x y)
abbrev m2 (g : PyData → PyData → Option PyData) (a b : M PyData) : M PyData := m2A g a M.pure b
def asB : PyData → Option Bool
  | .bool b => some b
  | _ => none
def mTest (a : M PyData) : M Bool := a.bind fun x => M.lift (asB x)
def mIf {α : Type} (t : M Bool) (a b : M α) : M α := t.bind fun c => if c = true then a else b
def mVar (i : Nat) : M PyData := fun ρ => match ρ[i]? with
  | some (.dat d) => some (.ok d, ρ)
  | some (.own (.lst ds)) => some (.ok (.list ds), ρ)
  | _ => none
/-- a slot of data -/
def mDat (i : Nat) : M PyData := fun ρ => match ρ[i]? with
  | some (.dat d) => some (.ok d, ρ)
  | _ => none

/-! ### what is wanted -/
abbrev OkF (α : Type) := Fm → Hp → α → List Sl → Prop
def Post {α : Type} (c : Cfg) (E : L2.St → XK) (f : Fm) (σ : L2.St) (H : Hp) (ρ' : List Sl) (Ok : α → List Sl → Prop) : Rs α → Prop
  | .ok a => Ok a ρ'
  | .err cn x => ∀ cls d H' f', Gr c f H f' H' → StR c f' σ H' ρ' → ErrR c f'.N H' cn x cls d → E σ cls d H'
def RX {α : Type} (c : Cfg) (E : L2.St → XK) (f : Fm) (σ : L2.St) (m : M α) (Ok : OkF α) (ρ : List Sl) (H : Hp) : Prop :=
  ∃ r ρ', m ρ = some (r, ρ') ∧ Post c E f σ H ρ' (Ok f H) r
def Reb {α : Type} (c : Cfg) (Ok : OkF α) : Prop := ∀ f H f1 H1 a ρ', Gr c f H f1 H1 → Ok f H a ρ' → Ok f1 H1 a ρ'
section
variable {α β : Type} {c : Cfg} {E : L2.St → XK} {f f1 : Fm} {σ : L2.St} {H H1 : Hp} {ρ ρ1 : List Sl} {m : M α} {k : α → M β} {Ok : OkF β} {Ok1 : OkF α}
theorem RX.rebase (h : RX c E f σ m Ok1 ρ H) (s : Gr c f H f1 H1) (hr : Reb c Ok1) : RX c E f1 σ m Ok1 ρ H1 := by
  obtain ⟨r, ρ', e, p⟩ := h
  refine ⟨r, ρ', e, ?_⟩
  cases r with
  | ok a => exact hr _ _ _ _ _ _ s p
  | err cn x => exact fun cls d H' f' s' => p cls d H' f' (s.trans s')
theorem RX.bind (h : RX c E f σ (m.bind k) Ok ρ H) (hk : ∀ a ρ1, m ρ = some (.ok a, ρ1) → RX c E f σ (k a) Ok ρ1 H → Ok1 f H a ρ1) : RX c E f σ m Ok1 ρ H := by
  obtain ⟨r, ρ', e, p⟩ := h
  unfold M.bind at e
  cases hm : m ρ with
  | none =>
    rw [hm] at e
    cases e
  | some q =>
    obtain ⟨r1, ρ1⟩ := q
    rw [hm] at e
    cases r1 with
    | ok a => exact ⟨_, _, hm, hk a ρ1 hm ⟨r, ρ', e, p⟩⟩
    | err cn x =>
      cases e
      exact ⟨_, _, hm, p⟩
theorem RX.lift {o : Option α} (h : RX c E f σ (M.lift o) Ok1 ρ H) : ∃ a, o = some a ∧ Ok1 f H a ρ := by
  obtain ⟨r, ρ', e, p⟩ := h
  cases o with
  | none => cases e
  | some a =>
    cases e
    exact ⟨a, rfl, p⟩
theorem RX.pure {a : α} (h : RX c E f σ (M.pure a) Ok1 ρ H) : Ok1 f H a ρ := by
  obtain ⟨r, ρ', e, p⟩ := h
  cases e
  exact p
end
/-- data come -/
def OkX (c : Cfg) (σ : L2.St) (Q : VK) : OkF PyData := fun f H d ρ' => ∀ v H' f', Gr c f H f' H' → StR c f' σ H' ρ' → Rp H' f'.N v d → Q v H'
def OkW (c : Cfg) (σ : L2.St) (Q : VK) : OkF PyData := fun f H d ρ' => ∀ v H' f', Gr c f H f' H' → StR c f' σ H' ρ' → Vw H' f'.N v d → Q v H'
/-- .. to be looked at later -/
def OkA (c : Cfg) (σ : L2.St) (re : PyData → M PyData) (Q : VK) : OkF PyData := fun f H d ρ' => ∀ v H' f', Gr c f H f' H' → StR c f' σ H' ρ' →
  (∀ H2 f2 ρ2 x ρ3, Gr c f' H' f2 H2 → StR c f2 σ H2 ρ2 → re d ρ2 = some (.ok x, ρ3) → ρ3 = ρ2 ∧ Vw H2 f2.N v x) → (∀ ρ2 cn x ρ3, re d ρ2 ≠ some (.err cn x, ρ3)) → Q v H'
def OkT (c : Cfg) (σ : L2.St) (Q : Bool → Hp → Prop) : OkF Bool := fun f H b ρ' => ∀ H' f', Gr c f H f' H' → StR c f' σ H' ρ' → Q b H'
/-- no own slot holds p -/
def NoSl (σ : L2.St) (ρ : List Sl) (p : Addr) : Prop := ∀ (i : Nat) (s : Sl), ρ[i]? = some s → isOwn s = true → σ[i]? ≠ some (some (.ref p))
/-- a new object comes -/
def OkL (c : Cfg) (σ : L2.St) (Q : VK) : OkF OD := fun f H o ρ' => ∀ p u H' f', Gr c f H f' H' → StR c f' σ H' ρ' → f'.O p → ¬ f'.B p → H' p = some u → OdR H' f'.N u o → NoSl σ ρ' p → Q (.ref p) H'
theorem reb_A {c : Cfg} {σ : L2.St} {re : PyData → M PyData} {Q : VK} : Reb c (OkA c σ re Q) := fun f H f1 H1 a ρ' s h v H' f' s' => h v H' f' (s.trans s')
theorem reb_W {c : Cfg} {σ : L2.St} {Q : VK} : Reb c (OkW c σ Q) := fun f H f1 H1 a ρ' s h v H' f' s' => h v H' f' (s.trans s')
theorem reb_X {c : Cfg} {σ : L2.St} {Q : VK} : Reb c (OkX c σ Q) := fun f H f1 H1 a ρ' s h v H' f' s' => h v H' f' (s.trans s')
theorem reb_T {c : Cfg} {σ : L2.St} {Q : Bool → Hp → Prop} : Reb c (OkT c σ Q) := fun f H f1 H1 a ρ' s h H' f' s' => h H' f' (s.trans s')
theorem reb_L {c : Cfg} {σ : L2.St} {Q : VK} : Reb c (OkL c σ Q) := fun f H f1 H1 a ρ' s h p u H' f' s' => h p u H' f' (s.trans s')
def tX (c : Cfg) (E : L2.St → XK) (m : M PyData) : TE := fun σ H Q => ∃ f ρ, StR c f σ H ρ ∧ RX c E f σ m (OkX c σ Q) ρ H
def tW (c : Cfg) (E : L2.St → XK) (m : M PyData) : TE := fun σ H Q => ∃ f ρ, StR c f σ H ρ ∧ RX c E f σ m (OkW c σ Q) ρ H
def tA (c : Cfg) (E : L2.St → XK) (m : M PyData) (re : PyData → M PyData) : TE := fun σ H Q => ∃ f ρ, StR c f σ H ρ ∧ RX c E f σ m (OkA c σ re Q) ρ H
def tT (c : Cfg) (E : L2.St → XK) (m : M Bool) : TT := fun σ H Q => ∃ f ρ, StR c f σ H ρ ∧ RX c E f σ m (OkT c σ Q) ρ H
def tL (c : Cfg) (E : L2.St → XK) (m : M OD) : TE := fun σ H Q => ∃ f ρ, StR c f σ H ρ ∧ RX c E f σ m (OkL c σ Q) ρ H
section
variable {c : Cfg} {E : L2.St → XK} {f : Fm} {σ : L2.St} {H : Hp} {ρ : List Sl} {β : Type} {Ok : OkF β}
/-- first one, then the others -/
theorem x_bind {m : M PyData} {k : PyData → M β} {Q : VK} (S : StR c f σ H ρ) (h : RX c E f σ (m.bind k) Ok ρ H) (hr : Reb c Ok)
    (hk : ∀ d ρ1 v H1 f1, m ρ = some (.ok d, ρ1) → Gr c f H f1 H1 → StR c f1 σ H1 ρ1 → Rp H1 f1.N v d → RX c E f1 σ (k d) Ok ρ1 H1 → Q v H1) : tX c E m σ H Q :=
  ⟨f, ρ, S, h.bind fun a ρ1 e h1 v H1 f1 s S1 r => hk a ρ1 v H1 f1 e s S1 r (h1.rebase s hr)⟩
theorem w_bind {m : M PyData} {k : PyData → M β} {Q : VK} (S : StR c f σ H ρ) (h : RX c E f σ (m.bind k) Ok ρ H) (hr : Reb c Ok)
    (hk : ∀ d ρ1 v H1 f1, m ρ = some (.ok d, ρ1) → Gr c f H f1 H1 → StR c f1 σ H1 ρ1 → Vw H1 f1.N v d → RX c E f1 σ (k d) Ok ρ1 H1 → Q v H1) : tW c E m σ H Q :=
  ⟨f, ρ, S, h.bind fun a ρ1 e h1 v H1 f1 s S1 r => hk a ρ1 v H1 f1 e s S1 r (h1.rebase s hr)⟩
theorem t_bind {m : M Bool} {k : Bool → M β} {Q : Bool → Hp → Prop} (S : StR c f σ H ρ) (h : RX c E f σ (m.bind k) Ok ρ H) (hr : Reb c Ok)
    (hk : ∀ b ρ1 H1 f1, m ρ = some (.ok b, ρ1) → Gr c f H f1 H1 → StR c f1 σ H1 ρ1 → RX c E f1 σ (k b) Ok ρ1 H1 → Q b H1) : tT c E m σ H Q :=
  ⟨f, ρ, S, h.bind fun a ρ1 e h1 H1 f1 s S1 => hk a ρ1 H1 f1 e s S1 (h1.rebase s hr)⟩
end
theorem peMono {X : Cx} {e : Expr} {t t' : TE} (h : PE X e t) (hm : ∀ σ H Q, t' σ H Q → t σ H Q) : PE X e t' := ⟨fun pins s σ H Q I q => h.run pins s σ H Q I (hm σ H Q q)⟩
theorem ptMono {X : Cx} {e : Expr} {t t' : TT} (h : PT X e t) (hm : ∀ σ H Q, t' σ H Q → t σ H Q) : PT X e t' := ⟨fun pins s σ H Q I q => h.run pins s σ H Q I (hm σ H Q q)⟩
theorem pwMono {X : Cx} {e : Expr} {t t' : TT} (h : PW X e t) (hm : ∀ σ H Q, t' σ H Q → t σ H Q) : PW X e t' := ⟨fun wh pins s σ H Q I q => h.run wh pins s σ H Q I (hm σ H Q q)⟩
/-- values that are known outright -/
theorem ox_ext {c : Cfg} {f : Fm} {σ : L2.St} {H H' : Hp} {ρ : List Sl} {Q : VK} {d : PyData} {v : V} (S : StR c f σ H ρ) (h : OkX c σ Q f H d ρ) (e : Ext H H') (r : Rp H' f.N v d) : Q v H' := h v H' f (Gr.ext e) (S.ext e) r

/-! ### the smallest ones -/
section
variable {X : Cx} {c : Cfg} {E : L2.St → XK}
theorem de_c {e : Expr} {v : V} {d : PyData} (h : PE X e (tC v)) (r : ∀ H N, Rp H N v d) : PE X e (tX c E (M.pure d)) := peMono h fun σ H Q ⟨f, ρ, S, q⟩ => ox_ext S q.pure (Ext.refl H) (r _ _)
theorem de_int {i j pos} : PE X (.Constant (.int i) j pos) (tX c E (M.pure (.int i))) := de_c pe_int fun _ _ => .int i
theorem de_bl {b j pos} : PE X (.Constant (.bool b) j pos) (tX c E (M.pure (.bool b))) := de_c pe_bl fun _ _ => .bl b
theorem de_non {j pos} : PE X (.Constant .none j pos) (tX c E (M.pure .none)) := de_c pe_non fun _ _ => .non
theorem de_str {x j pos} : PE X (.Constant (.str x) j pos) (tX c E (M.pure (.str x))) := de_c pe_str fun _ _ => .str x
theorem de_glob {x : Str} {v : V} {d : PyData} {u : Value} {pos : Pos} (hg : Gl X x) (hm : X.mg x = some u) (r : RelV v u) (rr : ∀ H N, Rp H N v d) (hd : (x == ("__debug__" : Str)) = false := by decide) : PE X (.Name x pos) (tX c E (M.pure d)) := de_c (pe_glob hg hm r hd) rr
theorem de_var {i : Nat} {x : Str} {pos : Pos} (hN : X.N[i]? = some x) (hv : Vis X.env.scope x) (hd : (x == ("__debug__" : Str)) = false := by decide) (hcd : (x == ("__classdict__" : Str)) = false := by decide) : PE X (.Name x pos) (tX c E (mDat i)) := by
  refine peMono (pe_var hN hv hd hcd) fun σ H Q ⟨f, ρ, S, r, ρ', e, p⟩ => ?_
  unfold mDat at e
  cases h : ρ[i]? with
  | none =>
    rw [h] at e
    cases e
  | some s =>
    rw [h] at e
    cases s with
    | dat d =>
      cases e
      obtain ⟨v, e1, rv⟩ := S.sl i _ h (fun z => nomatch z)
      exact ⟨v, e1, p v H f (Gr.refl f H) S rv⟩
    | _ => cases e
/-- a slot of data, or of an owned list -/
theorem dw_var {i : Nat} {x : Str} {pos : Pos} (hN : X.N[i]? = some x) (hv : Vis X.env.scope x) (hd : (x == ("__debug__" : Str)) = false := by decide) (hcd : (x == ("__classdict__" : Str)) = false := by decide) : PE X (.Name x pos) (tW c E (mVar i)) := by
  refine peMono (pe_var hN hv hd hcd) fun σ H Q ⟨f, ρ, S, r, ρ', e, p⟩ => ?_
  unfold mVar at e
  cases h : ρ[i]? with
  | none =>
    rw [h] at e
    cases e
  | some s =>
    rw [h] at e
    cases s with
    | dat d =>
      cases e
      obtain ⟨v, e1, rv⟩ := S.sl i _ h (fun z => nomatch z)
      exact ⟨v, e1, p v H f (Gr.refl f H) S (.rp rv)⟩
    | own o =>
      cases o with
      | lst ds =>
        cases e
        obtain ⟨v, e1, a, u, rfl, ho, ha, hr⟩ := S.sl i _ h (fun z => nomatch z)
        cases u with
        | lst xs => exact ⟨_, e1, p _ H f (Gr.refl f H) S (.own ha hr)⟩
        | _ => exact hr.elim
      | _ => cases e
    | _ => cases e
theorem dw {e : Expr} {m : M PyData} (h : PE X e (tX c E m)) : PE X e (tW c E m) := peMono h fun σ H Q ⟨f, ρ, S, r, ρ', e, p⟩ => ⟨f, ρ, S, r, ρ', e, by
  cases r with
  | ok a => exact fun v H' f' s' S' rv => p v H' f' s' S' (.rp rv)
  | err cn x => exact p⟩
/-! ### operators -/
def Op2 (X : Cx) (f : Value → Value → Sem Value) (g : PyData → PyData → Option PyData) : Prop :=
  ∃ r : R2, OpR X f r ∧ ∀ (H : Hp) (N : As) (x y : V) (a b d : PyData) (Q : VK), Vw H N x a → Vw H N y b → g a b = some d → (∀ b, N b → H b ≠ none) → (∀ v H', Ext H H' → Rp H' N v d → Q v H') → r x y H Q
def Op1 (X : Cx) (f : Value → Sem Value) (g : PyData → Option PyData) : Prop :=
  ∃ r : V → Hp → VK → Prop, UnR X f r ∧ ∀ (H : Hp) (N : As) (x : V) (a d : PyData) (Q : VK), Vw H N x a → g a = some d → (∀ b, N b → H b ≠ none) → (∀ v H', Ext H H' → Rp H' N v d → Q v H') → r x H Q
theorem x_m2 {f : Fm} {σ : L2.St} {H : Hp} {ρ : List Sl} {g : PyData → PyData → Option PyData} {ma mb : M PyData} {re : PyData → M PyData} {Q : VK} {r : R2} (S : StR c f σ H ρ) (h : RX c E f σ (m2A g ma re mb) (OkX c σ Q) ρ H)
    (hr : ∀ (H : Hp) (N : As) (x y : V) (a b d : PyData) (Q : VK), Vw H N x a → Vw H N y b → g a b = some d → (∀ b, N b → H b ≠ none) → (∀ v H', Ext H H' → Rp H' N v d → Q v H') → r x y H Q) : tOp r (tA c E ma re) (tW c E mb) σ H Q := by
  refine ⟨f, ρ, S, h.bind fun d ρ1 _ h1 v H1 f1 s1 S1 hv ne => ?_⟩
  refine w_bind S1 (h1.rebase s1 reb_X) reb_X fun b ρ2 u H2 f2 _ s2 S2 r2 h2 => ?_
  obtain ⟨r0, ρ3, e3, p3⟩ := h2
  cases hre : re d ρ2 with
  | none =>
    unfold M.bind at e3
    rw [hre] at e3
    cases e3
  | some q =>
    obtain ⟨q1, q2⟩ := q
    cases q1 with
    | err cn x => exact (ne _ _ _ _ hre).elim
    | ok a =>
      obtain ⟨rfl, r1⟩ := hv H2 f2 ρ2 a q2 s2 S2 hre
      unfold M.bind at e3
      rw [hre] at e3
      obtain ⟨dd, e, q⟩ := RX.lift (c := c) (E := E) (f := f2) (σ := σ) (H := H2) (Ok1 := OkX c σ Q) ⟨r0, ρ3, e3, p3⟩
      exact hr H2 f2.N v u a b dd Q r1 r2 e S2.nk fun v' H' e' rv => ox_ext S2 q e' rv
theorem da {e : Expr} {m : M PyData} (h : PE X e (tX c E m)) : PE X e (tA c E m M.pure) := peMono h fun σ H Q ⟨f, ρ, S, r, ρ', e, p⟩ => ⟨f, ρ, S, r, ρ', e, by
  cases r with
  | ok a =>
    intro v H' f' s' S' rv
    refine p v H' f' s' S' (fun H2 f2 ρ2 x ρ3 s2 S2 e2 => ?_) fun ρ2 cn x ρ3 z => nomatch z
    cases e2
    exact ⟨rfl, .rp (rv.mono (s2.mo S'.on))⟩
  | err cn x => exact p⟩
theorem vw_var {f : Fm} {σ : L2.St} {H : Hp} {ρ ρ' : List Sl} {i : Nat} {v : V} {x : PyData} (S : StR c f σ H ρ) (hv : σ[i]? = some (some v)) (e : mVar i ρ = some (.ok x, ρ')) : ρ' = ρ ∧ Vw H f.N v x := by
  unfold mVar at e
  cases h : ρ[i]? with
  | none =>
    rw [h] at e
    cases e
  | some s =>
    rw [h] at e
    cases s with
    | dat d =>
      cases e
      obtain ⟨v', e1, rv⟩ := S.sl i _ h (fun z => nomatch z)
      rw [hv] at e1
      cases e1
      exact ⟨rfl, .rp rv⟩
    | own o =>
      cases o with
      | lst ds =>
        cases e
        obtain ⟨v', e1, a, u, rfl, ho, ha, hr⟩ := S.sl i _ h (fun z => nomatch z)
        rw [hv] at e1
        cases e1
        cases u with
        | lst xs => exact ⟨rfl, .own ha hr⟩
        | _ => exact hr.elim
      | _ => cases e
    | _ => cases e
theorem mVar_noErr {i : Nat} {ρ ρ' : List Sl} {cn : Str} {x : PyData} : mVar i ρ ≠ some (.err cn x, ρ') := fun e => by
  unfold mVar at e
  split at e <;> cases e
theorem mVar_some {f : Fm} {σ : L2.St} {H : Hp} {ρ ρ' : List Sl} {i : Nat} {x : PyData} (S : StR c f σ H ρ) (e : mVar i ρ = some (.ok x, ρ')) : ∃ v, σ[i]? = some (some v) := by
  unfold mVar at e
  cases h : ρ[i]? with
  | none =>
    rw [h] at e
    cases e
  | some s =>
    rw [h] at e
    have n : s ≠ .no := fun z => by
      subst z
      cases e
    obtain ⟨v, e1, _⟩ := S.sl i _ h n
    exact ⟨v, e1⟩
theorem da_var {i : Nat} {x : Str} {pos : Pos} (hN : X.N[i]? = some x) (hv : Vis X.env.scope x) (hd : (x == ("__debug__" : Str)) = false := by decide) (hcd : (x == ("__classdict__" : Str)) = false := by decide) : PE X (.Name x pos) (tA c E (mVar i) fun _ => mVar i) := by
  refine peMono (pe_var hN hv hd hcd) fun σ H Q ⟨f, ρ, S, r, ρ', e, p⟩ => ?_
  cases r with
  | err cn x => exact (mVar_noErr e).elim
  | ok x =>
    obtain ⟨v, e1⟩ := mVar_some S e
    obtain ⟨rfl, _⟩ := vw_var S e1 e
    exact ⟨v, e1, p v H f (Gr.refl f H) S (fun H2 f2 ρ2 x ρ3 s2 S2 e2 => vw_var S2 e1 e2) fun _ _ _ _ => mVar_noErr⟩
theorem de_op {op : Operator} {a b : Expr} {pos : Pos} {g : PyData → PyData → Option PyData} {ma mb : M PyData} {re : PyData → M PyData} (ho : Op2 X (binaryOp op) g) (ha : PE X a (tA c E ma re)) (hb : PE X b (tW c E mb)) : PE X (.BinOp a op b pos) (tX c E (m2A g ma re mb)) := by
  obtain ⟨r, hr, hk⟩ := ho
  exact peMono (pe_op hr ha hb) fun σ H Q ⟨f, ρ, S, h⟩ => x_m2 S h hk
theorem de_cmp {op : CmpOp} {a b : Expr} {pos : Pos} {g : PyData → PyData → Option PyData} {ma mb : M PyData} {re : PyData → M PyData} (ho : Op2 X (compareOp op) g) (ha : PE X a (tA c E ma re)) (hb : PE X b (tW c E mb)) (hm : behindInMarks op b = false) : PE X (.Compare a [op] [b] pos) (tX c E (m2A g ma re mb)) := by
  obtain ⟨r, hr, hk⟩ := ho
  exact peMono (pe_cmpR hr ha hb hm) fun σ H Q ⟨f, ρ, S, h⟩ => x_m2 S h hk
theorem de_un {op : UnaryOp} {a : Expr} {pos : Pos} {g : PyData → Option PyData} {ma : M PyData} (ho : Op1 X (unaryOp op) g) (ha : PE X a (tW c E ma)) : PE X (.UnaryOp op a pos) (tX c E (m1 g ma)) := by
  obtain ⟨r, hr, hk⟩ := ho
  refine peMono (pe_un hr ha) fun σ H Q ⟨f, ρ, S, h⟩ => ?_
  refine w_bind S h reb_X fun a ρ1 v H1 f1 _ s1 S1 r1 h1 => ?_
  obtain ⟨d, e, q⟩ := h1.lift
  exact hk H1 f1.N v a d Q r1 e S1.nk fun v' H' e' rv => ox_ext S1 q e' rv
/-! ### tests -/
theorem dt_val {e : Expr} {m : M PyData} (h : PE X e (tX c E m)) (he : ∀ whole, isTrue e X.env whole = (do let v ← whole; standAt e.pos; holding [v] (truthy v)) := by intro _; rfl) : PT X e (tT c E (mTest m)) := by
  refine ptMono (pt_val h he) fun σ H Q ⟨f, ρ, S, q⟩ => ?_
  refine x_bind S q reb_T fun d ρ1 v H1 f1 _ s1 S1 r1 h1 => ?_
  obtain ⟨b, e, q⟩ := h1.lift
  cases d with
  | bool k =>
    cases e
    cases r1
    exact ⟨_, rfl, q H1 f1 (Gr.refl _ _) S1⟩
  | _ => cases e
theorem dt_cmp {op : CmpOp} {a b : Expr} {pos : Pos} {g : PyData → PyData → Option PyData} {ma mb : M PyData} {re : PyData → M PyData} (ho : Op2 X (compareOp op) g) (ha : PE X a (tA c E ma re)) (hb : PE X b (tW c E mb)) (hm : behindInMarks op b = false) : PT X (.Compare a [op] [b] pos) (tT c E (mTest (m2A g ma re mb))) := by
  obtain ⟨r, hr, hk⟩ := ho
  refine ptMono (pt_cmpR hr ha hb hm) fun σ H Q ⟨f, ρ, S, q⟩ => ?_
  refine x_m2 (Q := fun x H' => ∃ k, x = .bl k ∧ Q k H') S (q.bind fun d ρ1 e1 h1 => ?_) hk
  obtain ⟨b, e, q⟩ := h1.lift
  intro v H' f' s' S' rv
  cases d with
  | bool k =>
    cases e
    cases rv
    exact ⟨_, rfl, q H' f' s' S'⟩
  | _ => cases e
theorem dt_not {a : Expr} {pos : Pos} {m : M Bool} (h : PT X a (tT c E m)) : PT X (.UnaryOp .Not a pos) (tT c E (m.bind fun b => M.pure (!b))) := by
  refine ptMono (pt_not h) fun σ H Q ⟨f, ρ, S, q⟩ => ?_
  refine t_bind S q reb_T fun b ρ1 H1 f1 _ s1 S1 h1 => ?_
  exact h1.pure H1 f1 (Gr.refl _ _) S1
def mAnd (a b : M Bool) : M Bool := a.bind fun x => if x = true then b else M.pure false
def mOr (a b : M Bool) : M Bool := a.bind fun x => if x = true then M.pure true else b
theorem dw_and1 {a : Expr} {pos : Pos} {m : M Bool} (h : PT X a (tT c E m)) : PW X (.BoolOp .And [a] pos) (tT c E m) := pw_and1 h
theorem dw_or1 {a : Expr} {pos : Pos} {m : M Bool} (h : PT X a (tT c E m)) : PW X (.BoolOp .Or [a] pos) (tT c E m) := pw_or1 h
theorem dw_and {a b : Expr} {rest : List Expr} {pos : Pos} {ma mb : M Bool} (ha : PT X a (tT c E ma)) (hb : PW X (.BoolOp .And (b :: rest) pos) (tT c E mb)) : PW X (.BoolOp .And (a :: b :: rest) pos) (tT c E (mAnd ma mb)) := by
  refine pwMono (pw_and ha hb) fun σ H Q ⟨f, ρ, S, q⟩ => ?_
  refine t_bind S q reb_T fun x ρ1 H1 f1 _ s1 S1 h1 => ?_
  cases x with
  | true => exact ⟨f1, ρ1, S1, h1⟩
  | false => exact h1.pure H1 f1 (Gr.refl _ _) S1
theorem dw_or {a b : Expr} {rest : List Expr} {pos : Pos} {ma mb : M Bool} (ha : PT X a (tT c E ma)) (hb : PW X (.BoolOp .Or (b :: rest) pos) (tT c E mb)) : PW X (.BoolOp .Or (a :: b :: rest) pos) (tT c E (mOr ma mb)) := by
  refine pwMono (pw_or ha hb) fun σ H Q ⟨f, ρ, S, q⟩ => ?_
  refine t_bind S q reb_T fun x ρ1 H1 f1 _ s1 S1 h1 => ?_
  cases x with
  | true => exact h1.pure H1 f1 (Gr.refl _ _) S1
  | false => exact ⟨f1, ρ1, S1, h1⟩
/-! ### and, or, not as values of bools -/
def vAnd (a b : M PyData) : M PyData := (mTest a).bind fun x => if x = true then b else M.pure (.bool false)
def vOr (a b : M PyData) : M PyData := (mTest a).bind fun x => if x = true then M.pure (.bool true) else b
def vNot (a : M PyData) : M PyData := (mTest a).bind fun x => M.pure (.bool (!x))
theorem x_test {f : Fm} {σ : L2.St} {H : Hp} {ρ : List Sl} {m : M PyData} {k : Bool → M PyData} {Q : VK} {Q1 : Bool → Hp → Prop} (S : StR c f σ H ρ) (h : RX c E f σ ((mTest m).bind k) (OkX c σ Q) ρ H)
    (hk : ∀ b ρ1 H1 f1, Gr c f H f1 H1 → StR c f1 σ H1 ρ1 → RX c E f1 σ (k b) (OkX c σ Q) ρ1 H1 → Q1 b H1) : tX c E m σ H fun x H1 => ∃ b, x = .bl b ∧ Q1 b H1 := by
  refine ⟨f, ρ, S, RX.bind (h.bind (Ok1 := fun f H b ρ1 => ∀ H1 f1, Gr c f H f1 H1 → StR c f1 σ H1 ρ1 → Q1 b H1) fun b ρ1 e h1 H1 f1 s1 S1 => hk b ρ1 H1 f1 s1 S1 (h1.rebase s1 reb_X)) fun d ρ1 _ h1 => ?_⟩
  obtain ⟨b, e, q⟩ := h1.lift
  intro v H' f' s' S' rv
  cases d with
  | bool k =>
    cases e
    cases rv
    exact ⟨_, rfl, q H' f' s' S'⟩
  | _ => cases e
theorem de_one {op} {a : Expr} {pos : Pos} {m : M PyData} (h : PE X a (tX c E m)) : PE X (.BoolOp op [a] pos) (tX c E m) := pe_one h
theorem de_and {a b : Expr} {rest : List Expr} {pos : Pos} {ma mb : M PyData} (ha : PE X a (tX c E ma)) (hb : PE X (.BoolOp .And (b :: rest) pos) (tX c E mb)) : PE X (.BoolOp .And (a :: b :: rest) pos) (tX c E (vAnd ma mb)) := by
  refine peMono (pe_and ha hb) fun σ H Q ⟨f, ρ, S, q⟩ => ?_
  refine x_test (Q1 := fun x H1 => if x = true then tX c E mb σ H1 Q else Q (.bl false) H1) S q fun x ρ1 H1 f1 s1 S1 h1 => ?_
  cases x with
  | true => exact ⟨f1, ρ1, S1, h1⟩
  | false => exact h1.pure _ H1 f1 (Gr.refl _ _) S1 (.bl false)
theorem de_or {a b : Expr} {rest : List Expr} {pos : Pos} {ma mb : M PyData} (ha : PE X a (tX c E ma)) (hb : PE X (.BoolOp .Or (b :: rest) pos) (tX c E mb)) : PE X (.BoolOp .Or (a :: b :: rest) pos) (tX c E (vOr ma mb)) := by
  refine peMono (pe_or ha hb) fun σ H Q ⟨f, ρ, S, q⟩ => ?_
  refine x_test (Q1 := fun x H1 => if x = true then Q (.bl true) H1 else tX c E mb σ H1 Q) S q fun x ρ1 H1 f1 s1 S1 h1 => ?_
  cases x with
  | true => exact h1.pure _ H1 f1 (Gr.refl _ _) S1 (.bl true)
  | false => exact ⟨f1, ρ1, S1, h1⟩
theorem de_not {a : Expr} {pos : Pos} {ma : M PyData} (ha : PE X a (tX c E ma)) : PE X (.UnaryOp .Not a pos) (tX c E (vNot ma)) := by
  refine peMono (pe_not ha) fun σ H Q ⟨f, ρ, S, q⟩ => ?_
  refine x_test (Q1 := fun x H1 => Q (.bl (!x)) H1) S q fun x ρ1 H1 f1 s1 S1 h1 => ?_
  exact h1.pure _ H1 f1 (Gr.refl _ _) S1 (.bl _)
theorem de_if {t a b : Expr} {pos : Pos} {mt : M Bool} {ma mb : M PyData} (ht : PT X t (tT c E mt)) (ha : PE X a (tX c E ma)) (hb : PE X b (tX c E mb)) : PE X (.IfExp t a b pos) (tX c E (mIf mt ma mb)) := by
  refine peMono (pe_ifExp ht ha hb) fun σ H Q ⟨f, ρ, S, q⟩ => ?_
  refine t_bind S q reb_X fun x ρ1 H1 f1 _ s1 S1 h1 => ?_
  cases x with
  | true => exact ⟨f1, ρ1, S1, h1⟩
  | false => exact ⟨f1, ρ1, S1, h1⟩
/-- a op1 b op2 c -/
def mChain (g g' : PyData → PyData → Option PyData) (a b d : M PyData) : M PyData := a.bind fun x => b.bind fun y => (M.lift ((g x y).bind asB)).bind fun k => if k = true then d.bind fun z => M.lift (g' y z) else M.pure (.bool false)
theorem de_chain {op op' : CmpOp} {a b d : Expr} {pos : Pos} {g g' : PyData → PyData → Option PyData} {ma mb md : M PyData} (ho : Op2 X (compareOp op) g) (ho' : Op2 X (compareOp op') g') (ha : PE X a (tX c E ma)) (hb : PE X b (tX c E mb)) (hd : PE X d (tX c E md))
    (hm : lastMarks [op, op'] [b, d] = false := by with_unfolding_all rfl) : PE X (.Compare a [op, op'] [b, d] pos) (tX c E (mChain g g' ma mb md)) := by
  obtain ⟨r, hr, hk⟩ := ho
  obtain ⟨r', hr', hk'⟩ := ho'
  refine peMono (pe_chain hr hr' ha hb hd hm) fun σ H Q ⟨f, ρ, S, h⟩ => ?_
  refine x_bind S h reb_X fun x ρ1 v H1 f1 _ s1 S1 r1 h1 => ?_
  refine x_bind S1 h1 reb_X fun y ρ2 u H2 f2 _ s2 S2 r2 h2 => ?_
  have h3 := h2.bind (Ok1 := fun f H b ρ1 => ρ1 = ρ2 ∧ RX c E f σ (if b = true then md.bind fun z => M.lift (g' y z) else M.pure (.bool false)) (OkX c σ Q) ρ2 H) (fun k ρ3 e h3 => by
    cases hg : (g x y).bind asB with
    | none =>
      rw [hg] at e
      cases e
    | some k2 =>
      rw [hg] at e
      cases e
      exact ⟨rfl, h3⟩)
  obtain ⟨k, hg, _, h4⟩ := h3.lift
  cases hg1 : g x y with
  | none =>
    rw [hg1] at hg
    cases hg
  | some d1 =>
    rw [hg1] at hg
    cases d1 with
    | bool k1 =>
      cases hg
      refine hk H2 f2.N v u x y _ _ (.rp (r1.mono (s2.mo S1.on))) (.rp r2) hg1 S2.nk fun v' H' e' rv => ?_
      cases rv
      refine ⟨_, rfl, ?_⟩
      have S3 := S2.ext e'
      have h5 := h4.rebase (Gr.ext e') reb_X
      cases k with
      | true =>
        refine x_bind S3 h5 reb_X fun z ρ3 w' H3 f3 _ s3 S4 r3 h6 => ?_
        obtain ⟨dd, eg, q⟩ := h6.lift
        exact hk' H3 f3.N u w' y z dd Q (.rp ((r2.mono e'.mo).mono (s3.mo S3.on))) (.rp r3) eg S4.nk fun v2 H4 e4 rv4 => ox_ext S4 q e4 rv4
      | false => exact h5.pure _ _ f2 (Gr.refl _ _) S3 (.bl false)
    | _ => cases hg
end
end Ev

set_option Elab.async false
set_option linter.all false
set_option maxRecDepth 100000
set_option maxHeartbeats 4000000
/-! Ev: the operators on data. -/
namespace Ev
open PySem PySem.Spec PyProof.Rows L2 Ed

/-- sizes that are small enough -/
abbrev lim : Nat := 1000000
theorem lim_ok {n : Nat} (h : n ≤ lim) : n ≤ sizeLine := Nat.le_trans h (by decide)
def dInt2 (g : Int → Int → PyData) : PyData → PyData → Option PyData
  | .int i, .int j => some (g i j)
  | _, _ => none
def dAdd : PyData → PyData → Option PyData
  | .int i, .int j => some (.int (i + j))
  | .tuple a, .tuple b => if a.length + b.length ≤ lim then some (.tuple (a ++ b)) else none
  | _, _ => none
def dSub := dInt2 fun i j => .int (i - j)
def dMul : PyData → PyData → Option PyData
  | .int i, .int j => if i.natAbs.log2 + j.natAbs.log2 < 1000000 then some (.int (i * j)) else none
  | .tuple a, .int k => if a ≠ [] ∧ 2 ≤ k ∧ k ≤ 1000 ∧ a.length ≤ 1000 then some (.tuple (List.replicate k.toNat a).flatten) else none
  | _, _ => none
def dMod : PyData → PyData → Option PyData
  | .int i, .int j => if 0 < j then some (.int (i % j)) else none
  | _, _ => none
def dDiv : PyData → PyData → Option PyData
  | .int i, .int j => if 0 < j ∧ j.natAbs.log2 < 9000 then some (.int (i / j)) else none
  | _, _ => none
def dPow : PyData → PyData → Option PyData
  | .int i, .int j => if 0 ≤ j ∧ j ≤ 1000000 ∧ i.natAbs < 2 ^ 64 then some (.int (i ^ j.toNat)) else none
  | _, _ => none
def dShl : PyData → PyData → Option PyData
  | .int i, .int j => if 0 ≤ j ∧ j ≤ 1000000 ∧ i.natAbs < 2 ^ 64 then some (.int (i * 2 ^ j.toNat)) else none
  | _, _ => none
def dShr : PyData → PyData → Option PyData
  | .int i, .int j => if 0 ≤ j then some (.int (i / 2 ^ j.toNat)) else none
  | _, _ => none
def dBAnd := dInt2 fun i j => .int (Builtin.bitAnd i j)
def dBOr := dInt2 fun i j => .int (Builtin.bitOr i j)
def dLt := dInt2 fun i j => .bool (decide (i < j))
def dLe := dInt2 fun i j => .bool (decide (i ≤ j))
def dGt := dInt2 fun i j => .bool (decide (j < i))
def dGe := dInt2 fun i j => .bool (decide (j ≤ i))
def dEq0 (x y : PyData) : Option PyData := if (SeqAt.shaped x && SeqAt.shaped y) = true then some (.bool (PyData.eqv x y)) else none
def dNe0 (x y : PyData) : Option PyData := if (SeqAt.shaped x && SeqAt.shaped y) = true then some (.bool (!PyData.eqv x y)) else none
/-- texts are compared without a look at their shapes -/
def dEq (x y : PyData) : Option PyData := match x, y with
  | .str a, .str b => some (.bool (a == b))
  | x, y => dEq0 x y
def dNe (x y : PyData) : Option PyData := match x, y with
  | .str a, .str b => some (.bool (!(a == b)))
  | x, y => dNe0 x y
def dEqS : PyData → PyData → Option PyData
  | .str a, .str b => some (.bool (a == b))
  | _, _ => none
def dNeS : PyData → PyData → Option PyData
  | .str a, .str b => some (.bool (!(a == b)))
  | _, _ => none
def isNo : PyData → Bool
  | .none => true
  | _ => false
def dIsN (x y : PyData) : Option PyData := match y with
  | .none => some (.bool (isNo x))
  | _ => none
def dNotN (x y : PyData) : Option PyData := match y with
  | .none => some (.bool (!isNo x))
  | _ => none
/-- x is True -/
def isBl (b : Bool) : PyData → Bool
  | .bool c => c == b
  | _ => false
def dIsB (x y : PyData) : Option PyData := match x, y with
  | .list _, _ => none
  | .tuple _, _ => none
  | x, .bool b => some (.bool (isBl b x))
  | _, _ => none
def dNotB (x y : PyData) : Option PyData := match x, y with
  | .list _, _ => none
  | .tuple _, _ => none
  | x, .bool b => some (.bool (!isBl b x))
  | _, _ => none
def flatD : PyData → Bool
  | .tuple _ => false
  | .list _ => false
  | .dict _ => false
  | _ => true
def dIn (neg : Bool) (x y : PyData) : Option PyData := match y with
  | .list ds => if (SeqAt.shaped x && SeqAt.shaped (.list ds)) = true then some (.bool (neg ^^ ds.any fun z => PyData.eqv z x)) else none
  | .tuple ds => if (SeqAt.shaped x && SeqAt.shaped (.list ds) && flatD x && ds.all flatD) = true then some (.bool (neg ^^ ds.any fun z => PyData.eqv z x)) else none
  | _ => none
def dIx (x y : PyData) : Option PyData := match x, y with
  | .list ds, .int i => atI ds i
  | .tuple ds, .int i => atI ds i
  | _, _ => none

section
variable {X : Cx}
theorem o_int {f : Value → Value → Sem Value} {g : Int → Int → V} {gd : Int → Int → PyData} (h : OpR X f (rI0 g)) (e : ∀ i j H N, Rp H N (g i j) (gd i j)) : Op2 X f (dInt2 gd) := by
  refine ⟨_, h, fun H N x y a b d Q ra rb hg _ q => ?_⟩
  match a, b, hg with
  | .int i, .int j, hg =>
    cases hg
    cases ra with
    | rp ra =>
      cases rb with
      | rp rb =>
        cases ra
        cases rb
        exact ⟨i, j, rfl, rfl, q _ H (Ext.refl H) (e i j _ _)⟩
theorem o_sub : Op2 X (binaryOp .Sub) dSub := o_int op_sub fun _ _ _ _ => .int _
theorem o_band : Op2 X (binaryOp .BitAnd) dBAnd := o_int op_and fun _ _ _ _ => .int _
theorem o_bor : Op2 X (binaryOp .BitOr) dBOr := o_int op_or fun _ _ _ _ => .int _
theorem o_lt : Op2 X (compareOp .Lt) dLt := o_int op_lt fun _ _ _ _ => .bl _
theorem o_le : Op2 X (compareOp .LtE) dLe := o_int op_le fun _ _ _ _ => .bl _
theorem o_gt : Op2 X (compareOp .Gt) dGt := o_int op_gt fun _ _ _ _ => .bl _
theorem o_ge : Op2 X (compareOp .GtE) dGe := o_int op_ge fun _ _ _ _ => .bl _
/-- ints under a condition -/
theorem o_intC {f : Value → Value → Sem Value} {C : Int → Int → Prop} {g : Int → Int → V} {gd : PyData → PyData → Option PyData} (h : OpR X f (rI C g)) (e : ∀ a b d, gd a b = some d → ∃ i j, a = .int i ∧ b = .int j ∧ C i j ∧ ∀ H N, Rp H N (g i j) d) : Op2 X f gd := by
  refine ⟨_, h, fun H N x y a b d Q ra rb hg _ q => ?_⟩
  obtain ⟨i, j, rfl, rfl, hc, hr⟩ := e a b d hg
  cases ra with
  | rp ra =>
    cases rb with
    | rp rb =>
      cases ra
      cases rb
      exact ⟨i, j, rfl, rfl, hc, q _ H (Ext.refl H) (hr _ _)⟩
theorem o_mod : Op2 X (binaryOp .Mod) dMod := o_intC op_mod fun a b d h => by
  unfold dMod at h
  split at h <;> first | cases h | skip
  rename_i i j
  split at h <;> cases h
  rename_i hc
  exact ⟨i, j, rfl, rfl, hc, fun _ _ => .int _⟩
theorem o_div : Op2 X (binaryOp .FloorDiv) dDiv := o_intC op_fdivW fun a b d h => by
  unfold dDiv at h
  split at h <;> first | cases h | skip
  rename_i i j
  split at h <;> cases h
  rename_i hc
  exact ⟨i, j, rfl, rfl, hc, fun _ _ => .int _⟩
theorem o_pow : Op2 X (binaryOp .Pow) dPow := o_intC op_pow fun a b d h => by
  unfold dPow at h
  split at h <;> first | cases h | skip
  rename_i i j
  split at h <;> cases h
  rename_i hc
  exact ⟨i, j, rfl, rfl, hc, fun _ _ => .int _⟩
theorem o_shl : Op2 X (binaryOp .LShift) dShl := o_intC op_shl fun a b d h => by
  unfold dShl at h
  split at h <;> first | cases h | skip
  rename_i i j
  split at h <;> cases h
  rename_i hc
  exact ⟨i, j, rfl, rfl, hc, fun _ _ => .int _⟩
theorem o_shr : Op2 X (binaryOp .RShift) dShr := o_intC op_shr fun a b d h => by
  unfold dShr at h
  split at h <;> first | cases h | skip
  rename_i i j
  split at h <;> cases h
  rename_i hc
  exact ⟨i, j, rfl, rfl, hc, fun _ _ => .int _⟩
/-- two kinds of operands -/
theorem o_or {f : Value → Value → Sem Value} {g g1 g2 : PyData → PyData → Option PyData} (h1 : Op2 X f g1) (h2 : Op2 X f g2) (e : ∀ a b d, g a b = some d → g1 a b = some d ∨ g2 a b = some d) : Op2 X f g := by
  obtain ⟨r1, o1, k1⟩ := h1
  obtain ⟨r2, o2, k2⟩ := h2
  refine ⟨_, o1.or o2, fun H N x y a b d Q ra rb hg nk q => ?_⟩
  rcases e a b d hg with z | z
  · exact .inl (k1 H N x y a b d Q ra rb z nk q)
  · exact .inr (k2 H N x y a b d Q ra rb z nk q)
def rCatR (N : As) : R2 := fun x y H Q => ∃ ds es, Rp H N x (.tuple ds) ∧ Rp H N y (.tuple es) ∧ ds.length + es.length ≤ sizeLine ∧ ∀ z H', Ext H H' → Rp H' N z (.tuple (ds ++ es)) → Q z H'
theorem op_catR (N : As) : OpR X (binaryOp .Add) (rCatR N) := by
  intro pins s σ H x y v u Q I rx ry h
  obtain ⟨ds, es, hx, hy, hz, q⟩ := h
  obtain ⟨a, xs, rfl, ta, ax⟩ := hx.tuple_inv
  obtain ⟨b, ys, rfl, tb, ay⟩ := hy.tuple_inv
  cases rx
  cases ry
  obtain ⟨i1, r1, p1, _⟩ := I.tuple (ta.sq (K := X.K))
  obtain ⟨i2, r2, p2, _⟩ := I.tuple (tb.sq (K := X.K))
  have l1 := ax.len
  have l2 := ay.len
  by_cases e : xs = []
  · have e1 : ds = [] := by
      cases ax with
      | nil => rfl
      | cons _ _ => cases e
    subst e
    cases r1
    refine cat_tup0 p1 p2 ⟨.ref b, H, I, rfl, q _ _ (Ext.refl H) ?_⟩
    rw [e1]
    exact hy
  · refine HT.cat_tup p1 p2 (fun z => e (r1.nil_iff.mp z)) (fun z => ⟨.ref a, H, I, rfl, q _ _ (Ext.refl H) ?_⟩) (fun _ => ?_) (by rw [← r1.length, ← r2.length, l1, l2]; exact hz)
    · have e2 : es = [] := by
        have := r2.nil_iff.mp z
        subst this
        cases ay
        rfl
      rw [e2, List.append_nil]
      exact hx
    · have nF := I.hok.fresh (Nat.le_refl s.heap.objs.size)
      have made := Heap.get?_push_size s.heap (o := { cls := .type "tuple", data := .seq (i1 ++ i2).toArray }) rfl
      have J := I.laid (o := .frz { cls := .type "tuple", data := .seq (i1 ++ i2).toArray } (.tup (xs ++ ys))) (t' := s.toks) (fun b u e => Heap.get?_push_of_some _ e) (Nat.le_refl _) ⟨made, by rw [List.length_append, l1, l2]; exact hz, _, r1.append r2, ⟨_, made, rfl, _, rfl⟩⟩
      have kp := Ext.new (o := .frz { cls := .type "tuple", data := .seq (i1 ++ i2).toArray } (.tup (xs ++ ys))) nF
      exact ⟨.ref s.heap.objs.size, _, J, rfl, q _ _ kp (.tup (Tp.made rfl) ((ax.app ay).mono kp.mo))⟩
/-- a family of rules, one for each N -/
theorem OpR.any {f : Value → Value → Sem Value} {ι : Type} {r : ι → R2} (h : ∀ i, OpR X f (r i)) : OpR X f (fun x y H Q => ∃ i, r i x y H Q) := by
  intro pins s σ H x y v u Q I rx ry ⟨i, q⟩
  exact h i pins s σ H x y v u Q I rx ry q
def dAddT : PyData → PyData → Option PyData
  | .tuple a, .tuple b => if a.length + b.length ≤ lim then some (.tuple (a ++ b)) else none
  | _, _ => none
theorem o_addT : Op2 X (binaryOp .Add) dAddT := by
  refine ⟨_, OpR.any op_catR, fun H N x y a b d Q ra rb hg nk q => ?_⟩
  match a, b, hg with
  | .tuple a, .tuple b, hg =>
    have hg : (if a.length + b.length ≤ lim then some (PyData.tuple (a ++ b)) else none) = some d := hg
    split at hg
    · rename_i hl
      cases hg
      exact ⟨N, a, b, ra.tup, rb.tup, lim_ok hl, q⟩
    · cases hg
theorem o_add : Op2 X (binaryOp .Add) dAdd := o_or (o_int (gd := fun i j => .int (i + j)) op_add fun _ _ _ _ => .int _) o_addT fun a b d h => by
  unfold dAdd at h
  split at h
  · exact .inl h
  · exact .inr h
  · cases h
def mulOk (i j : Int) : Bool := (decide (-(2 ^ 64) < i) && decide (i < 2 ^ 64)) || (decide (-(2 ^ 64) < j) && decide (j < 2 ^ 64)) || decide (i.natAbs.log2 + j.natAbs.log2 < 1000000)
def dMulI : PyData → PyData → Option PyData
  | .int i, .int j => if mulOk i j = true then some (.int (i * j)) else none
  | _, _ => none
theorem op_mulA : OpR X (binaryOp .Mult) (rI (fun i j => mulOk i j = true) fun i j => .int (i * j)) := by
  intro pins s σ H x y v u Q I rx ry ⟨i, j, e1, e2, h, q⟩
  have h : mulOk i j = true := h
  unfold mulOk at h
  rw [Bool.or_eq_true, Bool.or_eq_true, Bool.and_eq_true, Bool.and_eq_true] at h
  simp only [decide_eq_true_eq] at h
  rcases h with (h | h) | h
  · exact op_mul pins s σ H x y v u Q I rx ry ⟨i, j, e1, e2, .inl h, q⟩
  · exact op_mul pins s σ H x y v u Q I rx ry ⟨i, j, e1, e2, .inr h, q⟩
  · exact op_mulW pins s σ H x y v u Q I rx ry ⟨i, j, e1, e2, h, q⟩
theorem o_mulI : Op2 X (binaryOp .Mult) dMulI := o_intC op_mulA fun a b d h => by
  unfold dMulI at h
  split at h <;> first | cases h | skip
  rename_i i j
  split at h <;> cases h
  rename_i hc
  exact ⟨i, j, rfl, rfl, hc, fun _ _ => .int _⟩

/-! ### looks -/
theorem o_eq0 (hu : X.A.units + 65 < cLine) : Op2 X (compareOp .Eq) dEq0 := by
  refine ⟨_, op_eqD (by omega), fun H N x y a b d Q ra rb hg _ q => ?_⟩
  unfold dEq0 at hg
  split at hg
  · rename_i h
    rw [Bool.and_eq_true] at h
    cases hg
    exact ⟨a, b, ra.dp, rb.dp, h.1, h.2, q _ H (Ext.refl H) (.bl _)⟩
  · cases hg
theorem o_ne0 (hu : X.A.units + 65 < cLine) : Op2 X (compareOp .NotEq) dNe0 := by
  refine ⟨_, op_neD (by omega), fun H N x y a b d Q ra rb hg _ q => ?_⟩
  unfold dNe0 at hg
  split at hg
  · rename_i h
    rw [Bool.and_eq_true] at h
    cases hg
    exact ⟨a, b, ra.dp, rb.dp, h.1, h.2, q _ H (Ext.refl H) (.bl _)⟩
  · cases hg
theorem dec_str (a b : Str) : decide (V.str a = V.str b) = (a == b) := by
  rw [Bool.eq_iff_iff]
  simp
theorem o_eqS : Op2 X (compareOp .Eq) dEqS := by
  refine ⟨_, op_eq, fun H N x y a b d Q ra rb hg _ q => ?_⟩
  match a, b, hg with
  | .str s, .str t, hg =>
    cases hg
    cases ra
    cases rb
    rename_i r1 r2
    cases r1
    cases r2
    exact ⟨rfl, by rw [dec_str]; exact q _ H (Ext.refl H) (.bl _)⟩
theorem o_neS : Op2 X (compareOp .NotEq) dNeS := by
  refine ⟨_, op_ne, fun H N x y a b d Q ra rb hg _ q => ?_⟩
  match a, b, hg with
  | .str s, .str t, hg =>
    cases hg
    cases ra
    cases rb
    rename_i r1 r2
    cases r1
    cases r2
    exact ⟨rfl, by rw [dec_str]; exact q _ H (Ext.refl H) (.bl _)⟩
theorem o_eq (hu : X.A.units + 65 < cLine) : Op2 X (compareOp .Eq) dEq := o_or o_eqS (o_eq0 hu) fun a b d h => by
  unfold dEq at h
  split at h
  · exact .inl h
  · exact .inr h
theorem o_ne (hu : X.A.units + 65 < cLine) : Op2 X (compareOp .NotEq) dNe := o_or o_neS (o_ne0 hu) fun a b d h => by
  unfold dNe at h
  split at h
  · exact .inl h
  · exact .inr h
theorem Vw.isNo {H : Hp} {N : As} {v : V} {d : PyData} (h : Vw H N v d) : decide (v = .non) = isNo d := by
  cases h with
  | rp r => cases r <;> rfl
  | own _ _ => rfl
theorem o_isN : Op2 X (compareOp .Is) dIsN := by
  refine ⟨_, op_isN, fun H N x y a b d Q ra rb hg _ q => ?_⟩
  cases b with
  | none =>
    have hg : some (PyData.bool (isNo a)) = some d := hg
    cases hg
    cases rb with
    | rp rb =>
      cases rb
      refine ⟨rfl, ?_⟩
      rw [ra.isNo]
      exact q _ H (Ext.refl H) (.bl _)
  | _ => cases hg
theorem o_notN : Op2 X (compareOp .IsNot) dNotN := by
  refine ⟨_, op_notN, fun H N x y a b d Q ra rb hg _ q => ?_⟩
  cases b with
  | none =>
    have hg : some (PyData.bool (!isNo a)) = some d := hg
    cases hg
    cases rb with
    | rp rb =>
      cases rb
      refine ⟨rfl, ?_⟩
      rw [ra.isNo]
      exact q _ H (Ext.refl H) (.bl _)
  | _ => cases hg
theorem isBl_eq {H : Hp} {N : As} {v : V} {d : PyData} (h : Rp H N v d) (b : Bool) : decide (v = .bl b) = isBl b d := by
  cases h with
  | bl c => cases b <;> cases c <;> rfl
  | _ => rfl
theorem o_isB : Op2 X (compareOp .Is) dIsB := by
  refine ⟨_, op_isFl, fun H N x y a b d Q ra rb hg _ q => ?_⟩
  have key : ∀ k, b = .bool k → flatV x = true → Rp H N x a → d = .bool (isBl k a) → flatV x = true ∧ ∃ b : Bool, y = .bl b ∧ Q (.bl (decide (x = .bl b))) H := by
    rintro k rfl fx r rfl
    cases rb with
    | rp rb =>
      cases rb
      refine ⟨fx, k, rfl, ?_⟩
      rw [isBl_eq r]
      exact q _ H (Ext.refl H) (.bl _)
  cases ra with
  | own _ _ => cases hg
  | rp r =>
    cases b with
    | bool k =>
      cases r with
      | non => exact key k rfl rfl .non (by cases hg; rfl)
      | bl c => exact key k rfl rfl (.bl c) (by cases hg; rfl)
      | int i => exact key k rfl rfl (.int i) (by cases hg; rfl)
      | str i => exact key k rfl rfl (.str i) (by cases hg; rfl)
      | tup _ _ => cases hg
      | lst _ _ _ => cases hg
    | _ => cases r <;> cases hg
theorem op_notFl : OpR X (compareOp .IsNot) (fun x y H Q => flatV x = true ∧ ∃ b : Bool, y = .bl b ∧ Q (.bl (!decide (x = .bl b))) H) := by
  intro pins s σ H x y v u Q I rx ry h
  obtain ⟨fx, b, rfl, q⟩ := h
  cases (show u = Value.bool b from ry)
  by_cases e : x = .bl b
  · subst e
    cases (show v = Value.bool b from rx)
    exact wpAny_isNot_self rfl ⟨.bl false, H, I, rfl, by simpa using q⟩
  · have ne : v ≠ Value.bool b := by
      intro z
      subst z
      cases x with
      | non => cases rx
      | bl c =>
        cases (show Value.bool b = Value.bool c from rx)
        exact e rfl
      | int i =>
        obtain ⟨t, z⟩ := rx
        cases z
      | str i =>
        obtain ⟨t, z⟩ := rx
        cases z
      | _ => cases fx
    refine wpAny_isNot_other ?_ ne ⟨.bl true, H, I, rfl, by simpa [e] using q⟩
    cases x with
    | non =>
      cases rx
      rfl
    | bl c =>
      cases (show v = Value.bool c from rx)
      rfl
    | int i =>
      obtain ⟨t, rfl⟩ := rx
      rfl
    | str i =>
      obtain ⟨t, rfl⟩ := rx
      rfl
    | _ => cases fx
def rInT (K : PySem.W.Frag) : R2 := fun x y H Q => ∃ d ds, Dp K H x d ∧ Dp K H y (.tuple ds) ∧ SeqAt.shaped d = true ∧ SeqAt.shaped (.tuple ds) = true ∧ Q (.bl (ds.any fun z => PyData.eqv z d)) H
def rNotInT (K : PySem.W.Frag) : R2 := fun x y H Q => ∃ d ds, Dp K H x d ∧ Dp K H y (.tuple ds) ∧ SeqAt.shaped d = true ∧ SeqAt.shaped (.tuple ds) = true ∧ Q (.bl (!ds.any fun z => PyData.eqv z d)) H
theorem op_inT (hu : X.A.units + 65 < cLine) : OpR X (compareOp .In) (rInT X.K) := by
  intro pins s σ H x y v u Q I rx ry h
  obtain ⟨d, ds, hd, he, sd, se, q⟩ := h
  obtain ⟨as, r1⟩ := Dp.reads I d x v hd rx
  obtain ⟨bs, r2⟩ := Dp.reads I (.tuple ds) y u he ry
  exact SeqAt.in_tuple_reads r2 r1 (SeqAt.canLay_of_shaped se) (SeqAt.canLay_of_shaped sd) (room_in_shaped sd hu) ⟨.bl _, H, I, rfl, q⟩
theorem op_notInT (hu : X.A.units + 65 < cLine) : OpR X (compareOp .NotIn) (rNotInT X.K) := by
  intro pins s σ H x y v u Q I rx ry h
  obtain ⟨d, ds, hd, he, sd, se, q⟩ := h
  obtain ⟨as, r1⟩ := Dp.reads I d x v hd rx
  obtain ⟨bs, r2⟩ := Dp.reads I (.tuple ds) y u he ry
  exact SeqAt.notIn_tuple_reads r2 r1 (SeqAt.canLay_of_shaped se) (SeqAt.canLay_of_shaped sd) (room_in_shaped sd hu) ⟨.bl _, H, I, rfl, q⟩
end
def dInS (neg : Bool) (x y : PyData) : Option PyData := match y with
  | .list ds => if (SeqAt.shaped x && SeqAt.shaped (.list ds)) = true then some (.bool (neg ^^ ds.any fun z => PyData.eqv z x)) else none
  | .tuple ds => if (SeqAt.shaped x && SeqAt.shaped (.tuple ds)) = true then some (.bool (neg ^^ ds.any fun z => PyData.eqv z x)) else none
  | _ => none
section
variable {X : Cx}
theorem o_in (hu : X.A.units + 65 < cLine) : Op2 X (compareOp .In) (dInS false) := by
  refine ⟨_, (op_inD hu).or (op_inT hu), fun H N x y a b d Q ra rb hg _ q => ?_⟩
  cases b with
  | list ds =>
    have hg : (if (SeqAt.shaped a && SeqAt.shaped (.list ds)) = true then some (PyData.bool (false ^^ ds.any fun z => PyData.eqv z a)) else none) = some d := hg
    split at hg
    · rename_i h
      rw [Bool.and_eq_true] at h
      cases hg
      refine .inl ⟨a, ds, ra.dp, rb.dp, h.1, h.2, ?_⟩
      have := q _ H (Ext.refl H) (.bl _)
      rwa [Bool.false_xor] at this
    · cases hg
  | tuple ds =>
    have hg : (if (SeqAt.shaped a && SeqAt.shaped (.tuple ds)) = true then some (PyData.bool (false ^^ ds.any fun z => PyData.eqv z a)) else none) = some d := hg
    split at hg
    · rename_i h
      rw [Bool.and_eq_true] at h
      cases hg
      refine .inr ⟨a, ds, ra.dp, rb.dp, h.1, h.2, ?_⟩
      have := q _ H (Ext.refl H) (.bl _)
      rwa [Bool.false_xor] at this
    · cases hg
  | _ => cases hg
theorem o_notIn (hu : X.A.units + 65 < cLine) : Op2 X (compareOp .NotIn) (dInS true) := by
  refine ⟨_, (op_notInD hu).or (op_notInT hu), fun H N x y a b d Q ra rb hg _ q => ?_⟩
  cases b with
  | list ds =>
    have hg : (if (SeqAt.shaped a && SeqAt.shaped (.list ds)) = true then some (PyData.bool (true ^^ ds.any fun z => PyData.eqv z a)) else none) = some d := hg
    split at hg
    · rename_i h
      rw [Bool.and_eq_true] at h
      cases hg
      refine .inl ⟨a, ds, ra.dp, rb.dp, h.1, h.2, ?_⟩
      have := q _ H (Ext.refl H) (.bl _)
      rwa [Bool.true_xor] at this
    · cases hg
  | tuple ds =>
    have hg : (if (SeqAt.shaped a && SeqAt.shaped (.tuple ds)) = true then some (PyData.bool (true ^^ ds.any fun z => PyData.eqv z a)) else none) = some d := hg
    split at hg
    · rename_i h
      rw [Bool.and_eq_true] at h
      cases hg
      refine .inr ⟨a, ds, ra.dp, rb.dp, h.1, h.2, ?_⟩
      have := q _ H (Ext.refl H) (.bl _)
      rwa [Bool.true_xor] at this
    · cases hg
  | _ => cases hg
theorem RpAll.atI {H : Hp} {N : As} {xs : List V} {ds : List PyData} {i : Int} {d : PyData} (h : RpAll H N xs ds) (e : L2.atI ds i = some d) : ∃ v, L2.atI xs i = some v ∧ Rp H N v d := by
  unfold L2.atI at e ⊢
  rw [h.len]
  cases z : ixN ds.length i with
  | none =>
    rw [z] at e
    cases e
  | some j =>
    rw [z] at e
    exact h.at_ e
/-- a subscript by values -/
def Ix2 (X : Cx) (g : PyData → PyData → Option PyData) : Prop :=
  ∃ r : R2, IxR X r ∧ ∀ (H : Hp) (N : As) (x y : V) (a b d : PyData) (Q : VK), Vw H N x a → Vw H N y b → g a b = some d → (∀ b, N b → H b ≠ none) → (∀ v H', Ext H H' → Rp H' N v d → Q v H') → r x y H Q
theorem o_ix : Ix2 X dIx := by
  refine ⟨_, ix_seqK (K := X.K) rfl, fun H N x y a b d Q ra rb hg _ q => ?_⟩
  cases b with
  | int i =>
    cases rb with
    | rp rb =>
      cases rb
      cases a with
      | list ds =>
        obtain ⟨a, xs, rfl, hl, ax⟩ := ra.seqL (K := X.K)
        obtain ⟨v, hv, rv⟩ := RpAll.atI ax hg
        exact .inl ⟨a, xs, i, v, rfl, rfl, .inl (.inl hl), hv, q v H (Ext.refl H) rv⟩
      | tuple ds =>
        obtain ⟨a, xs, rfl, hl, ax⟩ := ra.tup.tuple_inv
        obtain ⟨v, hv, rv⟩ := RpAll.atI ax hg
        exact .inr (.inl ⟨a, xs, i, v, rfl, rfl, hl.sq, hv, q v H (Ext.refl H) rv⟩)
      | _ => cases hg
  | _ => cases a <;> cases hg
theorem de_ix {c : Cfg} {E : L2.St → XK} {a b : Expr} {pos : Pos} {g : PyData → PyData → Option PyData} {ma mb : M PyData} {re : PyData → M PyData} (ho : Ix2 X g) (ha : PE X a (tA c E ma re)) (hb : PE X b (tW c E mb)) (hs : PlainIx b) : PE X (.Subscript a b pos) (tX c E (m2A g ma re mb)) := by
  obtain ⟨r, hr, hk⟩ := ho
  exact peMono (pe_ix hr ha hb hs) fun σ H Q ⟨f, ρ, S, h⟩ => x_m2 S h hk
end
end Ev

set_option Elab.async false
set_option linter.all false
set_option maxRecDepth 100000
set_option maxHeartbeats 4000000
/-! Ev: new objects, lists of arguments, displays, built-in functions. -/
namespace Ev
open PySem PySem.Spec PyProof.Rows L2 Ed

/-! ### frames: one more address; one less -/
def Fm.add (f : Fm) (p : Addr) : Fm := ⟨fun b => f.N b ∨ b = p, fun b => f.O b ∨ b = p, f.B, f.N0, f.ad⟩
def Fm.sub (f : Fm) (p : Addr) : Fm := ⟨fun b => f.N b ∧ b ≠ p, fun b => f.O b ∧ b ≠ p, f.B, f.N0, f.ad⟩
section
variable {c : Cfg} {f : Fm} {σ : L2.St} {H H' : Hp} {ρ : List Sl} {p : Addr} {E : L2.St → XK} {Q : VK}
theorem SlV.mono {N O N' O' : As} {v : V} {s : Sl} (m : Mo H N H' N') (k : ∀ a u, H a = some u → O a → isOwn s = true → v = .ref a → H' a = some u ∧ O' a) (fu : Fu c.T H H') (h : SlV c N O H v s) : SlV c N' O' H' v s := by
  cases s with
  | no => trivial
  | dat d => exact Rp.mono m h
  | own o =>
    obtain ⟨a, u, rfl, ho, ha, hr⟩ := h
    obtain ⟨k1, k2⟩ := k a u ha ho rfl rfl
    exact ⟨a, u, rfl, k2, k1, hr.mono m⟩
  | fn F =>
    obtain ⟨g, rfl, hg⟩ := h
    exact ⟨g, rfl, hg.mono fu⟩
  | scr ns =>
    obtain ⟨a, rfl, q⟩ := h
    exact ⟨a, rfl, ScrA.fu q fu⟩
theorem StR.add (S : StR c f σ H ρ) (n : H p = none) (e : Ext H H') (hp : H' p ≠ none) : StR c (f.add p) σ H' ρ := by
  have st : Step c.T f.O H H' := e.step
  refine ⟨S.len, fun i s h ns => ?_, S.dis, fun b z => z.imp (S.on b) id, fun b z => z.elim (fun q => st.live b (S.nk b q)) fun q => by rw [q]; exact hp, fun b z => ⟨.inl (S.n0 b z).1, (S.n0 b z).2⟩, fun b z => st.live b (S.bk b z), S.ob, S.io, st.tabs S.tabs, fun q hq => by
    obtain ⟨w, h1, h2, h3⟩ := S.kp q hq
    exact ⟨w, e _ _ h1, h2.mono (e.moAdd n), fun z => z.elim h3 fun y => by
      rw [y, n] at h1
      cases h1⟩, S.fx⟩
  obtain ⟨v, e1, r⟩ := S.sl i s h ns
  exact ⟨v, e1, r.mono (e.moAdd n) (fun a u ha ho _ _ => ⟨e _ _ ha, .inl ho⟩) (Fu.of st)⟩
theorem StR.notAt (S : StR c f σ H ρ) (n : H p = none) : NoSl σ ρ p := by
  intro i s h o e
  obtain ⟨v, e1, r⟩ := S.sl i s h (fun z => by rw [z] at o; cases o)
  rw [e] at e1
  cases e1
  cases s with
  | own o =>
    obtain ⟨a, u, z, _, ha, _⟩ := r
    cases z
    rw [n] at ha
    cases ha
  | _ => cases o
theorem Gr.add (e : Ext H H') (n : H p = none) : Gr c f H (f.add p) H' := ⟨e.step, fun b z => z.imp id fun q => by rw [q]; exact n, fun b z => z.imp id fun q => by rw [q]; exact n, rfl, rfl, rfl⟩
theorem Gr.sub : Gr c f H (f.sub p) H := ⟨Step.refl H, fun b z => .inl z.1, fun b z => .inl z.1, rfl, rfl, rfl⟩
theorem StR.notB (S : StR c f σ H ρ) (n : H p = none) : ¬ f.B p := fun z => S.bk p z n
theorem StR.sub (S : StR c f σ H ρ) (n : NoSl σ ρ p) (nb : ¬ f.B p) : StR c (f.sub p) σ H ρ := by
  refine ⟨S.len, fun i s h ns => ?_, S.dis, fun b z => ⟨S.on b z.1, z.2⟩, fun b z => S.nk b z.1, fun b z => ⟨⟨(S.n0 b z).1, fun q => nb (q ▸ (S.n0 b z).2)⟩, (S.n0 b z).2⟩, S.bk, S.ob, S.io, S.tabs, fun q hq => by
    obtain ⟨w, h1, h2, h3⟩ := S.kp q hq
    exact ⟨w, h1, h2.mono (Mo.weak fun b z => z.1), fun z => h3 z.1⟩, S.fx⟩
  obtain ⟨v, e1, r⟩ := S.sl i s h ns
  exact ⟨v, e1, r.mono (Mo.weak fun b z => z.1) (fun a u ha ho hs hv => ⟨ha, ho, fun q => n i s h hs (by rw [e1, hv, q])⟩) ⟨fun _ _ _ q => q, fun t => t⟩⟩
theorem ol_new {u : HO} {o : OD} (S : StR c f σ H ρ) (h : OkL c σ Q f H o ρ) (e : Ext H H') (n : H p = none) (hp : H' p = some u) (r : OdR H' (f.add p).N u o) : Q (.ref p) H' :=
  h p u H' (f.add p) (Gr.add e n) (S.add n e (by rw [hp]; simp)) (.inr rfl) (S.notB n) hp r (S.notAt n)
theorem OdR.weak {N N' : As} {u : HO} {o : OD} (h : ∀ b, N' b → N b) (r : OdR H N u o) : OdR H N' u o := r.mono (Mo.weak h)
end
def odL : OD → Option PyData
  | .lst ds => some (.list ds)
  | _ => none
/-- a new list that is kept as data -/
def mOfL (m : M OD) : M PyData := m.bind fun o => M.lift (odL o)
section
variable {X : Cx} {c : Cfg} {E : L2.St → XK}
theorem de_dl {e : Expr} {m : M OD} (h : PE X e (tL c E m)) : PE X e (tX c E (mOfL m)) := by
  refine peMono h fun σ H Q ⟨f, ρ, S, q⟩ => ⟨f, ρ, S, q.bind fun o ρ1 _ h1 p u H1 f1 g1 S1 op nb hp r ns => ?_⟩
  obtain ⟨d, e, q⟩ := h1.lift
  cases o with
  | lst ds =>
    cases e
    cases u with
    | lst xs =>
      refine q _ H1 (f1.sub p) (g1.trans Gr.sub) (S1.sub ns nb) (.lst hp (fun z => z.2 rfl) ?_)
      exact OdR.weak (u := .lst xs) (o := .lst ds) (fun b z => z.1) r
    | _ => exact r.elim
  | _ => cases e

/-! ### arguments -/
def OkD (c : Cfg) (σ : L2.St) (Q : List V → Hp → Prop) : OkF (List PyData) := fun f H ds ρ' => ∀ vs H' f', Gr c f H f' H' → StR c f' σ H' ρ' → RpAll H' f'.N vs ds → Q vs H'
theorem reb_D {σ : L2.St} {Q : List V → Hp → Prop} : Reb c (OkD c σ Q) := fun f H f1 H1 a ρ' s h v H' f' s' => h v H' f' (s.trans s')
def tD (c : Cfg) (E : L2.St → XK) (m : M (List PyData)) : TA := fun σ H Q => ∃ f ρ, StR c f σ H ρ ∧ RX c E f σ m (OkD c σ Q) ρ H
def mNil : M (List PyData) := M.pure []
def mCons (a : M PyData) (b : M (List PyData)) : M (List PyData) := a.bind fun x => b.bind fun xs => M.pure (x :: xs)
theorem paMono {es : List Expr} {t t' : TA} (h : PA X es t) (hm : ∀ σ H Q, t' σ H Q → t σ H Q) : PA X es t' := ⟨fun p pins s σ H Q I q => h.run p pins s σ H Q I (hm σ H Q q)⟩
theorem da_nil : PA X [] (tD c E mNil) := paMono pa_nil fun σ H Q ⟨f, ρ, S, q⟩ => q.pure [] H f (Gr.refl _ _) S .nil
theorem da_cons {e : Expr} {es : List Expr} {a : M PyData} {b : M (List PyData)} (ha : PE X e (tX c E a)) (hb : PA X es (tD c E b)) (hs : starEach (e :: es) X.env = (false, eval e X.env) :: starEach es X.env := by rfl) : PA X (e :: es) (tD c E (mCons a b)) := by
  refine paMono (pa_cons ha hb hs) fun σ H Q ⟨f, ρ, S, q⟩ => ?_
  refine x_bind S q reb_D fun d ρ1 v H1 f1 _ g1 S1 r1 h1 => ?_
  refine ⟨f1, ρ1, S1, h1.bind fun ds ρ2 _ h2 vs H2 f2 g2 S2 r2 => ?_⟩
  exact (h2.rebase g2 reb_D).pure (v :: vs) H2 f2 (Gr.refl _ _) S2 (.cons (r1.mono (g2.mo S1.on)) r2)
/-- one argument, a list that is owned may be it -/
def tV1 (c : Cfg) (E : L2.St → XK) (m : M PyData) : TA := fun σ H Q => tW c E m σ H fun v H' => Q [v] H'
theorem dv_one {e : Expr} {m : M PyData} (h : PE X e (tW c E m)) (hs : starEach [e] X.env = (false, eval e X.env) :: starEach [] X.env := by rfl) : PA X [e] (tV1 c E m) := paMono (pa_cons h pa_nil hs) fun σ H Q q => q

/-! ### displays -/
def tupOf (ds : List PyData) : Option PyData := if ds.length ≤ lim then some (.tuple ds) else none
def lstOf (ds : List PyData) : Option OD := if ds.length ≤ lim then some (.lst ds) else none
def mTup (m : M (List PyData)) : M PyData := m.bind fun ds => M.lift (tupOf ds)
def mLst (m : M (List PyData)) : M OD := m.bind fun ds => M.lift (lstOf ds)
theorem de_tup {es : List Expr} {x1} {pos : Pos} {m : M (List PyData)} (h : PA X es (tD c E m)) : PE X (.Tuple es x1 pos) (tX c E (mTup m)) := by
  refine peMono (pe_tupF h) fun σ H Q ⟨f, ρ, S, q⟩ => ⟨f, ρ, S, q.bind fun ds ρ1 _ h1 vs H1 f1 g1 S1 r1 => ?_⟩
  obtain ⟨d, e, q⟩ := h1.lift
  unfold tupOf at e
  split at e
  · rename_i hl
    cases e
    refine ⟨by rw [r1.len]; exact lim_ok hl, fun p o n hd => ?_⟩
    have x := Ext.new (o := .frz o (.tup vs)) n
    exact q _ _ f1 (g1.trans (Gr.ext x)) (S1.ext x) (.tup (Tp.made hd) (r1.mono x.mo))
  · cases e
theorem dl_lst {es : List Expr} {pos : Pos} {m : M (List PyData)} (h : PA X es (tD c E m)) : PE X (.List es pos) (tL c E (mLst m)) := by
  refine peMono (pe_lst h) fun σ H Q ⟨f, ρ, S, q⟩ => ⟨f, ρ, S, q.bind fun ds ρ1 _ h1 vs H1 f1 g1 S1 r1 => ?_⟩
  obtain ⟨o, e, q⟩ := (h1.rebase g1 reb_L).lift
  unfold lstOf at e
  split at e
  · rename_i hl
    cases e
    refine ⟨by rw [r1.len]; exact lim_ok hl, fun p n => ?_⟩
    have x := Ext.new (o := .lst vs) n
    exact ol_new S1 q x n upd_same (r1.mono (x.moAdd n))
  · cases e

/-! ### built-in functions -/
def Cl1 (X : Cx) (fv : Value) (g : PyData → Option PyData) : Prop :=
  ∃ r : List V → Hp → VK → Prop, CallR X fv r ∧ ∀ (H : Hp) (N : As) (x : V) (a d : PyData) (Q : VK), Vw H N x a → g a = some d → (∀ b, N b → H b ≠ none) → (∀ v H', Ext H H' → Rp H' N v d → Q v H') → r [x] H Q
def Cl1L (X : Cx) (fv : Value) (g : PyData → Option OD) : Prop :=
  ∃ r : List V → Hp → VK → Prop, CallR X fv r ∧ ∀ (H : Hp) (N : As) (x : V) (a : PyData) (o : OD) (Q : VK), Vw H N x a → g a = some o → (∀ b, N b → H b ≠ none) → (∀ p u H', Ext H H' → H p = none → H' p = some u → OdR H' (fun b => N b ∨ b = p) u o → Q (.ref p) H') → r [x] H Q
def Cln (X : Cx) (fv : Value) (g : List PyData → Option PyData) : Prop :=
  ∃ r : List V → Hp → VK → Prop, CallR X fv r ∧ ∀ (H : Hp) (N : As) (xs : List V) (as : List PyData) (d : PyData) (Q : VK), RpAll H N xs as → g as = some d → (∀ b, N b → H b ≠ none) → (∀ v H', Ext H H' → Rp H' N v d → Q v H') → r xs H Q
variable {id : String} {x : Str} {p pos : Pos} {e : Expr} {es : List Expr}
theorem x_b1 {g : PyData → Option PyData} {m : M PyData} {r : List V → Hp → VK → Prop} {σ : L2.St} {H : Hp} {Q : VK} (hk : ∀ (H : Hp) (N : As) (x : V) (a d : PyData) (Q : VK), Vw H N x a → g a = some d → (∀ b, N b → H b ≠ none) → (∀ v H', Ext H H' → Rp H' N v d → Q v H') → r [x] H Q) (h : tX c E (m1 g m) σ H Q) : tCB r (tV1 c E m) σ H Q := by
  obtain ⟨f, ρ, S, q⟩ := h
  refine w_bind S q reb_X fun a ρ1 v H1 f1 _ g1 S1 r1 h1 => ?_
  obtain ⟨d, e, q⟩ := h1.lift
  exact hk H1 f1.N v a d Q r1 e S1.nk fun v' H' e' rv => ox_ext S1 q e' rv
def m1L (g : PyData → Option OD) (a : M PyData) : M OD := a.bind fun x => M.lift (g x)
theorem x_b1L {g : PyData → Option OD} {m : M PyData} {r : List V → Hp → VK → Prop} {σ : L2.St} {H : Hp} {Q : VK} (hk : ∀ (H : Hp) (N : As) (x : V) (a : PyData) (o : OD) (Q : VK), Vw H N x a → g a = some o → (∀ b, N b → H b ≠ none) → (∀ p u H', Ext H H' → H p = none → H' p = some u → OdR H' (fun b => N b ∨ b = p) u o → Q (.ref p) H') → r [x] H Q) (h : tL c E (m1L g m) σ H Q) : tCB r (tV1 c E m) σ H Q := by
  obtain ⟨f, ρ, S, q⟩ := h
  refine w_bind S q reb_L fun a ρ1 v H1 f1 _ g1 S1 r1 h1 => ?_
  obtain ⟨o, e, q⟩ := h1.lift
  exact hk H1 f1.N v a o Q r1 e S1.nk fun p u H' e' n hp r => ol_new S1 q e' n hp r
def mN (g : List PyData → Option PyData) (a : M (List PyData)) : M PyData := a.bind fun xs => M.lift (g xs)
theorem x_bn {g : List PyData → Option PyData} {m : M (List PyData)} {r : List V → Hp → VK → Prop} {σ : L2.St} {H : Hp} {Q : VK} (hk : ∀ (H : Hp) (N : As) (xs : List V) (as : List PyData) (d : PyData) (Q : VK), RpAll H N xs as → g as = some d → (∀ b, N b → H b ≠ none) → (∀ v H', Ext H H' → Rp H' N v d → Q v H') → r xs H Q) (h : tX c E (mN g m) σ H Q) : tCB r (tD c E m) σ H Q := by
  obtain ⟨f, ρ, S, q⟩ := h
  refine ⟨f, ρ, S, q.bind fun ds ρ1 _ h1 vs H1 f1 g1 S1 r1 => ?_⟩
  obtain ⟨d, e, q⟩ := (h1.rebase g1 reb_X).lift
  exact hk H1 f1.N vs ds d Q r1 e S1.nk fun v' H' e' rv => ox_ext S1 q e' rv
theorem de_b1 {g : PyData → Option PyData} {m : M PyData} (hc : Cl1 X (.builtin id) g) (hg : Gl X x) (hm : X.mg x = none) (hv : bootBuiltins x = some (.builtin id)) (h : PE X e (tW c E m)) (hn : x ≠ "__name__" := by decide) (hdb : (x == ("__debug__" : Str)) = false := by decide)
    (hs : starEach [e] X.env = (false, eval e X.env) :: starEach [] X.env := by rfl) : PE X (.Call (.Name x p) [e] [] pos) (tX c E (m1 g m)) := by
  obtain ⟨r, hr, hk⟩ := hc
  exact peMono (pe_callB hr hg hm hv (dv_one h hs) hn hdb hs rfl) fun σ H Q q => x_b1 hk q
theorem de_t1 {T : String} {g : PyData → Option PyData} {m : M PyData} (hc : Cl1 X (.type T) g) (hg : Gl X x) (hm : X.mg x = none) (hv : bootBuiltins x = some (.type T)) (h : PE X e (tW c E m)) (hn : x ≠ "__name__" := by decide) (hdb : (x == ("__debug__" : Str)) = false := by decide)
    (hs : starEach [e] X.env = (false, eval e X.env) :: starEach [] X.env := by rfl) : PE X (.Call (.Name x p) [e] [] pos) (tX c E (m1 g m)) := by
  obtain ⟨r, hr, hk⟩ := hc
  exact peMono (pe_callTy hr hg hm hv (dv_one h hs) hn hdb hs rfl) fun σ H Q q => x_b1 hk q
theorem dl_b1 {g : PyData → Option OD} {m : M PyData} (hc : Cl1L X (.builtin id) g) (hg : Gl X x) (hm : X.mg x = none) (hv : bootBuiltins x = some (.builtin id)) (h : PE X e (tW c E m)) (hn : x ≠ "__name__" := by decide) (hdb : (x == ("__debug__" : Str)) = false := by decide)
    (hs : starEach [e] X.env = (false, eval e X.env) :: starEach [] X.env := by rfl) : PE X (.Call (.Name x p) [e] [] pos) (tL c E (m1L g m)) := by
  obtain ⟨r, hr, hk⟩ := hc
  exact peMono (pe_callB hr hg hm hv (dv_one h hs) hn hdb hs rfl) fun σ H Q q => x_b1L hk q
theorem dl_t1 {T : String} {g : PyData → Option OD} {m : M PyData} (hc : Cl1L X (.type T) g) (hg : Gl X x) (hm : X.mg x = none) (hv : bootBuiltins x = some (.type T)) (h : PE X e (tW c E m)) (hn : x ≠ "__name__" := by decide) (hdb : (x == ("__debug__" : Str)) = false := by decide)
    (hs : starEach [e] X.env = (false, eval e X.env) :: starEach [] X.env := by rfl) : PE X (.Call (.Name x p) [e] [] pos) (tL c E (m1L g m)) := by
  obtain ⟨r, hr, hk⟩ := hc
  exact peMono (pe_callTy hr hg hm hv (dv_one h hs) hn hdb hs rfl) fun σ H Q q => x_b1L hk q
theorem de_bn {g : List PyData → Option PyData} {m : M (List PyData)} (hc : Cln X (.builtin id) g) (hg : Gl X x) (hm : X.mg x = none) (hv : bootBuiltins x = some (.builtin id)) (h : PA X (e :: es) (tD c E m)) (hn : x ≠ "__name__" := by decide) (hdb : (x == ("__debug__" : Str)) = false := by decide)
    (hs : starEach (e :: es) X.env = (false, eval e X.env) :: starEach es X.env := by rfl) (hpl : (backTo pos (starEach es X.env)).any (·.1) = false := by rfl) : PE X (.Call (.Name x p) (e :: es) [] pos) (tX c E (mN g m)) := by
  obtain ⟨r, hr, hk⟩ := hc
  exact peMono (pe_callB hr hg hm hv h hn hdb hs hpl) fun σ H Q q => x_bn hk q
def dLen : PyData → Option PyData
  | .list ds => some (.int ds.length)
  | .tuple ds => some (.int ds.length)
  | .str x => if x.length ≤ lim then some (.int x.length) else none
  | _ => none
theorem c_len : Cl1 X (.builtin "len") dLen := by
  refine ⟨_, call_len, fun H N x a d Q ra hg _ q => ?_⟩
  cases a with
  | list ds =>
    cases hg
    obtain ⟨a, xs, rfl, hl, ax⟩ := ra.seqL (K := X.K)
    rw [← ax.len] at q
    exact ⟨_, _, rfl, .inl ⟨xs, .inl (.inl hl), rfl⟩, q _ H (Ext.refl H) (.int _)⟩
  | tuple ds =>
    cases hg
    obtain ⟨a, xs, rfl, hl, ax⟩ := ra.tup.tuple_inv
    rw [← ax.len] at q
    exact ⟨_, _, rfl, .inr ⟨xs, hl.sq, rfl⟩, q _ H (Ext.refl H) (.int _)⟩
  | str y =>
    have hg : (if y.length ≤ lim then some (PyData.int y.length) else none) = some d := hg
    split at hg
    · rename_i hl
      cases hg
      cases ra with
      | rp r =>
        cases r
        exact ⟨_, _, rfl, ⟨lim_ok hl, rfl⟩, q _ H (Ext.refl H) (.int _)⟩
    · cases hg
  | _ => cases hg
def dInt : PyData → Option PyData
  | .int i => some (.int i)
  | .bool b => some (.int (if b then 1 else 0))
  | _ => none
theorem c_int : Cl1 X (.type "int") dInt := by
  refine ⟨_, call_int1, fun H N x a d Q ra hg _ q => ?_⟩
  cases a with
  | int i =>
    cases hg
    cases ra with
    | rp r =>
      cases r
      exact .inl ⟨_, rfl, q _ H (Ext.refl H) (.int _)⟩
  | bool i =>
    cases hg
    cases ra with
    | rp r =>
      cases r
      exact .inr ⟨_, rfl, q _ H (Ext.refl H) (.int _)⟩
  | _ => cases hg
def dMax : List PyData → Option PyData
  | [.int i, .int j] => some (.int (if j > i then j else i))
  | _ => none
def dMin : List PyData → Option PyData
  | [.int i, .int j] => some (.int (if j < i then j else i))
  | _ => none
theorem RpAll.int2 {H : Hp} {N : As} {xs : List V} {i j : Int} (h : RpAll H N xs [.int i, .int j]) : xs = [.int i, .int j] := by
  cases h with
  | cons a b =>
    cases a
    cases b with
    | cons a b =>
      cases a
      cases b
      rfl
theorem c_max (hc : X.calm = true) : Cln X (.builtin "max") dMax := by
  refine ⟨_, call_max2 hc, fun H N xs as d Q ra hg _ q => ?_⟩
  match as, hg with
  | [.int i, .int j], hg =>
    cases hg
    exact ⟨i, j, ra.int2, q _ H (Ext.refl H) (.int _)⟩
theorem c_min (hc : X.calm = true) : Cln X (.builtin "min") dMin := by
  refine ⟨_, call_min2 hc, fun H N xs as d Q ra hg _ q => ?_⟩
  match as, hg with
  | [.int i, .int j], hg =>
    cases hg
    exact ⟨i, j, ra.int2, q _ H (Ext.refl H) (.int _)⟩
def shB (d : PyData) : Bool := d.showable && !d.hasDict && decide (d.depth ≤ 60) && decide (d.shown.length ≤ lim)
def dRepr (d : PyData) : Option PyData := if shB d = true then some (.str d.shown) else none
theorem c_repr (hg : X.A.guards = some []) (hu : X.A.units + 65 < cLine) : Cl1 X (.builtin "repr") dRepr := by
  refine ⟨_, call_repr hg hu, fun H N x a d Q ra hg _ q => ?_⟩
  unfold dRepr at hg
  split at hg <;> cases hg
  rename_i h
  unfold shB at h
  simp only [Bool.and_eq_true, decide_eq_true_eq, Bool.not_eq_true'] at h
  obtain ⟨⟨⟨h1, h2⟩, h3⟩, h4⟩ := h
  exact ⟨x, a, rfl, ra.dp, h1, h2, h3, lim_ok h4, q _ H (Ext.refl H) (.str _)⟩
def dList : PyData → Option OD
  | .list ds => some (.lst ds)
  | .tuple ds => some (.lst ds)
  | _ => none
theorem c_list : Cl1L X (.type "list") dList := by
  refine ⟨_, call_list_of, fun H N x a o Q ra hg _ q => ?_⟩
  have key : ∀ (ds : List PyData) (xs : List V), RpAll H N xs ds → ∀ l, H l = none → o = .lst ds → Q (.ref l) (upd H l (.lst xs)) := by
    rintro ds xs ax l n rfl
    have x := Ext.new (o := .lst xs) n
    exact q l _ _ x n upd_same (ax.mono (x.moAdd n))
  cases a with
  | list ds =>
    cases hg
    obtain ⟨a, xs, rfl, hl, ax⟩ := ra.seqL (K := X.K)
    exact ⟨a, xs, rfl, .inl (.inl (.inl hl)), fun l n => key ds xs ax l n rfl⟩
  | tuple ds =>
    cases hg
    obtain ⟨a, xs, rfl, hl, ax⟩ := ra.tup.tuple_inv
    exact ⟨a, xs, rfl, .inr hl.sq, fun l n => key ds xs ax l n rfl⟩
  | _ => cases hg
def dTup : PyData → Option PyData
  | .list ds => some (.tuple ds)
  | .tuple ds => some (.tuple ds)
  | _ => none
theorem de_tuple {m : M PyData} {p pos : Pos} (hg : Gl X "tuple") (hm : X.mg "tuple" = none) (h : PE X e (tW c E m)) (na : starEach [e] X.env = (false, eval e X.env) :: starEach [] X.env := by rfl) :
    PE X (.Call (.Name "tuple" p) [e] [] pos) (tX c E (m1 dTup m)) := by
  refine peMono (pe_tupleF hg hm h na) fun σ H Q ⟨f, ρ, S, q⟩ => ?_
  refine w_bind S q reb_X fun a ρ1 v H1 f1 _ g1 S1 r1 h1 => ?_
  obtain ⟨d, e, q⟩ := h1.lift
  cases a with
  | list ds =>
    cases e
    obtain ⟨a, xs, rfl, hl, ax⟩ := r1.seqL (K := X.K)
    refine .inl ⟨a, xs, rfl, .inl (.inl hl), fun p o n hd => ?_⟩
    have x := Ext.new (o := .frz o (.tup xs)) n
    exact ox_ext S1 q x (.tup (Tp.made hd) (ax.mono x.mo))
  | tuple ds =>
    cases e
    obtain ⟨a, xs, rfl, hl, ax⟩ := r1.tup.tuple_inv
    exact .inr ⟨a, xs, rfl, hl.sq, ox_ext S1 q (Ext.refl _) r1.tup⟩
  | _ => cases e
/-! ### isinstance -/
def tyD : PyData → String
  | .none => "NoneType"
  | .bool _ => "bool"
  | .int _ => "int"
  | .str _ => "str"
  | .tuple _ => "tuple"
  | .list _ => "list"
  | .dict _ => "dict"
theorem Vw.ty {K : PySem.W.Frag} {H : Hp} {N : As} {v : V} {d : PyData} (h : Vw H N v d) : TyX K H v (.type (tyD d)) := by
  cases h with
  | own h _ => exact .base (.lst h)
  | rp r =>
    cases r with
    | non => exact .base .non
    | bl b => exact .base (.bl b)
    | int i => exact .base (.int i)
    | str x => exact .base (.str x)
    | tup t _ => exact .fTuple t.choose_spec.1
    | lst h _ _ => exact .base (.lst h)
def isT (T : String) (d : PyData) : Bool := tyD d == T || (T == "int" && tyD d == "bool")
def tyNames : List String := ["tuple", "int", "bool", "str", "list"]
theorem isT_kit (K : PySem.W.Frag) {T : String} (hT : T ∈ tyNames) (d : PyData) : PySem.W.kitOne K (.type (tyD d)) (.type T) = some (isT T d) := by
  simp only [tyNames, List.mem_cons, List.not_mem_nil, or_false] at hT
  rcases hT with rfl | rfl | rfl | rfl | rfl <;> cases d <;> first | rfl | exact (by with_unfolding_all rfl)
def mIsi (T : String) (m : M PyData) : M PyData := m.bind fun x => M.pure (.bool (isT T x))
theorem de_isi {T : String} {m : M PyData} {e e2 : Expr} {p pos : Pos} (hT : T ∈ tyNames) (hg : Gl X "isinstance") (hm : X.mg "isinstance" = none) (h : PE X e (tW c E m)) (h2 : PE X e2 (tC (.ty T)))
    (hs : starEach [e, e2] X.env = (false, eval e X.env) :: starEach [e2] X.env := by rfl) (hs2 : starEach [e2] X.env = (false, eval e2 X.env) :: starEach [] X.env := by rfl) (hpl : (backTo pos (starEach [e2] X.env)).any (·.1) = false := by rfl) :
    PE X (.Call (.Name "isinstance" p) [e, e2] [] pos) (tX c E (mIsi T m)) := by
  refine peMono (pe_callB call_isi hg hm (by decide +kernel) (pa_cons h (pa_cons h2 pa_nil hs2) hs) (by decide) (by decide) hs hpl) fun σ H Q ⟨f, ρ, S, q⟩ => ?_
  refine w_bind S q reb_X fun a ρ1 v H1 f1 _ g1 S1 r1 h1 => ?_
  exact ⟨v, .ty T, _, _, _, rfl, .ty T, r1.ty, isT_kit _ hT a, h1.pure _ H1 f1 (Gr.refl _ _) S1 (.bl _)⟩
end
end Ev

set_option Elab.async false
set_option linter.all false
set_option maxRecDepth 100000
set_option maxHeartbeats 4000000
/-! Ev: slices; lists put together. -/
namespace Ev
open PySem PySem.Spec PyProof.Rows L2 Ed
/-! ### slices -/
def OkO (c : Cfg) (σ : L2.St) (Q : Option Int → Hp → Prop) : OkF (Option Int) := fun f H o ρ' => ∀ H' f', Gr c f H f' H' → StR c f' σ H' ρ' → Q o H'
theorem reb_O {c : Cfg} {σ : L2.St} {Q : Option Int → Hp → Prop} : Reb c (OkO c σ Q) := fun f H f1 H1 a ρ' s h H' f' s' => h H' f' (s.trans s')
def tO (c : Cfg) (E : L2.St → XK) (m : M (Option Int)) : TO := fun σ H Q => ∃ f ρ, StR c f σ H ρ ∧ RX c E f σ m (OkO c σ Q) ρ H
def mNoP : M (Option Int) := M.pure none
def asI : PyData → Option (Option Int)
  | .int i => some (some i)
  | _ => none
def mPart (m : M PyData) : M (Option Int) := m.bind fun x => M.lift (asI x)
section
variable {X : Cx} {c : Cfg} {E : L2.St → XK}
theorem poMono {e : Option Expr} {t t' : TO} (h : PO X e t) (hm : ∀ σ H Q, t' σ H Q → t σ H Q) : PO X e t' := ⟨fun pins s σ H Q I q => h.run pins s σ H Q I (hm σ H Q q)⟩
theorem do_none : PO X none (tO c E mNoP) := poMono po_none fun σ H Q ⟨f, ρ, S, q⟩ => q.pure H f (Gr.refl _ _) S
theorem do_some {e : Expr} {m : M PyData} (h : PE X e (tX c E m)) : PO X (some e) (tO c E (mPart m)) := by
  refine poMono (po_some h) fun σ H Q ⟨f, ρ, S, q⟩ => ?_
  refine x_bind S q reb_O fun d ρ1 v H1 f1 _ g1 S1 r1 h1 => ?_
  obtain ⟨o, e, q⟩ := h1.lift
  cases d with
  | int i =>
    cases e
    cases r1
    exact ⟨i, rfl, q H1 f1 (Gr.refl _ _) S1⟩
  | _ => cases e
def mSl {β : Type} (g : PyData → Option Int → Option Int → Option β) (a : M PyData) (re : PyData → M PyData) (l u : M (Option Int)) : M β := a.bind fun d => l.bind fun lo => u.bind fun hi => (re d).bind fun x => M.lift (g x lo hi)
theorem x_sl {β : Type} {g : PyData → Option Int → Option Int → Option β} {ma : M PyData} {re : PyData → M PyData} {ml mu : M (Option Int)} {Ok : OkF β} {r : V → Option Int → Option Int → Hp → VK → Prop} {f : Fm} {σ : L2.St} {H : Hp} {ρ : List Sl} {Q : VK} (S : StR c f σ H ρ) (h : RX c E f σ (mSl g ma re ml mu) Ok ρ H) (hb : Reb c Ok)
    (hr : ∀ f H ρ x a lo hi b, StR c f σ H ρ → Vw H f.N x a → g a lo hi = some b → Ok f H b ρ → r x lo hi H Q) : tSl r (tA c E ma re) (tO c E ml) (tO c E mu) σ H Q := by
  refine ⟨f, ρ, S, h.bind fun d ρ1 _ h1 v H1 f1 s1 S1 hv ne => ?_⟩
  refine ⟨f1, ρ1, S1, (h1.rebase s1 hb).bind fun lo ρ2 _ h2 H2 f2 s2 S2 => ?_⟩
  refine ⟨f2, ρ2, S2, (h2.rebase s2 hb).bind fun hi ρ3 _ h3 H3 f3 s3 S3 => ?_⟩
  obtain ⟨r0, ρ4, e3, p3⟩ := h3.rebase s3 hb
  cases hre : re d ρ3 with
  | none =>
    unfold M.bind at e3
    rw [hre] at e3
    cases e3
  | some q =>
    obtain ⟨q1, q2⟩ := q
    cases q1 with
    | err cn x => exact (ne _ _ _ _ hre).elim
    | ok a =>
      obtain ⟨rfl, r1⟩ := hv H3 f3 ρ3 a q2 (s2.trans s3) S3 hre
      unfold M.bind at e3
      rw [hre] at e3
      obtain ⟨b, e, q⟩ := RX.lift (c := c) (E := E) (f := f3) (σ := σ) (H := H3) (Ok1 := Ok) ⟨r0, ρ4, e3, p3⟩
      exact hr f3 H3 q2 v a lo hi b S3 r1 e q
def rSlR (N : As) : V → Option Int → Option Int → Hp → VK → Prop := fun x lo hi H Q => ∃ ds, Rp H N x (.tuple ds) ∧ ∀ z H', Ext H H' → Rp H' N z (.tuple (cutD ds lo hi)) → Q z H'
theorem sl_tupR (N : As) : SlR X (rSlR N) := by
  intro pins s σ H x v vl vu lo hi sl Q I rx hs pl pu h
  obtain ⟨ds, hx, q⟩ := h
  obtain ⟨a, xs, rfl, ta, ax⟩ := hx.tuple_inv
  cases rx
  obtain ⟨its, r, ht, hz⟩ := I.tuple (ta.sq (K := X.K))
  have l1 := ax.len
  have hlen : its.toArray.size = xs.length := by rw [List.size_toArray]; exact r.length.symm
  refine ⟨"tuple", _, PyProof.Rows.slot_tuple_getitem.lookup, ht.typeIs, ?_⟩
  by_cases hw : HT.sIx xs.length 0 lo = 0 ∧ HT.sIx xs.length xs.length hi = xs.length
  · refine getItem_tuple_whole ht hs pl pu (by rw [hlen]; exact hw) ⟨.ref a, H, I, rfl, q _ _ (Ext.refl H) ?_⟩
    have e : cutD ds lo hi = ds := by
      unfold Ed.cutD
      rw [← l1, hw.1, hw.2]
      rw [l1]
      simp
    rw [e]
    exact hx
  · refine HT.getItem_tuple_cut ht hs pl pu (by rw [hlen]; exact hw) ?_ (by rw [hlen]; exact hz)
    rw [hlen]
    have nF := I.hok.fresh (Nat.le_refl s.heap.objs.size)
    have made := Heap.get?_push_size s.heap (o := { cls := .type "tuple", data := .seq ((its.toArray.toList.drop (HT.sIx xs.length 0 lo)).take (HT.sIx xs.length xs.length hi - HT.sIx xs.length 0 lo)).toArray }) rfl
    have J := I.laid (o := .frz { cls := .type "tuple", data := .seq ((its.toArray.toList.drop (HT.sIx xs.length 0 lo)).take (HT.sIx xs.length xs.length hi - HT.sIx xs.length 0 lo)).toArray } (.tup (cutV xs lo hi))) (t' := s.toks) (fun b u e => Heap.get?_push_of_some _ e) (Nat.le_refl _)
      ⟨made, Nat.le_trans (cutV_length xs lo hi) hz, _, (r.drop (HT.sIx xs.length 0 lo)).take (HT.sIx xs.length xs.length hi - HT.sIx xs.length 0 lo), ⟨_, made, rfl, _, rfl⟩⟩
    have kp := Ext.new (o := .frz { cls := .type "tuple", data := .seq ((its.toArray.toList.drop (HT.sIx xs.length 0 lo)).take (HT.sIx xs.length xs.length hi - HT.sIx xs.length 0 lo)).toArray } (.tup (cutV xs lo hi))) nF
    refine ⟨.ref s.heap.objs.size, _, J, rfl, q _ _ kp (.tup (Tp.made rfl) ?_)⟩
    have := (ax.drop (HT.sIx xs.length 0 lo)).take (HT.sIx xs.length xs.length hi - HT.sIx xs.length 0 lo)
    rw [show cutD ds lo hi = (ds.drop (HT.sIx xs.length 0 lo)).take (HT.sIx xs.length xs.length hi - HT.sIx xs.length 0 lo) by
      unfold Ed.cutD
      rw [l1]]
    exact this.mono kp.mo
theorem SlR.any {ι : Type} {r : ι → V → Option Int → Option Int → Hp → VK → Prop} (h : ∀ i, SlR X (r i)) : SlR X (fun x lo hi H Q => ∃ i, r i x lo hi H Q) := by
  intro pins s σ H x v vl vu lo hi sl Q I rx hs pl pu ⟨i, q⟩
  exact h i pins s σ H x v vl vu lo hi sl Q I rx hs pl pu q
def dCutT (d : PyData) (lo hi : Option Int) : Option PyData := match d with
  | .tuple ds => some (.tuple (cutD ds lo hi))
  | _ => none
def dCutL (d : PyData) (lo hi : Option Int) : Option OD := match d with
  | .list ds => some (.lst (cutD ds lo hi))
  | _ => none
theorem de_sl {e : Expr} {lo hi : Option Expr} {p2 pos : Pos} {ma : M PyData} {re : PyData → M PyData} {ml mu : M (Option Int)} (he : PE X e (tA c E ma re)) (hl : PO X lo (tO c E ml)) (hu : PO X hi (tO c E mu)) : PE X (.Subscript e (.Slice lo hi none p2) pos) (tX c E (mSl dCutT ma re ml mu)) := by
  refine peMono (pe_slice (SlR.any sl_tupR) he hl hu) fun σ H Q ⟨f, ρ, S, q⟩ => x_sl S q reb_X fun f H ρ x a lo hi b S r1 hg q => ?_
  cases a with
  | tuple ds =>
    cases hg
    exact ⟨f.N, ds, r1.tup, fun z H' e' rv => ox_ext S q e' rv⟩
  | _ => cases hg
theorem dl_sl {e : Expr} {lo hi : Option Expr} {p2 pos : Pos} {ma : M PyData} {re : PyData → M PyData} {ml mu : M (Option Int)} (he : PE X e (tA c E ma re)) (hl : PO X lo (tO c E ml)) (hu : PO X hi (tO c E mu)) : PE X (.Subscript e (.Slice lo hi none p2) pos) (tL c E (mSl dCutL ma re ml mu)) := by
  refine peMono (pe_slice sl_list he hl hu) fun σ H Q ⟨f, ρ, S, q⟩ => x_sl S q reb_L fun f H ρ x a lo hi b S r1 hg q => ?_
  cases a with
  | list ds =>
    cases hg
    obtain ⟨a, xs, rfl, hl, ax⟩ := r1.seqL (K := X.K)
    refine ⟨a, xs, rfl, .inl (.inl hl), fun p n => ?_⟩
    have x := Ext.new (o := .lst (cutV xs lo hi)) n
    have e : cutD ds lo hi = (ds.drop (HT.sIx xs.length 0 lo)).take (HT.sIx xs.length xs.length hi - HT.sIx xs.length 0 lo) := by
      unfold Ed.cutD
      rw [ax.len]
    refine ol_new S q x n upd_same ?_
    show RpAll _ _ (cutV xs lo hi) (cutD ds lo hi)
    rw [e]
    exact ((ax.drop _).take _).mono (x.moAdd n)
  | _ => cases hg
end
end Ev

set_option Elab.async false
set_option linter.all false
set_option maxRecDepth 100000
set_option maxHeartbeats 4000000
/-! Ev: slots written; statements. -/
namespace Ev
open PySem PySem.Spec PyProof.Rows L2 Ed

/-! ### slots change -/
section
variable {c : Cfg} {f : Fm} {σ : L2.St} {H H' : Hp} {ρ : List Sl} {p : Addr} {E : L2.St → XK} {i : Nat}
theorem get_set {α : Type} {l : List α} {i j : Nat} {x y : α} (h : (l.set i x)[j]? = some y) : (i = j ∧ y = x) ∨ (i ≠ j ∧ l[j]? = some y) := by
  rw [List.getElem?_set] at h
  split at h
  · rename_i e
    subst e
    split at h
    · exact .inl ⟨rfl, (Option.some.inj h).symm⟩
    · cases h
  · rename_i e
    exact .inr ⟨e, h⟩
/-- a slot gets data -/
theorem StR.setD {v : V} {d : PyData} (S : StR c f σ H ρ) (r : Rp H f.N v d) (hio : c.loc i = true) : StR c f (σ.set i (some v)) H (ρ.set i (.dat d)) := by
  have ni := loc_io hio
  refine ⟨by rw [List.length_set, List.length_set, S.len], fun j s h ns => ?_, fun j k a s t h1 h2 o1 o2 e1 e2 => ?_, S.on, S.nk, S.n0, S.bk, fun j a s h o e nj => ?_, fun j hj => ?_, S.tabs, S.kp, fun q hq => (List.getElem?_set_ne fun z => loc_fx hio hq z.symm).trans (S.fx q hq)⟩
  · rcases get_set h with ⟨rfl, rfl⟩ | ⟨n, h⟩
    · refine ⟨v, ?_, r⟩
      have : i < ρ.length := by
        have := (List.getElem?_eq_some_iff.mp h).1
        rwa [List.length_set] at this
      rw [List.getElem?_set_self (by rw [← S.len]; exact this)]
    · obtain ⟨u, e, q⟩ := S.sl j s h ns
      exact ⟨u, by rw [List.getElem?_set_ne n]; exact e, q⟩
  · rcases get_set h1 with ⟨rfl, rfl⟩ | ⟨n1, h1⟩
    · cases o1
    · rcases get_set h2 with ⟨rfl, rfl⟩ | ⟨n2, h2⟩
      · cases o2
      · rw [List.getElem?_set_ne n1] at e1
        rw [List.getElem?_set_ne n2] at e2
        exact S.dis j k a s t h1 h2 o1 o2 e1 e2
  · rcases get_set h with ⟨rfl, rfl⟩ | ⟨n1, h⟩
    · cases o
    · rw [List.getElem?_set_ne n1] at e
      exact S.ob j a s h o e nj
  · have n : i ≠ j := fun z => ni (z ▸ hj)
    rw [List.getElem?_set_ne n, List.getElem?_set_ne n]
    exact S.io j hj
/-- a slot is forgotten -/
theorem StR.setN (S : StR c f σ H ρ) (hio : c.loc i = true) : StR c f σ H (ρ.set i .no) := by
  have ni := loc_io hio
  refine ⟨by rw [List.length_set, S.len], fun j s h ns => ?_, fun j k a s t h1 h2 o1 o2 e1 e2 => ?_, S.on, S.nk, S.n0, S.bk, fun j a s h o e nj => ?_, fun j hj => ?_, S.tabs, S.kp, S.fx⟩
  · rcases get_set h with ⟨rfl, rfl⟩ | ⟨n, h⟩
    · exact (ns rfl).elim
    · exact S.sl j s h ns
  · rcases get_set h1 with ⟨rfl, rfl⟩ | ⟨n1, h1⟩
    · cases o1
    · rcases get_set h2 with ⟨rfl, rfl⟩ | ⟨n2, h2⟩
      · cases o2
      · exact S.dis j k a s t h1 h2 o1 o2 e1 e2
  · rcases get_set h with ⟨rfl, rfl⟩ | ⟨n1, h⟩
    · cases o
    · exact S.ob j a s h o e nj
  · have n : i ≠ j := fun z => ni (z ▸ hj)
    rw [List.getElem?_set_ne n]
    exact S.io j hj
/-- a slot gets a new object -/
theorem StR.setO {u : HO} {o : OD} (S : StR c f σ H ρ) (op : f.O p) (nb : ¬ f.B p) (hp : H p = some u) (r : OdR H f.N u o) (ns : NoSl σ ρ p) (hio : c.loc i = true) : StR c f (σ.set i (some (.ref p))) H (ρ.set i (.own o)) := by
  have ni := loc_io hio
  refine ⟨by rw [List.length_set, List.length_set, S.len], fun j s h ns => ?_, fun j k a s t h1 h2 o1 o2 e1 e2 => ?_, S.on, S.nk, S.n0, S.bk, fun j a s h o e nj => ?_, fun j hj => ?_, S.tabs, S.kp, fun q hq => (List.getElem?_set_ne fun z => loc_fx hio hq z.symm).trans (S.fx q hq)⟩
  · rcases get_set h with ⟨rfl, rfl⟩ | ⟨n, h⟩
    · refine ⟨.ref p, ?_, p, u, rfl, op, hp, r⟩
      have : i < ρ.length := by
        have := (List.getElem?_eq_some_iff.mp h).1
        rwa [List.length_set] at this
      rw [List.getElem?_set_self (by rw [← S.len]; exact this)]
    · obtain ⟨u, e, q⟩ := S.sl j s h ns
      exact ⟨u, by rw [List.getElem?_set_ne n]; exact e, q⟩
  · have at_ : ∀ k a, (σ.set i (some (V.ref p)))[k]? = some (some (.ref a)) → i = k → a = p := fun k a e z => by
      rcases get_set e with ⟨_, e⟩ | ⟨n, _⟩
      · cases e
        rfl
      · exact (n z).elim
    rcases get_set h1 with ⟨z1, rfl⟩ | ⟨n1, h1⟩
    · rcases get_set h2 with ⟨z2, rfl⟩ | ⟨n2, h2⟩
      · exact z1.symm.trans z2
      · have := at_ _ _ e1 z1
        subst this
        rw [List.getElem?_set_ne n2] at e2
        exact (ns k t h2 o2 e2).elim
    · rw [List.getElem?_set_ne n1] at e1
      rcases get_set h2 with ⟨z2, rfl⟩ | ⟨n2, h2⟩
      · have := at_ _ _ e2 z2
        subst this
        exact (ns j s h1 o1 e1).elim
      · rw [List.getElem?_set_ne n2] at e2
        exact S.dis j k a s t h1 h2 o1 o2 e1 e2
  · rcases get_set h with ⟨rfl, rfl⟩ | ⟨n1, h⟩
    · rcases get_set e with ⟨_, e⟩ | ⟨n, _⟩
      · cases e
        exact nb
      · exact (n rfl).elim
    · rw [List.getElem?_set_ne n1] at e
      exact S.ob j a s h o e nj
  · have n : i ≠ j := fun z => ni (z ▸ hj)
    rw [List.getElem?_set_ne n, List.getElem?_set_ne n]
    exact S.io j hj
theorem own_at {o o' : OD} {j : Nat} {s : Sl} (hs : ρ[i]? = some (.own o)) (h : (ρ.set i (.own o'))[j]? = some s) (ho : isOwn s = true) : ∃ s', ρ[j]? = some s' ∧ isOwn s' = true := by
  rcases get_set h with ⟨rfl, rfl⟩ | ⟨n, h⟩
  · exact ⟨_, hs, rfl⟩
  · exact ⟨s, h, ho⟩
/-- an owned object is written -/
theorem StR.write {o o' : OD} {a : Addr} {u u' : HO} (S : StR c f σ H ρ) (hs : ρ[i]? = some (.own o)) (hv : σ[i]? = some (some (.ref a))) (ha : H a = some u) (oa : f.O a) (hi : ¬ Imm u) (ht : ∀ ps, u ≠ .tbl ps) (r : OdR H f.N u' o') : StR c f σ (upd H a u') (ρ.set i (.own o')) ∧ Gr c f H f (upd H a u') := by
  have st : Step c.T f.O H (upd H a u') := Step.write ha oa hi ht
  have mo : Mo H f.N (upd H a u') f.N := Mo.upd ha (S.on a oa) hi
  refine ⟨⟨by rw [List.length_set, S.len], fun j s h ns => ?_, fun j k b s t h1 h2 o1 o2 e1 e2 => ?_, S.on, fun b z => st.live b (S.nk b z), S.n0, fun b z => st.live b (S.bk b z), fun j b s h o e nj => ?_, fun j hj => ?_, st.tabs S.tabs, fun q hq => by
    obtain ⟨w, h1, h2, h3⟩ := S.kp q hq
    exact ⟨w, (upd_ne fun z => h3 (by rw [z]; exact oa)).trans h1, h2.mono mo, h3⟩, S.fx⟩, Gr.of st⟩
  · rcases get_set h with ⟨rfl, rfl⟩ | ⟨n, h⟩
    · exact ⟨.ref a, hv, a, u', rfl, oa, upd_same, r.mono mo⟩
    · obtain ⟨v, e, q⟩ := S.sl j s h ns
      refine ⟨v, e, q.mono mo (fun b w hb ob hs' hv' => ⟨(upd_ne fun z => ?_).trans hb, ob⟩) (Fu.of st)⟩
      subst z
      subst hv'
      exact n (S.dis i j _ _ s hs h rfl hs' hv e)
  · obtain ⟨s', h1, o1⟩ := own_at hs h1 o1
    obtain ⟨t', h2, o2⟩ := own_at hs h2 o2
    exact S.dis j k b s' t' h1 h2 o1 o2 e1 e2
  · obtain ⟨s', h, o⟩ := own_at hs h o
    exact S.ob j b s' h o e nj
  · obtain ⟨e, o2, ho⟩ := S.io j hj
    refine ⟨e, ?_⟩
    by_cases z : i = j
    · subst z
      exact ⟨o', by rw [List.getElem?_set_self (List.getElem?_eq_some_iff.mp hs).1]⟩
    · exact ⟨o2, by rw [List.getElem?_set_ne z]; exact ho⟩
/-- an owned list -/
theorem StR.ownL {ds : List PyData} (S : StR c f σ H ρ) (hs : ρ[i]? = some (.own (.lst ds))) : ∃ a xs, σ[i]? = some (some (.ref a)) ∧ f.O a ∧ H a = some (.lst xs) ∧ RpAll H f.N xs ds := by
  obtain ⟨v, e, a, u, rfl, ho, ha, hr⟩ := S.sl i _ hs (fun z => nomatch z)
  cases u with
  | lst xs => exact ⟨a, xs, e, ho, ha, hr⟩
  | _ => exact hr.elim
/-- an owned list becomes data -/
theorem StR.frz {ds : List PyData} (S : StR c f σ H ρ) (hs : ρ[i]? = some (.own (.lst ds))) (hio : c.loc i = true) : ∃ a f', σ[i]? = some (some (.ref a)) ∧ Gr c f H f' H ∧ StR c f' σ H (ρ.set i (.dat (.list ds))) ∧ Rp H f'.N (.ref a) (.list ds) := by
  obtain ⟨a, xs, e, oa, ha, hr⟩ := S.ownL hs
  have ni := loc_io hio
  have hi := (List.getElem?_eq_some_iff.mp hs).1
  have S1 := S.setN hio
  have S2 := S1.sub (p := a) (fun j s h o e2 => by
    rcases get_set h with ⟨rfl, rfl⟩ | ⟨n, h⟩
    · cases o
    · exact n (S.dis i j a _ s hs h rfl o e e2)) (S.ob i a _ hs rfl e ni)
  have r : Rp H (f.sub a).N (.ref a) (.list ds) := .lst ha (fun z => z.2 rfl) (RpAll.mono (Mo.weak fun b z => z.1) hr)
  have S3 := S2.setD r hio
  have e3 : σ.set i (some (.ref a)) = σ := by
    refine List.ext_getElem? fun j => ?_
    rw [List.getElem?_set]
    split
    · rename_i z
      subst z
      rw [if_pos (by rw [← S.len]; exact hi)]
      exact e.symm
    · rfl
  rw [e3, List.set_set] at S3
  exact ⟨a, f.sub a, e, Gr.sub, S3, r⟩
end
def mFrz (i : Nat) : M PyData := fun ρ => match ρ[i]? with
  | some (.dat d) => some (.ok d, ρ)
  | some (.own (.lst ds)) => some (.ok (.list ds), ρ.set i (.dat (.list ds)))
  | _ => none
section
variable {X : Cx} {c : Cfg} {E : L2.St → XK}
/-- a slot as data; what is owned there is so no longer -/
theorem de_frz {i : Nat} {x : Str} {pos : Pos} (hN : X.N[i]? = some x) (hv : Vis X.env.scope x) (hio : c.loc i = true) (hd : (x == ("__debug__" : Str)) = false := by decide) (hcd : (x == ("__classdict__" : Str)) = false := by decide) : PE X (.Name x pos) (tX c E (mFrz i)) := by
  refine peMono (pe_var hN hv hd hcd) fun σ H Q ⟨f, ρ, S, r, ρ', e, p⟩ => ?_
  unfold mFrz at e
  cases h : ρ[i]? with
  | none =>
    rw [h] at e
    cases e
  | some s =>
    rw [h] at e
    cases s with
    | dat d =>
      cases e
      obtain ⟨v, e1, rv⟩ := S.sl i _ h (fun z => nomatch z)
      exact ⟨v, e1, p v H f (Gr.refl f H) S rv⟩
    | own o =>
      cases o with
      | lst ds =>
        cases e
        obtain ⟨a, f', e1, g, S1, r⟩ := S.frz h hio
        exact ⟨_, e1, p _ H f' g S1 r⟩
      | _ => cases e
    | _ => cases e

/-! ### statements -/
end
inductive Out where
  | nx
  | brk
  | cnt
  | ret (r : Rv)
  | err (c : Str) (x : PyData)
abbrev SM := List Sl → Option (Out × List Sl)
def PostS (c : Cfg) (E : L2.St → XK) (D : Ends) (f : Fm) (H : Hp) (ρ' : List Sl) : Out → Prop
  | .nx => ∀ σ' H' f', Gr c f H f' H' → StR c f' σ' H' ρ' → D.nx σ' H'
  | .brk => ∀ σ' H' f', Gr c f H f' H' → StR c f' σ' H' ρ' → D.bk σ' H'
  | .cnt => ∀ σ' H' f', Gr c f H f' H' → StR c f' σ' H' ρ' → D.ct σ' H'
  | .ret (.dat d) => ∀ v σ' H' f', Gr c f H f' H' → StR c f' σ' H' ρ' → Rp H' f'.N v d → D.rt v H'
  | .ret (.fr o) => ∀ p u σ' H' f', Gr c f H f' H' → StR c f' σ' H' ρ' → f'.O p → ¬ f'.B p → H' p = some u → OdR H' f'.N u o → NoSl σ' ρ' p → D.rt (.ref p) H'
  | .err cn x => ∀ cls d σ' H' f', Gr c f H f' H' → StR c f' σ' H' ρ' → ErrR c f'.N H' cn x cls d → E σ' cls d H'
theorem PostS.rebase {c : Cfg} {E : L2.St → XK} {D : Ends} {f f1 : Fm} {H H1 : Hp} {ρ' : List Sl} {o : Out} (g : Gr c f H f1 H1) (h : PostS c E D f H ρ' o) : PostS c E D f1 H1 ρ' o := by
  cases o with
  | nx => exact fun σ' H' f' s => h σ' H' f' (g.trans s)
  | brk => exact fun σ' H' f' s => h σ' H' f' (g.trans s)
  | cnt => exact fun σ' H' f' s => h σ' H' f' (g.trans s)
  | ret r =>
    cases r with
    | dat d => exact fun v σ' H' f' s => h v σ' H' f' (g.trans s)
    | fr o => exact fun p u σ' H' f' s => h p u σ' H' f' (g.trans s)
  | err cn x => exact fun cls d σ' H' f' s => h cls d σ' H' f' (g.trans s)
/-- other ends -/
theorem PostS.ends {c : Cfg} {E : L2.St → XK} {D D' : Ends} {f : Fm} {H : Hp} {ρ' : List Sl} {o : Out} (h : PostS c E D f H ρ' o) (n : o = .nx → PostS c E D' f H ρ' .nx) (b : o = .brk → PostS c E D' f H ρ' .brk) (k : o = .cnt → PostS c E D' f H ρ' .cnt) (r : D'.rt = D.rt) : PostS c E D' f H ρ' o := by
  cases o with
  | nx => exact n rfl
  | brk => exact b rfl
  | cnt => exact k rfl
  | ret q =>
    cases q with
    | dat d => exact fun v σ' H' f' g S z => by rw [r]; exact h v σ' H' f' g S z
    | fr o => exact fun p u σ' H' f' g S a1 a2 a3 a4 a5 => by rw [r]; exact h p u σ' H' f' g S a1 a2 a3 a4 a5
  | err cn x => exact h
def tS (c : Cfg) (E : L2.St → XK) (m : SM) : TS := fun D σ H => ∃ f ρ, StR c f σ H ρ ∧ ∃ o ρ', m ρ = some (o, ρ') ∧ PostS c E D f H ρ' o
theorem psMono {X : Cx} {st : Stmt} {t t' : TS} (h : PS X st t) (hm : ∀ D σ H, t' D σ H → t D σ H) : PS X st t' := ⟨fun pins s σ H D I q => h.run pins s σ H D I (hm D σ H q)⟩
theorem pssMono {X : Cx} {st : List Stmt} {t t' : TS} (h : PSs X st t) (hm : ∀ D σ H, t' D σ H → t D σ H) : PSs X st t' := ⟨fun pins s σ H D I q => h.run pins s σ H D I (hm D σ H q)⟩
def sNx : SM := fun ρ => some (.nx, ρ)
def sBrk : SM := fun ρ => some (.brk, ρ)
def sCnt : SM := fun ρ => some (.cnt, ρ)
def sSeq (m k : SM) : SM := fun ρ => match m ρ with
  | some (.nx, ρ1) => k ρ1
  | r => r
/-- an expression, then what is made of it -/
def sOf {α : Type} (m : M α) (k : α → SM) : SM := fun ρ => match m ρ with
  | some (.ok a, ρ1) => k a ρ1
  | some (.err cn x, ρ1) => some (.err cn x, ρ1)
  | none => none
theorem s_of {α : Type} {c : Cfg} {E : L2.St → XK} {D : Ends} {f : Fm} {σ : L2.St} {H : Hp} {ρ : List Sl} {m : M α} {k : α → SM} {Ok : OkF α} (h : ∃ o ρ', sOf m k ρ = some (o, ρ') ∧ PostS c E D f H ρ' o)
    (hk : ∀ a ρ1, m ρ = some (.ok a, ρ1) → (∃ o ρ', k a ρ1 = some (o, ρ') ∧ PostS c E D f H ρ' o) → Ok f H a ρ1) : RX c E f σ m Ok ρ H := by
  obtain ⟨o, ρ', e, p⟩ := h
  unfold sOf at e
  cases hm : m ρ with
  | none =>
    rw [hm] at e
    cases e
  | some q =>
    obtain ⟨r1, ρ1⟩ := q
    rw [hm] at e
    cases r1 with
    | ok a => exact ⟨_, _, hm, hk a ρ1 hm ⟨o, ρ', e, p⟩⟩
    | err cn x =>
      cases e
      exact ⟨_, _, hm, fun cls d H' f' g S r => p cls d σ H' f' g S r⟩
section
variable {X : Cx} {c : Cfg} {E : L2.St → XK} {st : Stmt} {rest : List Stmt}
theorem dss_nil : PSs X [] (tS c E sNx) := pssMono pss_nil fun D σ H ⟨f, ρ, S, o, ρ', e, p⟩ => by
  cases e
  exact p σ H f (Gr.refl _ _) S
theorem t_seq {m k : SM} {D : Ends} {σ : L2.St} {H : Hp} (h : tS c E (sSeq m k) D σ H) : tS c E m { D with nx := tS c E k D } σ H := by
  obtain ⟨f, ρ, S, o, ρ', e, p⟩ := h
  unfold sSeq at e
  cases hm : m ρ with
  | none =>
    rw [hm] at e
    cases e
  | some q =>
    obtain ⟨o1, ρ1⟩ := q
    rw [hm] at e
    cases o1 with
    | nx => exact ⟨f, ρ, S, _, _, hm, fun σ' H' f' g S' => ⟨f', ρ1, S', o, ρ', e, p.rebase g⟩⟩
    | brk =>
      cases e
      exact ⟨f, ρ, S, _, _, hm, p⟩
    | cnt =>
      cases e
      exact ⟨f, ρ, S, _, _, hm, p⟩
    | ret r =>
      cases e
      refine ⟨f, ρ, S, _, _, hm, ?_⟩
      cases r with
      | dat d => exact p
      | fr o => exact p
    | err cn x =>
      cases e
      exact ⟨f, ρ, S, _, _, hm, p⟩
theorem dss_cons {m k : SM} (h1 : PS X st (tS c E m)) (h2 : PSs X rest (tS c E k)) : PSs X (st :: rest) (tS c E (sSeq m k)) := pssMono (pss_cons h1 h2) fun D σ H q => t_seq q
theorem dss_one {m : SM} (h1 : PS X st (tS c E m)) : PSs X [st] (tS c E m) := pss_one h1
theorem ds_pass {pos : Pos} : PS X (.Pass pos) (tS c E sNx) := psMono ps_pass fun D σ H ⟨f, ρ, S, o, ρ', e, p⟩ => by
  cases e
  exact p σ H f (Gr.refl _ _) S
theorem ds_break {pos : Pos} : PS X (.Break pos) (tS c E sBrk) := psMono ps_break fun D σ H ⟨f, ρ, S, o, ρ', e, p⟩ => by
  cases e
  exact p σ H f (Gr.refl _ _) S
theorem ds_cont {pos : Pos} : PS X (.Continue pos) (tS c E sCnt) := psMono ps_continue fun D σ H ⟨f, ρ, S, o, ρ', e, p⟩ => by
  cases e
  exact p σ H f (Gr.refl _ _) S
def sEx (m : M PyData) : SM := sOf m fun _ => sNx
theorem ds_expr {e : Expr} {pos : Pos} {m : M PyData} (he : PE X e (tX c E m)) (hs : swapsWith e none pos.line X.env = pure false := by rfl) : PS X (.Expr e pos) (tS c E (sEx m)) := by
  refine psMono (ps_expr he hs) fun D σ H ⟨f, ρ, S, q⟩ => ⟨f, ρ, S, s_of q fun a ρ1 _ ⟨o, ρ', e, p⟩ v H' f' g S' _ => ?_⟩
  cases e
  exact p σ H' f' g S'
def sRet (m : M PyData) : SM := sOf m fun d ρ => some (.ret (.dat d), ρ)
def sRetL (m : M OD) : SM := sOf m fun o ρ => some (.ret (.fr o), ρ)
theorem ds_ret {e : Expr} {pos : Pos} {m : M PyData} (he : PE X e (tX c E m)) : PS X (.Return (some e) pos) (tS c E (sRet m)) := by
  refine psMono (ps_ret he) fun D σ H ⟨f, ρ, S, q⟩ => ⟨f, ρ, S, s_of q fun a ρ1 _ ⟨o, ρ', e, p⟩ v H' f' g S' r => ?_⟩
  cases e
  exact p v σ H' f' g S' r
theorem ds_retL {e : Expr} {pos : Pos} {m : M OD} (he : PE X e (tL c E m)) : PS X (.Return (some e) pos) (tS c E (sRetL m)) := by
  refine psMono (ps_ret he) fun D σ H ⟨f, ρ, S, q⟩ => ⟨f, ρ, S, s_of q fun a ρ1 _ ⟨o, ρ', e, p⟩ => ?_⟩
  cases e
  exact fun pp u H' f' g S' => p pp u σ H' f' g S'
/-- an owned slot handed back -/
def sRetO (i : Nat) : SM := fun ρ => match ρ[i]? with
  | some (.own o) => some (.ret (.fr o), ρ.set i .no)
  | _ => none
theorem ds_retO {i : Nat} {x : Str} {pos ppos : Pos} (hN : X.N[i]? = some x) (hv : Vis X.env.scope x) (hio : c.loc i = true) (hd : (x == ("__debug__" : Str)) = false := by decide) (hcd : (x == ("__classdict__" : Str)) = false := by decide) : PS X (.Return (some (.Name x pos)) ppos) (tS c E (sRetO i)) := by
  refine psMono (ps_ret (pe_var hN hv hd hcd)) fun D σ H ⟨f, ρ, S, o, ρ', e, p⟩ => ?_
  unfold sRetO at e
  cases h : ρ[i]? with
  | none =>
    rw [h] at e
    cases e
  | some s =>
    rw [h] at e
    cases s with
    | own od =>
      cases e
      obtain ⟨v, e1, a, u, rfl, ho, ha, hr⟩ := S.sl i _ h (fun z => nomatch z)
      have ni := loc_io hio
      refine ⟨_, e1, p a u σ H f (Gr.refl _ _) (S.setN hio) ho (S.ob i a _ h rfl e1 ni) ha hr fun j s hj oj e2 => ?_⟩
      rcases get_set hj with ⟨rfl, rfl⟩ | ⟨n, hj⟩
      · cases oj
      · exact n (S.dis i j a _ s h hj rfl oj e1 e2)
    | _ => cases e
theorem ds_retN {pos : Pos} : PS X (.Return none pos) (tS c E (fun ρ => some (.ret (.dat .none), ρ))) := psMono ps_retN fun D σ H ⟨f, ρ, S, o, ρ', e, p⟩ => by
  cases e
  exact p .non σ H f (Gr.refl _ _) S .non
def sIf (t : M Bool) (a b : SM) : SM := sOf t fun x => if x = true then a else b
theorem ds_if {e : Expr} {a b : List Stmt} {pos : Pos} {mt : M Bool} {ma mb : SM} (ht : PT X e (tT c E mt)) (ha : PSs X a (tS c E ma)) (hb : PSs X b (tS c E mb)) : PS X (.If e a b pos) (tS c E (sIf mt ma mb)) := by
  refine psMono (ps_if ht ha hb) fun D σ H ⟨f, ρ, S, q⟩ => ⟨f, ρ, S, s_of q fun x ρ1 _ ⟨o, ρ', e, p⟩ H' f' g S' => ?_⟩
  cases x with
  | true => exact ⟨f', ρ1, S', o, ρ', e, p.rebase g⟩
  | false => exact ⟨f', ρ1, S', o, ρ', e, p.rebase g⟩
/-! ### assignments -/
def sSet (i : Nat) (m : M PyData) : SM := sOf m fun d ρ => some (.nx, ρ.set i (.dat d))
def sSetL (i : Nat) (m : M OD) : SM := sOf m fun o ρ => some (.nx, ρ.set i (.own o))
theorem x_set {i : Nat} {te : TE} {m : M PyData} (hio : c.loc i = true) (hm : ∀ σ H Q, tX c E m σ H Q → te σ H Q) {D : Ends} {σ : L2.St} {H : Hp} (h : tS c E (sSet i m) D σ H) : tAsg te (gName i) D σ H := by
  obtain ⟨f, ρ, S, q⟩ := h
  refine hm σ H _ ⟨f, ρ, S, s_of q fun d ρ1 _ ⟨o, ρ', e, p⟩ v H' f' g S' r => ?_⟩
  cases e
  exact p _ H' f' g (S'.setD r hio)
theorem x_setL {i : Nat} {te : TE} {m : M OD} (hio : c.loc i = true) (hm : ∀ σ H Q, tL c E m σ H Q → te σ H Q) {D : Ends} {σ : L2.St} {H : Hp} (h : tS c E (sSetL i m) D σ H) : tAsg te (gName i) D σ H := by
  obtain ⟨f, ρ, S, q⟩ := h
  refine hm σ H _ ⟨f, ρ, S, s_of q fun d ρ1 _ ⟨o, ρ', e, p⟩ a u H' f' g S' op nb hp r ns => ?_⟩
  cases e
  exact p _ H' f' g (S'.setO op nb hp r ns hio)
theorem ds_set {i : Nat} {x : Str} {e : Expr} {m : M PyData} {pos pos' : Pos} (hN : X.N.Nodup) (hi : X.N[i]? = some x) (hx : Loc X.env.scope x) (he : PE X e (tX c E m)) (hio : c.loc i = true) (hs : swapsWith e (some (.Name x pos')) pos.line X.env = pure false := by rfl) (hf : X.fn x = true ∨ X.env.scope.names.lookup x = some .local := by first | exact .inl rfl | exact .inr rfl | assumption) :
    PS X (.Assign [.Name x pos'] e pos) (tS c E (sSet i m)) := psMono (ps_set hN hi hx he hs hf) fun D σ H q => x_set hio (fun _ _ _ z => z) q
theorem ds_setL {i : Nat} {x : Str} {e : Expr} {m : M OD} {pos pos' : Pos} (hN : X.N.Nodup) (hi : X.N[i]? = some x) (hx : Loc X.env.scope x) (he : PE X e (tL c E m)) (hio : c.loc i = true) (hs : swapsWith e (some (.Name x pos')) pos.line X.env = pure false := by rfl) (hf : X.fn x = true ∨ X.env.scope.names.lookup x = some .local := by first | exact .inl rfl | exact .inr rfl | assumption) :
    PS X (.Assign [.Name x pos'] e pos) (tS c E (sSetL i m)) := psMono (ps_set hN hi hx he hs hf) fun D σ H q => x_setL hio (fun _ _ _ z => z) q
/-- x = y, y owned -/
def mTake (j : Nat) : M OD := fun ρ => match ρ[j]? with
  | some (.own o) => some (.ok o, ρ.set j .no)
  | _ => none
theorem dl_take {j : Nat} {x : Str} {pos : Pos} (hN : X.N[j]? = some x) (hv : Vis X.env.scope x) (hio : c.loc j = true) (hd : (x == ("__debug__" : Str)) = false := by decide) (hcd : (x == ("__classdict__" : Str)) = false := by decide) : PE X (.Name x pos) (tL c E (mTake j)) := by
  refine peMono (pe_var hN hv hd hcd) fun σ H Q ⟨f, ρ, S, r, ρ', e, p⟩ => ?_
  unfold mTake at e
  cases h : ρ[j]? with
  | none =>
    rw [h] at e
    cases e
  | some s =>
    rw [h] at e
    cases s with
    | own od =>
      cases e
      obtain ⟨v, e1, a, u, rfl, ho, ha, hr⟩ := S.sl j _ h (fun z => nomatch z)
      have ni := loc_io hio
      refine ⟨_, e1, p a u H f (Gr.refl _ _) (S.setN hio) ho (S.ob j a _ h rfl e1 ni) ha hr fun k s hk ok e2 => ?_⟩
      rcases get_set hk with ⟨rfl, rfl⟩ | ⟨n, hk⟩
      · cases ok
      · exact n (S.dis j k a _ s h hk rfl ok e1 e2)
    | _ => cases e
end
end Ev

set_option Elab.async false
set_option linter.all false
set_option maxRecDepth 100000
set_option maxHeartbeats 4000000
/-! Ev: an object kept aside; several values at once; targets; methods of owned lists; loops. -/
namespace Ev
open PySem PySem.Spec PyProof.Rows L2 Ed

/-! ### kept aside -/
def Fm.hide (f : Fm) (p : Addr) : Fm := ⟨f.N, fun b => f.O b ∧ b ≠ p, fun b => f.B b ∨ b = p, fun b => f.N0 b ∨ b = p, f.ad⟩
/-- back from f', as f was -/
def Fm.back (f f' : Fm) (p : Addr) : Fm := ⟨f'.N, fun b => f'.O b ∨ b = p, f.B, f.N0, f.ad⟩
section
variable {c : Cfg} {f f' : Fm} {σ σ' : L2.St} {H H' : Hp} {ρ ρ' : List Sl} {p : Addr} {E : L2.St → XK} {i : Nat}
theorem StR.hide (S : StR c f σ H ρ) (ns : NoSl σ ρ p) (np : f.N p) : StR c (f.hide p) σ H ρ := by
  refine ⟨S.len, fun i s h n => ?_, S.dis, fun b z => S.on b z.1, S.nk, fun b z => z.elim (fun q => ⟨(S.n0 b q).1, .inl (S.n0 b q).2⟩) fun q => ⟨q ▸ np, .inr q⟩, fun b z => z.elim (S.bk b) fun q => q ▸ S.nk p np, fun i a s h o e ni z => z.elim (S.ob i a s h o e ni) fun q => ns i s h o (q ▸ e), S.io, S.tabs, fun q hq => by
    obtain ⟨w, h1, h2, h3⟩ := S.kp q hq
    exact ⟨w, h1, h2, fun z => h3 z.1⟩, S.fx⟩
  obtain ⟨v, e1, r⟩ := S.sl i s h n
  exact ⟨v, e1, r.mono (Mo.weak fun b z => z) (fun a u ha ho hs hv => ⟨ha, ho, fun q => ns i s h hs (by rw [e1, hv, q])⟩) ⟨fun _ _ _ q => q, fun t => t⟩⟩
theorem Gr.notO (g : Gr c (f.hide p) H f' H') (hp : H p ≠ none) : ¬ f'.O p := fun z => (g.oo p z).elim (fun q => q.2 rfl) hp
theorem StR.noSl (S : StR c f σ H ρ) (n : ¬ f.O p) : NoSl σ ρ p := by
  intro i s h o e
  obtain ⟨v, e1, r⟩ := S.sl i s h (fun z => by rw [z] at o; cases o)
  rw [e] at e1
  cases e1
  cases s with
  | own o =>
    obtain ⟨a, u, z, ho, _, _⟩ := r
    cases z
    exact n ho
  | _ => cases o
theorem Gr.at_ (g : Gr c (f.hide p) H f' H') {u : HO} (hp : H p = some u) (ht : ∀ ps, u ≠ .tbl ps) : H' p = some u := g.st.keep p u (fun z => z.2 rfl) hp ht
theorem StR.back (S0 : StR c f σ H ρ) (g : Gr c (f.hide p) H f' H') (S : StR c f' σ' H' ρ') (hp : H p ≠ none) (op : f.O p) : StR c (f.back f' p) σ' H' ρ' := by
  have n0 : ∀ b, f'.N0 b ↔ f.N0 b ∨ b = p := fun b => by rw [g.n0]; rfl
  have hB : ∀ b, f'.B b ↔ f.B b ∨ b = p := fun b => by rw [g.B]; rfl
  refine ⟨S.len, fun i s h n => ?_, S.dis, fun b z => z.elim (S.on b) fun q => q ▸ (S.n0 p ((n0 p).mpr (.inr rfl))).1, S.nk, fun b z => ⟨(S.n0 b ((n0 b).mpr (.inl z))).1, (S0.n0 b z).2⟩, fun b z => S.bk b ((hB b).mpr (.inl z)), fun i a s h o e ni z => S.ob i a s h o e ni ((hB a).mpr (.inl z)), fun j hj => ?_, S.tabs, fun q hq => by
    obtain ⟨w, h1, h2, h3⟩ := S.kp q hq
    obtain ⟨_, _, _, h4⟩ := S0.kp q hq
    exact ⟨w, h1, h2, fun z => z.elim h3 fun y => h4 (by rw [y]; exact op)⟩, S.fx⟩
  · obtain ⟨v, e1, r⟩ := S.sl i s h n
    exact ⟨v, e1, r.mono (Mo.weak fun b z => z) (fun a u ha ho _ _ => ⟨ha, .inl ho⟩) ⟨fun _ _ _ q => q, fun t => t⟩⟩
  · have := S.io j hj
    rwa [g.ad] at this
theorem Gr.back (g : Gr c (f.hide p) H f' H') (op : f.O p) : Gr c f H (f.back f' p) H' :=
  ⟨⟨fun b o n e t => g.st.keep b o (fun z => n z.1) e t, g.st.imm, g.st.live, g.st.tabs⟩, g.nn, fun b z => z.elim (fun q => (g.oo b q).imp (fun w => w.1) id) fun q => .inl (q ▸ op), rfl, rfl, rfl⟩
theorem RX.hide {α : Type} {m : M α} {Ok Ok' : OkF α} (S : StR c f σ H ρ) (hp : H p ≠ none) (op : f.O p) (h : RX c E f σ m Ok ρ H) (k : ∀ a ρ', Ok f H a ρ' → Ok' (f.hide p) H a ρ') : RX c E (f.hide p) σ m Ok' ρ H := by
  obtain ⟨r, ρ', e, q⟩ := h
  refine ⟨r, ρ', e, ?_⟩
  cases r with
  | ok a => exact k a ρ' q
  | err cn x => exact fun cls d H' f' g S' er => q cls d H' (f.back f' p) (g.back op) (S.back g S' hp op) er
end

/-! ### several values, data or new objects -/
inductive Ar where
  | d (d : PyData)
  | o (o : OD)
def ArR (f : Fm) (H : Hp) (σ : L2.St) (ρ : List Sl) : List V → List Ar → Prop
  | [], [] => True
  | v :: vs, .d d :: as => Rp H f.N v d ∧ ArR f H σ ρ vs as
  | v :: vs, .o o :: as => (∃ p u, v = .ref p ∧ f.O p ∧ ¬ f.B p ∧ H p = some u ∧ OdR H f.N u o ∧ NoSl σ ρ p) ∧ ArR f H σ ρ vs as
  | _, _ => False
/-- the new ones are unlike -/
def ArD : List V → List Ar → Prop
  | v :: vs, .d _ :: as => ArD vs as
  | v :: vs, .o _ :: as => (∀ (i : Nat) (o : OD), as[i]? = some (.o o) → vs[i]? ≠ some v) ∧ ArD vs as
  | _, _ => True
def OkM (c : Cfg) (σ : L2.St) (Q : List V → Hp → Prop) : OkF (List Ar) := fun f H as ρ' => ∀ vs H' f', Gr c f H f' H' → StR c f' σ H' ρ' → ArR f' H' σ ρ' vs as → ArD vs as → Q vs H'
theorem reb_M {c : Cfg} {σ : L2.St} {Q : List V → Hp → Prop} : Reb c (OkM c σ Q) := fun f H f1 H1 a ρ' s h v H' f' s' => h v H' f' (s.trans s')
def tM (c : Cfg) (E : L2.St → XK) (m : M (List Ar)) : TA := fun σ H Q => ∃ f ρ, StR c f σ H ρ ∧ RX c E f σ m (OkM c σ Q) ρ H
def aNil : M (List Ar) := M.pure []
def aD (a : M PyData) (b : M (List Ar)) : M (List Ar) := a.bind fun x => b.bind fun xs => M.pure (.d x :: xs)
def aO (a : M OD) (b : M (List Ar)) : M (List Ar) := a.bind fun x => b.bind fun xs => M.pure (.o x :: xs)
section
variable {X : Cx} {c : Cfg} {E : L2.St → XK}
theorem am_nil : PA X [] (tM c E aNil) := paMono pa_nil fun σ H Q ⟨f, ρ, S, q⟩ => q.pure [] H f (Gr.refl _ _) S trivial trivial
theorem am_d {e : Expr} {es : List Expr} {a : M PyData} {b : M (List Ar)} (ha : PE X e (tX c E a)) (hb : PA X es (tM c E b)) (hs : starEach (e :: es) X.env = (false, eval e X.env) :: starEach es X.env := by rfl) : PA X (e :: es) (tM c E (aD a b)) := by
  refine paMono (pa_cons ha hb hs) fun σ H Q ⟨f, ρ, S, q⟩ => ?_
  refine x_bind S q reb_M fun d ρ1 v H1 f1 _ g1 S1 r1 h1 => ?_
  refine ⟨f1, ρ1, S1, h1.bind fun ds ρ2 _ h2 vs H2 f2 g2 S2 r2 d2 => ?_⟩
  exact (h2.rebase g2 reb_M).pure (v :: vs) H2 f2 (Gr.refl _ _) S2 ⟨r1.mono (g2.mo S1.on), r2⟩ d2
theorem ArR.back {f f' : Fm} {H' : Hp} {σ : L2.St} {ρ : List Sl} {p : Addr} {c : Cfg} {H : Hp} (g : Gr c (f.hide p) H f' H') : ∀ {vs : List V} {as : List Ar}, ArR f' H' σ ρ vs as → ArR (f.back f' p) H' σ ρ vs as
  | [], [], _ => trivial
  | _ :: _, .d _ :: _, h => ⟨h.1, ArR.back g h.2⟩
  | _ :: _, .o _ :: _, h => by
    obtain ⟨⟨q, u, a1, a2, a3, a4, a5, a6⟩, h2⟩ := h
    exact ⟨⟨q, u, a1, .inl a2, fun z => a3 (by rw [g.B]; exact .inl z), a4, a5, a6⟩, ArR.back g h2⟩
  | [], _ :: _, h => h
  | _ :: _, [], h => h
theorem ArR.ne {f : Fm} {H : Hp} {σ : L2.St} {ρ : List Sl} {p : Addr} (hb : ¬ f.O p) : ∀ {vs : List V} {as : List Ar}, ArR f H σ ρ vs as → ∀ (i : Nat) (o : OD), as[i]? = some (.o o) → vs[i]? ≠ some (.ref p)
  | [], [], _, i, o, e => by simp at e
  | _ :: _, .d _ :: _, h, 0, o, e => by cases e
  | _ :: _, .d _ :: _, h, i + 1, o, e => by
    have := ArR.ne hb h.2 i o (by simpa using e)
    simpa using this
  | _ :: _, .o _ :: _, h, 0, o, e => fun z => by
    obtain ⟨⟨q, u, a1, a2, _⟩, _⟩ := h
    subst a1
    cases z
    exact hb a2
  | _ :: _, .o _ :: _, h, i + 1, o, e => by
    have := ArR.ne hb h.2 i o (by simpa using e)
    simpa using this
  | [], _ :: _, h, _, _, _ => h.elim
  | _ :: _, [], h, _, _, _ => h.elim
theorem am_o {e : Expr} {es : List Expr} {a : M OD} {b : M (List Ar)} (ha : PE X e (tL c E a)) (hb : PA X es (tM c E b)) (hs : starEach (e :: es) X.env = (false, eval e X.env) :: starEach es X.env := by rfl) : PA X (e :: es) (tM c E (aO a b)) := by
  refine paMono (pa_cons ha hb hs) fun σ H Q ⟨f, ρ, S, q⟩ => ⟨f, ρ, S, q.bind fun od ρ1 _ h1 p u H1 f1 g1 S1 op nb hp r ns => ?_⟩
  have hp0 : H1 p ≠ none := by rw [hp]; simp
  refine ⟨f1.hide p, ρ1, S1.hide ns (S1.on p op), RX.hide S1 hp0 op ((h1.rebase g1 reb_M).bind (Ok1 := fun f H as ρ2 => RX c E f σ (M.pure (Ar.o od :: as)) (OkM c σ Q) ρ2 H) fun ds ρ2 _ h2 => h2) fun as ρ2 h2 vs H2 f2 g2 S2 r2 d2 => ?_⟩
  have S3 := S1.back g2 S2 hp0 op
  have hu : H2 p = some u := g2.at_ hp r.notTbl
  have n2 := g2.notO hp0
  refine h2.pure (.ref p :: vs) H2 (f1.back f2 p) (g2.back op) S3 ⟨⟨p, u, rfl, .inr rfl, nb, hu, r.mono ⟨g2.st.tup, fun b xs e n => ⟨g2.st.keep b _ (fun z => n (S1.on b z.1)) e (by simp), fun z => (g2.nn b z).elim n fun q => by
    rw [q] at e
    cases e⟩⟩, S2.noSl n2⟩, ArR.back g2 r2⟩ ⟨fun i o e => ArR.ne n2 r2 i o e, d2⟩
/-! ### a, b = x, y -/
def putA (i : Nat) (a : Ar) (ρ : List Sl) : List Sl := match a with
  | .d d => ρ.set i (.dat d)
  | .o o => ρ.set i (.own o)
theorem StR.putA {f : Fm} {σ : L2.St} {H : Hp} {ρ : List Sl} {i : Nat} {v : V} {vs : List V} {a : Ar} {as : List Ar} (S : StR c f σ H ρ) (r : ArR f H σ ρ (v :: vs) (a :: as)) (d : ArD (v :: vs) (a :: as)) (hio : c.loc i = true) :
    StR c f (σ.set i (some v)) H (putA i a ρ) ∧ ArR f H (σ.set i (some v)) (putA i a ρ) vs as ∧ ArD vs as := by
  have step : ∀ (s : Sl) (hv : isOwn s = true → ∀ (j : Nat) (o : OD), as[j]? = some (.o o) → vs[j]? ≠ some v), (∀ (vs' : List V) (as' : List Ar), (isOwn s = true → ∀ (j : Nat) (o : OD), as'[j]? = some (.o o) → vs'[j]? ≠ some v) → ArR f H σ ρ vs' as' → ArR f H (σ.set i (some v)) (ρ.set i s) vs' as') := by
    intro s hv vs' as' h r
    induction vs' generalizing as' with
    | nil =>
      cases as' with
      | nil => trivial
      | cons _ _ => exact r.elim
    | cons w ws ih =>
      cases as' with
      | nil => exact r.elim
      | cons b bs =>
        have h' : isOwn s = true → ∀ (j : Nat) (o : OD), bs[j]? = some (.o o) → ws[j]? ≠ some v := fun o j od e => by
          have := h o (j + 1) od (by simpa using e)
          simpa using this
        cases b with
        | d d => exact ⟨r.1, ih bs h' r.2⟩
        | o o =>
          obtain ⟨⟨q, u, a1, a2, a3, a4, a5, a6⟩, r2⟩ := r
          refine ⟨⟨q, u, a1, a2, a3, a4, a5, fun k t hk ok e => ?_⟩, ih bs h' r2⟩
          rcases get_set hk with ⟨rfl, rfl⟩ | ⟨n, hk⟩
          · rcases get_set e with ⟨_, e⟩ | ⟨n, _⟩
            · have := h ok 0 o rfl
              rw [a1] at this
              exact this (by rw [← Option.some.inj e]; rfl)
            · exact n rfl
          · rw [List.getElem?_set_ne n] at e
            exact a6 k t hk ok e
  cases a with
  | d x => exact ⟨S.setD r.1 hio, step (.dat x) (fun z => by cases z) vs as (fun z => by cases z) r.2, d⟩
  | o o =>
    obtain ⟨⟨q, u, rfl, a2, a3, a4, a5, a6⟩, r2⟩ := r
    exact ⟨S.setO a2 a3 a4 a5 a6 hio, step (.own o) (fun _ j od e => d.1 j od e) vs as (fun _ j od e => d.1 j od e) r2, d.2⟩
def sPar2 (i j : Nat) (m : M (List Ar)) : SM := sOf m fun as ρ => match as with
  | [a, b] => some (.nx, putA j b (putA i a ρ))
  | _ => none
def sPar3 (i j l : Nat) (m : M (List Ar)) : SM := sOf m fun as ρ => match as with
  | [a, b, d] => some (.nx, putA l d (putA j b (putA i a ρ)))
  | _ => none
theorem ArR.len {f : Fm} {H : Hp} {σ : L2.St} {ρ : List Sl} : ∀ {vs : List V} {as : List Ar}, ArR f H σ ρ vs as → vs.length = as.length
  | [], [], _ => rfl
  | _ :: _, .d _ :: _, h => congrArg Nat.succ (ArR.len h.2)
  | _ :: _, .o _ :: _, h => congrArg Nat.succ (ArR.len h.2)
  | [], _ :: _, h => h.elim
  | _ :: _, [], h => h.elim
theorem ds_par {i j : Nat} {x y : Str} {a b : Expr} {m : M (List Ar)} {px py pt : Pos} {kt k2 pt2} {pos : Pos} (hc : X.calm = true) (hN : X.N.Nodup) (hi : X.N[i]? = some x) (hj : X.N[j]? = some y) (hij : i ≠ j)
    (hx : X.env.scope.names.lookup x = some .local) (hy : X.env.scope.names.lookup y = some .local) (ha : PA X [a, b] (tM c E m)) (oi : c.loc i = true) (oj : c.loc j = true)
    (hw : swappedStores [.Tuple [.Name x px, .Name y py] kt pt] (.Tuple [a, b] k2 pt2) X.env = pure (some [x, y]))
    (hs : swapsWithSole [.Tuple [.Name x px, .Name y py] kt pt] (.Tuple [a, b] k2 pt2) pos.line X.env = pure false := by rfl) :
    PS X (.Assign [.Tuple [.Name x px, .Name y py] kt pt] (.Tuple [a, b] k2 pt2) pos) (tS c E (sPar2 i j m)) := by
  refine psMono (ps_par hc hN hi hj hij hx hy ha hw hs) fun D σ H ⟨f, ρ, S, q⟩ => ⟨f, ρ, S, s_of q fun as ρ1 _ ⟨o, ρ', e, p⟩ vs H' f' g S' r d => ?_⟩
  match as, e with
  | [a, b], e =>
    cases e
    match vs, r, d with
    | [v, w], r, d =>
      obtain ⟨S2, r2, d2⟩ := S'.putA r d oi
      obtain ⟨S3, _, _⟩ := S2.putA r2 d2 oj
      exact ⟨v, w, rfl, p _ H' f' g S3⟩
    | [], r, _ => exact r.elim
    | [_], r, _ =>
      have := r.len
      cases this
    | _ :: _ :: _ :: _, r, _ =>
      have := r.len
      simp at this
theorem ds_par3 {i j l : Nat} {x y z : Str} {a b d : Expr} {m : M (List Ar)} {px py pz pt : Pos} {kt k2 pt2} {pos : Pos} (hc : X.calm = true) (hN : X.N.Nodup) (hi : X.N[i]? = some x) (hj : X.N[j]? = some y) (hl : X.N[l]? = some z) (hij : i ≠ j) (hil : i ≠ l) (hjl : j ≠ l)
    (hx : X.env.scope.names.lookup x = some .local) (hy : X.env.scope.names.lookup y = some .local) (hz : X.env.scope.names.lookup z = some .local) (ha : PA X [a, b, d] (tM c E m)) (oi : c.loc i = true) (oj : c.loc j = true) (ol : c.loc l = true)
    (hw : swappedStores [.Tuple [.Name x px, .Name y py, .Name z pz] kt pt] (.Tuple [a, b, d] k2 pt2) X.env = pure (some [x, y, z]))
    (hs : swapsWithSole [.Tuple [.Name x px, .Name y py, .Name z pz] kt pt] (.Tuple [a, b, d] k2 pt2) pos.line X.env = pure false := by rfl) :
    PS X (.Assign [.Tuple [.Name x px, .Name y py, .Name z pz] kt pt] (.Tuple [a, b, d] k2 pt2) pos) (tS c E (sPar3 i j l m)) := by
  refine psMono (ps_par3 hc hN hi hj hl hij hil hjl hx hy hz ha hw hs) fun D σ H ⟨f, ρ, S, q⟩ => ⟨f, ρ, S, s_of q fun as ρ1 _ ⟨o, ρ', e, p⟩ vs H' f' g S' r dd => ?_⟩
  match as, e with
  | [a, b, d], e =>
    cases e
    match vs, r, dd with
    | [v, w, u], r, dd =>
      obtain ⟨S2, r2, d2⟩ := S'.putA r dd oi
      obtain ⟨S3, r3, d3⟩ := S2.putA r2 d2 oj
      obtain ⟨S4, _, _⟩ := S3.putA r3 d3 ol
      exact ⟨v, w, u, rfl, p _ H' f' g S4⟩
    | [], r, _ => exact r.elim
    | [_], r, _ =>
      have := r.len
      cases this
    | [_, _], r, _ =>
      have := r.len
      cases this
    | _ :: _ :: _ :: _ :: _, r, _ =>
      have := r.len
      simp at this
end
end Ev

set_option Elab.async false
set_option linter.all false
set_option maxRecDepth 100000
set_option maxHeartbeats 4000000
/-! Ev: targets; methods of owned lists; loops. -/
namespace Ev
open PySem PySem.Spec PyProof.Rows L2 Ed

/-! ### targets -/
abbrev Tf := PyData → List Sl → Option (List Sl)
abbrev Tfs := List PyData → List Sl → Option (List Sl)
/-- data, or a tuple or list that was just laid, nobody else has it -/
inductive Vt (H : Hp) (N : As) : V → PyData → Prop
  | rp {v : V} {d : PyData} : Rp H N v d → Vt H N v d
  | tup {a : Addr} {xs : List V} {ds : List PyData} : H a = some (.tup xs) → RpAll H N xs ds → Vt H N (.ref a) (.tuple ds)
  | lst {a : Addr} {xs : List V} {ds : List PyData} : H a = some (.lst xs) → RpAll H N xs ds → Vt H N (.ref a) (.list ds)
/-- only the slots of ws change -/
def Sm (ws : List Nat) (σ σ' : L2.St) : Prop := σ'.length = σ.length ∧ ∀ i, i ∉ ws → σ'[i]? = σ[i]?
def TgR (X : Cx) (c : Cfg) (ws : List Nat) (tg : Expr) (g : Tf) : Prop := ∃ t : TG, PG X tg t ∧ ∀ (f : Fm) (σ : L2.St) (H : Hp) (ρ : List Sl) (v : V) (d : PyData) (ρ1 : List Sl) (Q : L2.St → Hp → Prop), StR c f σ H ρ → Rp H f.N v d → g d ρ = some ρ1 → (∀ σ', StR c f σ' H ρ1 → Sm ws σ σ' → Q σ' H) → t v σ H Q
def TgV (X : Cx) (c : Cfg) (ws : List Nat) (tg : Expr) (g : Tf) : Prop := ∃ t : TG, PG X tg t ∧ ∀ (f : Fm) (σ : L2.St) (H : Hp) (ρ : List Sl) (v : V) (d : PyData) (ρ1 : List Sl) (Q : L2.St → Hp → Prop), StR c f σ H ρ → Vt H f.N v d → g d ρ = some ρ1 → (∀ σ', StR c f σ' H ρ1 → Sm ws σ σ' → Q σ' H) → t v σ H Q
def TgS (X : Cx) (c : Cfg) (ws : List Nat) (ts : List Expr) (g : Tfs) : Prop := ∃ t : TGs, PGs X ts t ∧ ∀ (f : Fm) (σ : L2.St) (H : Hp) (ρ : List Sl) (vs : List V) (ds : List PyData) (ρ1 : List Sl) (Q : L2.St → Hp → Prop), StR c f σ H ρ → RpAll H f.N vs ds → g ds ρ = some ρ1 → (∀ σ', StR c f σ' H ρ1 → Sm ws σ σ' → Q σ' H) → t vs σ H Q
def gN (i : Nat) : Tf := fun d ρ => some (ρ.set i (.dat d))
def gNil0 : Tfs := fun ds ρ => match ds with
  | [] => some ρ
  | _ => none
def gCon (g : Tf) (r : Tfs) : Tfs := fun ds ρ => match ds with
  | d :: es => (g d ρ).bind (r es)
  | [] => none
def gTupT (n : Nat) (r : Tfs) : Tf := fun d ρ => match d with
  | .tuple ds => if ds.length = n then r ds ρ else none
  | _ => none
def gTupL (n : Nat) (r : Tfs) : Tf := fun d ρ => match d with
  | .list ds => if ds.length = n then r ds ρ else none
  | _ => none
section
variable {X : Cx} {c : Cfg} {E : L2.St → XK} {tg : Expr} {g : Tf}
theorem TgV.r {ws : List Nat} (h : TgV X c ws tg g) : TgR X c ws tg g := by
  obtain ⟨t, p, k⟩ := h
  exact ⟨t, p, fun f σ H ρ v d ρ1 Q S r => k f σ H ρ v d ρ1 Q S (.rp r)⟩
theorem tg_name {i : Nat} {x : Str} {pos : Pos} (hN : X.N.Nodup) (hi : X.N[i]? = some x) (hx : Loc X.env.scope x) (hio : c.loc i = true) (hf : X.fn x = true ∨ X.env.scope.names.lookup x = some .local := by first | exact .inl rfl | exact .inr rfl | assumption) : TgR X c [i] (.Name x pos) (gN i) :=
  ⟨_, pg_name hN hi hx hf, fun f σ H ρ v d ρ1 Q S r e q => by
    cases e
    exact q _ (S.setD r hio) ⟨List.length_set .., fun j hj => List.getElem?_set_ne fun z => hj (List.mem_singleton.mpr z.symm)⟩⟩
theorem tg_nil : TgS X c [] [] gNil0 := ⟨_, pgs_nil, fun f σ H ρ vs ds ρ1 Q S r e q => by
  cases r with
  | nil =>
    cases e
    exact ⟨rfl, q _ S ⟨rfl, fun _ _ => rfl⟩⟩
  | cons _ _ => cases e⟩
theorem tg_con {e : Expr} {es : List Expr} {r : Tfs} {ws us : List Nat} (h1 : TgR X c ws e g) (h2 : TgS X c us es r) (hs : (assignEach (e :: es) X.env).map (·.2) = assign e X.env :: (assignEach es X.env).map (·.2) := by rfl) : TgS X c (ws ++ us) (e :: es) (gCon g r) := by
  obtain ⟨t, p, k⟩ := h1
  obtain ⟨u, q, l⟩ := h2
  refine ⟨_, pgs_cons p q hs, fun f σ H ρ vs ds ρ1 Q S r e z => ?_⟩
  cases r with
  | nil => cases e
  | cons a b =>
    rename_i v vs d ds
    have e : (g d ρ).bind (_) = some ρ1 := e
    cases hg : g d ρ with
    | none =>
      rw [hg] at e
      cases e
    | some ρ2 =>
      rw [hg] at e
      exact ⟨v, vs, rfl, k f σ H ρ v d ρ2 _ S a hg fun σ' S' m1 => l f σ' H ρ2 vs ds ρ1 Q S' b e fun σ2 S2 m2 => z σ2 S2 ⟨m2.1.trans m1.1, fun i hi => (m2.2 i fun q => hi (List.mem_append.mpr (.inr q))).trans (m1.2 i fun q => hi (List.mem_append.mpr (.inl q)))⟩⟩
theorem tg_tup {es : List Expr} {k : Nat} {pos : Pos} {r : Tfs} {n : Nat} {ws : List Nat} (hc : X.calm = true) (h : TgS X c ws es r) (hn : (assignEach es X.env).length = n := by rfl) (hst : (assignEach es X.env).findIdx? (·.1) = none := by rfl) : TgV X c ws (.Tuple es k pos) (gTupT n r) := by
  obtain ⟨t, p, l⟩ := h
  refine ⟨_, pg_tup hc p hn hst, fun f σ H ρ v d ρ1 Q S r e q => ?_⟩
  cases d with
  | tuple ds =>
    have e : (if ds.length = n then _ else none) = some ρ1 := e
    split at e
    · rename_i hl
      cases r with
      | rp r =>
        obtain ⟨a, xs, rfl, ht, ax⟩ := r.tuple_inv
        exact ⟨a, xs, rfl, ht.sq, ax.len.trans hl, l f σ H ρ xs ds ρ1 Q S ax e q⟩
      | tup ht ax => exact ⟨_, _, rfl, .inl (.inl ht), ax.len.trans hl, l f σ H ρ _ ds ρ1 Q S ax e q⟩
    · cases e
  | _ => cases e
theorem tg_lst {es : List Expr} {k : Nat} {pos : Pos} {r : Tfs} {n : Nat} {ws : List Nat} (hc : X.calm = true) (h : TgS X c ws es r) (hn : (assignEach es X.env).length = n := by rfl) (hst : (assignEach es X.env).findIdx? (·.1) = none := by rfl) : TgV X c ws (.Tuple es k pos) (gTupL n r) := by
  obtain ⟨t, p, l⟩ := h
  refine ⟨_, pg_lst hc p hn hst, fun f σ H ρ v d ρ1 Q S r e q => ?_⟩
  cases d with
  | list ds =>
    have e : (if ds.length = n then _ else none) = some ρ1 := e
    split at e
    · rename_i hl
      cases r with
      | rp r =>
        obtain ⟨a, xs, rfl, ht, _, ax⟩ := r.list_inv
        exact ⟨a, xs, rfl, .inl (.inl ht), ax.len.trans hl, l f σ H ρ xs ds ρ1 Q S ax e q⟩
      | lst ht ax => exact ⟨_, _, rfl, .inl (.inl ht), ax.len.trans hl, l f σ H ρ _ ds ρ1 Q S ax e q⟩
    · cases e
  | _ => cases e
def sAsg (g : Tf) (m : M PyData) : SM := sOf m fun d ρ => (g d ρ).map fun ρ1 => (.nx, ρ1)
theorem ds_asg {e : Expr} {m : M PyData} {pos : Pos} {ws : List Nat} (he : PE X e (tX c E m)) (hg : TgR X c ws tg g) (hs : swapsWithSole [tg] e pos.line X.env = pure false := by rfl) (hw : swappedStores [tg] e X.env = pure none := by rfl)
    (h1 : (assignEach [tg] X.env).map (·.2) = [assign tg X.env] := by rfl) : PS X (.Assign [tg] e pos) (tS c E (sAsg g m)) := by
  obtain ⟨t, p, k⟩ := hg
  refine psMono (ps_asg he p hs hw h1) fun D σ H ⟨f, ρ, S, q⟩ => ⟨f, ρ, S, s_of q fun d ρ1 _ ⟨o, ρ', e, p⟩ v H' f' g' S' r => ?_⟩
  cases hg : g d ρ1 with
  | none =>
    rw [hg] at e
    cases e
  | some ρ2 =>
    rw [hg] at e
    cases e
    exact k f' σ H' ρ1 v d _ _ S' r hg fun σ' S2 _ => p σ' H' f' g' S2
/-- .. of a list just made -/
def sAsgL (g : Tf) (m : M OD) : SM := sOf m fun o ρ => (odL o).bind fun d => (g d ρ).map fun ρ1 => (.nx, ρ1)
theorem ds_asgL {e : Expr} {m : M OD} {pos : Pos} {ws : List Nat} (he : PE X e (tL c E m)) (hg : TgV X c ws tg g) (hs : swapsWithSole [tg] e pos.line X.env = pure false := by rfl) (hw : swappedStores [tg] e X.env = pure none := by rfl)
    (h1 : (assignEach [tg] X.env).map (·.2) = [assign tg X.env] := by rfl) : PS X (.Assign [tg] e pos) (tS c E (sAsgL g m)) := by
  obtain ⟨t, p, k⟩ := hg
  refine psMono (ps_asg he p hs hw h1) fun D σ H ⟨f, ρ, S, q⟩ => ⟨f, ρ, S, s_of q fun od ρ1 _ ⟨o, ρ', e, p⟩ pp u H' f' g' S' op nb hp r ns => ?_⟩
  cases od with
  | lst ds =>
    have e : ((g (.list ds) ρ1).map fun ρ1 => (Out.nx, ρ1)) = some (o, ρ') := e
    cases u with
    | lst xs =>
      cases hg : g (.list ds) ρ1 with
      | none =>
        rw [hg] at e
        cases e
      | some ρ2 =>
        rw [hg] at e
        cases e
        exact k f' σ H' ρ1 _ _ _ _ S' (.lst hp r) hg fun σ' S2 _ => p σ' H' f' g' S2
    | _ => exact r.elim
  | _ => cases e

/-! ### methods of an owned list -/
def isOL (ρ : List Sl) (i : Nat) : Bool := match ρ[i]? with
  | some (.own (.lst _)) => true
  | _ => false
theorem isOL_ex {ρ : List Sl} {i : Nat} (h : isOL ρ i = true) : ∃ ds, ρ[i]? = some (.own (.lst ds)) := by
  unfold isOL at h
  split at h
  · exact ⟨_, by assumption⟩
  · cases h
def Mt1 (X : Cx) (id : String) (g : List PyData → PyData → Option (PyData × List PyData)) : Prop :=
  ∃ r, MtR X id r ∧ ∀ (H : Hp) (N : As) (l : Addr) (xs : List V) (ds : List PyData) (y : V) (d rd : PyData) (ds' : List PyData) (Q : VK), H l = some (.lst xs) → RpAll H N xs ds → Rp H N y d → g ds d = some (rd, ds') → (∀ z xs', RpAll H N xs' ds' → Rp H N z rd → Q z (upd H l (.lst xs'))) → r (.ref l) [y] H Q
def Mt0 (X : Cx) (id : String) (g : List PyData → Option (PyData × List PyData)) : Prop :=
  ∃ r, MtR X id r ∧ ∀ (H : Hp) (N : As) (l : Addr) (xs : List V) (ds : List PyData) (rd : PyData) (ds' : List PyData) (Q : VK), H l = some (.lst xs) → RpAll H N xs ds → g ds = some (rd, ds') → (∀ z xs', RpAll H N xs' ds' → Rp H N z rd → Q z (upd H l (.lst xs'))) → r (.ref l) [] H Q
def mMt1 (i : Nat) (g : List PyData → PyData → Option (PyData × List PyData)) (m : M PyData) : M PyData := fun ρ => if isOL ρ i = true then (m.bind fun y ρ => match ρ[i]? with
  | some (.own (.lst ds)) => (g ds y).map fun q => (.ok q.1, ρ.set i (.own (.lst q.2)))
  | _ => none) ρ else none
def mMt0 (i : Nat) (g : List PyData → Option (PyData × List PyData)) : M PyData := fun ρ => match ρ[i]? with
  | some (.own (.lst ds)) => (g ds).map fun q => (.ok q.1, ρ.set i (.own (.lst q.2)))
  | _ => none
theorem x_mt {f : Fm} {σ : L2.St} {H : Hp} {ρ : List Sl} {i : Nat} {a : Addr} {xs xs' : List V} {ds ds' : List PyData} {z : V} {rd : PyData} {Q : VK} (S : StR c f σ H ρ) (hs : ρ[i]? = some (.own (.lst ds))) (e : σ[i]? = some (some (.ref a))) (oa : f.O a) (ha : H a = some (.lst xs)) (ax : RpAll H f.N xs' ds') (rz : Rp H f.N z rd)
    (q : OkX c σ Q f H rd (ρ.set i (.own (.lst ds')))) : Q z (upd H a (.lst xs')) := by
  obtain ⟨S2, g2⟩ := S.write (u' := .lst xs') (o' := .lst ds') hs e ha oa (fun z => z) (fun ps z => by cases z) ax
  exact q z _ f g2 S2 (rz.mono (g2.mo S.on))
theorem de_mt1 {i : Nat} {x name : Str} {id : String} {gm : List PyData → PyData → Option (PyData × List PyData)} {m : M PyData} {e : Expr} {p apos cpos : Pos} (slot : Slot "list" name id) (hty : typeOf (.builtin id) = pure (.type "method_descriptor")) (hm : Mt1 X id gm) (hN : X.N[i]? = some x) (hv : Vis X.env.scope x) (ha : PE X e (tX c E m))
    (hd : (x == ("__debug__" : Str)) = false := by decide) (hcd : (x == ("__classdict__" : Str)) = false := by decide)
    (hbase : attributeBase (.Name x p) name X.env (eval (.Name x p) X.env) = eval (.Name x p) X.env := by rfl)
    (hfew : ((backTo cpos (starEach [e] X.env)).all (fun x => !x.1) && (backToKw cpos (keywordEach [] X.env)).all (fun x => x.1.isSome)
      && decide ([e].length + ([] : List Keyword).length + (if ([] : List Keyword).isEmpty then 0 else 1) < 30)) = true := by rfl)
    (hline : (apos.endLine == cpos.line) = true := by rfl) (hs : starEach [e] X.env = (false, eval e X.env) :: starEach [] X.env := by rfl) (hplain : (backTo cpos (starEach [] X.env)).any (·.1) = false := by rfl) :
    PE X (.Call (.Attribute (.Name x p) name apos) [e] [] cpos) (tX c E (mMt1 i gm m)) := by
  obtain ⟨r, hr, hk⟩ := hm
  refine peMono (pe_bm PySem.F.plainAttrs_list slot hty hr (pe_var hN hv hd hcd) (pa_cons ha pa_nil hs) hbase hfew hline hs hplain) fun σ H Q ⟨f, ρ, S, h⟩ => ?_
  have ho : isOL ρ i = true := by
    obtain ⟨r0, ρ0, e0, _⟩ := h
    unfold mMt1 at e0
    split at e0
    · assumption
    · cases e0
  have h : RX c E f σ (m.bind fun y ρ => match ρ[i]? with
    | some (.own (.lst ds)) => (gm ds y).map fun q => (.ok q.1, ρ.set i (.own (.lst q.2)))
    | _ => none) (OkX c σ Q) ρ H := by
    obtain ⟨r0, ρ0, e0, p0⟩ := h
    unfold mMt1 at e0
    rw [if_pos ho] at e0
    exact ⟨r0, ρ0, e0, p0⟩
  obtain ⟨ds0, hs0⟩ := isOL_ex ho
  obtain ⟨a, xs0, e1, oa0, ha0, ax0⟩ := S.ownL hs0
  refine ⟨.ref a, e1, .inl ⟨rfl, xs0, .inl (.inl ha0)⟩, ?_⟩
  refine x_bind S h reb_X fun y ρ1 v H1 f1 _ g1 S1 r1 h1 => ?_
  obtain ⟨r2, ρ2, e2, p2⟩ := h1
  dsimp only at e2
  cases hi : ρ1[i]? with
  | none =>
    rw [hi] at e2
    cases e2
  | some s =>
    rw [hi] at e2
    cases s with
    | own o =>
      cases o with
      | lst ds =>
        obtain ⟨a', xs, e1', oa, ha1, ax⟩ := S1.ownL hi
        rw [e1] at e1'
        cases e1'
        have e2 : ((gm ds y).map fun q => (Rs.ok q.1, ρ1.set i (.own (.lst q.2)))) = some (r2, ρ2) := e2
        cases hg : gm ds y with
        | none =>
          rw [hg] at e2
          cases e2
        | some q =>
          rw [hg] at e2
          cases e2
          exact hk H1 f1.N a xs ds v y q.1 q.2 Q ha1 ax r1 hg fun z xs' ax' rz => x_mt S1 hi e1 oa ha1 ax' rz p2
      | _ => cases e2
    | _ => cases e2
theorem de_mt0 {i : Nat} {x name : Str} {id : String} {gm : List PyData → Option (PyData × List PyData)} {p apos cpos : Pos} (slot : Slot "list" name id) (hty : typeOf (.builtin id) = pure (.type "method_descriptor")) (hm : Mt0 X id gm) (hN : X.N[i]? = some x) (hv : Vis X.env.scope x)
    (hd : (x == ("__debug__" : Str)) = false := by decide) (hcd : (x == ("__classdict__" : Str)) = false := by decide)
    (hbase : attributeBase (.Name x p) name X.env (eval (.Name x p) X.env) = eval (.Name x p) X.env := by rfl) (hline : (apos.endLine == cpos.line) = true := by rfl) :
    PE X (.Call (.Attribute (.Name x p) name apos) [] [] cpos) (tX c E (mMt0 i gm)) := by
  obtain ⟨r, hr, hk⟩ := hm
  refine peMono (pe_bm0 PySem.F.plainAttrs_list slot hty hr (pe_var hN hv hd hcd) hbase hline) fun σ H Q ⟨f, ρ, S, r2, ρ2, e2, p2⟩ => ?_
  unfold mMt0 at e2
  cases hi : ρ[i]? with
  | none =>
    rw [hi] at e2
    cases e2
  | some s =>
    rw [hi] at e2
    cases s with
    | own o =>
      cases o with
      | lst ds =>
        obtain ⟨a, xs, e1, oa, ha1, ax⟩ := S.ownL hi
        have e2 : ((gm ds).map fun q => (Rs.ok q.1, ρ.set i (.own (.lst q.2)))) = some (r2, ρ2) := e2
        cases hg : gm ds with
        | none =>
          rw [hg] at e2
          cases e2
        | some q =>
          rw [hg] at e2
          cases e2
          exact ⟨_, e1, .inl ⟨rfl, xs, .inl (.inl ha1)⟩, hk H f.N a xs ds q.1 q.2 Q ha1 ax hg fun z xs' ax' rz => x_mt S hi e1 oa ha1 ax' rz p2⟩
      | _ => cases e2
    | _ => cases e2
def dAppend (ds : List PyData) (d : PyData) : Option (PyData × List PyData) := if ds.length < lim then some (.none, ds ++ [d]) else none
def dExtend (ds : List PyData) (d : PyData) : Option (PyData × List PyData) := match d with
  | .list es => if ds.length + es.length ≤ lim then some (.none, ds ++ es) else none
  | _ => none
def dPopAt (ds : List PyData) (d : PyData) : Option (PyData × List PyData) := match d with
  | .int i => if 0 ≤ i ∧ i < 2 ^ 63 then (ds[i.toNat]?).map fun x => (x, ds.eraseIdx i.toNat) else none
  | _ => none
def dPop (ds : List PyData) : Option (PyData × List PyData) := (ds[ds.length - 1]?).map fun x => (x, ds.dropLast)
theorem mt1_append : Mt1 X "list.append" dAppend := ⟨_, mt_append, fun H N l xs ds y d rd ds' Q hl ax rd' hg q => by
  unfold dAppend at hg
  split at hg
  · rename_i h
    cases hg
    exact ⟨l, xs, y, rfl, rfl, hl, by rw [ax.len]; exact Nat.lt_of_lt_of_le h (by decide), q .non _ (ax.app (.one rd')) .non⟩
  · cases hg⟩
theorem mt1_extend : Mt1 X "list.extend" dExtend := ⟨_, mt_extend, fun H N l xs ds y d rd ds' Q hl ax rd' hg q => by
  cases d with
  | list es =>
    have hg : (if ds.length + es.length ≤ lim then some (PyData.none, ds ++ es) else none) = some (rd, ds') := hg
    split at hg
    · rename_i h
      cases hg
      obtain ⟨b, zs, rfl, hb, _, az⟩ := rd'.list_inv
      exact ⟨l, b, xs, zs, rfl, rfl, hl, hb, by rw [ax.len, az.len]; exact lim_ok h, q .non _ (ax.app az) .non⟩
    · cases hg
  | _ => cases hg⟩
theorem mt1_popAt : Mt1 X "list.pop" dPopAt := ⟨_, mt_popAt, fun H N l xs ds y d rd ds' Q hl ax rd' hg q => by
  cases d with
  | int i =>
    have hg : (if 0 ≤ i ∧ i < 2 ^ 63 then (ds[i.toNat]?).map fun x => (x, ds.eraseIdx i.toNat) else none) = some (rd, ds') := hg
    split at hg
    · rename_i h
      cases rd'
      cases hx : ds[i.toNat]? with
      | none =>
        rw [hx] at hg
        cases hg
      | some x =>
        rw [hx] at hg
        cases hg
        obtain ⟨v, hv, rv⟩ := ax.at_ hx
        have lt := (List.getElem?_eq_some_iff.mp hv).1
        refine ⟨l, xs, i, i.toNat, v, rfl, rfl, hl, by omega, h.2, ?_, hv, q v _ (ax.erase _) rv⟩
        unfold PySem.seqIndex?
        have h1 : ¬ i < 0 := by omega
        simp [h1]
        omega
    · cases hg
  | _ => cases hg⟩
theorem RpAll.dropLast {H : Hp} {N : As} {xs : List V} {ds : List PyData} (h : RpAll H N xs ds) : RpAll H N xs.dropLast ds.dropLast := by
  rw [List.dropLast_eq_take, List.dropLast_eq_take, h.len]
  exact h.take _
theorem mt0_pop : Mt0 X "list.pop" dPop := ⟨_, mt_pop, fun H N l xs ds rd ds' Q hl ax hg q => by
  unfold dPop at hg
  cases hx : ds[ds.length - 1]? with
  | none =>
    rw [hx] at hg
    cases hg
  | some x =>
    rw [hx] at hg
    cases hg
    obtain ⟨v, hv, rv⟩ := ax.at_ hx
    exact ⟨l, xs, v, rfl, rfl, hl, by rw [ax.len]; exact hv, q v _ ax.dropLast rv⟩⟩
/-! ### x[k] = e -/
def sSetIx (i : Nat) (mk me : M PyData) : SM := sOf me fun d ρ => if isOL ρ i = true then (sOf mk fun k ρ => match ρ[i]?, k with
  | some (.own (.lst ds)), .int j => (ixN ds.length j).map fun n => (.nx, ρ.set i (.own (.lst (ds.set n d))))
  | _, _ => none) ρ else none
theorem ds_setIx {i : Nat} {x : Str} {e k : Expr} {me mk : M PyData} {p p2 pos : Pos} (hN : X.N[i]? = some x) (hv : Vis X.env.scope x) (hk : PE X k (tX c E mk)) (he : PE X e (tX c E me)) (hpl : PlainIx k)
    (hs : swapsWithSole [.Subscript (.Name x p) k p2] e pos.line X.env = pure false := by rfl) (hw : swappedStores [.Subscript (.Name x p) k p2] e X.env = pure none := by rfl)
    (h1 : (assignEach [.Subscript (.Name x p) k p2] X.env).map (·.2) = [assign (.Subscript (.Name x p) k p2) X.env] := by rfl)
    (hsb : ∀ v, assign (.Subscript (.Name x p) k p2) X.env v = (do
      let ov ← holding [v] (eval (.Name x p) X.env)
      let iv ← holding [v, ov] (eval k X.env)
      standAt p2
      holding [v, ov, iv] (setItem ov iv v)
      release [v, ov, iv] []) := by intro v; rfl)
    (hd : (x == ("__debug__" : Str)) = false := by decide) (hcd : (x == ("__classdict__" : Str)) = false := by decide) : PS X (.Assign [.Subscript (.Name x p) k p2] e pos) (tS c E (sSetIx i mk me)) := by
  refine psMono (ps_asg he (pg_sub (pe_var hN hv hd hcd) hk set_list hsb) hs hw h1) fun D σ H ⟨f, ρ, S, q⟩ => ⟨f, ρ, S, s_of q fun d ρ1 _ ⟨o, ρ', e, p⟩ v H1 f1 g1 S1 r1 => ?_⟩
  have ho : isOL ρ1 i = true := by
    split at e
    · assumption
    · cases e
  rw [if_pos ho] at e
  obtain ⟨ds0, hs0⟩ := isOL_ex ho
  obtain ⟨a, xs0, e1, oa0, ha0, ax0⟩ := S1.ownL hs0
  refine ⟨.ref a, e1, ?_⟩
  refine ⟨f1, ρ1, S1, s_of ⟨o, ρ', e, p.rebase g1⟩ fun kd ρ2 _ ⟨o2, ρ3, e3, p3⟩ kv H2 f2 g2 S2 r2 => ?_⟩
  cases hi : ρ2[i]? with
  | none =>
    rw [hi] at e3
    cases e3
  | some s =>
    rw [hi] at e3
    cases s with
    | own od =>
      cases od with
      | lst ds =>
        cases kd with
        | int j =>
          have e3 : ((ixN ds.length j).map fun n => (Out.nx, ρ2.set i (.own (.lst (ds.set n d))))) = some (o2, ρ3) := e3
          cases hn : ixN ds.length j with
          | none =>
            rw [hn] at e3
            cases e3
          | some n =>
            rw [hn] at e3
            cases e3
            cases r2
            obtain ⟨a', xs, e1', oa, ha1, ax⟩ := S2.ownL hi
            rw [e1] at e1'
            cases e1'
            have rv := r1.mono (g2.mo S1.on)
            obtain ⟨S3, g3⟩ := S2.write (u' := .lst (xs.set n v)) (o' := .lst (ds.set n d)) hi e1 ha1 oa (fun z => z) (fun ps z => by cases z) (ax.set rv n)
            exact ⟨a, xs, j, n, rfl, rfl, ha1, by rw [ax.len]; exact hn, p3 _ _ f2 (g2.trans g3) S3⟩
        | _ => cases e3
      | _ => cases e3
    | _ => cases e3
end
end Ev

set_option Elab.async false
set_option linter.all false
set_option maxRecDepth 100000
set_option maxHeartbeats 4000000
/-! Ev: what is gone through; for, while. -/
namespace Ev
open PySem PySem.Spec PyProof.Rows L2 Ed

abbrev Vwr := Hp → As → V → PyData → Prop
/-- J gives the items ds -/
structure ItR (c : Cfg) (f : Fm) (H : Hp) (J : It) (ds : List PyData) (vw : Vwr) : Prop where
  go : ∀ i H' f', Gr c f H f' H' → (i < ds.length → J.go i H') ∧ (ds.length = i → J.stop i H')
  yl : ∀ i H' f' x H'', Gr c f H f' H' → J.yld i H' x H'' → Ext H' H'' ∧ ∀ d, ds[i]? = some d → vw H'' f'.N x d
def OkI (c : Cfg) (vw : Vwr) (σ : L2.St) (R : It → Hp → Prop) : OkF (List PyData) := fun f H ds ρ' => ∀ J H' f', Gr c f H f' H' → StR c f' σ H' ρ' → ItR c f' H' J ds vw → R J H'
theorem reb_I {c : Cfg} {vw : Vwr} {σ : L2.St} {R : It → Hp → Prop} : Reb c (OkI c vw σ R) := fun f H f1 H1 a ρ' s h J H' f' s' => h J H' f' (s.trans s')
def tI (c : Cfg) (E : L2.St → XK) (vw : Vwr) (m : M (List PyData)) : TI := fun σ H R => ∃ f ρ, StR c f σ H ρ ∧ RX c E f σ m (OkI c vw σ R) ρ H
def DI (X : Cx) (c : Cfg) (E : L2.St → XK) (tg iter : Expr) (vw : Vwr) (m : M (List PyData)) : Prop := ∃ wi, PI X tg iter wi ∧ ∀ σ H R, tI c E vw m σ H R → wi σ H R
def Tgw (vw : Vwr) (X : Cx) (c : Cfg) (ws : List Nat) (tg : Expr) (g : Tf) : Prop := ∃ t : TG, PG X tg t ∧ ∀ (f : Fm) (σ : L2.St) (H : Hp) (ρ : List Sl) (v : V) (d : PyData) (ρ1 : List Sl) (Q : L2.St → Hp → Prop), StR c f σ H ρ → vw H f.N v d → g d ρ = some ρ1 → (∀ σ', StR c f σ' H ρ1 → Sm ws σ σ' → Q σ' H) → t v σ H Q
theorem TgR.w {X : Cx} {c : Cfg} {tg : Expr} {g : Tf} {ws : List Nat} (h : TgR X c ws tg g) : Tgw Rp X c ws tg g := h
theorem TgV.w {X : Cx} {c : Cfg} {tg : Expr} {g : Tf} {ws : List Nat} (h : TgV X c ws tg g) : Tgw Vt X c ws tg g := h
section
variable {X : Cx} {c : Cfg} {E : L2.St → XK} {tg : Expr}
theorem Gr.lst {f f' : Fm} {H H' : Hp} {a : Addr} {xs : List V} (g : Gr c f H f' H') (ha : H a = some (.lst xs)) (n : ¬ f.O a) : H' a = some (.lst xs) := g.st.keep a _ n ha (by simp)
theorem Gr.rp {f f' : Fm} {H H' : Hp} {v : V} {d : PyData} {σ : L2.St} {ρ : List Sl} (g : Gr c f H f' H') (S : StR c f σ H ρ) (r : Rp H f.N v d) : Rp H' f'.N v d := r.mono (g.mo S.on)
theorem Gr.rpa {f f' : Fm} {H H' : Hp} {v : List V} {d : List PyData} {σ : L2.St} {ρ : List Sl} (g : Gr c f H f' H') (S : StR c f σ H ρ) (r : RpAll H f.N v d) : RpAll H' f'.N v d := r.mono (g.mo S.on)
theorem itl {K : PySem.W.Frag} {f : Fm} {H : Hp} {a : Addr} {xs : List V} {ds : List PyData} {σ : L2.St} {ρ : List Sl} (S : StR c f σ H ρ) (ha : H a = some (.lst xs)) (n : ¬ f.N a) (ax : RpAll H f.N xs ds) : ItR c f H (Itl K a) ds Rp where
  go := fun i H' f' g => by
    have h1 : SqL K H' a xs := .inl (.inl (g.lst ha fun z => n (S.on a z)))
    refine ⟨fun l => ⟨xs, xs[i]'(by rw [ax.len]; exact l), h1, List.getElem?_eq_getElem _⟩, fun l => ⟨xs, h1, by rw [ax.len, l]; exact Nat.le_refl _⟩⟩
  yl := fun i H' f' x H'' g y => by
    obtain ⟨rfl, y⟩ := y
    have h1 : SqL K H'' a xs := .inl (.inl (g.lst ha fun z => n (S.on a z)))
    refine ⟨Ext.refl _, fun d hd => ?_⟩
    obtain ⟨d', e, r⟩ := (g.rpa S ax).get (y xs h1)
    rw [hd] at e
    cases e
    exact r
theorem itt {K : PySem.W.Frag} {f : Fm} {H : Hp} {a : Addr} {xs : List V} {ds : List PyData} {σ : L2.St} {ρ : List Sl} (S : StR c f σ H ρ) (ha : Tp H a xs) (ax : RpAll H f.N xs ds) : ItR c f H (Itt K a) ds Rp where
  go := fun i H' f' g => by
    have h1 : SqT K H' a xs := (g.st.tup _ _ ha).sq
    refine ⟨fun l => ⟨xs, xs[i]'(by rw [ax.len]; exact l), h1, List.getElem?_eq_getElem _⟩, fun l => ⟨xs, h1, by rw [ax.len, l]; exact Nat.le_refl _⟩⟩
  yl := fun i H' f' x H'' g y => by
    obtain ⟨rfl, y⟩ := y
    have h1 : SqT K H'' a xs := (g.st.tup _ _ ha).sq
    refine ⟨Ext.refl _, fun d hd => ?_⟩
    obtain ⟨d', e, r⟩ := (g.rpa S ax).get (y xs h1)
    rw [hd] at e
    cases e
    exact r
def seqD : PyData → Option (List PyData)
  | .list ds => some ds
  | .tuple ds => some ds
  | _ => none
def mSeq (m : M PyData) : M (List PyData) := m.bind fun d => M.lift (seqD d)
theorem pi_or {iter : Expr} {a b : TI} (h1 : PI X tg iter a) (h2 : PI X tg iter b) : PI X tg iter (fun σ H R => a σ H R ∨ b σ H R) := ⟨fun pins s σ H R I q => q.elim (h1.run pins s σ H R I) (h2.run pins s σ H R I)⟩
theorem di_seq {l : Expr} {m : M PyData} (h : PE X l (tX c E m)) : DI X c E tg l Rp (mSeq m) := by
  refine ⟨_, pi_or (pi_list h) (pi_tup h), fun σ H R ⟨f, ρ, S, q⟩ => ?_⟩
  have key : ∀ (b : Bool), (∀ d ρ1, m ρ = some (.ok d, ρ1) → ∃ ds, seqD d = some ds ∧ d = (if b = true then .list ds else .tuple ds)) → tX c E m σ H (fun x H1 => if b = true then (∃ a, x = .ref a ∧ (∃ xs, SqL X.K H1 a xs) ∧ R (Itl X.K a) H1) else (∃ a, x = .ref a ∧ (∃ xs, SqT X.K H1 a xs) ∧ R (Itt X.K a) H1)) := by
    intro b hb
    refine x_bind S q reb_I fun d ρ1 v H1 f1 e g1 S1 r1 h1 => ?_
    obtain ⟨ds, e2, q⟩ := h1.lift
    obtain ⟨ds', e3, rfl⟩ := hb d ρ1 e
    cases b with
    | true =>
      cases e2
      obtain ⟨a, xs, rfl, ha, n, ax⟩ := Rp.list_inv r1
      exact ⟨a, rfl, ⟨xs, .inl (.inl ha)⟩, q _ H1 f1 (Gr.refl _ _) S1 (itl S1 ha n ax)⟩
    | false =>
      cases e2
      obtain ⟨a, xs, rfl, ha, ax⟩ := Rp.tuple_inv r1
      exact ⟨a, rfl, ⟨xs, ha.sq⟩, q _ H1 f1 (Gr.refl _ _) S1 (itt S1 ha ax)⟩
  obtain ⟨r0, ρ0, e0, p0⟩ := q
  unfold mSeq M.bind at e0
  cases hm : m ρ with
  | none =>
    rw [hm] at e0
    cases e0
  | some z =>
    obtain ⟨z1, z2⟩ := z
    cases z1 with
    | err cn x => exact .inl (by
        have := key true (fun d ρ1 e => by rw [hm] at e; cases e)
        simp only [if_true] at this
        exact this)
    | ok d =>
      rw [hm] at e0
      cases d with
      | list ds => exact .inl (by
          have := key true (fun d ρ1 e => by
            rw [hm] at e
            cases e
            exact ⟨ds, rfl, rfl⟩)
          simp only [if_true] at this
          exact this)
      | tuple ds => exact .inr (by
          have := key false (fun d ρ1 e => by
            rw [hm] at e
            cases e
            exact ⟨ds, rfl, rfl⟩)
          simp only [Bool.false_eq_true, if_false] at this
          exact this)
      | _ => cases e0
/-! ### range -/
def rngD (lo : Int) (n : Nat) : List PyData := (List.range n).map fun (i : Nat) => .int (lo + i)
def inR (j : Int) : Bool := decide (-(2 ^ 62) ≤ j) && decide (j < 2 ^ 62)
def rngA : List PyData → Option (List PyData)
  | [.int j] => if inR j = true then some (rngD 0 j.toNat) else none
  | [.int i, .int j] => if (inR i && inR j) = true then some (rngD i (j - i).toNat) else none
  | _ => none
def mRng (m : M (List PyData)) : M (List PyData) := m.bind fun as => M.lift (rngA as)
theorem inR_iff {j : Int} : inR j = true ↔ -(2 ^ 62) ≤ j ∧ j < 2 ^ 62 := by
  unfold inR
  rw [Bool.and_eq_true, decide_eq_true_iff, decide_eq_true_iff]
theorem itr {f : Fm} {H : Hp} {lo : Int} {n : Nat} : ItR c f H (Itr lo n) (rngD lo n) Rp where
  go := fun i H' f' g => ⟨fun l => by
    unfold rngD at l
    rw [List.length_map, List.length_range] at l
    exact l, fun l => by
    unfold rngD at l
    rw [List.length_map, List.length_range] at l
    exact Nat.le_of_eq l⟩
  yl := fun i H' f' x H'' g y => by
    obtain ⟨rfl, rfl⟩ := y
    refine ⟨Ext.refl _, fun d hd => ?_⟩
    unfold rngD at hd
    rw [List.getElem?_map] at hd
    cases z : (List.range n)[i]? with
    | none =>
      rw [z] at hd
      cases hd
    | some j =>
      rw [z] at hd
      cases hd
      have : j = i := by
        have := List.getElem?_eq_some_iff.mp z
        obtain ⟨h1, h2⟩ := this
        rw [← h2, List.getElem_range]
      rw [this]
      exact .int _
theorem RpAll.int1 {H : Hp} {N : As} {xs : List V} {i : Int} (h : RpAll H N xs [.int i]) : xs = [.int i] := by
  cases h with
  | cons a b =>
    cases a
    cases b
    rfl
theorem x_rng1 {σ : L2.St} {H : Hp} {R : It → Hp → Prop} {m : M (List PyData)} (h : tI c E Rp (mRng m) σ H R) (hm : ∀ f ρ ds ρ1, StR c f σ H ρ → m ρ = some (.ok ds, ρ1) → ds.length = 1) : iRng1 (tD c E m) σ H R := by
  obtain ⟨f, ρ, S, q⟩ := h
  refine ⟨f, ρ, S, q.bind fun ds ρ1 e h1 vs H1 f1 g1 S1 r1 => ?_⟩
  obtain ⟨ds', e2, q⟩ := (h1.rebase g1 reb_I).lift
  have hl := hm f ρ ds ρ1 S e
  match ds, e2, hl with
  | [.int j], e2, _ =>
    have e2 : (if inR j = true then some (rngD 0 j.toNat) else none) = some ds' := e2
    split at e2
    · rename_i hj
      cases e2
      have := inR_iff.mp hj
      exact ⟨j, r1.int1, this.1, this.2, q _ H1 f1 (Gr.refl _ _) S1 itr⟩
    · cases e2
theorem x_rng2 {σ : L2.St} {H : Hp} {R : It → Hp → Prop} {m : M (List PyData)} (h : tI c E Rp (mRng m) σ H R) (hm : ∀ f ρ ds ρ1, StR c f σ H ρ → m ρ = some (.ok ds, ρ1) → ds.length = 2) : iRng2 (tD c E m) σ H R := by
  obtain ⟨f, ρ, S, q⟩ := h
  refine ⟨f, ρ, S, q.bind fun ds ρ1 e h1 vs H1 f1 g1 S1 r1 => ?_⟩
  obtain ⟨ds', e2, q⟩ := (h1.rebase g1 reb_I).lift
  have hl := hm f ρ ds ρ1 S e
  match ds, e2, hl with
  | [.int i, .int j], e2, _ =>
    have e2 : (if (inR i && inR j) = true then some (rngD i (j - i).toNat) else none) = some ds' := e2
    split at e2
    · rename_i hj
      cases e2
      rw [Bool.and_eq_true] at hj
      have h1 := inR_iff.mp hj.1
      have h2 := inR_iff.mp hj.2
      exact ⟨i, j, r1.int2, ⟨h1.1, h1.2, h2.1, h2.2⟩, q _ H1 f1 (Gr.refl _ _) S1 itr⟩
    · cases e2
theorem cons_len {a : M PyData} {b : M (List PyData)} {n : Nat} (hb : ∀ ρ ds ρ1, b ρ = some (.ok ds, ρ1) → ds.length = n) {ρ ρ1 : List Sl} {ds : List PyData} (h : mCons a b ρ = some (.ok ds, ρ1)) : ds.length = n + 1 := by
  unfold mCons M.bind at h
  cases ha : a ρ with
  | none =>
    rw [ha] at h
    cases h
  | some q =>
    obtain ⟨q1, q2⟩ := q
    rw [ha] at h
    cases q1 with
    | err _ _ => cases h
    | ok x =>
      dsimp only at h
      cases hb' : b q2 with
      | none =>
        rw [hb'] at h
        cases h
      | some z =>
        obtain ⟨z1, z2⟩ := z
        rw [hb'] at h
        cases z1 with
        | err _ _ => cases h
        | ok xs =>
          cases h
          rw [List.length_cons, hb _ _ _ hb']
theorem nil_len {ρ ρ1 : List Sl} {ds : List PyData} (h : mNil ρ = some (.ok ds, ρ1)) : ds.length = 0 := by
  cases h
  rfl
theorem di_rng1 {a : Expr} {m : M PyData} {p pos : Pos} (hg : Gl X "range") (hm : X.mg "range" = none) (ha : PE X a (tX c E m)) (hs : starEach [a] X.env = [(false, eval a X.env)] := by rfl) : DI X c E tg (.Call (.Name "range" p) [a] [] pos) Rp (mRng (mCons m mNil)) :=
  ⟨_, pi_range1 hg hm (da_cons ha da_nil hs) hs, fun σ H R h => x_rng1 h fun _ _ _ _ _ e => cons_len (fun _ _ _ e => nil_len e) e⟩
theorem di_rng2 {a b : Expr} {ma mb : M PyData} {p pos : Pos} (hg : Gl X "range") (hm : X.mg "range" = none) (ha : PE X a (tX c E ma)) (hb : PE X b (tX c E mb)) (hs : starEach [a, b] X.env = [(false, eval a X.env), (false, eval b X.env)] := by rfl) (hs2 : starEach [b] X.env = [(false, eval b X.env)] := by rfl) : DI X c E tg (.Call (.Name "range" p) [a, b] [] pos) Rp (mRng (mCons ma (mCons mb mNil))) :=
  ⟨_, pi_range2 hg hm (da_cons ha (da_cons hb da_nil hs2) (hs.trans (by rw [hs2]))) hs hs2, fun σ H R h => x_rng2 h fun _ _ _ _ _ e => cons_len (fun _ _ _ e => cons_len (fun _ _ _ e => nil_len e) e) e⟩
/-! ### for -/
def sFor (g : Tf) (body : SM) : List PyData → SM
  | [], ρ => some (.nx, ρ)
  | d :: ds, ρ => match g d ρ with
    | none => none
    | some ρ1 => match body ρ1 with
      | some (.nx, ρ2) => sFor g body ds ρ2
      | some (.cnt, ρ2) => sFor g body ds ρ2
      | some (.brk, ρ2) => some (.nx, ρ2)
      | r => r
def sForS (m : M (List PyData)) (g : Tf) (body : SM) : SM := sOf m fun ds => sFor g body ds
theorem ds_for {iter : Expr} {body : List Stmt} {pos : Pos} {vw : Vwr} {m : M (List PyData)} {g : Tf} {mb : SM} (hp : PassesOwn (model X.prog X.w) X.A X.env X.xe) (hc : X.calm = true) (hi : DI X c E tg iter vw m) {ws : List Nat} (hg : Tgw vw X c ws tg g) (hb : PSs X body (tS c E mb))
    (hs : ∀ x, foldedSetIterable iter X.env x = pure x := by intro _; rfl) : PS X (.For tg iter body [] pos) (tS c E (sForS m g mb)) := by
  obtain ⟨wi, p, l⟩ := hi
  obtain ⟨t, pg, k⟩ := hg
  refine psMono (ps_for hp hc p pg hb hs) fun D σ0 H0 ⟨f0, ρ0, S0, q0⟩ => l σ0 H0 _ ⟨f0, ρ0, S0, s_of q0 fun ds ρ1 _ h1 J H1 f1 g1 S1 it => ?_⟩
  refine ⟨fun i n σ H => n = ds.length - i ∧ i ≤ ds.length ∧ ∃ f ρ, Gr c f1 H1 f H ∧ StR c f σ H ρ ∧ ∃ o ρ', sFor g mb (ds.drop i) ρ = some (o, ρ') ∧ PostS c E D f H ρ' o, ⟨_, rfl, Nat.zero_le _, f1, ρ1, Gr.refl _ _, S1, ?_⟩, ?_⟩
  · obtain ⟨o, ρ', e, q⟩ := h1
    exact ⟨o, ρ', e, q.rebase g1⟩
  · rintro i n σ H ⟨rfl, hi, f, ρ, gr, S, o, ρ', e, q⟩
    rcases Nat.lt_or_ge i ds.length with lt | ge
    · refine .inr ⟨(it.go i H f gr).1 lt, fun σ' H' => i + 1 ≤ ds.length ∧ ∃ f ρ, Gr c f1 H1 f H' ∧ StR c f σ' H' ρ ∧ ∃ o ρ', sFor g mb (ds.drop (i + 1)) ρ = some (o, ρ') ∧ PostS c E D f H' ρ' o, fun σ' H' w => ⟨_, by omega, rfl, w⟩, fun x H' y => ?_⟩
      obtain ⟨ex, vwd⟩ := it.yl i H f x H' gr y
      have hd : ds[i]? = some ds[i] := List.getElem?_eq_getElem lt
      have dr : ds.drop i = ds[i] :: ds.drop (i + 1) := List.drop_eq_getElem_cons lt
      rw [dr] at e
      unfold sFor at e
      cases hgd : g ds[i] ρ with
      | none =>
        rw [hgd] at e
        cases e
      | some ρ2 =>
        rw [hgd] at e
        dsimp only at e
        have S' := S.ext ex
        have g' : Gr c f H f H' := Gr.ext ex
        refine k f σ H' ρ x ds[i] ρ2 _ S' (vwd _ hd) hgd fun σ2 S2 _ => ?_
        refine ⟨f, ρ2, S2, ?_⟩
        have nxt : ∀ ρ3, sFor g mb (ds.drop (i + 1)) ρ3 = some (o, ρ') → ∀ σ' H2 f2, Gr c f H' f2 H2 → StR c f2 σ' H2 ρ3 → i + 1 ≤ ds.length ∧ ∃ f ρ, Gr c f1 H1 f H2 ∧ StR c f σ' H2 ρ ∧ ∃ o ρ', sFor g mb (ds.drop (i + 1)) ρ = some (o, ρ') ∧ PostS c E D f H2 ρ' o :=
          fun ρ3 e3 σ' H2 f2 g2 S3 => ⟨lt, f2, ρ3, gr.trans (g'.trans g2), S3, o, ρ', e3, q.rebase (g'.trans g2)⟩
        cases hb' : mb ρ2 with
        | none =>
          rw [hb'] at e
          cases e
        | some z =>
          obtain ⟨z1, ρ3⟩ := z
          rw [hb'] at e
          cases z1 with
          | nx => exact ⟨_, _, rfl, fun σ' H2 f2 g2 S3 => nxt ρ3 e σ' H2 f2 g2 S3⟩
          | cnt => exact ⟨_, _, rfl, fun σ' H2 f2 g2 S3 => nxt ρ3 e σ' H2 f2 g2 S3⟩
          | brk =>
            cases e
            exact ⟨_, _, rfl, fun σ' H2 f2 g2 S3 => q σ' H2 f2 (g'.trans g2) S3⟩
          | ret r =>
            cases e
            exact ⟨_, _, rfl, (q.rebase g').ends (fun z => by cases z) (fun z => by cases z) (fun z => by cases z) rfl⟩
          | err cn x =>
            cases e
            exact ⟨_, _, rfl, q.rebase g'⟩
    · have e1 : ds.drop i = [] := List.drop_eq_nil_of_le ge
      rw [e1] at e
      cases e
      exact .inl ⟨(it.go i H f gr).2 (Nat.le_antisymm ge hi), q σ H f (Gr.refl _ _) S⟩
/-! ### while -/
def sWhN (t : M Bool) (body : SM) : Nat → SM
  | 0, _ => none
  | n + 1, ρ => match t ρ with
    | some (.ok true, ρ1) => match body ρ1 with
      | some (.nx, ρ2) => sWhN t body n ρ2
      | some (.cnt, ρ2) => sWhN t body n ρ2
      | some (.brk, ρ2) => some (.nx, ρ2)
      | r => r
    | some (.ok false, ρ1) => some (.nx, ρ1)
    | some (.err cn x, ρ1) => some (.err cn x, ρ1)
    | none => none
open Classical in
noncomputable def sWh (t : M Bool) (body : SM) : SM := fun ρ => if h : ∃ n r, sWhN t body n ρ = some r then some (Classical.choose (Classical.choose_spec h)) else none
theorem sWh_ex {t : M Bool} {body : SM} {ρ : List Sl} {r : Out × List Sl} (h : sWh t body ρ = some r) : ∃ n, sWhN t body n ρ = some r := by
  unfold sWh at h
  split at h
  · rename_i hx
    have := Classical.choose_spec (Classical.choose_spec hx)
    exact ⟨_, by rw [this]; exact h⟩
  · cases h
theorem sWhN_mono {t : M Bool} {body : SM} : ∀ {n : Nat} {ρ : List Sl} {r : Out × List Sl}, sWhN t body n ρ = some r → sWhN t body (n + 1) ρ = some r
  | 0, _, _, h => by cases h
  | n + 1, ρ, r, h => by
    unfold sWhN at h ⊢
    cases ht : t ρ with
    | none =>
      rw [ht] at h
      cases h
    | some q =>
      obtain ⟨q1, ρ1⟩ := q
      rw [ht] at h
      cases q1 with
      | err cn x => exact h
      | ok b =>
        cases b with
        | false => exact h
        | true =>
          dsimp only at h ⊢
          cases hb : body ρ1 with
          | none =>
            rw [hb] at h
            cases h
          | some z =>
            obtain ⟨z1, z2⟩ := z
            rw [hb] at h
            cases z1 with
            | nx => exact sWhN_mono h
            | cnt => exact sWhN_mono h
            | brk => exact h
            | ret _ => exact h
            | err _ _ => exact h
theorem sWhN_le {t : M Bool} {body : SM} {n m : Nat} {ρ : List Sl} {r : Out × List Sl} (h : sWhN t body n ρ = some r) (l : n ≤ m) : sWhN t body m ρ = some r := by
  induction l with
  | refl => exact h
  | step _ ih => exact sWhN_mono ih
theorem sWh_of {t : M Bool} {body : SM} {n : Nat} {ρ : List Sl} {r : Out × List Sl} (h : sWhN t body n ρ = some r) : sWh t body ρ = some r := by
  have hx : ∃ n r, sWhN t body n ρ = some r := ⟨n, r, h⟩
  unfold sWh
  rw [dif_pos hx]
  have h2 := Classical.choose_spec (Classical.choose_spec hx)
  have a := sWhN_le h (Nat.le_max_left n (Classical.choose hx))
  have b := sWhN_le h2 (Nat.le_max_right n (Classical.choose hx))
  rw [b] at a
  exact a
theorem ds_while {e : Expr} {body : List Stmt} {pos : Pos} {mt : M Bool} {mb : SM} (hp : PassesOwn (model X.prog X.w) X.A X.env X.xe) (ht : PT X e (tT c E mt)) (hb : PSs X body (tS c E mb)) : PS X (.While e body [] pos) (tS c E (sWh mt mb)) := by
  refine psMono (ps_while hp ht hb) fun D σ0 H0 ⟨f0, ρ0, S0, o, ρ', e0, q0⟩ => ?_
  obtain ⟨n0, e0⟩ := sWh_ex e0
  refine ⟨fun m σ H => ∃ f ρ, StR c f σ H ρ ∧ sWhN mt mb m ρ = some (o, ρ') ∧ PostS c E D f H ρ' o, ⟨n0, f0, ρ0, S0, e0, q0⟩, ?_⟩
  rintro m σ H ⟨f, ρ, S, e, q⟩
  cases m with
  | zero => cases e
  | succ m =>
    unfold sWhN at e
    refine ⟨f, ρ, S, ?_⟩
    cases ht : mt ρ with
    | none =>
      rw [ht] at e
      cases e
    | some z =>
      obtain ⟨z1, ρ1⟩ := z
      rw [ht] at e
      cases z1 with
      | err cn x =>
        cases e
        exact ⟨.err cn x, _, ht, fun cls d H' f' g S' er => q cls d σ H' f' g S' er⟩
      | ok b =>
        refine ⟨.ok b, ρ1, ht, fun H' f' g S' => ?_⟩
        cases b with
        | false =>
          cases e
          exact q σ H' f' g S'
        | true =>
          dsimp only at e
          refine ⟨fun σ' H' => ∃ f ρ, StR c f σ' H' ρ ∧ sWhN mt mb m ρ = some (o, ρ') ∧ PostS c E D f H' ρ' o, fun σ' H' w => ⟨m, Nat.lt_succ_self m, w⟩, f', ρ1, S', ?_⟩
          cases hb' : mb ρ1 with
          | none =>
            rw [hb'] at e
            cases e
          | some z =>
            obtain ⟨z1, ρ3⟩ := z
            rw [hb'] at e
            cases z1 with
            | nx => exact ⟨_, _, rfl, fun σ' H2 f2 g2 S3 => ⟨f2, ρ3, S3, e, q.rebase (g.trans g2)⟩⟩
            | cnt => exact ⟨_, _, rfl, fun σ' H2 f2 g2 S3 => ⟨f2, ρ3, S3, e, q.rebase (g.trans g2)⟩⟩
            | brk =>
              cases e
              exact ⟨_, _, rfl, fun σ' H2 f2 g2 S3 => q σ' H2 f2 (g.trans g2) S3⟩
            | ret r =>
              cases e
              exact ⟨_, _, rfl, (q.rebase g).ends (fun z => by cases z) (fun z => by cases z) (fun z => by cases z) rfl⟩
            | err cn x =>
              cases e
              exact ⟨_, _, rfl, q.rebase g⟩
end
end Ev

set_option Elab.async false
set_option linter.all false
set_option maxRecDepth 100000
set_option maxHeartbeats 4000000
/-! Ev: list comprehensions. -/
namespace Ev
open PySem PySem.Spec PyProof.Rows L2 Ed

def wS (vs : List Nat) (ρ : List Sl) : List Sl := vs.foldr (fun i r => r.set i .no) ρ
def keepD : Option Sl → Sl
  | some (.dat d) => .dat d
  | _ => .no
def resto (ρ : List Sl) : List Nat → List Sl → List Sl
  | [], r => r
  | i :: vs, r => (resto ρ vs r).set i (keepD ρ[i]?)
def lcLoop (vs : List Nat) (g : Tf) (t : M Bool) (e : M PyData) : List PyData → List PyData → List Sl → Option (List PyData × List Sl)
  | [], acc, ρ => some (acc, ρ)
  | d :: ds, acc, ρ => match g d (wS vs ρ) with
    | none => none
    | some ρ1 => match t ρ1 with
      | some (.ok true, ρ2) => match e ρ2 with
        | some (.ok x, ρ3) => if acc.length < lim then lcLoop vs g t e ds (acc ++ [x]) ρ3 else none
        | _ => none
      | some (.ok false, ρ2) => lcLoop vs g t e ds acc ρ2
      | _ => none
/-- what a comprehension makes; own names are there as they were, owned things of theirs are lost -/
def mLc (vs : List Nat) (mi : M (List PyData)) (g : Tf) (t : M Bool) (e : M PyData) : M OD := mi.bind fun ds ρ => match lcLoop vs g t e ds [] ρ with
  | some (acc, ρ') => some (.ok (.lst acc), resto ρ vs (wS vs ρ'))
  | none => none
section
variable {c : Cfg} {f f' : Fm} {σ σ' : L2.St} {H H' : Hp} {ρ ρ' : List Sl} {p : Addr} {i : Nat} {vs : List Nat}
theorem wS_len : (wS vs ρ).length = ρ.length := by
  induction vs with
  | nil => rfl
  | cons v vs ih =>
    show ((wS vs ρ).set v .no).length = _
    rw [List.length_set, ih]
theorem wS_in (h : i ∈ vs) : (wS vs ρ)[i]? = none ∨ (wS vs ρ)[i]? = some .no := by
  induction vs with
  | nil => cases h
  | cons v vs ih =>
    show ((wS vs ρ).set v .no)[i]? = none ∨ ((wS vs ρ).set v .no)[i]? = some .no
    rw [List.getElem?_set]
    split
    · split
      · exact .inr rfl
      · exact .inl rfl
    · rename_i n
      rcases List.mem_cons.mp h with z | z
      · exact (n z.symm).elim
      · exact ih z
theorem wS_out (h : i ∉ vs) : (wS vs ρ)[i]? = ρ[i]? := by
  induction vs with
  | nil => rfl
  | cons v vs ih =>
    show ((wS vs ρ).set v .no)[i]? = _
    rw [List.getElem?_set_ne fun z => h (by rw [z]; exact List.mem_cons_self)]
    exact ih fun z => h (List.mem_cons_of_mem _ z)
theorem wS_some {s : Sl} (h : (wS vs ρ)[i]? = some s) (n : s ≠ .no) : ρ[i]? = some s ∧ i ∉ vs := by
  by_cases hi : i ∈ vs
  · rcases wS_in (ρ := ρ) hi with z | z
    · rw [h] at z
      cases z
    · rw [h] at z
      cases z
      exact (n rfl).elim
  · exact ⟨(wS_out hi).symm.trans h, hi⟩
theorem own_ne {s : Sl} (h : isOwn s = true) : s ≠ .no := fun z => by
  rw [z] at h
  cases h
theorem wipe_out' : i ∉ vs → (wipe σ vs)[i]? = σ[i]? := by
  intro h
  induction vs with
  | nil => rfl
  | cons v vs ih =>
    show ((wipe σ vs).set v none)[i]? = _
    rw [List.getElem?_set_ne fun z => h (by rw [z]; exact List.mem_cons_self)]
    exact ih fun z => h (List.mem_cons_of_mem _ z)
def offIo (c : Cfg) (vs : List Nat) : Bool := vs.all fun i => c.loc i
theorem offIo_ne (h : offIo c vs = true) {j : Nat} (hj : j ∈ c.io) : j ∉ vs := fun z => by
  exact loc_io (List.all_eq_true.mp h j z) hj
theorem offIo_fx (h : offIo c vs = true) {q : Nat × Addr} (hq : q ∈ c.fx) : q.1 ∉ vs := fun z => loc_fx (List.all_eq_true.mp h q.1 z) hq rfl
theorem StR.wipe (S : StR c f σ H ρ) (hv : offIo c vs = true) : StR c f (L2.wipe σ vs) H (wS vs ρ) := by
  refine ⟨by rw [wS_len, wipe_length, S.len], fun j s h n => ?_, fun j k a s t h1 h2 o1 o2 e1 e2 => ?_, S.on, S.nk, S.n0, S.bk, fun j a s h o e nj => ?_, fun j hj => ?_, S.tabs, S.kp, fun q hq => (wipe_out' (offIo_fx hv hq)).trans (S.fx q hq)⟩
  · obtain ⟨h1, h2⟩ := wS_some h n
    obtain ⟨v, e, r⟩ := S.sl j s h1 n
    exact ⟨v, (wipe_out' h2).trans e, r⟩
  · obtain ⟨h1, n1⟩ := wS_some h1 (own_ne o1)
    obtain ⟨h2, n2⟩ := wS_some h2 (own_ne o2)
    rw [wipe_out' n1] at e1
    rw [wipe_out' n2] at e2
    exact S.dis j k a s t h1 h2 o1 o2 e1 e2
  · obtain ⟨h, n⟩ := wS_some h (own_ne o)
    rw [wipe_out' n] at e
    exact S.ob j a s h o e nj
  · have n := offIo_ne hv hj
    rw [wipe_out' n, wS_out n]
    exact S.io j hj
theorem resto_len (r : List Sl) : (resto ρ vs r).length = r.length := by
  induction vs with
  | nil => rfl
  | cons v vs ih =>
    show ((resto ρ vs r).set v _).length = _
    rw [List.length_set, ih]
theorem resto_out (r : List Sl) (h : i ∉ vs) : (resto ρ vs r)[i]? = r[i]? := by
  induction vs with
  | nil => rfl
  | cons v vs ih =>
    show ((resto ρ vs r).set v _)[i]? = _
    rw [List.getElem?_set_ne fun z => h (by rw [z]; exact List.mem_cons_self)]
    exact ih fun z => h (List.mem_cons_of_mem _ z)
theorem resto_in (r : List Sl) (h : i ∈ vs) {s : Sl} (e : (resto ρ vs r)[i]? = some s) : s = keepD ρ[i]? := by
  induction vs with
  | nil => cases h
  | cons v vs ih =>
    have e : ((resto ρ vs r).set v (keepD ρ[v]?))[i]? = some s := e
    rcases get_set e with ⟨rfl, rfl⟩ | ⟨n, e⟩
    · rfl
    · rcases List.mem_cons.mp h with z | z
      · exact (n z.symm).elim
      · exact ih z e
theorem keepD_own (o : Option Sl) : isOwn (keepD o) = false := by
  unfold keepD
  split <;> rfl
/-- the block is left -/
theorem StR.unwipe (S0 : StR c f σ H ρ) (S : StR c f' (L2.wipe σ vs) H' (wS vs ρ')) (m : Mo H f.N H' f'.N) (hv : offIo c vs = true) : StR c f' σ H' (resto ρ vs (wS vs ρ')) := by
  refine ⟨by rw [resto_len, S.len, wipe_length], fun j s h n => ?_, fun j k a s t h1 h2 o1 o2 e1 e2 => ?_, S.on, S.nk, S.n0, S.bk, fun j a s h o e nj => ?_, fun j hj => ?_, S.tabs, S.kp, fun q hq => (wipe_out' (offIo_fx hv hq)).symm.trans (S.fx q hq)⟩
  · by_cases hj : j ∈ vs
    · have := resto_in _ hj h
      subst this
      cases hr : ρ[j]? with
      | none =>
        rw [hr] at n
        exact (n rfl).elim
      | some s =>
        rw [hr] at n
        cases s with
        | dat d =>
          obtain ⟨v, e, r⟩ := S0.sl j _ hr (fun z => nomatch z)
          exact ⟨v, e, Rp.mono m r⟩
        | _ => exact (n rfl).elim
    · rw [resto_out _ hj] at h
      obtain ⟨v, e, r⟩ := S.sl j s h n
      exact ⟨v, (wipe_out' hj).symm.trans e, r⟩
  · have out : ∀ {j : Nat} {s : Sl}, (resto ρ vs (wS vs ρ'))[j]? = some s → isOwn s = true → j ∉ vs := fun {j s} h o hj => by
      have := resto_in _ hj h
      subst this
      rw [keepD_own] at o
      cases o
    have n1 := out h1 o1
    have n2 := out h2 o2
    rw [resto_out _ n1] at h1
    rw [resto_out _ n2] at h2
    rw [← wipe_out' n1] at e1
    rw [← wipe_out' n2] at e2
    exact S.dis j k a s t h1 h2 o1 o2 e1 e2
  · have n1 : j ∉ vs := fun hj => by
      have := resto_in _ hj h
      subst this
      rw [keepD_own] at o
      cases o
    rw [resto_out _ n1] at h
    rw [← wipe_out' n1] at e
    exact S.ob j a s h o e nj
  · have n := offIo_ne hv hj
    rw [resto_out _ n, ← wipe_out' (vs := vs) n]
    exact S.io j hj
/-- what is kept aside is written -/
theorem StR.poke {ys zs : List V} (S : StR c f σ H ρ) (hp : H p = some (.lst ys)) (np : f.N p) (no : ¬ f.O p) : StR c f σ (upd H p (.lst zs)) ρ := by
  have st : Step c.T (fun b => b = p) H (upd H p (.lst zs)) := Step.write hp rfl (fun z => z) (fun ps z => by cases z)
  have mo : Mo H f.N (upd H p (.lst zs)) f.N := Mo.upd hp np (fun z => z)
  refine ⟨S.len, fun j s h n => ?_, S.dis, S.on, fun b z => st.live b (S.nk b z), S.n0, fun b z => st.live b (S.bk b z), S.ob, S.io, st.tabs S.tabs, fun q hq => by
    obtain ⟨w, h1, h2, h3⟩ := S.kp q hq
    exact ⟨w, (upd_ne fun z => by
      rw [z, hp] at h1
      cases h1).trans h1, h2.mono mo, h3⟩, S.fx⟩
  obtain ⟨v, e, r⟩ := S.sl j s h n
  exact ⟨v, e, r.mono mo (fun a u ha ho _ _ => ⟨(upd_ne fun z => no (by rw [z] at ho; exact ho)).trans ha, ho⟩) (Fu.of st)⟩
end
/-- the frame of a block: p is the list that is made -/
structure Blk (c : Cfg) (f1 : Fm) (H1 : Hp) (p : Addr) (f : Fm) (H : Hp) : Prop where
  st : Step c.T f1.O H1 H
  nn : ∀ b, f.N b → f1.N b ∨ H1 b = none
  oo : ∀ b, f.O b → (f1.O b ∨ H1 b = none) ∧ b ≠ p
  B : f.B = fun b => f1.B b ∨ b = p
  n0 : f.N0 = fun b => f1.N0 b ∨ b = p
  ad : f.ad = f1.ad
section
variable {c : Cfg} {f1 f f' : Fm} {σ : L2.St} {H1 H H' : Hp} {ρ ρ' : List Sl} {p : Addr}
theorem Blk.gr (b : Blk c f1 H1 p f H) (n : H1 p = none) : Gr c f1 H1 (f1.back f p) H := ⟨b.st, b.nn, fun x z => z.elim (fun q => (b.oo x q).1) fun q => .inr (q ▸ n), rfl, rfl, rfl⟩
theorem Blk.step (b : Blk c f1 H1 p f H) (g : Gr c f H f' H') (hp : H p ≠ none) : Blk c f1 H1 p f' H' :=
  ⟨b.st.trans2 g.st fun x z => (b.oo x z).1, fun x z => (g.nn x z).elim (b.nn x) fun q => .inr (b.st.none_of q), fun x z => (g.oo x z).elim (b.oo x) fun q => ⟨.inr (b.st.none_of q), fun w => hp (w ▸ q)⟩, g.B.trans b.B, g.n0.trans b.n0, g.ad.trans b.ad⟩
theorem Blk.poke {ys zs : List V} (b : Blk c f1 H1 p f H) (n : H1 p = none) (hp : H p = some (.lst ys)) : Blk c f1 H1 p f (upd H p (.lst zs)) :=
  ⟨b.st.trans2 (Step.write (O := fun x => x = p) hp rfl (fun z => z) (fun ps z => by cases z)) fun x z => .inr (z ▸ n), b.nn, b.oo, b.B, b.n0, b.ad⟩
theorem Blk.np (b : Blk c f1 H1 p f H) (S : StR c f σ H ρ) : f.N p := (S.n0 p (by rw [b.n0]; exact .inr rfl)).1
theorem Blk.no (b : Blk c f1 H1 p f H) : ¬ f.O p := fun z => (b.oo p z).2 rfl
theorem Blk.mo (b : Blk c f1 H1 p f H) (S : StR c f1 σ H1 ρ) : Mo H1 f1.N H f.N := ⟨b.st.tup, fun x xs e n => ⟨b.st.keep x _ (fun z => n (S.on x z)) e (by simp), fun z => (b.nn x z).elim n fun q => by
  rw [q] at e
  cases e⟩⟩
theorem Blk.StR (b : Blk c f1 H1 p f H) (S1 : Ev.StR c f1 σ H1 ρ) {σ' : L2.St} (S : Ev.StR c f σ' H ρ') (n : H1 p = none) : Ev.StR c (f1.back f p) σ' H ρ' := by
  refine ⟨S.len, fun j s h nn => ?_, S.dis, fun x z => z.elim (S.on x) fun q => q ▸ b.np S, S.nk, fun x z => ⟨(S.n0 x (by rw [b.n0]; exact .inl z)).1, (S1.n0 x z).2⟩, fun x z => S.bk x (by rw [b.B]; exact .inl z), fun j a s h o e nj z => S.ob j a s h o e nj (by rw [b.B]; exact .inl z), fun j hj => ?_, S.tabs, fun q hq => by
    obtain ⟨w, h1, h2, h3⟩ := S.kp q hq
    obtain ⟨_, h4, _, _⟩ := S1.kp q hq
    exact ⟨w, h1, h2, fun z => z.elim h3 fun y => by
      rw [y, n] at h4
      cases h4⟩, S.fx⟩
  · obtain ⟨v, e, r⟩ := S.sl j s h nn
    exact ⟨v, e, r.mono (Mo.weak fun _ z => z) (fun a u ha ho _ _ => ⟨ha, .inl ho⟩) ⟨fun _ _ _ q => q, fun t => t⟩⟩
  · have := S.io j hj
    rwa [b.ad] at this
end
abbrev EN : L2.St → XK := fun _ => E0
def tG (c : Cfg) (vw : Vwr) (ws : List Nat) (g : Tf) : TG := fun v σ H Q => ∃ f ρ d ρ1, StR c f σ H ρ ∧ vw H f.N v d ∧ g d ρ = some ρ1 ∧ ∀ σ', StR c f σ' H ρ1 → Sm ws σ σ' → Q σ' H
theorem Tgw.pg {X : Cx} {c : Cfg} {vw : Vwr} {ws : List Nat} {tg : Expr} {g : Tf} (h : Tgw vw X c ws tg g) : PG X tg (tG c vw ws g) := by
  obtain ⟨t, p, k⟩ := h
  exact ⟨fun pins s σ H v u Q I r ⟨f, ρ, d, ρ1, S, w, e, q⟩ => p.run pins s σ H v u Q I r (k f σ H ρ v d ρ1 Q S w e q)⟩
theorem sm_wipe {ws vs : List Nat} {σ σ' : L2.St} (h : Sm ws (L2.wipe σ vs) σ') (sub : ∀ i ∈ ws, i ∈ vs) : L2.wipe σ' vs = L2.wipe σ vs := by
  have key : ∀ (us : List Nat) (a b : L2.St), a.length = b.length → (∀ i, i ∉ us → a[i]? = b[i]?) → L2.wipe a us = L2.wipe b us := by
    intro us a b hl hab
    refine List.ext_getElem? fun i => ?_
    by_cases hi : i ∈ us
    · have z : ∀ (x : L2.St) (us : List Nat), i ∈ us → (L2.wipe x us)[i]? = if i < x.length then some none else none := by
        intro x us
        induction us with
        | nil => intro h; cases h
        | cons u us ih =>
          intro h
          show ((L2.wipe x us).set u none)[i]? = _
          rw [List.getElem?_set, wipe_length]
          split
          · rename_i e
            subst e
            rfl
          · rename_i e
            rcases List.mem_cons.mp h with q | q
            · exact (e q.symm).elim
            · exact ih q
      rw [z a us hi, z b us hi, hl]
    · rw [wipe_out' hi, wipe_out' hi]
      exact hab i hi
  refine key vs σ' σ (h.1.trans (wipe_length σ vs)) fun i hi => ?_
  rw [h.2 i fun q => hi (sub i q)]
  exact wipe_out' hi
theorem x_lc {c : Cfg} {E : L2.St → XK} {vw : Vwr} {mi : M (List PyData)} {g : Tf} {mt : M Bool} {me : M PyData} {ws vs : List Nat} {σ : L2.St} {H : Hp} {Q : VK} (hv : offIo c vs = true) (sub : ∀ i ∈ ws, i ∈ vs) (h : tL c E (mLc vs mi g mt me) σ H Q) :
    tLc (tI c E vw mi) (tG c vw ws g) (tT c EN mt) (tX c EN me) vs σ H Q := by
  obtain ⟨f, ρ, S, q⟩ := h
  refine ⟨f, ρ, S, q.bind fun ds ρ1 _ h1 J H1 f1 g1 S1 it D hD => ?_⟩
  obtain ⟨r0, ρ0, e0, p0⟩ := h1.rebase g1 reb_L
  dsimp only at e0
  cases hl : lcLoop vs g mt me ds [] ρ1 with
  | none =>
    rw [hl] at e0
    cases e0
  | some z =>
    obtain ⟨accE, ρE⟩ := z
    rw [hl] at e0
    cases e0
    have x0 := Ext.new (o := .lst []) hD
    have S2 := (S1.add hD x0 (by rw [upd_same]; simp)).hide (p := D) (fun i s h o e => S1.notAt hD i s h o e) (.inr rfl)
    have b0 : Blk c f1 H1 D ((f1.add D).hide D) (upd H1 D (.lst [])) := ⟨x0.step, fun b z => z.imp id fun q => by rw [q]; exact hD, fun b z => ⟨z.1.imp id fun q => by rw [q]; exact hD, z.2⟩, rfl, rfl, rfl⟩
    let Pv : Nat → Hp → Prop := fun i H => i ≤ ds.length ∧ ∃ f ρ acc ys, Blk c f1 H1 D f H ∧ StR c f (L2.wipe σ vs) H (wS vs ρ) ∧ H D = some (.lst ys) ∧ RpAll H f.N ys acc ∧ lcLoop vs g mt me (ds.drop i) acc ρ = some (accE, ρE)
    refine ⟨fun i n H => n = ds.length - i ∧ Pv i H, ⟨_, rfl, Nat.zero_le _, (f1.add D).hide D, ρ1, [], [], b0, S2.wipe hv, upd_same, .nil, hl⟩, ?_⟩
    rintro i n H ⟨rfl, hi, f, ρ, acc, ys, b, S, hD2, ay, e⟩
    have hDn : H D ≠ none := by rw [hD2]; simp
    rcases Nat.lt_or_ge i ds.length with lt | ge
    · refine .inr ⟨(it.go i H _ (b.gr hD)).1 lt, Pv (i + 1), fun H' w => ⟨_, by omega, rfl, w⟩, fun x H' y => ?_⟩
      obtain ⟨ex, vwd⟩ := it.yl i H _ x H' (b.gr hD) y
      have hd : ds[i]? = some ds[i] := List.getElem?_eq_getElem lt
      have dr : ds.drop i = ds[i] :: ds.drop (i + 1) := List.drop_eq_getElem_cons lt
      rw [dr] at e
      unfold lcLoop at e
      cases hgd : g ds[i] (wS vs ρ) with
      | none =>
        rw [hgd] at e
        cases e
      | some ρ2 =>
        rw [hgd] at e
        dsimp only at e
        refine ⟨f, wS vs ρ, ds[i], ρ2, S.ext ex, vwd _ hd, hgd, fun σ2 S3 sm => ?_⟩
        have ww := sm_wipe sm sub
        refine ⟨ww, ?_⟩
        have b3 : Blk c f1 H1 D f H' := b.step (Gr.ext ex) hDn
        have hD3 : H' D = some (.lst ys) := ex _ _ hD2
        have ay3 : RpAll H' f.N ys acc := ay.mono ex.mo
        have hDn3 : H' D ≠ none := by rw [hD3]; simp
        cases ht : mt ρ2 with
        | none =>
          rw [ht] at e
          cases e
        | some z =>
          obtain ⟨z1, ρ3⟩ := z
          rw [ht] at e
          cases z1 with
          | err _ _ => cases e
          | ok bb =>
            refine ⟨f, ρ2, S3, .ok bb, ρ3, ht, fun H4 f4 g4 S4 => ?_⟩
            have b4 := b3.step g4 hDn3
            have hD4 : H4 D = some (.lst ys) := g4.st.keep D _ b.no hD3 (by simp)
            have ay4 := g4.rpa S3 ay3
            have hDn4 : H4 D ≠ none := by rw [hD4]; simp
            cases bb with
            | false =>
              have S4' := S4.wipe hv
              rw [ww] at S4'
              exact ⟨lt, f4, ρ3, acc, ys, b4, S4', hD4, ay4, e⟩
            | true =>
              dsimp only at e
              cases he : me ρ3 with
              | none =>
                rw [he] at e
                cases e
              | some z =>
                obtain ⟨z1, ρ5⟩ := z
                rw [he] at e
                cases z1 with
                | err _ _ => cases e
                | ok xd =>
                  dsimp only at e
                  split at e
                  · rename_i hlen
                    refine ⟨f4, ρ3, S4, .ok xd, ρ5, he, fun yv H5 f5 g5 S5 r5 => ?_⟩
                    have b5 := b4.step g5 hDn4
                    have hD5 : H5 D = some (.lst ys) := g5.st.keep D _ b4.no hD4 (by simp)
                    have ay5 := g5.rpa S4 ay4
                    have S5' := S5.wipe hv
                    rw [ww] at S5'
                    have S6 := S5'.poke (zs := ys ++ [yv]) hD5 (b5.np S5) b5.no
                    have mo6 : Mo H5 f5.N (upd H5 D (.lst (ys ++ [yv]))) f5.N := Mo.upd hD5 (b5.np S5) (fun z => z)
                    exact ⟨ys, hD5, by rw [ay5.len]; exact Nat.lt_of_lt_of_le hlen (by decide), lt, f5, ρ5, acc ++ [xd], ys ++ [yv], b5.poke hD hD5, S6, upd_same, ((ay5.app (.one r5)).mono mo6), e⟩
                  · cases e
    · have e1 : ds.drop i = [] := List.drop_eq_nil_of_le ge
      rw [e1] at e
      cases e
      have S7 := b.StR S1 (S1.unwipe S (b.mo S1) hv) hD
      exact .inl ⟨(it.go i H _ (b.gr hD)).2 (Nat.le_antisymm ge hi), p0 D _ H (f1.back f D) (b.gr hD) S7 (.inr rfl) (S1.notB hD) hD2 ay ((S1.unwipe S (b.mo S1) hv).noSl b.no)⟩
section
variable {X : Cx} {c : Cfg} {E : L2.St → XK}
theorem DI.pi {tg iter : Expr} {vw : Vwr} {m : M (List PyData)} (h : DI X c E tg iter vw m) : PI X tg iter (tI c E vw m) := by
  obtain ⟨wi, p, l⟩ := h
  exact ⟨fun pins s σ H R I q => p.run pins s σ H R I (l σ H R q)⟩
theorem pts_mono {ifs : List Expr} {t t' : TT} (h : PTs X ifs t) (hm : ∀ σ H Q, t' σ H Q → t σ H Q) : PTs X ifs t' := ⟨fun pins s σ H Q I q => h.run pins s σ H Q I (hm σ H Q q)⟩
theorem dts_nil : PTs X [] (tT c E (M.pure true)) := pts_mono pts_nil fun σ H Q ⟨f, ρ, S, q⟩ => q.pure H f (Gr.refl _ _) S
theorem dts_one {e : Expr} {m : M Bool} (h : PT X e (tT c E m)) : PTs X [e] (tT c E m) := pts_one h
theorem dl_lc {elt tg iter : Expr} {ifs : List Expr} {scope : Scope} {own : List (Str × Nat)} {pos : Pos} {vw : Vwr} {mi : M (List PyData)} {g : Tf} {mt : M Bool} {me : M PyData} {ws : List Nat} (hc : X.calm = true) (hN : X.N.Nodup) (hi : DI X c E tg iter vw mi) (ok : BlkOk X.N X.env.scope scope own) (hv : offIo c (own.map (·.2)) = true) (sub : ∀ i ∈ ws, i ∈ own.map (·.2))
    (hg : ∀ (s : Shared) (H : Hp) (C : Addr) (cl : List (Str × Addr)) (fp : List Addr), Tgw vw (X.blk s H scope (compEnvC scope cl C X.env) fp) c ws tg g) (ht : ∀ (s : Shared) (H : Hp) (C : Addr) (cl : List (Str × Addr)) (fp : List Addr), PTs (X.blk s H scope (compEnvC scope cl C X.env) fp) ifs (tT c EN mt))
    (he : ∀ (s : Shared) (H : Hp) (C : Addr) (cl : List (Str × Addr)) (fp : List Addr), PE (X.blk s H scope (compEnvC scope cl C X.env) fp) elt (tX c EN me)) (hs : ∀ x, foldedSetIterable iter X.env x = pure x := by intro _; rfl) :
    PE X (.ListComp elt [⟨tg, iter, ifs, 0⟩] scope pos) (tL c E (mLc (own.map (·.2)) mi g mt me)) :=
  peMono (pe_lc hc hN hi.pi ok (fun s H C cl fp => (hg s H C cl fp).pg) ht he hs) fun σ H Q q => x_lc hv sub q
theorem ds_setLc {i : Nat} {y : Str} {py : Pos} {elt tg iter : Expr} {ifs : List Expr} {scope : Scope} {own : List (Str × Nat)} {pos spos : Pos} {vw : Vwr} {mi : M (List PyData)} {g : Tf} {mt : M Bool} {me : M PyData} {ws : List Nat} (hc : X.calm = true) (hN : X.N.Nodup) (hy : X.N[i]? = some y) (hyl : X.env.scope.names.lookup y = some .local) (hio : c.loc i = true)
    (hsw : swapsWith (.ListComp elt [⟨tg, iter, ifs, 0⟩] scope pos) (some (.Name y py)) spos.line X.env = pure true) (hi : DI X c E tg iter vw mi) (ok : BlkOk X.N X.env.scope scope own) (hv : offIo c (own.map (·.2)) = true) (sub : ∀ i ∈ ws, i ∈ own.map (·.2))
    (hg : ∀ (s : Shared) (H : Hp) (C : Addr) (cl : List (Str × Addr)) (fp : List Addr), Tgw vw (X.blk s H scope (compEnvC scope cl C X.env) fp) c ws tg g) (ht : ∀ (s : Shared) (H : Hp) (C : Addr) (cl : List (Str × Addr)) (fp : List Addr), PTs (X.blk s H scope (compEnvC scope cl C X.env) fp) ifs (tT c EN mt))
    (he : ∀ (s : Shared) (H : Hp) (C : Addr) (cl : List (Str × Addr)) (fp : List Addr), PE (X.blk s H scope (compEnvC scope cl C X.env) fp) elt (tX c EN me)) (hs : ∀ x, foldedSetIterable iter X.env x = pure x := by intro _; rfl) :
    PS X (.Assign [.Name y py] (.ListComp elt [⟨tg, iter, ifs, 0⟩] scope pos) spos) (tS c E (sSetL i (mLc (own.map (·.2)) mi g mt me))) :=
  psMono (ps_setLc hc hN hy hyl hsw hi.pi ok (fun s H C cl fp => (hg s H C cl fp).pg) ht he hs) fun D σ H q => x_setL hio (fun σ H Q z => x_lc hv sub z) q
end
end Ev

set_option Elab.async false
set_option linter.all false
set_option maxRecDepth 100000
set_option maxHeartbeats 4000000
/-! Ev: defs and their calls. -/
namespace Ev
open PySem PySem.Spec PyProof.Rows L2 Ed

abbrev Cfg.at (c : Cfg) (io : List Nat) : Cfg := ⟨c.P, c.w, c.K, c.mg, c.base, c.T, c.cl, c.lv, io, [], []⟩
def ioOf (io : List Nat) (n : Nat) (ρ : List Sl) : List Sl := (List.range n).map fun i => if i ∈ io then (ρ[i]?).getD .no else .no
def PostF (c : Cfg) (f : Fm) (H : Hp) (vs : List V) (ρ' : List Sl) (Q : VK) (E : XK) : Rs Rv → Prop
  | .ok (.dat d) => ∀ v H' f', Gr c f H f' H' → StR c f' (vs.map some) H' (ioOf c.io vs.length ρ') → Rp H' f'.N v d → Q v H'
  | .ok (.fr o) => ∀ p u H' f', Gr c f H f' H' → StR c f' (vs.map some) H' (ioOf c.io vs.length ρ') → f'.O p → ¬ f'.B p → H' p = some u → OdR H' f'.N u o → NoSl (vs.map some) (ioOf c.io vs.length ρ') p → Q (.ref p) H'
  | .err cn x => ∀ cls d H' f', Gr c f H f' H' → StR c f' (vs.map some) H' (ioOf c.io vs.length ρ') → ErrR c f'.N H' cn x cls d → E cls d H'
/-- the promise of a def: as F says -/
def spD (c : Cfg) (np : Nat) (F : FnD) : Sp := fun vs H Q E => vs.length = np ∧ ∃ f ρ, StR c f (vs.map some) H ρ ∧ f.B = (fun b => H b ≠ none) ∧ f.N0 = f.N ∧ ∃ r ρ', F ρ = some (r, ρ') ∧ PostF c f H vs ρ' Q E r
/-- a def's function out of its body's -/
def fnOf (n : Nat) (m : SM) : FnD := fun ρ => match m (ρ ++ List.replicate n .no) with
  | some (.nx, ρ') => some (.ok (.dat .none), ρ')
  | some (.ret r, ρ') => some (.ok r, ρ')
  | some (.err cn x, ρ') => some (.err cn x, ρ')
  | _ => none
theorem getElem?_range_map {α : Type} {n i : Nat} {g : Nat → α} {x : α} (h : ((List.range n).map g)[i]? = some x) : i < n ∧ x = g i := by
  rw [List.getElem?_map] at h
  cases z : (List.range n)[i]? with
  | none =>
    rw [z] at h
    cases h
  | some j =>
    rw [z] at h
    cases h
    obtain ⟨h1, h2⟩ := List.getElem?_eq_some_iff.mp z
    rw [List.length_range] at h1
    rw [List.getElem_range] at h2
    exact ⟨h1, by rw [h2]⟩
theorem ioOf_own {io : List Nat} {n i : Nat} {ρ : List Sl} {s : Sl} (h : (ioOf io n ρ)[i]? = some s) (ns : s ≠ .no) : i < n ∧ i ∈ io ∧ ρ[i]? = some s := by
  obtain ⟨h1, h2⟩ := getElem?_range_map h
  split at h2
  · rename_i hi
    refine ⟨h1, hi, ?_⟩
    cases z : ρ[i]? with
    | none =>
      rw [z] at h2
      exact (ns h2).elim
    | some t =>
      rw [z] at h2
      rw [h2]
      rfl
  · exact (ns h2).elim
section
variable {c : Cfg} {f f' : Fm} {σ σ' : L2.St} {H H' : Hp} {ρ ρ' : List Sl} {vs : List V}
/-- at the end only the given objects are told of -/
theorem StR.toIo (S0 : StR c f (vs.map some) H ρ) (g : Gr c f H f' H') (S : StR c f' σ' H' ρ') : StR c f' (vs.map some) H' (ioOf c.io vs.length ρ') := by
  have same : ∀ i ∈ c.io, σ'[i]? = (vs.map some)[i]? := fun i hi => by
    obtain ⟨e1, _⟩ := S0.io i hi
    obtain ⟨e2, _⟩ := S.io i hi
    rw [e1, e2, g.ad]
  refine ⟨by simp [ioOf], fun i s h n => ?_, fun i j a s t h1 h2 o1 o2 e1 e2 => ?_, S.on, S.nk, S.n0, S.bk, fun i a s h o e ni => ?_, fun i hi => ?_, S.tabs, S.kp, S0.fx⟩
  · obtain ⟨_, hi, hs⟩ := ioOf_own h n
    obtain ⟨v, e, r⟩ := S.sl i s hs n
    exact ⟨v, (same i hi).symm.trans e, r⟩
  · obtain ⟨_, i1, h1⟩ := ioOf_own h1 (own_ne o1)
    obtain ⟨_, i2, h2⟩ := ioOf_own h2 (own_ne o2)
    exact S.dis i j a s t h1 h2 o1 o2 ((same i i1).trans e1) ((same j i2).trans e2)
  · obtain ⟨_, hi, _⟩ := ioOf_own h (own_ne o)
    exact (ni hi).elim
  · obtain ⟨e1, _⟩ := S0.io i hi
    obtain ⟨_, o, ho⟩ := S.io i hi
    refine ⟨by rw [g.ad]; exact e1, o, ?_⟩
    have hl : i < vs.length := by
      have := (List.getElem?_eq_some_iff.mp e1).1
      rwa [List.length_map] at this
    unfold ioOf
    rw [List.getElem?_map, List.getElem?_range hl]
    simp [hi, ho]
theorem StR.grow (S : StR c f σ H ρ) (n : Nat) : StR c f (σ ++ List.replicate n none) H (ρ ++ List.replicate n .no) := by
  have low : ∀ {i : Nat} {s : Sl}, (ρ ++ List.replicate n .no)[i]? = some s → s ≠ .no → ρ[i]? = some s ∧ i < σ.length := fun {i s} h ns => by
    by_cases hi : i < ρ.length
    · rw [List.getElem?_append_left hi] at h
      exact ⟨h, by rw [← S.len]; exact hi⟩
    · rw [List.getElem?_append_right (by omega)] at h
      obtain ⟨_, h2⟩ := List.getElem?_eq_some_iff.mp h
      rw [List.getElem_replicate] at h2
      exact (ns h2.symm).elim
  refine ⟨by simp [S.len], fun i s h ns => ?_, fun i j a s t h1 h2 o1 o2 e1 e2 => ?_, S.on, S.nk, S.n0, S.bk, fun i a s h o e ni => ?_, fun i hi => ?_, S.tabs, S.kp, fun q hq => by
    have h := S.fx q hq
    rw [List.getElem?_append_left (List.getElem?_eq_some_iff.mp h).1]
    exact h⟩
  · obtain ⟨h, l⟩ := low h ns
    obtain ⟨v, e, r⟩ := S.sl i s h ns
    exact ⟨v, by rw [List.getElem?_append_left l]; exact e, r⟩
  · obtain ⟨h1, l1⟩ := low h1 (own_ne o1)
    obtain ⟨h2, l2⟩ := low h2 (own_ne o2)
    rw [List.getElem?_append_left l1] at e1
    rw [List.getElem?_append_left l2] at e2
    exact S.dis i j a s t h1 h2 o1 o2 e1 e2
  · obtain ⟨h, l⟩ := low h (own_ne o)
    rw [List.getElem?_append_left l] at e
    exact S.ob i a s h o e ni
  · obtain ⟨e, o, ho⟩ := S.io i hi
    have l := (List.getElem?_eq_some_iff.mp e).1
    rw [List.getElem?_append_left l, List.getElem?_append_left (by rw [S.len]; exact l)]
    exact ⟨e, o, ho⟩
end
section
variable {P : Program} {w : World} {K : PySem.W.Frag} {mg : Str → Option Value} {base : Heap} {N ps : List Str} {x qual : Str} {st : Stmt} {fa : Addr} {cd : Value} {k : Nat}
/-- a def by its body's function -/
theorem fnv_ev {c : Cfg} {m : SM} {n : Nat} (D : DefAt K mg x qual st ps fa cd) (S : FnScope N ps (defScope st)) (hn : N.length - ps.length = n)
    (body : ∀ (A : Around) (outer : List Env) (s : Shared) (H : Hp) (E : XK), RoomG k (A.deeper (envOfC qual (defScope st) s.heap.objs.size fa cd)) →
      PSs (cxOf (L2N.CX P w) P w K mg base N qual (defScope st) fa cd A outer s H E) (defBody st) (tS c (fun _ => E) m)) :
    FnV P w K mg base (k + 1) fa (spD c ps.length (fnOf n m)) := by
  refine fnv_def D S (fun vs H Q E h => h.1) fun A outer s H vs Q E hr h => ⟨_, body A outer s H E hr, ?_⟩
  obtain ⟨hl, f, ρ, S0, hB, hN, r, ρ', e, q⟩ := h
  have S1 := S0.grow n
  have es : L2.start N vs = vs.map some ++ List.replicate n none := by
    unfold L2.start
    rw [hl, hn]
  rw [es]
  refine ⟨f, ρ ++ List.replicate n .no, S1, ?_⟩
  unfold fnOf at e
  cases hm : m (ρ ++ List.replicate n .no) with
  | none =>
    rw [hm] at e
    cases e
  | some z =>
    obtain ⟨o, ρ1⟩ := z
    rw [hm] at e
    refine ⟨o, ρ1, rfl, ?_⟩
    cases o with
    | nx =>
      cases e
      exact fun σ' H' f' g S' => q .non H' f' g (S0.toIo g S') .non
    | brk => cases e
    | cnt => cases e
    | ret rr =>
      cases e
      cases rr with
      | dat d => exact fun v σ' H' f' g S' rv => q v H' f' g (S0.toIo g S') rv
      | fr o =>
        exact fun p u σ' H' f' g S' op nb hp r ns => q p u H' f' g (S0.toIo g S') op nb hp r fun i s h o e => by
          obtain ⟨_, hi, hs⟩ := ioOf_own h (own_ne o)
          have e1 := (S0.io i hi).1
          have e2 := (S'.io i hi).1
          exact ns i s hs o (by
            rw [e2, g.ad, ← e1]
            exact e)
    | err cn x =>
      cases e
      exact fun cls d σ' H' f' g S' er => q cls d H' f' g (S0.toIo g S') er
end

/-! ### arguments: data, or what a slot owns -/
inductive Ag where
  | d (s : Sl)
  | s (j : Nat)
def AgR (c : Cfg) (f : Fm) (H : Hp) (σ : L2.St) : List V → List Ag → Prop
  | [], [] => True
  | v :: vs, .d s :: as => (SlV c f.N f.O H v s ∧ isOwn s = false) ∧ AgR c f H σ vs as
  | v :: vs, .s j :: as => σ[j]? = some (some v) ∧ AgR c f H σ vs as
  | _, _ => False
def OkG (c : Cfg) (σ : L2.St) (Q : List V → Hp → Prop) : OkF (List Ag) := fun f H as ρ' => ∀ vs H' f', Gr c f H f' H' → StR c f' σ H' ρ' → AgR c f' H' σ vs as → Q vs H'
theorem reb_G {c : Cfg} {σ : L2.St} {Q : List V → Hp → Prop} : Reb c (OkG c σ Q) := fun f H f1 H1 a ρ' s h v H' f' s' => h v H' f' (s.trans s')
def tAg (c : Cfg) (E : L2.St → XK) (m : M (List Ag)) : TA := fun σ H Q => ∃ f ρ, StR c f σ H ρ ∧ RX c E f σ m (OkG c σ Q) ρ H
def gaNil : M (List Ag) := M.pure []
def gaD (a : M PyData) (b : M (List Ag)) : M (List Ag) := a.bind fun x => b.bind fun xs => M.pure (.d (.dat x) :: xs)
def gaC (j : Nat) (b : M (List Ag)) : M (List Ag) := fun ρ => match ρ[j]? with
  | some (.scr ns) => (b.bind fun xs => M.pure (.d (.scr ns) :: xs)) ρ
  | _ => none
def isO (ρ : List Sl) (j : Nat) : Bool := match ρ[j]? with
  | some (.own _) => true
  | _ => false
def gaS (j : Nat) (b : M (List Ag)) : M (List Ag) := fun ρ => if isO ρ j = true then (b.bind fun xs => M.pure (.s j :: xs)) ρ else none
section
variable {X : Cx} {c : Cfg} {E : L2.St → XK}
theorem ag_nil : PA X [] (tAg c E gaNil) := paMono pa_nil fun σ H Q ⟨f, ρ, S, q⟩ => q.pure [] H f (Gr.refl _ _) S trivial
theorem ag_d {e : Expr} {es : List Expr} {a : M PyData} {b : M (List Ag)} (ha : PE X e (tX c E a)) (hb : PA X es (tAg c E b)) (hs : starEach (e :: es) X.env = (false, eval e X.env) :: starEach es X.env := by rfl) : PA X (e :: es) (tAg c E (gaD a b)) := by
  refine paMono (pa_cons ha hb hs) fun σ H Q ⟨f, ρ, S, q⟩ => ?_
  refine x_bind S q reb_G fun d ρ1 v H1 f1 _ g1 S1 r1 h1 => ?_
  refine ⟨f1, ρ1, S1, h1.bind fun ds ρ2 _ h2 vs H2 f2 g2 S2 r2 => ?_⟩
  exact (h2.rebase g2 reb_G).pure (v :: vs) H2 f2 (Gr.refl _ _) S2 ⟨⟨g2.rp S1 r1, rfl⟩, r2⟩
theorem ag_c {j : Nat} {x : Str} {pos : Pos} {es : List Expr} {b : M (List Ag)} (hN : X.N[j]? = some x) (hv : Vis X.env.scope x) (hb : PA X es (tAg c E b)) (hs : starEach (.Name x pos :: es) X.env = (false, eval (.Name x pos) X.env) :: starEach es X.env := by rfl)
    (hd : (x == ("__debug__" : Str)) = false := by decide) (hcd : (x == ("__classdict__" : Str)) = false := by decide) : PA X (.Name x pos :: es) (tAg c E (gaC j b)) := by
  refine paMono (pa_cons (pe_var hN hv hd hcd) hb hs) fun σ H Q ⟨f, ρ, S, r0, ρ0, e0, p0⟩ => ?_
  unfold gaC at e0
  cases hj : ρ[j]? with
  | none =>
    rw [hj] at e0
    cases e0
  | some sl =>
    rw [hj] at e0
    cases sl with
    | scr ns =>
      obtain ⟨v, e1, a, rfl, hq⟩ := S.sl j _ hj (fun z => nomatch z)
      refine ⟨_, e1, f, ρ, S, RX.bind (k := fun xs => M.pure (Ag.d (.scr ns) :: xs)) (Ok := OkG c σ Q) ⟨r0, ρ0, e0, p0⟩ fun ds ρ2 _ h2 vs H2 f2 g2 S2 r2 => ?_⟩
      exact (h2.rebase g2 reb_G).pure (.ref a :: vs) H2 f2 (Gr.refl _ _) S2 ⟨⟨⟨a, rfl, ScrA.fu hq (Fu.of g2.st)⟩, rfl⟩, r2⟩
    | _ => cases e0
theorem ag_s {j : Nat} {x : Str} {pos : Pos} {es : List Expr} {b : M (List Ag)} (hN : X.N[j]? = some x) (hv : Vis X.env.scope x) (hb : PA X es (tAg c E b)) (hs : starEach (.Name x pos :: es) X.env = (false, eval (.Name x pos) X.env) :: starEach es X.env := by rfl)
    (hd : (x == ("__debug__" : Str)) = false := by decide) (hcd : (x == ("__classdict__" : Str)) = false := by decide) : PA X (.Name x pos :: es) (tAg c E (gaS j b)) := by
  refine paMono (pa_cons (pe_var hN hv hd hcd) hb hs) fun σ H Q ⟨f, ρ, S, r0, ρ0, e0, p0⟩ => ?_
  unfold gaS at e0
  split at e0
  · rename_i ho
    unfold isO at ho
    split at ho
    · rename_i o hj
      obtain ⟨v, e1, a, u, rfl, _, _, _⟩ := S.sl j _ hj (fun z => nomatch z)
      refine ⟨_, e1, f, ρ, S, RX.bind (k := fun xs => M.pure (Ag.s j :: xs)) (Ok := OkG c σ Q) ⟨r0, ρ0, e0, p0⟩ fun ds ρ2 _ h2 vs H2 f2 g2 S2 r2 => ?_⟩
      exact (h2.rebase g2 reb_G).pure (.ref a :: vs) H2 f2 (Gr.refl _ _) S2 ⟨e1, r2⟩
    · cases ho
  · cases e0
end
/-- the callee's slots -/
def agS (ρ : List Sl) : Ag → Sl
  | .d s => s
  | .s j => (ρ[j]?).getD .no
/-- where a slot's object is handed on -/
def agIo (as : List Ag) : List Nat := (List.range as.length).filter fun k => match as[k]? with
  | some (.s _) => true
  | _ => false
def agJs : List Ag → List Nat
  | [] => []
  | .d _ :: as => agJs as
  | .s j :: as => j :: agJs as
/-- what came back -/
def agBack : List Ag → Nat → List Sl → List Sl → List Sl
  | [], _, _, ρ => ρ
  | .d _ :: as, k, ρc, ρ => agBack as (k + 1) ρc ρ
  | .s j :: as, k, ρc, ρ => agBack as (k + 1) ρc (ρ.set j ((ρc[k]?).getD .no))
/-- objects of slots that are unlike, in the places io -/
def agOk (io : List Nat) (ρ : List Sl) (as : List Ag) : Bool := decide (agIo as = io) && decide (agJs as).Nodup && (agJs as).all (isO ρ)
def mCall (io : List Nat) (F : FnD) (ma : M (List Ag)) : M Rv := ma.bind fun as ρ => if agOk io ρ as = true then (match F (as.map (agS ρ)) with
  | some (.ok r, ρc) => some (.ok r, agBack as 0 ρc ρ)
  | some (.err cn x, ρc) => some (.err cn x, agBack as 0 ρc ρ)
  | none => none) else none
def asDat : Rv → Option PyData
  | .dat d => some d
  | _ => none
def asFr : Rv → Option OD
  | .fr o => some o
  | _ => none
def mCallX (io : List Nat) (F : FnD) (ma : M (List Ag)) : M PyData := (mCall io F ma).bind fun r => M.lift (asDat r)
def mCallL (io : List Nat) (F : FnD) (ma : M (List Ag)) : M OD := (mCall io F ma).bind fun r => M.lift (asFr r)
theorem AgR.len {c : Cfg} {f : Fm} {H : Hp} {σ : L2.St} : ∀ {vs : List V} {as : List Ag}, AgR c f H σ vs as → vs.length = as.length
  | [], [], _ => rfl
  | _ :: _, .d _ :: _, h => congrArg Nat.succ (AgR.len h.2)
  | _ :: _, .s _ :: _, h => congrArg Nat.succ (AgR.len h.2)
  | [], _ :: _, h => h.elim
  | _ :: _, [], h => h.elim
theorem AgR.at_ {c : Cfg} {f : Fm} {H : Hp} {σ : L2.St} : ∀ {vs : List V} {as : List Ag} {k : Nat} {a : Ag}, AgR c f H σ vs as → as[k]? = some a → ∃ v, vs[k]? = some v ∧ match a with
    | .d s => SlV c f.N f.O H v s ∧ isOwn s = false
    | .s j => σ[j]? = some (some v)
  | [], [], k, a, _, e => by simp at e
  | v :: _, .d d :: _, 0, a, h, e => by
    cases e
    exact ⟨v, rfl, h.1⟩
  | v :: _, .s j :: _, 0, a, h, e => by
    cases e
    exact ⟨v, rfl, h.1⟩
  | _ :: _, .d _ :: _, k + 1, a, h, e => AgR.at_ (k := k) h.2 (by simpa using e)
  | _ :: _, .s _ :: _, k + 1, a, h, e => AgR.at_ (k := k) h.2 (by simpa using e)
  | [], _ :: _, _, _, h, _ => h.elim
  | _ :: _, [], _, _, h, _ => h.elim
theorem mem_agJs : ∀ {as : List Ag} {k j : Nat}, as[k]? = some (.s j) → j ∈ agJs as
  | [], k, j, e => by simp at e
  | .d _ :: as, 0, j, e => by cases e
  | .d _ :: as, k + 1, j, e => mem_agJs (as := as) (k := k) (by simpa using e)
  | .s i :: as, 0, j, e => by
    cases e
    exact List.mem_cons_self
  | .s i :: as, k + 1, j, e => List.mem_cons_of_mem _ (mem_agJs (as := as) (k := k) (by simpa using e))
theorem agJs_inj : ∀ {as : List Ag} {k l j : Nat}, (agJs as).Nodup → as[k]? = some (.s j) → as[l]? = some (.s j) → k = l
  | [], k, l, j, _, e, _ => by simp at e
  | .d _ :: as, 0, l, j, _, e, _ => by cases e
  | .d _ :: as, k + 1, 0, j, _, _, e => by cases e
  | .d _ :: as, k + 1, l + 1, j, n, e1, e2 => congrArg Nat.succ (agJs_inj (as := as) n (by simpa using e1) (by simpa using e2))
  | .s i :: as, 0, 0, j, n, e1, e2 => rfl
  | .s i :: as, 0, l + 1, j, n, e1, e2 => by
    cases e1
    exact ((List.nodup_cons.mp n).1 (mem_agJs (as := as) (k := l) (by simpa using e2))).elim
  | .s i :: as, k + 1, 0, j, n, e1, e2 => by
    cases e2
    exact ((List.nodup_cons.mp n).1 (mem_agJs (as := as) (k := k) (by simpa using e1))).elim
  | .s i :: as, k + 1, l + 1, j, n, e1, e2 => congrArg Nat.succ (agJs_inj (as := as) (List.nodup_cons.mp n).2 (by simpa using e1) (by simpa using e2))
theorem mem_agIo {as : List Ag} {k : Nat} : k ∈ agIo as ↔ ∃ j, as[k]? = some (.s j) := by
  unfold agIo
  rw [List.mem_filter, List.mem_range]
  constructor
  · rintro ⟨_, h⟩
    split at h
    · rename_i j e
      exact ⟨j, e⟩
    · cases h
  · rintro ⟨j, e⟩
    exact ⟨(List.getElem?_eq_some_iff.mp e).1, by rw [e]⟩
theorem agBack_len : ∀ (as : List Ag) (k : Nat) (ρc ρ : List Sl), (agBack as k ρc ρ).length = ρ.length
  | [], _, _, _ => rfl
  | .d _ :: as, k, ρc, ρ => agBack_len as (k + 1) ρc ρ
  | .s j :: as, k, ρc, ρ => (agBack_len as (k + 1) ρc _).trans (List.length_set ..)
theorem agBack_out : ∀ (as : List Ag) (k : Nat) (ρc ρ : List Sl) (i : Nat), i ∉ agJs as → (agBack as k ρc ρ)[i]? = ρ[i]?
  | [], _, _, _, _, _ => rfl
  | .d _ :: as, k, ρc, ρ, i, h => agBack_out as (k + 1) ρc ρ i h
  | .s j :: as, k, ρc, ρ, i, h => (agBack_out as (k + 1) ρc _ i fun z => h (List.mem_cons_of_mem _ z)).trans (List.getElem?_set_ne fun z => h (by rw [← z]; exact List.mem_cons_self))
theorem agBack_in : ∀ (as : List Ag) (k : Nat) (ρc ρ : List Sl) (i l : Nat), (agJs as).Nodup → as[l]? = some (.s i) → i < ρ.length → (agBack as k ρc ρ)[i]? = some ((ρc[k + l]?).getD .no)
  | [], _, _, _, i, l, _, e, _ => by simp at e
  | .d _ :: as, k, ρc, ρ, i, 0, n, e, _ => by cases e
  | .d _ :: as, k, ρc, ρ, i, l + 1, n, e, h => by
    have := agBack_in as (k + 1) ρc ρ i l n (by simpa using e) h
    rw [show k + 1 + l = k + (l + 1) by omega] at this
    exact this
  | .s j :: as, k, ρc, ρ, i, 0, n, e, h => by
    cases e
    have n2 := (List.nodup_cons.mp n).1
    show (agBack as (k + 1) ρc (ρ.set j _))[j]? = _
    rw [agBack_out as (k + 1) ρc _ j n2, List.getElem?_set_self h]
    rfl
  | .s j :: as, k, ρc, ρ, i, l + 1, n, e, h => by
    have := agBack_in as (k + 1) ρc (ρ.set j ((ρc[k]?).getD .no)) i l (List.nodup_cons.mp n).2 (by simpa using e) (by rw [List.length_set]; exact h)
    rw [show k + 1 + l = k + (l + 1) by omega] at this
    exact this
section
variable {c : Cfg} {f1 : Fm} {σ : L2.St} {H1 : Hp} {ρ1 : List Sl} {vs : List V} {as : List Ag}
/-- the callee's frame -/
def cFm (f1 : Fm) (σ : L2.St) (H1 : Hp) (as : List Ag) : Fm := ⟨f1.N, fun b => ∃ j ∈ agJs as, σ[j]? = some (some (.ref b)), fun b => H1 b ≠ none, f1.N, fun k => match as[k]? with
  | some (.s j) => match σ[j]? with
    | some (some (.ref a)) => a
    | _ => 0
  | _ => 0⟩
theorem isO_ex {ρ : List Sl} {j : Nat} (h : isO ρ j = true) : ∃ o, ρ[j]? = some (.own o) := by
  unfold isO at h
  split at h
  · exact ⟨_, by assumption⟩
  · cases h
structure AgO (io : List Nat) (ρ : List Sl) (as : List Ag) : Prop where
  io : agIo as = io
  nd : (agJs as).Nodup
  ow : ∀ j ∈ agJs as, ∃ o, ρ[j]? = some (.own o)
theorem agOk_of {io : List Nat} {ρ : List Sl} {as : List Ag} (h : agOk io ρ as = true) : AgO io ρ as := by
  unfold agOk at h
  simp only [Bool.and_eq_true, decide_eq_true_eq] at h
  exact ⟨h.1.1, h.1.2, fun j hj => isO_ex (List.all_eq_true.mp h.2 j hj)⟩
theorem StR.own1 {j : Nat} {o : OD} (S1 : StR c f1 σ H1 ρ1) (h : ρ1[j]? = some (.own o)) : ∃ a u, σ[j]? = some (some (.ref a)) ∧ f1.O a ∧ H1 a = some u ∧ OdR H1 f1.N u o := by
  obtain ⟨v, e, a, u, rfl, h1, h2, h3⟩ := S1.sl j _ h (fun z => nomatch z)
  exact ⟨a, u, e, h1, h2, h3⟩
theorem callee_in {io : List Nat} (S1 : StR c f1 σ H1 ρ1) (r : AgR c f1 H1 σ vs as) (ao : AgO io ρ1 as) : StR (c.at io) (cFm f1 σ H1 as) (vs.map some) H1 (as.map (agS ρ1)) := by
  have len := r.len
  have own : ∀ {k : Nat} {s : Sl}, (as.map (agS ρ1))[k]? = some s → isOwn s = true → ∃ j o a u, as[k]? = some (.s j) ∧ s = .own o ∧ ρ1[j]? = some (.own o) ∧ σ[j]? = some (some (.ref a)) ∧ vs[k]? = some (.ref a) ∧ f1.O a ∧ H1 a = some u ∧ OdR H1 f1.N u o := fun {k s} h o => by
    rw [List.getElem?_map] at h
    cases ha : as[k]? with
    | none =>
      rw [ha] at h
      cases h
    | some ag =>
      rw [ha] at h
      cases h
      cases ag with
      | d d =>
        obtain ⟨_, _, _, hno⟩ := r.at_ ha
        rw [show isOwn d = true from o] at hno
        cases hno
      | s j =>
        obtain ⟨ob, hj⟩ := ao.ow j (mem_agJs ha)
        obtain ⟨a, u, e, h1, h2, h3⟩ := S1.own1 hj
        obtain ⟨v, hv, ev⟩ := r.at_ ha
        have ev : σ[j]? = some (some v) := ev
        rw [e] at ev
        cases ev
        refine ⟨j, ob, a, u, rfl, ?_, hj, e, hv, h1, h2, h3⟩
        show (ρ1[j]?).getD .no = _
        rw [hj]
        rfl
  refine ⟨by rw [List.length_map, List.length_map, len], fun k s h ns => ?_, fun k l a s t h1 h2 o1 o2 e1 e2 => ?_, fun b ⟨j, hj, e⟩ => ?_, S1.nk, fun b z => ⟨z, S1.nk b z⟩, fun b z => z, fun k a s h o e ni => ?_, fun k hk => ?_, S1.tabs, (fun _ z => nomatch z), (fun _ z => nomatch z)⟩
  · cases ho : isOwn s with
    | true =>
      obtain ⟨j, o, a, u, ha, rfl, hj, e, hv, h1, h2, h3⟩ := own h ho
      exact ⟨.ref a, by rw [List.getElem?_map, hv]; rfl, a, u, rfl, ⟨j, mem_agJs ha, e⟩, h2, h3⟩
    | false =>
      rw [List.getElem?_map] at h
      cases ha : as[k]? with
      | none =>
        rw [ha] at h
        cases h
      | some ag =>
        rw [ha] at h
        cases h
        obtain ⟨v, hv, ev⟩ := r.at_ ha
        cases ag with
        | d d =>
          refine ⟨v, by rw [List.getElem?_map, hv]; rfl, ?_⟩
          obtain ⟨ev, hno⟩ := ev
          cases d with
          | own _ => cases hno
          | no => trivial
          | dat _ => exact ev
          | fn _ => exact ev
          | scr _ => exact ev
        | s j =>
          obtain ⟨ob, hj⟩ := ao.ow j (mem_agJs ha)
          have : isOwn ((ρ1[j]?).getD .no) = false := ho
          rw [hj] at this
          cases this
  · obtain ⟨j1, q1, a1, u1, ha1, _, hj1, s1, v1, _⟩ := own h1 o1
    obtain ⟨j2, q2, a2, u2, ha2, _, hj2, s2, v2, _⟩ := own h2 o2
    rw [List.getElem?_map, v1] at e1
    rw [List.getElem?_map, v2] at e2
    cases e1
    cases e2
    have := S1.dis j1 j2 _ _ _ hj1 hj2 rfl rfl s1 s2
    subst this
    exact agJs_inj ao.nd ha1 ha2
  · obtain ⟨o, ho⟩ := ao.ow j hj
    obtain ⟨a, u, e', h1, _⟩ := S1.own1 ho
    rw [e] at e'
    cases e'
    exact S1.on b h1
  · obtain ⟨j, _, _, _, ha, _⟩ := own h o
    exact (ni (ao.io ▸ mem_agIo.mpr ⟨j, ha⟩)).elim
  · have hk : k ∈ io := hk
    rw [← ao.io] at hk
    obtain ⟨j, ha⟩ := mem_agIo.mp hk
    obtain ⟨o, ho⟩ := ao.ow j (mem_agJs ha)
    obtain ⟨a, u, e, h1, h2, h3⟩ := S1.own1 ho
    obtain ⟨v, hv, ev⟩ := r.at_ ha
    have ev : σ[j]? = some (some v) := ev
    rw [e] at ev
    cases ev
    refine ⟨?_, o, ?_⟩
    · rw [List.getElem?_map, hv]
      show some (some (V.ref a)) = some (some (.ref (match as[k]? with
        | some (.s j) => match σ[j]? with
          | some (some (.ref a)) => a
          | _ => 0
        | _ => 0)))
      rw [ha]
      dsimp only
      rw [e]
    · rw [List.getElem?_map, ha]
      show some ((ρ1[j]?).getD .no) = _
      rw [ho]
      rfl
/-- the caller, when the callee is back -/
theorem caller_out {io : List Nat} {f2 f' : Fm} {H' : Hp} {ρc : List Sl} (S1 : StR c f1 σ H1 ρ1) (r : AgR c f1 H1 σ vs as) (ao : AgO io ρ1 as) (g : Gr (c.at io) (cFm f1 σ H1 as) H1 f' H') (S' : StR (c.at io) f' (vs.map some) H' (ioOf io vs.length ρc))
    (nn : ∀ b, f2.N b → f1.N b ∨ H1 b = none) (oo : ∀ b, f2.O b → f1.O b ∨ H1 b = none) (n1 : ∀ b, f1.N b → f2.N b) (o1 : ∀ b, f1.O b → f2.O b) (n2 : ∀ b, f2.N b → f'.N b) (on : ∀ b, f2.O b → f2.N b) (hB : f2.B = f1.B) (h0 : f2.N0 = f1.N0) (had : f2.ad = f1.ad) :
    StR c f2 σ H' (agBack as 0 ρc ρ1) ∧ Gr c f1 H1 f2 H' := by
  have sub : ∀ b, (cFm f1 σ H1 as).O b → f1.O b := fun b ⟨j, hj, e⟩ => by
    obtain ⟨o, ho⟩ := ao.ow j hj
    obtain ⟨a, u, e', h1, _⟩ := S1.own1 ho
    rw [e] at e'
    cases e'
    exact h1
  have st : Step c.T f1.O H1 H' := ⟨fun b o n e t => g.st.keep b o (fun z => n (sub b z)) e t, g.st.imm, g.st.live, g.st.tabs⟩
  have gr : Gr c f1 H1 f2 H' := ⟨st, nn, oo, hB, h0, had⟩
  have back : ∀ {i l : Nat}, as[l]? = some (.s i) → ∃ a o u, (agBack as 0 ρc ρ1)[i]? = some (.own o) ∧ σ[i]? = some (some (.ref a)) ∧ f1.O a ∧ H' a = some u ∧ OdR H' f'.N u o := fun {i l} ha => by
    obtain ⟨o, ho⟩ := ao.ow i (mem_agJs ha)
    obtain ⟨a, u, e, h1, h2, h3⟩ := S1.own1 ho
    have hl : l ∈ io := ao.io ▸ mem_agIo.mpr ⟨i, ha⟩
    obtain ⟨_, o', ho'⟩ := S'.io l hl
    obtain ⟨v, e', a', u', rfl, _, hu, hr⟩ := S'.sl l _ ho' (fun z => nomatch z)
    obtain ⟨v2, hv2, ev⟩ := r.at_ ha
    have ev : σ[i]? = some (some v2) := ev
    rw [e] at ev
    cases ev
    rw [List.getElem?_map, hv2] at e'
    cases e'
    obtain ⟨_, _, hc⟩ := ioOf_own ho' (fun z => nomatch z)
    refine ⟨a, o', u', ?_, e, h1, hu, hr⟩
    rw [agBack_in as 0 ρc ρ1 i l ao.nd ha (List.getElem?_eq_some_iff.mp ho).1, Nat.zero_add, hc]
    rfl
  have js : ∀ {i : Nat}, i ∈ agJs as → ∃ l : Nat, as[l]? = some (Ag.s i) := by
    intro i
    clear back gr st sub S' g ao r
    induction as with
    | nil => intro h; cases h
    | cons a as ih =>
      intro h
      cases a with
      | d d =>
        obtain ⟨l, hl⟩ := ih h
        exact ⟨l + 1, by simpa using hl⟩
      | s j =>
        rcases List.mem_cons.mp h with z | z
        · exact ⟨0, by rw [z]; rfl⟩
        · obtain ⟨l, hl⟩ := ih z
          exact ⟨l + 1, by simpa using hl⟩
  have mo := gr.mo S1.on
  have flag : ∀ {i : Nat} {s : Sl}, (agBack as 0 ρc ρ1)[i]? = some s → isOwn s = true → ∃ s', ρ1[i]? = some s' ∧ isOwn s' = true := fun {i s} h o => by
    by_cases hi : i ∈ agJs as
    · obtain ⟨ob, hob⟩ := ao.ow i hi
      exact ⟨_, hob, rfl⟩
    · rw [agBack_out as 0 ρc ρ1 i hi] at h
      exact ⟨s, h, o⟩
  refine ⟨⟨by rw [agBack_len, S1.len], fun i s h ns => ?_, fun i j a s t h1 h2 o1 o2 e1 e2 => ?_, on, fun b z => (nn b z).elim (fun q => st.live b (S1.nk b q)) fun q => S'.nk b (n2 b z), fun b z => ?_, fun b z => st.live b (S1.bk b (hB ▸ z)), fun i a s h o e ni => ?_, fun i hi => ?_, st.tabs S1.tabs, fun q hq => by
    obtain ⟨w, h4, h2, h5⟩ := S1.kp q hq
    exact ⟨w, g.st.keep _ _ (fun z => h5 (sub _ z)) h4 (by simp), h2.mono mo, fun z => (oo _ z).elim h5 fun y => by
      rw [y] at h4
      cases h4⟩, S1.fx⟩, gr⟩
  · by_cases hi : i ∈ agJs as
    · obtain ⟨l, ha⟩ := js hi
      obtain ⟨a, o, u, hb, e, oa, hu, hr⟩ := back ha
      rw [hb] at h
      cases h
      exact ⟨.ref a, e, a, u, rfl, o1 a oa, hu, hr.weak n2⟩
    · rw [agBack_out as 0 ρc ρ1 i hi] at h
      obtain ⟨v, e, q⟩ := S1.sl i s h ns
      refine ⟨v, e, q.mono mo (fun a u ha ho hs hv => ⟨?_, o1 a ho⟩) (Fu.of st)⟩
      refine g.st.keep a u (fun ⟨j, hj, ej⟩ => ?_) ha (fun ps z => ?_)
      · obtain ⟨ob, hob⟩ := ao.ow j hj
        have := S1.dis i j a s _ h hob hs rfl (by rw [e, hv]) ej
        exact hi (this ▸ hj)
      · cases s with
        | own o =>
          obtain ⟨a2, u2, rfl, _, ha2, hr2⟩ := q
          cases hv
          rw [ha] at ha2
          cases ha2
          exact hr2.notTbl ps z
        | _ => cases hs
  · obtain ⟨s', h1, o1⟩ := flag h1 o1
    obtain ⟨t', h2, o2⟩ := flag h2 o2
    exact S1.dis i j a s' t' h1 h2 o1 o2 e1 e2
  · rw [h0] at z
    rw [hB]
    exact ⟨n1 b (S1.n0 b z).1, (S1.n0 b z).2⟩
  · obtain ⟨s', h, o⟩ := flag h o
    rw [hB]
    exact S1.ob i a s' h o e ni
  · obtain ⟨e, o, ho⟩ := S1.io i hi
    rw [had]
    refine ⟨e, ?_⟩
    by_cases hj : i ∈ agJs as
    · obtain ⟨l, ha⟩ := js hj
      obtain ⟨_, o2, _, hb, _⟩ := back ha
      exact ⟨o2, hb⟩
    · exact ⟨o, by rw [agBack_out as 0 ρc ρ1 i hj]; exact ho⟩
end
/-- what the callee is to give: for a result that is data -/
theorem x_call {c : Cfg} {E : L2.St → XK} {io : List Nat} {F : FnD} {ma : M (List Ag)} {np : Nat} {σ : L2.St} {H : Hp} {Q : VK} (hnp : ∀ ρ as ρ1, ma ρ = some (.ok as, ρ1) → as.length = np) (h : (∃ f ρ, StR c f σ H ρ ∧ RX c E f σ (mCall io F ma) (fun f H r ρ' => match r with
      | .dat d => OkX c σ Q f H d ρ'
      | .fr o => OkL c σ Q f H o ρ') ρ H)) : tCallS (spD (c.at io) np F) E (tAg c E ma) σ H Q := by
  obtain ⟨f, ρ, S, q⟩ := h
  refine ⟨f, ρ, S, q.bind fun as ρ1 ea h1 vs H1 f1 g1 S1 r => ?_⟩
  obtain ⟨r0, ρ0, e0, p0⟩ := h1
  dsimp only at e0
  split at e0
  · rename_i hok
    have ao := agOk_of hok
    have S2 := callee_in S1 r ao
    refine ⟨r.len.trans (hnp _ _ _ ea), cFm f1 σ H1 as, _, S2, rfl, rfl, ?_⟩
    cases hF : F (as.map (agS ρ1)) with
    | none =>
      rw [hF] at e0
      cases e0
    | some z =>
      obtain ⟨z1, ρc⟩ := z
      rw [hF] at e0
      refine ⟨z1, ρc, rfl, ?_⟩
      have n12 : ∀ {f' : Fm} {H' : Hp} {ρx : List Sl}, Gr (c.at io) (cFm f1 σ H1 as) H1 f' H' → StR (c.at io) f' (vs.map some) H' ρx → ∀ b, f1.N b → f'.N b := fun {f' H' ρx} g S' b z => (S'.n0 b (by rw [g.n0]; exact z)).1
      cases z1 with
      | ok rr =>
        cases e0
        cases rr with
        | dat d =>
          intro v H' f' g S' rv
          obtain ⟨S3, g3⟩ := caller_out (f2 := f1) S1 r ao g S' (fun b z => .inl z) (fun b z => .inl z) (fun b z => z) (fun b z => z) (n12 g S') S1.on rfl rfl rfl
          exact p0 v H' f1 (g1.trans g3) S3 (rv.mono (Mo.weak (n12 g S')))
        | fr o =>
          intro p u H' f' g S' op nb hp rr ns
          have n1 : H1 p = none := Classical.byContradiction fun z => nb (by rw [g.B]; exact z)
          obtain ⟨S3, g3⟩ := caller_out (f2 := f1.add p) S1 r ao g S' (fun b z => z.imp id fun q => by rw [q]; exact n1) (fun b z => z.imp id fun q => by rw [q]; exact n1) (fun b z => .inl z) (fun b z => .inl z)
            (fun b z => z.elim (n12 g S' b) fun q => by rw [q]; exact S'.on p op) (fun b z => z.imp (S1.on b) id) rfl rfl rfl
          refine p0 p u H' (f1.add p) (g1.trans g3) S3 (.inr rfl) (fun z => ?_) hp (rr.weak fun b z => z.elim (n12 g S' b) fun q => by rw [q]; exact S'.on p op) fun i s hs os e => ?_
          · exact S1.bk p z n1
          · have hi : ∃ s', ρ1[i]? = some s' ∧ isOwn s' = true := by
              by_cases hj : i ∈ agJs as
              · obtain ⟨ob, hob⟩ := ao.ow i hj
                exact ⟨_, hob, rfl⟩
              · rw [agBack_out as 0 ρc ρ1 i hj] at hs
                exact ⟨s, hs, os⟩
            obtain ⟨s', hs', os'⟩ := hi
            exact S1.notAt n1 i s' hs' os' e
      | err cn x =>
        cases e0
        intro cls d H' f' g S' er
        obtain ⟨S3, g3⟩ := caller_out (f2 := f1) S1 r ao g S' (fun b z => .inl z) (fun b z => .inl z) (fun b z => z) (fun b z => z) (n12 g S') S1.on rfl rfl rfl
        obtain ⟨dd, v, h1, h2, h3, h4⟩ := er
        exact p0 cls d H' f1 (g1.trans g3) S3 ⟨dd, v, h1, h2, h3, h4.mono (Mo.weak (n12 g S'))⟩
  · cases e0
section
variable {X : Cx} {c : Cfg} {E : L2.St → XK} {j k : Nat} {x : Str} {io : List Nat} {F : FnD} {np : Nat} {e : Expr} {es : List Expr} {ma : M (List Ag)} {p pos : Pos}
theorem de_call (cv : CalV X.prog X.w X.K X.mg X.base k x (spD (c.at io) np F)) (hr : RoomG j X.A) (hk : k ≤ j) (hg : Gl X x) (hx : ∀ σ, PassesAt (L2N.CX X.prog X.w) X σ (E σ)) (ha : PA X (e :: es) (tAg c E ma)) (hnp : ∀ ρ as ρ1, ma ρ = some (.ok as, ρ1) → as.length = np)
    (hdb : (x == ("__debug__" : Str)) = false := by decide) (hst : starEach (e :: es) X.env = (false, eval e X.env) :: starEach es X.env := by rfl) (hpl : (backTo pos (starEach es X.env)).any (·.1) = false := by rfl) :
    PE X (.Call (.Name x p) (e :: es) [] pos) (tX c E (mCallX io F ma)) := by
  refine peMono (pe_v cv hr hk hg hx ha hdb hst hpl) fun σ H Q ⟨f, ρ, S, q⟩ => x_call hnp ⟨f, ρ, S, q.bind fun r ρ1 _ h1 => ?_⟩
  obtain ⟨d, e, z⟩ := h1.lift
  cases r with
  | dat d' =>
    cases e
    exact z
  | fr o => cases e
theorem dl_call (cv : CalV X.prog X.w X.K X.mg X.base k x (spD (c.at io) np F)) (hr : RoomG j X.A) (hk : k ≤ j) (hg : Gl X x) (hx : ∀ σ, PassesAt (L2N.CX X.prog X.w) X σ (E σ)) (ha : PA X (e :: es) (tAg c E ma)) (hnp : ∀ ρ as ρ1, ma ρ = some (.ok as, ρ1) → as.length = np)
    (hdb : (x == ("__debug__" : Str)) = false := by decide) (hst : starEach (e :: es) X.env = (false, eval e X.env) :: starEach es X.env := by rfl) (hpl : (backTo pos (starEach es X.env)).any (·.1) = false := by rfl) :
    PE X (.Call (.Name x p) (e :: es) [] pos) (tL c E (mCallL io F ma)) := by
  refine peMono (pe_v cv hr hk hg hx ha hdb hst hpl) fun σ H Q ⟨f, ρ, S, q⟩ => x_call hnp ⟨f, ρ, S, q.bind fun r ρ1 _ h1 => ?_⟩
  obtain ⟨d, e, z⟩ := h1.lift
  cases r with
  | dat d' => cases e
  | fr o =>
    cases e
    exact z
end
/-- how many arguments -/
theorem ga_nil {ρ ρ1 : List Sl} {as : List Ag} (h : gaNil ρ = some (.ok as, ρ1)) : as.length = 0 := by
  cases h
  rfl
theorem gaD_len {a : M PyData} {b : M (List Ag)} {n : Nat} (hb : ∀ ρ as ρ1, b ρ = some (.ok as, ρ1) → as.length = n) : ∀ ρ as ρ1, gaD a b ρ = some (.ok as, ρ1) → as.length = n + 1 := by
  intro ρ as ρ1 h
  unfold gaD M.bind at h
  cases ha : a ρ with
  | none =>
    rw [ha] at h
    cases h
  | some q =>
    obtain ⟨q1, q2⟩ := q
    rw [ha] at h
    cases q1 with
    | err _ _ => cases h
    | ok x =>
      dsimp only at h
      cases hb' : b q2 with
      | none =>
        rw [hb'] at h
        cases h
      | some z =>
        obtain ⟨z1, z2⟩ := z
        rw [hb'] at h
        cases z1 with
        | err _ _ => cases h
        | ok xs =>
          cases h
          rw [List.length_cons, hb _ _ _ hb']
theorem gaC_len {j : Nat} {b : M (List Ag)} {n : Nat} (hb : ∀ ρ as ρ1, b ρ = some (.ok as, ρ1) → as.length = n) : ∀ ρ as ρ1, gaC j b ρ = some (.ok as, ρ1) → as.length = n + 1 := by
  intro ρ as ρ1 h
  unfold gaC at h
  split at h
  · unfold M.bind at h
    cases hb' : b ρ with
    | none =>
      rw [hb'] at h
      cases h
    | some z =>
      obtain ⟨z1, z2⟩ := z
      rw [hb'] at h
      cases z1 with
      | err _ _ => cases h
      | ok xs =>
        cases h
        rw [List.length_cons, hb _ _ _ hb']
  · cases h
theorem gaS_len {j : Nat} {b : M (List Ag)} {n : Nat} (hb : ∀ ρ as ρ1, b ρ = some (.ok as, ρ1) → as.length = n) : ∀ ρ as ρ1, gaS j b ρ = some (.ok as, ρ1) → as.length = n + 1 := by
  intro ρ as ρ1 h
  unfold gaS at h
  split at h
  · unfold M.bind at h
    cases hb' : b ρ with
    | none =>
      rw [hb'] at h
      cases h
    | some z =>
      obtain ⟨z1, z2⟩ := z
      rw [hb'] at h
      cases z1 with
      | err _ _ => cases h
      | ok xs =>
        cases h
        rw [List.length_cons, hb _ _ _ hb']
  · cases h
end Ev

set_option Elab.async false
set_option linter.all false
set_option maxRecDepth 100000
set_option maxHeartbeats 4000000
/-! Ev: errors raised and caught; what a slot holds, called. -/
namespace Ev
open PySem PySem.Spec PyProof.Rows L2 Ed

/-! ### raise -/
def sRaise (cn : Str) (m : M PyData) : SM := sOf m fun d ρ => some (.err cn d, ρ)
section
variable {X : Cx} {c : Cfg}
theorem ds_raise {W : WX} {x : Str} {C fI : Addr} {fd : FuncData} {p pos pos' : Pos} {e : Expr} {m : M PyData} {k : Nat} (hc : X.calm = true) (tk : L2N.Takes X W) (T : ErrK X.K X.mg x C fI) (tI : PySem.W.typeIn X.K (.ref fI) = some (.type "function"))
    (F : FnOk X.prog X.w X.K X.mg X.base CX0 k fI fd ["self", "what"] (spErrInit X.K)) (b : L2.Binds X.K fd ["self", "what"] []) (hr : Room (k + 1) X.A) (hg : Gl X x) (hcl : c.cl x = C) (he : PE X e (tX c (WE W) m))
    (hdb : (x == ("__debug__" : Str)) = false := by decide) (hst : starEach (e :: []) X.env = (false, eval e X.env) :: starEach [] X.env := by rfl) (hpl : (backTo pos (starEach [] X.env)).any (·.1) = false := by rfl) :
    PS X (.Raise (some (.Call (.Name x p) [e] [] pos)) none pos') (tS c (WE W) (sRaise x m)) := by
  refine psMono (L2N.ps_raise hc tk (pmk_err T tI F b hr hg (pa_cons he pa_nil hst) hdb hst hpl)) fun D σ H ⟨f, ρ, S, q⟩ => ⟨f, ρ, S, s_of q fun d ρ1 _ ⟨o, ρ', e, p⟩ v H' f' g S' r => ?_⟩
  cases e
  exact err_inner T fun dd H2 nm hn hx ex => p (.ref C) (some dd) σ H2 f' (g.trans (Gr.ext ex)) (S'.ext ex) ⟨dd, (v, nm), by rw [hcl], rfl, hx, r.mono (Ext.mo ex)⟩
end

/-! ### try .. except x as n -/
def Cfg.exc (c : Cfg) (i : Nat) (a dd : Addr) (x : PyData) : Cfg := ⟨c.P, c.w, c.K, c.mg, c.base, c.T, c.cl, c.lv, c.io, [(dd, x)], [(i, a)]⟩
def Fm.subO (f : Fm) (p : Addr) : Fm := ⟨f.N, fun b => f.O b ∧ b ≠ p, f.B, f.N0, f.ad⟩
section
variable {c : Cfg} {f f' : Fm} {σ σ' : L2.St} {H H' : Hp} {ρ ρ' : List Sl} {i : Nat} {a dd : Addr} {x : PyData}
theorem loc_exc {j : Nat} (h : c.loc j = true) (n : i ≠ j) : (c.exc i a dd x).loc j = true := by
  unfold Cfg.loc at h ⊢
  rw [Bool.and_eq_true] at h
  rw [Bool.and_eq_true]
  refine ⟨h.1, ?_⟩
  show (!(List.any [(i, a)] fun q => q.1 == j)) = true
  have : (i == j) = false := by
    rw [beq_eq_false_iff_ne]
    exact n
  simp [this]
/-- the suite begins -/
theorem StR.toExc {w : V × Str} (S : StR c f σ H ρ) (hd : H dd = some (.xd (xdw w.2 w.1))) (rw_ : Rp H f.N w.1 x) (hio : c.loc i = true) (hl : i < σ.length) : StR (c.exc i a dd x) (f.subO dd) (σ.set i (some (.ref a))) H (ρ.set i .no) := by
  have ni := loc_io hio
  refine ⟨by rw [List.length_set, List.length_set, S.len], fun j s h ns => ?_, fun j k b s t h1 h2 o1 o2 e1 e2 => ?_, fun b z => S.on b z.1, S.nk, S.n0, S.bk, fun j b s h o e nj => ?_, fun j hj => ?_, S.tabs, fun q hq => ?_, fun q hq => ?_⟩
  · rcases get_set h with ⟨rfl, rfl⟩ | ⟨n, h⟩
    · exact (ns rfl).elim
    · obtain ⟨v, e, r⟩ := S.sl j s h ns
      refine ⟨v, by rw [List.getElem?_set_ne n]; exact e, ?_⟩
      cases s with
      | own o =>
        obtain ⟨b, u, rfl, ho, hb, hr⟩ := r
        refine ⟨b, u, rfl, ⟨ho, fun z => ?_⟩, hb, hr⟩
        rw [z, hd] at hb
        cases hb
        cases o <;> exact hr
      | no => trivial
      | dat d => exact r
      | fn F => exact r
      | scr ns => exact r
  · rcases get_set h1 with ⟨rfl, rfl⟩ | ⟨n1, h1⟩
    · cases o1
    · rcases get_set h2 with ⟨rfl, rfl⟩ | ⟨n2, h2⟩
      · cases o2
      · rw [List.getElem?_set_ne n1] at e1
        rw [List.getElem?_set_ne n2] at e2
        exact S.dis j k b s t h1 h2 o1 o2 e1 e2
  · rcases get_set h with ⟨rfl, rfl⟩ | ⟨n1, h⟩
    · cases o
    · rw [List.getElem?_set_ne n1] at e
      exact S.ob j b s h o e nj
  · have n : i ≠ j := fun z => ni (z ▸ hj)
    rw [List.getElem?_set_ne n, List.getElem?_set_ne n]
    exact S.io j hj
  · have hq : q ∈ [(dd, x)] := hq
    rw [List.mem_singleton] at hq
    subst hq
    exact ⟨w, hd, rw_, fun z => z.2 rfl⟩
  · have hq : q ∈ [(i, a)] := hq
    rw [List.mem_singleton] at hq
    subst hq
    exact List.getElem?_set_self hl
/-- the suite ends -/
theorem StR.ofExc (S : StR (c.exc i a dd x) f σ H ρ) (hk : c.kp = []) (hfx : c.fx = []) (hio : c.loc i = true) : StR c f (σ.set i none) H (ρ.set i .no) := by
  have ni := loc_io hio
  refine ⟨by rw [List.length_set, List.length_set, S.len], fun j s h ns => ?_, fun j k b s t h1 h2 o1 o2 e1 e2 => ?_, S.on, S.nk, S.n0, S.bk, fun j b s h o e nj => ?_, fun j hj => ?_, S.tabs, fun q hq => ?_, fun q hq => ?_⟩
  · rcases get_set h with ⟨rfl, rfl⟩ | ⟨n, h⟩
    · exact (ns rfl).elim
    · obtain ⟨v, e, r⟩ := S.sl j s h ns
      exact ⟨v, by rw [List.getElem?_set_ne n]; exact e, r⟩
  · rcases get_set h1 with ⟨rfl, rfl⟩ | ⟨n1, h1⟩
    · cases o1
    · rcases get_set h2 with ⟨rfl, rfl⟩ | ⟨n2, h2⟩
      · cases o2
      · rw [List.getElem?_set_ne n1] at e1
        rw [List.getElem?_set_ne n2] at e2
        exact S.dis j k b s t h1 h2 o1 o2 e1 e2
  · rcases get_set h with ⟨rfl, rfl⟩ | ⟨n1, h⟩
    · cases o
    · rw [List.getElem?_set_ne n1] at e
      exact S.ob j b s h o e nj
  · have n : i ≠ j := fun z => ni (z ▸ hj)
    rw [List.getElem?_set_ne n, List.getElem?_set_ne n]
    exact S.io j hj
  · rw [hk] at hq
    cases hq
  · rw [hfx] at hq
    cases hq
theorem Gr.ofExc (g : Gr (c.exc i a dd x) (f.subO dd) H f' H') : Gr c f H f' H' :=
  ⟨⟨fun b o n e t => g.st.keep b o (fun z => n z.1) e t, g.st.imm, g.st.live, g.st.tabs⟩, g.nn, fun b z => (g.oo b z).imp (fun y => y.1) id, g.B, g.n0, g.ad⟩
end
def sTryAs (L : List Str) (i : Nat) (mb : SM) (ms : Str → PyData → SM) : SM := fun ρ => match mb ρ with
  | some (.err cn x, ρ1) => if cn ∈ L ∧ i < ρ1.length then (match ms cn x (ρ1.set i .no) with
    | some (.err _ _, _) => none
    | some (o, ρ2) => some (o, ρ2.set i .no)
    | none => none) else none
  | r => r
section
variable {X : Cx} {c : Cfg}
theorem ds_tryAs {x n : Str} {cv : Value} {i : Nat} {body suite : List Stmt} {b₀ : Stmt} {np pos pos' : Pos} {Wout : WX} {L : List Str} {mb : SM} {ms : Str → PyData → SM} (hs : X.stack = X.env :: X.outer) (hf : X.env.frame = some X.env.locals) (hN : X.N.Nodup) (hi : X.N[i]? = some n) (hln : X.env.kindOf n = some .local) (hc : Names X x cv) (tk : L2N.Takes X Wout)
    (hio : c.loc i = true) (hk : c.kp = []) (hfx : c.fx = []) (hL : ∀ cn ∈ L, PySem.W.exmOne X.K (.ref (c.cl cn)) cv = some true)
    (hb : ∀ (W : WX) (pn : List (Addr × Obj)) (xe : Value → Shared → Prop), L2N.Takes (X.tr pn xe) W → PassesOwn (model X.prog X.w) X.A X.env xe → PSs (X.tr pn xe) body (tS c (WE W) mb))
    (hsu : ∀ (a : Addr) (oe : Obj) (cn : Str) (dd : Addr) (x : PyData) (pn : List (Addr × Obj)), cn ∈ L → L2N.Zn (.ref (c.cl cn)) (some dd) oe → (∃ vs, oe.data = .fields vs) → PSs (X.suite a ((a, oe) :: pn)) (b₀ :: suite) (tS (c.exc i a dd x) EN (ms cn x))) :
    PS X (.Try body [.ExceptHandler (some (.Name x np)) (some n) (b₀ :: suite) pos'] [] [] pos) (tS c (WE Wout) (sTryAs L i mb ms)) := by
  have go := L2N.ps_try_as (pos := pos) (pos' := pos') (np := np) (x := x) (ts := fun a cls d D σ H => ∃ dd cn x, cn ∈ L ∧ cls = .ref (c.cl cn) ∧ d = some dd ∧ tS (c.exc i a dd x) EN (ms cn x) D σ H) (tb := fun W => tS c (WE W) mb) hs hf hN hi hln hc tk hb fun a oe cls d pn hz hf2 =>
    ⟨fun pins s σ H D I ⟨dd, cn, x, h1, h2, h3, h4⟩ => by
      subst h2 h3
      exact (hsu a oe cn dd x pn h1 hz hf2).run pins s σ H D I h4⟩
  refine ⟨fun pins s σ H D I ⟨f, ρ, S, o, ρ', e, q⟩ => go.run pins s σ H D I ?_⟩
  unfold sTryAs at e
  cases hm : mb ρ with
  | none =>
    rw [hm] at e
    cases e
  | some z =>
    obtain ⟨o1, ρ1⟩ := z
    rw [hm] at e
    refine ⟨f, ρ, S, o1, ρ1, hm, ?_⟩
    cases o1 with
    | nx =>
      cases e
      exact q
    | brk =>
      cases e
      exact q
    | cnt =>
      cases e
      exact q
    | ret r =>
      cases e
      cases r with
      | dat d => exact q
      | fr o => exact q
    | err cn x =>
      dsimp only at e
      split at e
      · rename_i hcn'
        obtain ⟨hcn, hlen⟩ := hcn'
        intro cls d σ' H' f' g S' er
        obtain ⟨dd, w, rfl, rfl, hd, rw_⟩ := er
        refine ⟨true, hL cn hcn, fun _ a ha => ⟨dd, cn, x, hcn, rfl, rfl, f'.subO dd, ρ1.set i .no, ?_, ?_⟩, fun z => by cases z⟩
        · exact S'.toExc hd rw_ hio (by rw [← S'.len]; exact hlen)
        · cases hms : ms cn x (ρ1.set i .no) with
          | none =>
            rw [hms] at e
            cases e
          | some z =>
            obtain ⟨o2, ρ2⟩ := z
            rw [hms] at e
            refine ⟨o2, ρ2, rfl, ?_⟩
            have fin : ∀ {f3 : Fm} {H3 : Hp} {σ3 : L2.St}, Gr (c.exc i a dd x) (f'.subO dd) H' f3 H3 → StR (c.exc i a dd x) f3 σ3 H3 ρ2 → Gr c f H f3 H3 ∧ StR c f3 (σ3.set i none) H3 (ρ2.set i .no) := fun {f3 H3 σ3} g3 S3 => ⟨g.trans g3.ofExc, S3.ofExc hk hfx hio⟩
            cases o2 with
            | nx =>
              cases e
              exact fun σ3 H3 f3 g3 S3 => q _ H3 f3 (fin g3 S3).1 (fin g3 S3).2
            | brk =>
              cases e
              exact fun σ3 H3 f3 g3 S3 => q _ H3 f3 (fin g3 S3).1 (fin g3 S3).2
            | cnt =>
              cases e
              exact fun σ3 H3 f3 g3 S3 => q _ H3 f3 (fin g3 S3).1 (fin g3 S3).2
            | ret r =>
              cases e
              cases r with
              | dat d => exact fun v σ3 H3 f3 g3 S3 rv => q v _ H3 f3 (fin g3 S3).1 (fin g3 S3).2 rv
              | fr o =>
                exact fun p u σ3 H3 f3 g3 S3 op nb hp rr ns => q p u _ H3 f3 (fin g3 S3).1 (fin g3 S3).2 op nb hp rr fun j s hj os ej => by
                  rcases get_set hj with ⟨rfl, rfl⟩ | ⟨n1, hj⟩
                  · cases os
                  · rw [List.getElem?_set_ne n1] at ej
                    exact ns j s hj os ej
            | err _ _ => cases e
      · cases e
end
end Ev

set_option Elab.async false
set_option linter.all false
set_option maxRecDepth 100000
set_option maxHeartbeats 4000000
/-! Ev: what stands in a suite; functions in slots; join. -/
namespace Ev
open PySem PySem.Spec PyProof.Rows L2 Ed
section
variable {X : Cx} {c : Cfg} {i : Nat} {a dd : Addr} {x : PyData} {oe : Obj} {pn : List (Addr × Obj)} {E : L2.St → XK}
/-- isinstance(n, C), n what was caught -/
theorem de_isE {n C' : Str} {D C : Addr} {b : Bool} {p p2 p3 pos : Pos} (K : PySem.W.ErrC X.K D) (hz : Zc (.ref D) (some dd) oe) (hf : ∃ vs, oe.data = .fields vs) (hk : PySem.W.kitOne X.K (.ref D) (.ref C) = some b)
    (hg : Gl X "isinstance") (hm : X.mg "isinstance" = none) (hN : X.N[i]? = some n) (hv : Vis X.env.scope n) (hg2 : Gl X C') (hm2 : X.mg C' = some (.ref C))
    (hd : (n == ("__debug__" : Str)) = false := by decide) (hcd : (n == ("__classdict__" : Str)) = false := by decide) (hd2 : (C' == ("__debug__" : Str)) = false := by decide)
    (hs : starEach [.Name n p, .Name C' p2] X.env = (false, eval (.Name n p) X.env) :: starEach [.Name C' p2] X.env := by rfl) (hs2 : starEach [.Name C' p2] X.env = (false, eval (.Name C' p2) X.env) :: starEach [] X.env := by rfl) (hpl : (backTo pos (starEach [.Name C' p2] X.env)).any (·.1) = false := by rfl) :
    PE (X.suite a ((a, oe) :: pn)) (.Call (.Name "isinstance" p3) [.Name n p, .Name C' p2] [] pos) (tX (c.exc i a dd x) E (M.pure (.bool b))) := by
  refine peMono (pe_callB (X := X.suite a ((a, oe) :: pn)) (call_isErrK (X := X) (K := X.K) rfl hz hf) hg hm (by decide +kernel) (pa_cons (pe_var hN hv hd hcd) (pa_cons (pe_glob (v := .ref C) hg2 hm2 rfl hd2) pa_nil hs2) hs) (by decide) (by decide) hs hpl) fun σ H Q ⟨f, ρ, S, q⟩ => ?_
  have e1 : σ[i]? = some (some (.ref a)) := S.fx (i, a) (List.mem_singleton.mpr rfl)
  obtain ⟨w, h1, h2, h3⟩ := S.kp (dd, x) (List.mem_singleton.mpr rfl)
  exact ⟨.ref a, e1, .ref C, .ref C, b, D, dd, _, rfl, rfl, rfl, K, h1, fun u r => r, hk, q.pure _ H f (Gr.refl _ _) S (.bl b)⟩
/-- n.what -/
theorem de_what {n : Str} {D : Addr} {p pos : Pos} (K : PySem.W.ErrC X.K D) (hno : PySem.W.findIn X.K (.ref D) "what" = some none) (hz : Zc (.ref D) (some dd) oe) (hf : ∃ vs, oe.data = .fields vs) (hN : X.N[i]? = some n) (hv : Vis X.env.scope n)
    (hd : (n == ("__debug__" : Str)) = false := by decide) (hcd : (n == ("__classdict__" : Str)) = false := by decide) (hb : attributeBase (.Name n p) "what" X.env (eval (.Name n p) X.env) = eval (.Name n p) X.env := by rfl) :
    PE (X.suite a ((a, oe) :: pn)) (.Attribute (.Name n p) "what" pos) (tX (c.exc i a dd x) E (M.pure x)) := by
  refine peMono (pe_xf (xfc_of K) hno hz hf (pe_var (X := X.suite a ((a, oe) :: pn)) hN hv hd hcd) hb) fun σ H Q ⟨f, ρ, S, q⟩ => ?_
  have e1 : σ[i]? = some (some (.ref a)) := S.fx (i, a) (List.mem_singleton.mpr rfl)
  obtain ⟨w, h1, h2, h3⟩ := S.kp (dd, x) (List.mem_singleton.mpr rfl)
  exact ⟨.ref a, e1, rfl, rfl, dd, _, w.1, rfl, h1, rfl, q.pure w.1 H f (Gr.refl _ _) S h2⟩
end
/-! ### a function that a slot holds -/
def mFn (i : Nat) (ma : M (List PyData)) : M PyData := fun ρ => match ρ[i]? with
  | some (.fn F) => (ma.bind fun ds ρ => match F ds with
    | some (.ok d) => some (.ok d, ρ)
    | some (.err cn x) => some (.err cn x, ρ)
    | none => none) ρ
  | _ => none
section
variable {X : Cx} {c : Cfg} {i j : Nat} {E : L2.St → XK} {x : Str} {p pos : Pos}
theorem Fu.gr {f f' : Fm} {H H' : Hp} (g : Gr c f H f' H') : Fu c.T H H' := Fu.of g.st
theorem sp_fn {f : Fm} {σ : L2.St} {H : Hp} {ρ : List Sl} {vs : List V} {ds : List PyData} {F : List PyData → Option (Rs PyData)} {Q : VK} (S : StR c f σ H ρ) (r : RpAll H f.N vs ds) (h : RX c E f σ (fun ρ => match F ds with
    | some (.ok d) => some (.ok d, ρ)
    | some (.err cn x) => some (.err cn x, ρ)
    | none => none) (OkX c σ Q) ρ H) : spF c F vs H Q (E σ) := by
  obtain ⟨r0, ρ0, e0, p0⟩ := h
  dsimp only at e0
  cases hF : F ds with
  | none =>
    rw [hF] at e0
    cases e0
  | some z =>
    rw [hF] at e0
    refine ⟨f.N, fun _ => False, ds, fun b z => z.elim, S.nk, r, S.tabs, z, hF, ?_⟩
    have gr : ∀ {H' : Hp}, Step c.T (fun _ => False) H H' → Gr c f H f H' := fun {H'} st => Gr.of ⟨fun b o _ e t => st.keep b o (fun z => z) e t, st.imm, st.live, st.tabs⟩
    have str : ∀ {H' : Hp}, Step c.T (fun _ => False) H H' → StR c f σ H' ρ := fun {H'} st => by
      have mo := (gr st).mo S.on
      refine ⟨S.len, fun k s h n => ?_, S.dis, S.on, fun b z => st.live b (S.nk b z), S.n0, fun b z => st.live b (S.bk b z), S.ob, S.io, st.tabs S.tabs, fun q hq => ?_, S.fx⟩
      · obtain ⟨v, e, r⟩ := S.sl k s h n
        refine ⟨v, e, r.mono mo (fun a u ha ho hs hv => ⟨st.keep a u (fun z => z) ha fun ps z => ?_, ho⟩) (Fu.of st)⟩
        cases s with
        | own o =>
          obtain ⟨a2, u2, rfl, _, ha2, hr2⟩ := r
          cases hv
          rw [ha] at ha2
          cases ha2
          exact hr2.notTbl ps z
        | _ => cases hs
      · obtain ⟨w, h1, h2, h3⟩ := S.kp q hq
        exact ⟨w, st.keep _ _ (fun z => z) h1 (by simp), h2.mono mo, h3⟩
    cases z with
    | ok d =>
      cases e0
      exact fun v H' st rv => p0 v H' f (gr st) (str st) rv
    | err cn x =>
      cases e0
      exact fun cls d H' st er => p0 cls d H' f (gr st) (str st) er
theorem de_fn0 (hq : X.prog = c.P ∧ X.w = c.w ∧ X.K = c.K ∧ X.mg = c.mg ∧ X.base = c.base) (hr : RoomG j X.A) (hj : c.lv ≤ j) (hN : X.N[i]? = some x) (hv : Vis X.env.scope x) (hx : ∀ σ, PassesAt (L2N.CX X.prog X.w) X σ (E σ))
    (hdb : (x == ("__debug__" : Str)) = false := by decide) (hcd : (x == ("__classdict__" : Str)) = false := by decide) : PE X (.Call (.Name x p) [] [] pos) (tX c E (mFn i mNil)) := by
  refine peMono (pe_vl0K (P := c.P) (w := c.w) (K := c.K) (mg := c.mg) (base := c.base) (j := j) (i := i) (E := E) hq hr hN hv hx hdb hcd) fun σ H Q ⟨f, ρ, S, r0, ρ0, e0, p0⟩ => ?_
  unfold mFn at e0
  cases hi : ρ[i]? with
  | none =>
    rw [hi] at e0
    cases e0
  | some s =>
    rw [hi] at e0
    cases s with
    | fn F =>
      obtain ⟨v, e1, g, rfl, sp, hf, hs⟩ := S.sl i _ hi (fun z => nomatch z)
      obtain ⟨isf, hsp⟩ := hs H ⟨fun _ _ _ z => z, fun t => t⟩
      exact ⟨g, sp, e1, hf.mono hj, isf, isf, hsp [] Q (E σ) (sp_fn (c := c) (f := f) (ds := []) S .nil ⟨r0, ρ0, e0, p0⟩)⟩
    | _ => cases e0
/-! ### join -/
def strsOf : List PyData → Option (List Str)
  | [] => some []
  | .str x :: ds => (strsOf ds).map fun xs => x :: xs
  | _ => none
def dJoin (a : Str) (d : PyData) : Option PyData := match d with
  | .list ds => (strsOf ds).bind fun ys => if (ys.map (·.length)).sum + ys.length * a.length ≤ 1000000 then some (.str (Txt.join a ys)) else none
  | _ => none
theorem RpAll.strs {H : Hp} {N : As} : ∀ {ds : List PyData} {vs : List V} {ys : List Str}, RpAll H N vs ds → strsOf ds = some ys → vs = ys.map V.str
  | [], _, _, .nil, e => by
    cases e
    rfl
  | d :: ds, v :: vs, ys, .cons a b, e => by
    cases d with
    | str x =>
      have e : (strsOf ds).map (fun xs => x :: xs) = some ys := e
      cases h : strsOf ds with
      | none =>
        rw [h] at e
        cases e
      | some zs =>
        rw [h] at e
        cases e
        cases a
        rw [RpAll.strs b h]
        rfl
    | _ => cases e
theorem de_join {a : Str} {jj : Nat} {p apos cpos : Pos} {e : Expr} {m : M PyData} (he : PE X e (tX c E m))
    (hbase : attributeBase (.Constant (.str a) jj p) "join" X.env (eval (.Constant (.str a) jj p) X.env) = eval (.Constant (.str a) jj p) X.env := by rfl)
    (hfew : ((backTo cpos (starEach [e] X.env)).all (fun x => !x.1) && (backToKw cpos (keywordEach [] X.env)).all (fun x => x.1.isSome)
      && decide ([e].length + ([] : List Keyword).length + (if ([] : List Keyword).isEmpty then 0 else 1) < 30)) = true := by rfl)
    (hline : (apos.endLine == cpos.line) = true := by rfl) (hs : starEach [e] X.env = (false, eval e X.env) :: starEach [] X.env := by rfl) (hplain : (backTo cpos (starEach [] X.env)).any (·.1) = false := by rfl) :
    PE X (.Call (.Attribute (.Constant (.str a) jj p) "join" apos) [e] [] cpos) (tX c E (m1 (dJoin a) m)) := by
  refine peMono (pe_bm PySem.F.plainAttrs_str PySem.F.slot_str_join PySem.F.type_str_join mt_join pe_str (pa_cons he pa_nil hs) hbase hfew hline hs hplain) fun σ H Q ⟨f, ρ, S, q⟩ => ?_
  refine ⟨rfl, ?_⟩
  refine x_bind S q reb_X fun d ρ1 v H1 f1 _ g1 S1 r1 h1 => ?_
  obtain ⟨d2, e, q⟩ := h1.lift
  cases d with
  | list ds =>
    have e : ((strsOf ds).bind fun ys => if (ys.map (·.length)).sum + ys.length * a.length ≤ 1000000 then some (PyData.str (Txt.join a ys)) else none) = some d2 := e
    cases hs : strsOf ds with
    | none =>
      rw [hs] at e
      cases e
    | some ys =>
      rw [hs] at e
      have e : (if (ys.map (·.length)).sum + ys.length * a.length ≤ 1000000 then some (PyData.str (Txt.join a ys)) else none) = some d2 := e
      split at e
      · rename_i hz
        cases e
        obtain ⟨b, zs, rfl, hb, _, az⟩ := r1.list_inv
        have := az.strs hs
        subst this
        exact ⟨a, b, ys, rfl, rfl, .inl (.inl (.inl hb)), by omega, q _ H1 f1 (Gr.refl _ _) S1 (.str _)⟩
      · cases e
  | _ => cases e
end
end Ev

set_option Elab.async false
set_option linter.all false
set_option maxRecDepth 100000
set_option maxHeartbeats 4000000
/-! Ev: a list comprehension over a list while an error is handled. -/
namespace PySem.W
open PySem PySem.Spec PyProof HotX
section
variable {prog : Program} {w : World} {A : Around} {E : Value → Shared → Prop} {s : Shared}
/-- the end of a list's iterator while x1 is handled -/
theorem list_end_hot {it l x1 : Addr} {i : Nat} {items : Array Value} {Q : Option Value → Shared → Prop} (hot : HotAt A x1 s.heap) (hit : s.heap.IsListIter it l i) (hl : s.heap.IsList l items) (hx : items[i]? = none)
    (hQ : ∀ h', (∀ b o, b ≠ it → s.heap.get? b = some o → h'.get? b = some o) → Q none { s with heap := h' }) : wpAny (model prog w) A (pyNext (.ref it)) Q E s := by
  obtain ⟨o, ho, hc, hd⟩ := id hit
  obtain ⟨ol, hol, hcl, nl, hdl⟩ := hl
  obtain ⟨hh, o1, vs1, h1, d1, c1⟩ := hot
  have ne : x1 ≠ it := fun z => by
    rw [z, ho] at h1
    cases h1
    rw [hd] at d1
    have d2 := Data.fields.inj d1
    rw [← d2] at c1
    cases c1
  unfold pyNext
  refine wpAny_bind (wpAny_attempt (wpAny_callSpecial?_slot (name := Str.ofString "__next__") hit.typeIs slot_listiter_next (wpAny_call_entry slot_listiter_next hit.typeIs entry_listiter_next ?_ (args_listiter_next _))))
  show wpAny _ _ (field (.ref it) 0 >>= _) _ _ s
  refine wpAny_bind (wpAny_field ho hd (x := .ref l) rfl ?_)
  show wpAny _ _ (if (Value.ref l == Value.none) = true then _ else _) _ _ s
  rw [if_neg (show ¬ ((Value.ref l == Value.none) = true) from Bool.false_ne_true)]
  show wpAny _ _ (field (.ref it) 1 >>= _) _ _ s
  refine wpAny_bind (wpAny_field ho hd (x := .int i 0) rfl ?_)
  show wpAny _ _ (seqItems? (.ref l) >>= _) _ _ s
  refine wpAny_bind (wpAny_seqItems hol hdl ?_)
  simp only [Int.toNat_natCast, hx]
  refine wpAny_bind (wpAny_rule (wpAny_bind (wpAny_setField ho hd (by simp) ?_)))
  show wpAny _ _ (newExc (.type "StopIteration") [] >>= _) _ _ _
  refine wpAny_bind ?_
  simp only [newExc, newTuple]
  refine wpAny_bind (wpAny_newObj_type ?_ (by size_fits))
  refine wpAny_bind (m := firstArgMember _ _) (wpAny_of_eq (a := Value.none) (by first | rfl | (simp only [firstArgMember]; rfl)) ?_)
  refine wpAny_newObj_type ?_ (by size_fits)
  have k1 : (s.heap.update it (Obj.mapFields (·.setIfInBounds 0 .none))).get? x1 = some o1 := (Heap.get?_update_other _ _ (Ne.symm ne)).trans h1
  refine raiseNew_hot ⟨hh, o1, vs1, Heap.get?_push_of_some _ (Heap.get?_push_of_some _ k1), d1, c1⟩ (Nat.ne_of_lt (Heap.lt_size (Heap.get?_push_of_some _ k1))) (Heap.get?_push_size _ rfl) rfl (by first | (simp; done) | (simp; omega) | (simp only [Array.size_append]; simp; omega)) ?_
  refine wpAny_bind (wpAny_isInstance (T := "StopIteration") (b := true) ⟨_, Heap.get?_update_self _ (Heap.get?_push_size _ rfl) rfl, rfl⟩ isSubtype_stop ?_)
  refine wpAny_pure (hQ _ fun b o nb e => ?_)
  have kb : (s.heap.update it (Obj.mapFields (·.setIfInBounds 0 .none))).get? b = some o := (Heap.get?_update_other _ _ (Ne.symm nb)).trans e
  rw [Heap.get?_update_other _ _ (Nat.ne_of_gt (Heap.lt_size (Heap.get?_push_of_some _ kb)))]
  exact Heap.get?_push_of_some _ (Heap.get?_push_of_some _ kb)
end
end PySem.W
namespace Ev
open PySem PySem.Spec PyProof.Rows L2 Ed
section
variable {X : Cx}
theorem pe_lcH {elt tg iter : Expr} {ifs : List Expr} {scope : Scope} {own : List (Str × Nat)} {pos : Pos} {tl : TE} {g : TG} {tt : TT} {te : TE} (hc : L2H.HotC X) (hN : X.N.Nodup) (hl : PE X iter tl) (ok : BlkOk X.N X.env.scope scope own)
    (hg : ∀ (s : Shared) (H : Hp) (C : Addr) (cl : List (Str × Addr)) (fp : List Addr), PG (X.blk s H scope (compEnvC scope cl C X.env) fp) tg g) (ht : ∀ (s : Shared) (H : Hp) (C : Addr) (cl : List (Str × Addr)) (fp : List Addr), PTs (X.blk s H scope (compEnvC scope cl C X.env) fp) ifs tt)
    (he : ∀ (s : Shared) (H : Hp) (C : Addr) (cl : List (Str × Addr)) (fp : List Addr), PE (X.blk s H scope (compEnvC scope cl C X.env) fp) elt te) (hs : ∀ x, foldedSetIterable iter X.env x = pure x := by intro _; rfl) :
    PE X (.ListComp elt [⟨tg, iter, ifs, 0⟩] scope pos) (tLc (iList X.K tl) g tt te (own.map (·.2))) := by
  refine ⟨fun pins s σ H Q I h => ?_⟩
  rw [eval_ListComp]
  have cap : ∀ y ∈ scope.names, y.2 = .free → ∃ c, X.env.cells.lookup y.1 = some c := fun y hy e => (ok.free y hy e).elim (fun k => I.ok.has _ (.inl k)) fun k => I.ok.has _ (.inr k)
  refine wpAny_comprehension_free (use := none) rfl hs (closure_ok cap) ok.kind (fun y hy e => by rw [ok.uniq y hy, e]) (thn (hl.run pins s σ H _ I h) fun xv s1 ⟨x0, H1, I1, r1, a, ex, ⟨xs0, hq0⟩, q⟩ => ?_)
  subst ex
  cases r1
  obtain ⟨its, rv, pl, hz⟩ := I1.list hq0
  refine wpAny_pyIter_list pl.isList ?_
  -- the iterator stands at t
  generalize hT : s1.heap.objs.size = t
  generalize hs2 : ({ s1 with heap := s1.heap.push { cls := .type "list_iterator", data := .fields #[.ref a, .int 0 0] } } : Shared) = s2
  have k12 : ∀ b o, s1.heap.get? b = some o → s2.heap.get? b = some o := fun b o e => by rw [← hs2]; exact Heap.get?_push_of_some _ e
  have I2 : Inv X pins σ H1 s2 := by
    rw [← hs2]
    exact I1.kept (t' := s1.toks) fun b o e => Heap.get?_push_of_some _ e
  have st2 : s2.heap.IsListIter t a 0 := by
    rw [← hs2, ← hT]
    exact ⟨_, Heap.get?_push_size _ rfl, rfl, rfl⟩
  have f2 : FpOk X pins H1 t := by
    rw [← hT]
    exact I1.fpOk (Nat.le_refl _) (I1.hok.fresh (Nat.le_refl _))
  refine wpAny_newObj_type (newEnv_comp ?_) (by show 0 ≤ sizeLine; decide)
  generalize hD : s2.heap.objs.size = D
  have nD : H1 D = none := I2.hok.fresh (Nat.le_of_eq hD)
  obtain ⟨W, ⟨m0, w0⟩, turn⟩ := q D nD
  generalize hs3 : ({ s2 with heap := s2.heap.push { cls := .type "list", data := .seq ([] : List Value).toArray } } : Shared) = s3
  have k23 : ∀ b o, s2.heap.get? b = some o → s3.heap.get? b = some o := fun b o e => by rw [← hs3]; exact Heap.get?_push_of_some _ e
  have I3 : Inv X pins σ (upd H1 D (.lst [])) s3 := by
    rw [← hs3]
    exact I2.laid (t' := s2.toks) (fun b o e => Heap.get?_push_of_some _ e) (Nat.le_of_eq hD) ⟨Nat.zero_le _, [], 0, .nil, by rw [← hD]; exact Heap.get?_push_size _ rfl⟩
  have st3 : s3.heap.IsListIter t a 0 := st2.at fun o e => k23 t o e
  have tlt : t < s2.heap.objs.size := by
    obtain ⟨o, e, _⟩ := st2
    exact Heap.lt_size e
  have fb : ∀ b ∈ [t], FpOk X pins (upd H1 D (.lst [])) b ∧ b < s3.heap.objs.size := fun b hb => by
    cases List.mem_singleton.mp hb
    refine ⟨⟨(upd_ne (by rw [← hD]; exact Nat.ne_of_lt tlt)).trans f2.1, f2.2⟩, ?_⟩
    obtain ⟨o, e, _⟩ := st3
    exact Heap.lt_size e
  have I4 := block_start (scope := scope) (own := own) (fp := [t]) I3 ok hN fb
  have pg := hg s3 (upd H1 D (.lst [])) s3.heap.objs.size (cellsFrom (s3.heap.objs.size + 1) scope.names (cloFrom X.env.cells scope.names [])) [t]
  have pt := ht s3 (upd H1 D (.lst [])) s3.heap.objs.size (cellsFrom (s3.heap.objs.size + 1) scope.names (cloFrom X.env.cells scope.names [])) [t]
  have pe := he s3 (upd H1 D (.lst [])) s3.heap.objs.size (cellsFrom (s3.heap.objs.size + 1) scope.names (cloFrom X.env.cells scope.names [])) [t]
  show codeAny _ _ (.compStart (.ListComp elt [⟨tg, iter, ifs, 0⟩] scope pos) 0 (.ref t) (.ref D) (compEnvC scope (cellsFrom (s3.heap.objs.size + 1) scope.names (cloFrom X.env.cells scope.names [])) s3.heap.objs.size X.env)) (compPost (model X.prog X.w) X.A X.xe none (EP X pins σ Q) (.ref D) s3.heap.objs.size) { s3 with heap := pushCells (s3.heap.push { cls := .type "dict", data := .dict #[] }) scope.names }
  have nt0 : (upd H1 D (.lst [])) t = none := (fb t (List.mem_singleton.mpr rfl)).1.1
  generalize hce : compEnvC scope (cellsFrom (s3.heap.objs.size + 1) scope.names (cloFrom X.env.cells scope.names [])) s3.heap.objs.size X.env = ce at I4 pg pt pe ⊢
  have cL : ce.locals = s3.heap.objs.size := by subst hce; rfl
  generalize hH3 : upd H1 D (.lst []) = H3 at I3 I4 pg pt pe w0 nt0 fb
  generalize hs4 : ({ s3 with heap := pushCells (s3.heap.push { cls := .type "dict", data := .dict #[] }) scope.names } : Shared) = s4 at I4 ⊢
  have st4 : s4.heap.IsListIter t a 0 := st3.at fun o e => by rw [← hs4]; exact pushCells_keeps _ _ _ _ (Heap.get?_push_of_some _ e)
  -- in the block the iterator is its own
  have own_ : ∀ {σ' : L2.St} {H' : Hp} {s' : Shared}, Inv (X.blk s3 H3 scope ce [t]) [] σ' H' s' → H' t = none → FpOk (X.blk s3 H3 scope ce [t]) [] H' t := fun {σ' H' s'} I' n =>
    ⟨n, (I'.ok.exf t (List.mem_singleton.mpr rfl)).1, I'.ok.exfs t (List.mem_singleton.mpr rfl), .inl (List.mem_singleton.mpr rfl), fun x c e => (I'.ok.exf t (List.mem_singleton.mpr rfl)).2 x c e, fun p hp => absurd (show p ∈ ([] : List (Addr × Obj)) ++ [] from hp) (by simp)⟩
  -- the def's own words, from the block's
  have home : ∀ {σ' : L2.St} {H' : Hp} {s' : Shared}, Inv (X.blk s3 H3 scope ce [t]) [] σ' H' s' → Inv X pins σ H' s' := fun {σ' H' s'} I' =>
    I3.call' (ch := [t]) I'.os I'.base I'.hok I'.bare fun b hb => ⟨(fb b hb).1.2.2.2.1, (fb b hb).1.2.1, (fb b hb).1.2.2.2.2.1, (fb b hb).1.2.2.2.2.2⟩
  have loop : codeAny (model X.prog X.w) X.A (.compLoop (.ListComp elt [⟨tg, iter, ifs, 0⟩] scope pos) 0 (.ref t) (.ref D) ce) (compPost (model X.prog X.w) X.A X.xe none (EP X pins σ Q) (.ref D) s3.heap.objs.size) s4 := by
    refine compLoop_any (fun n s' => ∃ i H', Inv (X.blk s3 H3 scope ce [t]) [] (L2.wipe σ (own.map (·.2))) H' s' ∧ s'.heap.IsListIter t a i ∧ H' t = none ∧ W i n H') ?_ m0 ⟨0, H3, I4, st4, nt0, w0⟩
    rintro n s5 ⟨i, H5, I5, st5, n5, w5⟩
    have fp5 := own_ I5 n5
    obtain ⟨f0, f1, f3, f4, f5, f6⟩ := fp5
    rcases turn i n H5 w5 with ⟨⟨ys, hys, hle⟩, qq⟩ | ⟨⟨ys, x, hys, hx⟩, Nx, hNx, step⟩
    · obtain ⟨its5, rv5, pl5, _⟩ := I5.list hys
      have h5 := home I5
      obtain ⟨x1, hot⟩ := hc.at h5
      have hl5 := rv5.length
      refine PySem.W.list_end_hot (l := a) hot st5 pl5.isList (by simp; omega) fun h' kp => ?_
      have I6 : Inv (X.blk s3 H3 scope ce [t]) [] (L2.wipe σ (own.map (·.2))) H5 { s5 with heap := h' } := I5.turned (t' := s5.toks) (fun b o hb e => kp b o hb e) f0 f1 f4 f5 f6
      have nC : H5 s3.heap.objs.size = none := by
        have z : H5 ce.locals = none := I6.free
        rwa [cL] at z
      obtain ⟨m, hn, _⟩ := I6.loc
      have hn : Heap.Ns h' ce.locals m := hn
      rw [cL] at hn
      have fC := I3.fpOk (Nat.le_refl _) nC
      refine ⟨m, hn, fun h'' sb => ?_⟩
      obtain ⟨c0, c1, c2, c3, c4, c5⟩ := fC
      exact ⟨.ref D, H5, (home I6).turned (t' := s5.toks) (fun b o hb e => (sb.2 b hb).trans e) c0 c1 c3 c4 c5, rfl, qq⟩
    · obtain ⟨its5, rv5, pl5, _⟩ := I5.list hys
      obtain ⟨u, hu, ru⟩ := rv5.get hx
      refine wpAny_pyNext_list_item st5 pl5.isList (x := u) (by simpa using hu) fun h' st' sb => ?_
      have I6 : Inv (X.blk s3 H3 scope ce [t]) [] (L2.wipe σ (own.map (·.2))) H5 { s5 with heap := h' } := I5.turned (t' := s5.toks) (fun b o hb e => (sb.2 b hb).trans e) f0 f1 f4 f5 f6
      obtain ⟨o6, e6, c6, d6⟩ := id st'
      refine go_of (s := { s5 with heap := h' }) e6 c6 d6 (by decide) ?_
      have I7 := I6.pinned (fp := [t]) (fun b hb => by
        cases List.mem_singleton.mp hb
        exact own_ I6 n5) fun b hb => by
          cases List.mem_singleton.mp hb
          exact ⟨o6, e6, fun v z => by rw [d6] at z; cases z⟩
      have go := step x H5 ⟨rfl, fun zs hzs => by rw [I5.list_inj hzs hys]; exact hx⟩
      refine thnF (pg.run _ _ _ H5 x u _ I7 ru go) fun _ s8 ⟨σ8, H8, I8, hw8, q8⟩ => ?_
      refine thnF (pt.run _ s8 σ8 H8 _ I8 q8) fun b s9 ⟨H9, I9, q9⟩ => ?_
      have fin : ∀ {s' : Shared} {H' : Hp}, Inv (X.blk s3 H3 scope ce [t]) ([] ++ pinsAt [t] h') σ8 H' s' → Nx H' → ∃ m, m < n ∧ ∃ i H', Inv (X.blk s3 H3 scope ce [t]) [] (L2.wipe σ (own.map (·.2))) H' s' ∧ s'.heap.IsListIter t a i ∧ H' t = none ∧ W i m H' := fun {s' H'} I' nx => by
        obtain ⟨m', hm, w'⟩ := hNx H' nx
        have pin := I'.pin (t, o6) (List.mem_append_right _ (List.mem_append_right _ (mem_pinsAt (List.mem_singleton.mpr rfl) e6)))
        have len8 : (L2.wipe σ (own.map (·.2))).length = σ8.length := by rw [← hw8, wipe_length]
        refine ⟨m', hm, i + 1, H', (I'.unpinned (pins := [])).weak len8 (fun j v e => ?_), ⟨o6, pin.1, c6, d6⟩, pin.2.1, w'⟩
        rw [← hw8] at e
        exact (wipe_some e).1
      cases b with
      | false =>
        simp only [Bool.false_eq_true, if_false] at q9 ⊢
        exact fin I9 q9
      | true =>
        simp only [if_true] at q9 ⊢
        refine thnF (pe.run _ s9 σ8 H9 _ I9 q9) fun z s10 ⟨yv, H10, I10, r10, acc, hD10, hz10, nx⟩ => ?_
        exact app_ok (X := X.blk s3 H3 scope ce [t]) I10 hD10 hz10 r10 fun s11 I11 => fin I11 nx
  exact codeAny_compStart_list loop (wpAny_pyIter_listiter st4 loop)
end
end Ev

set_option Elab.async false
set_option linter.all false
set_option maxRecDepth 100000
set_option maxHeartbeats 4000000
/-! Ev: a lambda handed to a def. -/
namespace Ev
open PySem PySem.Spec PyProof.Rows L2 Ed
/-- a comprehension in a suite -/
def mLstL (m : M PyData) : M (List PyData) := m.bind fun d => M.lift (match d with
  | .list ds => some ds
  | _ => none)
section
variable {X : Cx} {c : Cfg} {E : L2.St → XK}
theorem x_lst {m : M PyData} {σ : L2.St} {H : Hp} {R : It → Hp → Prop} (h : tI c E Rp (mLstL m) σ H R) : iList X.K (tX c E m) σ H R := by
  obtain ⟨f, ρ, S, q⟩ := h
  refine x_bind S q reb_I fun d ρ1 v H1 f1 e g1 S1 r1 h1 => ?_
  obtain ⟨ds, e2, q⟩ := h1.lift
  cases d with
  | list ds' =>
    cases e2
    obtain ⟨a, xs, rfl, ha, n, ax⟩ := Rp.list_inv r1
    exact ⟨a, rfl, ⟨xs, .inl (.inl ha)⟩, q _ H1 f1 (Gr.refl _ _) S1 (itl S1 ha n ax)⟩
  | _ => cases e2
theorem dl_lcH {elt tg iter : Expr} {ifs : List Expr} {scope : Scope} {own : List (Str × Nat)} {pos : Pos} {mi : M PyData} {g : Tf} {mt : M Bool} {me : M PyData} {ws : List Nat} (hc : L2H.HotC X) (hN : X.N.Nodup) (hl : PE X iter (tX c E mi)) (ok : BlkOk X.N X.env.scope scope own) (hv : offIo c (own.map (·.2)) = true) (sub : ∀ i ∈ ws, i ∈ own.map (·.2))
    (hg : ∀ (s : Shared) (H : Hp) (C : Addr) (cl : List (Str × Addr)) (fp : List Addr), Tgw Rp (X.blk s H scope (compEnvC scope cl C X.env) fp) c ws tg g) (ht : ∀ (s : Shared) (H : Hp) (C : Addr) (cl : List (Str × Addr)) (fp : List Addr), PTs (X.blk s H scope (compEnvC scope cl C X.env) fp) ifs (tT c EN mt))
    (he : ∀ (s : Shared) (H : Hp) (C : Addr) (cl : List (Str × Addr)) (fp : List Addr), PE (X.blk s H scope (compEnvC scope cl C X.env) fp) elt (tX c EN me)) (hs : ∀ x, foldedSetIterable iter X.env x = pure x := by intro _; rfl) :
    PE X (.ListComp elt [⟨tg, iter, ifs, 0⟩] scope pos) (tL c E (mLc (own.map (·.2)) (mLstL mi) g mt me)) := by
  refine peMono (pe_lcH hc hN hl ok (fun s H C cl fp => (hg s H C cl fp).pg) ht he hs) fun σ H Q q => ?_
  have := x_lc (vw := Rp) hv sub q
  exact x_lst this
/-- the suite bears what it handles -/
theorem hot_suite {a : Addr} {oe : Obj} {pn : List (Addr × Obj)} (h2 : ∃ vs : Array Value, oe.data = .fields vs ∧ vs[2]? = some .none) : L2H.HotC (X.suite a ((a, oe) :: pn)) := ⟨(a, oe), ⟨rfl, h2⟩, List.mem_cons_self⟩
end
end Ev

set_option Elab.async false
set_option linter.all false
set_option maxRecDepth 100000
set_option maxHeartbeats 4000000
/-! Ev: a lambda handed to a def. -/
namespace Ed
open PySem PySem.Spec PyProof.Rows L2
section
variable {X : Cx} {pins : List (Addr × Obj)} {σ : L2.St} {H : Hp} {s : Shared}
/-- nothing is lost -/
def Alive (H H' : Hp) : Prop := ∀ b, H b ≠ none → H' b ≠ none
theorem Alive.put {H H1 : Hp} {p : Addr} {o : HO} (a : Alive H H1) : Alive H (upd H1 p o) := fun b n => by
  by_cases z : b = p
  · rw [z, upd_same]
    simp
  · rw [upd_ne z]
    exact a b n
theorem lam_made2 {T : List (Addr × Str)} {c P : Addr} {params : Arguments} {body : Expr} {scope : Scope} {pos : Pos} {E : Value → Shared → Prop} {Q : Value → Shared → Prop} (I : Inv X pins σ H s) (TB : LamX.TabB X.base X.mg c P) (hcode : X.env.code = .ref c)
    (hm : (P, X.env.qual ++ "<lambda>") ∈ T) (hu : ∀ p ∈ T, p.1 = P → p.2 = X.env.qual ++ "<lambda>") (hT : LamX.Tabs T H) (hdef : defaultsOf params X.env = ([], [])) (hfree : ∀ y ∈ scope.names, y.2 = .free → ∃ c, X.env.cells.lookup y.1 = some c)
    (h : ∀ (g c' : Addr) (pm ctv : Value) (H1 : Hp) (s' : Shared), Inv X pins σ H1 s' → LamX.ExtN H H1 → Alive H H1 → LamX.Tabs T H1 → H g = none →
      H1 g = some (.frz (PySem.W.kla_obj "<lambda>" (X.env.qual ++ "<lambda>") params body scope (cloFrom X.env.cells scope.names []) pm c' ctv) (.own 0)) → H1 c' = some (LamX.CodeO c' (X.env.qual ++ "<lambda>")) → Q (.ref g) s') :
    wpAny (model X.prog X.w) X.A (eval (.Lambda params body scope pos) X.env) Q E s := by
  obtain ⟨ps, hP, ht, ha⟩ := hT _ hm
  apply PySem.W.kla_eval hdef
  have bmP := TB.bm.keeps I.bk
  have rawP : s.heap.get? P = some { cls := .none, data := .fields ps } := I.hok P _ hP
  have ext2 : ∀ {H2 : Hp} {p : Addr} {o : Obj}, LamX.ExtN H H2 → H2 p = none → LamX.ExtN H (upd H2 p (.frz o (.own 0))) := fun {H2 p o} e n b u q nt => (upd_ne (ne_of_none (e b u q nt) n)).trans (e b u q nt)
  have tab2 : ∀ {H2 : Hp} {p : Addr} {o : Obj}, LamX.Tabs T H2 → H2 p = none → LamX.Tabs T (upd H2 p (.frz o (.own 0))) := fun {H2 p o} e n => e.ext fun b u q => (upd_ne (ne_of_none q n)).trans q
  cases hc : codeAmong pos ps.toList with
  | some cv =>
    obtain ⟨c', rfl, hco⟩ := ha pos cv hc
    apply PySem.W.kla_makeFunctionHit (mg := X.mg) (closure_ok hfree) I.ok.glob (I.mod.glob.keeps I.bk) hcode (TB.code.keeps I.bk) rawP ht hc bmP
    intro ctv h' tk hx hsz
    have I1 : Inv X pins σ H { s with heap := h', toks := tk } := I.kept hx
    have nF : H h'.objs.size = none := I1.hok.fresh (Nat.le_refl _)
    exact h h'.objs.size c' _ ctv _ _ (track_push I1) (ext2 (LamX.ExtN.refl H) nF) (Alive.put fun _ n => n) (tab2 hT nF) nF upd_same ((upd_ne (ne_of_none hco nF)).trans hco)
  | none =>
    apply PySem.W.kla_makeFunction (mg := X.mg) (closure_ok hfree) I.ok.glob (I.mod.glob.keeps I.bk) hcode (TB.code.keeps I.bk) rawP ht hc TB.gP bmP
    intro c' ctv h' tk hx hge hlt hrec htb
    obtain ⟨c2, oc, vs, t, e2, hoc, hd, hv⟩ := hrec
    obtain rfl : c' = c2 := Value.ref.inj e2
    have nC : H c' = none := I.hok.fresh hge
    have I1 := LamX.inv_table (t' := tk) (more := #[rawInt pos.line, rawInt pos.col, .ref c']) I hP (fun b o hb e => hx b o hb e) htb hge ⟨oc, vs, t, hoc, hd, hv⟩
    have nF := I1.hok.fresh (Nat.le_refl h'.objs.size)
    have hE : LamX.ExtN H (upd (upd H P (.tbl (ps ++ #[rawInt pos.line, rawInt pos.col, .ref c']))) c' (LamX.CodeO c' (X.env.qual ++ "<lambda>"))) := by
      intro b o e nt
      have nP : b ≠ P := fun z => by
        subst z
        rw [hP] at e
        exact nt ps (Option.some.inj e).symm
      exact (upd_ne (ne_of_none e nC)).trans ((upd_ne nP).trans e)
    have hT1 : LamX.Tabs T (upd (upd H P (.tbl (ps ++ #[rawInt pos.line, rawInt pos.col, .ref c']))) c' (LamX.CodeO c' (X.env.qual ++ "<lambda>"))) := by
      intro p hp
      by_cases hb : p.1 = P
      · rw [hu p hp hb, hb]
        refine ⟨ps ++ #[rawInt pos.line, rawInt pos.col, .ref c'], (upd_ne (ne_of_none hP nC)).trans upd_same, ?_, fun p' cv hcv => ?_⟩
        · rw [Array.toList_append]
          exact PySem.TriplesOk_snoc _ _ _ _ ht
        · rw [Array.toList_append] at hcv
          rcases LamX.among_app _ ht hcv with z | z
          · obtain ⟨c0, z1, z2⟩ := ha p' cv z
            exact ⟨c0, z1, hE _ _ z2 LamX.codeO_ne⟩
          · exact ⟨c', z, upd_same⟩
      · obtain ⟨qs, a1, a2, a3⟩ := hT p hp
        refine ⟨qs, (upd_ne (ne_of_none a1 nC)).trans ((upd_ne hb).trans a1), a2, fun p' cv hcv => ?_⟩
        obtain ⟨c0, z1, z2⟩ := a3 p' cv hcv
        exact ⟨c0, z1, hE _ _ z2 LamX.codeO_ne⟩
    have nF0 : H h'.objs.size = none := I.hok.fresh (Nat.le_trans hge (Nat.le_of_lt hlt))
    exact h h'.objs.size c' _ ctv _ _ (track_push I1) (ext2 hE nF) (Alive.put (Alive.put (Alive.put fun _ n => n))) (tab2 hT1 nF) nF0 upd_same ((upd_ne (Nat.ne_of_lt hlt)).trans upd_same)
end
def tLam2 (X : Cx) (T : List (Addr × Str)) (params : Arguments) (body : Expr) (scope : Scope) : TE := fun σ H Q => LamX.Tabs T H ∧ ∀ (g c' : Addr) (pm ctv : Value) (H1 : Hp), LamX.ExtN H H1 → Alive H H1 → LamX.Tabs T H1 → H g = none →
  H1 g = some (.frz (PySem.W.kla_obj "<lambda>" (X.env.qual ++ "<lambda>") params body scope (cloFrom X.env.cells scope.names []) pm c' ctv) (.own 0)) → H1 c' = some (LamX.CodeO c' (X.env.qual ++ "<lambda>")) →
  (∀ y, (cloFrom X.env.cells scope.names []).lookup y = some c' → False) → Q (.ref g) H1
theorem pe_lam2 {X : Cx} {T : List (Addr × Str)} {c P : Addr} {params : Arguments} {body : Expr} {scope : Scope} {pos : Pos} (TB : LamX.TabB X.base X.mg c P) (hcode : X.env.code = .ref c)
    (hm : (P, X.env.qual ++ "<lambda>") ∈ T) (hu : ∀ p ∈ T, p.1 = P → p.2 = X.env.qual ++ "<lambda>") (hdef : defaultsOf params X.env = ([], []))
    (hfree : ∀ y ∈ scope.names, y.2 = .free → X.env.scope.names.lookup y.1 = some .cell ∨ X.env.scope.names.lookup y.1 = some .free) : PE X (.Lambda params body scope pos) (tLam2 X T params body scope) := by
  constructor
  intro pins s σ H Q I h
  have hf : ∀ y ∈ scope.names, y.2 = .free → ∃ c, X.env.cells.lookup y.1 = some c := fun y hy e => I.ok.has _ (hfree y hy e)
  refine lam_made2 I TB hcode hm hu h.1 hdef hf fun g c' pm ctv H1 s' I1 e1 a1 t1 n1 g1 k1 => ⟨.ref g, H1, I1, rfl, h.2 g c' pm ctv H1 e1 a1 t1 n1 g1 k1 fun y hy => ?_⟩
  have z := I1.freeC y c' (NdefX.clo_cm hf hy)
  rw [k1] at z
  cases z
end Ed
namespace Ev
open PySem PySem.Spec PyProof.Rows L2 Ed
/-! ### no list in it -/
mutual
def noL : PyData → Bool
  | .tuple ds => noLs ds
  | .list _ => false
  | .dict _ => false
  | _ => true
def noLs : List PyData → Bool
  | [] => true
  | d :: ds => noL d && noLs ds
end
mutual
theorem Rp.stay {H H' : Hp} {N N' : As} (e : ∀ b xs, Tp H b xs → Tp H' b xs) : ∀ {d : PyData} {v : V}, noL d = true → Rp H N v d → Rp H' N' v d
  | .none, _, _, .non => .non
  | .bool b, _, _, .bl _ => .bl b
  | .int i, _, _, .int _ => .int i
  | .str x, _, _, .str _ => .str x
  | .tuple ds, _, n, .tup h q => .tup (e _ _ h) (RpAll.stay e (by unfold noL at n; exact n) q)
  | .list ds, _, n, .lst _ _ _ => by unfold noL at n; cases n
theorem RpAll.stay {H H' : Hp} {N N' : As} (e : ∀ b xs, Tp H b xs → Tp H' b xs) : ∀ {ds : List PyData} {vs : List V}, noLs ds = true → RpAll H N vs ds → RpAll H' N' vs ds
  | [], _, _, .nil => .nil
  | _ :: _, _, n, .cons a b => by
    unfold noLs at n
    rw [Bool.and_eq_true] at n
    exact .cons (Rp.stay e n.1 a) (RpAll.stay e n.2 b)
end
theorem Step.zero {c : Cfg} {f : Fm} {σ : L2.St} {H H' : Hp} {ρ : List Sl} (S : StR c f σ H ρ) (st : Step c.T (fun _ => False) H H') : StR c f σ H' ρ ∧ Gr c f H f H' := by
  have gr : Gr c f H f H' := Gr.of ⟨fun b o _ e t => st.keep b o (fun z => z) e t, st.imm, st.live, st.tabs⟩
  have mo := gr.mo S.on
  refine ⟨⟨S.len, fun k s h n => ?_, S.dis, S.on, fun b z => st.live b (S.nk b z), S.n0, fun b z => st.live b (S.bk b z), S.ob, S.io, st.tabs S.tabs, fun q hq => ?_, S.fx⟩, gr⟩
  · obtain ⟨v, e, r⟩ := S.sl k s h n
    refine ⟨v, e, r.mono mo (fun a u ha ho hs hv => ⟨st.keep a u (fun z => z) ha fun ps z => ?_, ho⟩) (Fu.of st)⟩
    cases s with
    | own o =>
      obtain ⟨a2, u2, rfl, _, ha2, hr2⟩ := r
      cases hv
      rw [ha] at ha2
      cases ha2
      exact hr2.notTbl ps z
    | _ => cases hs
  · obtain ⟨w, h1, h2, h3⟩ := S.kp q hq
    exact ⟨w, st.keep _ _ (fun z => z) h1 (by simp), h2.mono mo, h3⟩
/-! ### what a lambda does -/
def capD : Option Sl → Sl
  | some (.dat d) => if noL d = true then .dat d else .no
  | _ => .no
/-- by its body's function: the arguments, what it captured, its other names -/
def lamR (nl : Nat) (lm : M PyData) (caps : List Sl) (ds : List PyData) : Option (Rs PyData) := match lm (ds.map .dat ++ (caps ++ List.replicate nl .no)) with
  | some (r, _) => some r
  | none => none
def spLamD (c : Cfg) (np nl : Nat) (lm : M PyData) : List (Option V) → Sp := fun ws vs H Q E => vs.length = np ∧ ∃ (N : As) (caps : List Sl) (ds : List PyData), (∀ b, N b → H b ≠ none) ∧ RpAll H N vs ds ∧ caps.length = ws.length ∧
  (∀ (k : Nat) (s : Sl), caps[k]? = some s → s = .no ∨ ∃ d v, s = .dat d ∧ ws[k]? = some (some v) ∧ Rp H N v d) ∧ LamX.Tabs c.T H ∧ ∃ r, lamR nl lm caps ds = some r ∧
  match r with
  | .ok d => ∀ v H', Step c.T (fun _ => False) H H' → Rp H' N v d → Q v H'
  | .err cn x => ∀ cls d H', Step c.T (fun _ => False) H H' → ErrR c N H' cn x cls d → E cls d H'
section
variable {P : Program} {w : World} {K : PySem.W.Frag} {mg : Str → Option Value} {base : Heap} {cl : List (Str × Addr)} {fr ps N : List Str} {k : Nat}
/-- behind a lambda's body: the cells put back -/
theorem rec_step {T : List (Addr × Str)} {ws : List (Option V)} {H H' : Hp} (C : CellsT cl fr ws H) (n0 : NoCell cl H') (st : Step T (fun _ => False) (unc cl H) H') : Step T (fun _ => False) H (rec_ cl H H') := by
  have ex : Ex T [] (unc cl H) H' := ⟨fun b o _ e t => st.keep b o (fun z => z) e t, fun b xs ⟨o, q, d⟩ => ⟨o, st.imm b _ trivial q, d⟩, st.tabs⟩
  have ex2 := Ex.cells C ex n0
  refine ⟨fun b o _ e t => ex2.keep b o (by simp) e t, fun b o i e => ?_, fun b n => ?_, ex2.tabs⟩
  · by_cases z : ∃ y, cl.lookup y = some b
    · exact (rec_in z).trans e
    · exact (rec_out z).trans (st.imm b o i ((unc_out z).trans e))
  · by_cases z : ∃ y, cl.lookup y = some b
    · rw [rec_in z]
      exact n
    · rw [rec_out z]
      exact st.live b (by rw [unc_out z]; exact n)
theorem rp_rec {H H' : Hp} {M N' : As} {v : V} {d : PyData} (n0 : NoCell cl H') (hN : ∀ b, N' b → (¬ ∃ y, cl.lookup y = some b) → M b) (r : Rp H' M v d) : Rp (rec_ cl H H') N' v d := by
  have out : ∀ b u, H' b = some u → ¬ ∃ y, cl.lookup y = some b := fun b u e ⟨y, hy⟩ => by
    rw [n0 y b hy] at e
    cases e
  refine r.mono ⟨fun b xs ⟨o, q, dd⟩ => ⟨o, (rec_out (out b _ q)).trans q, dd⟩, fun b xs q n => ⟨(rec_out (out b _ q)).trans q, fun z => n (hN b z (out b _ q))⟩⟩
theorem fnv_lamE {c : Cfg} {q : Str} {params : Arguments} {body : Expr} {scope : Scope} {pm ctv : Value} {c' g : Addr} {nl : Nat} {lm : M PyData}
    (S : NdefX.NScope N ps fr scope) (hb : ∀ us : List Value, us.length = ps.length → bindArgs (PySem.W.kla_fn "<lambda>" q params body scope cl pm (.ref c') ctv) ⟨us, []⟩ = pure (ps.zip us)) (nc : ∀ y, cl.lookup y = some c' → False) (hnl : N.length - ps.length - fr.length = nl)
    (hbody : ∀ (A : Around) (outer : List Env) (s : Shared) (H : Hp) (E : XK), RoomG k (A.deeper (NdefX.envF ⟨"<lambda>", q, params, [], scope, cl, c'⟩ g s.heap.objs.size)) →
      PE (NdefX.ncx (L2N.CX P w) P w K mg base N ⟨"<lambda>", q, params, [], scope, cl, c'⟩ g A outer s H E) body (tX (c.at []) (fun _ => E) lm)) :
    FnV P w K mg base (k + 1) g (spLam g (PySem.W.kla_obj "<lambda>" q params body scope cl pm c' ctv) c' q cl fr (spLamD c ps.length nl lm)) := by
  refine fnv_lam S hb (fun ws vs H Q E h => h.1) nc fun A outer s H vs ws Q E hr C h => ⟨_, hbody A outer s (unc cl H) _ hr, ?_⟩
  obtain ⟨hl, M, caps, ds, nk, ra, lc, hcap, tb, r, e, p⟩ := h
  have lw := C.len
  have ldv := ra.len
  have out : ∀ b u, H b = some u → (∀ o, u ≠ .frz o (.own 0)) → unc cl H b = some u := fun b u e n => (unc_out fun z => by
    obtain ⟨o, ho⟩ := C.known z
    rw [e] at ho
    cases ho
    exact n o rfl).trans e
  have mo : Mo H M (unc cl H) (fun b => M b ∧ ¬ ∃ y, cl.lookup y = some b) := ⟨fun b xs ⟨o, q, dd⟩ => ⟨o, out b _ q (by simp), dd⟩, fun b xs q n => ⟨out b _ q (by simp), fun z => n z.1⟩⟩
  have tb0 : LamX.Tabs c.T (unc cl H) := fun p hp => by
    obtain ⟨ps, a1, a2, a3⟩ := tb p hp
    refine ⟨ps, out _ _ a1 (by simp), a2, fun p' cv hc => ?_⟩
    obtain ⟨c0, c1, c2⟩ := a3 p' cv hc
    exact ⟨c0, c1, out _ _ c2 (by unfold LamX.CodeO; simp)⟩
  have nk0 : ∀ b, (M b ∧ ¬ ∃ y, cl.lookup y = some b) → unc cl H b ≠ none := fun b z => by
    rw [unc_out z.2]
    exact nk b z.1
  have es : NdefX.startF N vs ws = vs.map some ++ (ws ++ List.replicate nl none) := by
    unfold NdefX.startF
    rw [hl, lw, hnl]
  rw [es]
  have ld : (ds.map Sl.dat).length = vs.length := by rw [List.length_map, ldv]
  have S0 : StR (c.at []) ⟨fun b => M b ∧ ¬ ∃ y, cl.lookup y = some b, fun _ => False, fun b => unc cl H b ≠ none, fun b => M b ∧ ¬ ∃ y, cl.lookup y = some b, fun _ => 0⟩ (vs.map some ++ (ws ++ List.replicate nl none)) (unc cl H) (ds.map .dat ++ (caps ++ List.replicate nl .no)) := by
    have noOwn : ∀ (i : Nat) (s : Sl), (ds.map Sl.dat ++ (caps ++ List.replicate nl .no))[i]? = some s → s ≠ .no → ∃ v d, s = .dat d ∧ (vs.map some ++ (ws ++ List.replicate nl none))[i]? = some (some v) ∧ Rp H M v d := fun i s h n => by
      by_cases h1 : i < vs.length
      · rw [List.getElem?_append_left (by rw [ld]; exact h1), List.getElem?_map] at h
        cases hd : ds[i]? with
        | none =>
          rw [hd] at h
          cases h
        | some d =>
          rw [hd] at h
          cases h
          obtain ⟨v, hv, rv⟩ := ra.at_ hd
          exact ⟨v, d, rfl, by rw [List.getElem?_append_left (by rw [List.length_map]; exact h1), List.getElem?_map, hv]; rfl, rv⟩
      · rw [List.getElem?_append_right (by rw [ld]; omega), ld] at h
        by_cases h2 : i - vs.length < caps.length
        · rw [List.getElem?_append_left h2] at h
          rcases hcap _ _ h with z | ⟨d, v, rfl, hv, rv⟩
          · exact (n z).elim
          · refine ⟨v, d, rfl, ?_, rv⟩
            rw [List.getElem?_append_right (by rw [List.length_map]; omega), List.length_map, List.getElem?_append_left (by rw [← lc]; exact h2)]
            exact hv
        · rw [List.getElem?_append_right (by omega)] at h
          obtain ⟨_, h3⟩ := List.getElem?_eq_some_iff.mp h
          rw [List.getElem_replicate] at h3
          exact (n h3.symm).elim
    refine ⟨by simp [ld, lc, lw, ldv], fun i s h n => ?_, fun i j a s t h1 h2 o1 o2 e1 e2 => ?_, fun b z => z.elim, nk0, fun b z => ⟨z, nk0 b z⟩, fun b z => z, fun i a s h o e ni => ?_, (fun i hi => nomatch hi), tb0, (fun q hq => nomatch hq), (fun q hq => nomatch hq)⟩
    · obtain ⟨v, d, rfl, hv, rv⟩ := noOwn i s h n
      exact ⟨v, hv, rv.mono mo⟩
    · obtain ⟨_, _, rfl, _⟩ := noOwn i s h1 (own_ne o1)
      cases o1
    · obtain ⟨_, _, rfl, _⟩ := noOwn i s h (own_ne o)
      cases o
  unfold lamR at e
  cases hm : lm (ds.map .dat ++ (caps ++ List.replicate nl .no)) with
  | none =>
    rw [hm] at e
    cases e
  | some z =>
    obtain ⟨rr, ρ1⟩ := z
    rw [hm] at e
    obtain rfl : rr = r := Option.some.inj e
    refine ⟨_, _, S0, rr, ρ1, hm, ?_⟩
    have keepN : ∀ {f' : Fm} {H' : Hp} {σ' : L2.St} {ρ' : List Sl} {f0 : Fm}, f0.N0 = (fun b => M b ∧ ¬ ∃ y, cl.lookup y = some b) → Gr (c.at []) f0 (unc cl H) f' H' → StR (c.at []) f' σ' H' ρ' → ∀ b, M b → (¬ ∃ y, cl.lookup y = some b) → f'.N b := fun {f' H' σ' ρ' f0} e0 g S' b h1 h2 => (S'.n0 b (by rw [g.n0, e0]; exact ⟨h1, h2⟩)).1
    cases rr with
    | ok d =>
      intro v H' f' g S' rv n0
      exact p v _ (rec_step C n0 ⟨fun b o _ e t => g.st.keep b o (fun z => z) e t, g.st.imm, g.st.live, g.st.tabs⟩) (rp_rec n0 (fun b h1 h2 => keepN rfl g S' b h1 h2) rv)
    | err cn x =>
      intro cls d H' f' g S' er n0
      obtain ⟨dd, v, h1, h2, h3, h4⟩ := er
      refine p cls d _ (rec_step C n0 ⟨fun b o _ e t => g.st.keep b o (fun z => z) e t, g.st.imm, g.st.live, g.st.tabs⟩) ⟨dd, v, h1, h2, (rec_out fun ⟨y, hy⟩ => ?_).trans h3, rp_rec n0 (fun b h1 h2 => keepN rfl g S' b h1 h2) h4⟩
      rw [n0 y dd hy] at h3
      cases h3
end
end Ev

set_option Elab.async false
set_option linter.all false
set_option maxRecDepth 100000
set_option maxHeartbeats 4000000
/-! Ev: the call that hands a lambda on. -/
namespace Ev
open PySem PySem.Spec PyProof.Rows L2 Ed
def lamF (np nl : Nat) (lm : M PyData) (caps : List Sl) : List PyData → Option (Rs PyData) := fun ds => if ds.length = np then lamR nl lm caps ds else none
def mCallF (js : List Nat) (np nl : Nat) (lm : M PyData) (F : FnD) (ma : M (List PyData)) : M PyData := ma.bind fun ds ρ => match F (.fn (lamF np nl lm (js.map fun j => capD ρ[j]?)) :: ds.map .dat) with
  | some (.ok (.dat d), _) => some (.ok d, ρ)
  | _ => none
section
variable {T : List (Addr × Str)} {env : Env} {N : List Str} {σ : L2.St} {H Hc H2 : Hp}
/-- back from a call with the cells known -/
theorem unc_step (C : CovOf env N σ H Hc) (st : Step T (fun _ => False) Hc H2) : Step T (fun _ => False) H (unc env.cells H2) := by
  have ex : Ex T [] Hc H2 := ⟨fun b o _ e t => st.keep b o (fun z => z) e t, fun b xs ⟨o, q, d⟩ => ⟨o, st.imm b _ trivial q, d⟩, st.tabs⟩
  have ex2 := Ex.uncov C (S := []) (by simp) ex
  have nb : ∀ b u, H b = some u → ¬ ∃ y, env.cells.lookup y = some b := fun b u e ⟨y, hy⟩ => by
    rw [C.free y b hy] at e
    cases e
  refine ⟨fun b o _ e t => ex2.keep b o (by simp) e t, fun b o i e => (unc_out (nb b o e)).trans (st.imm b o i (C.same e)), fun b n => ?_, ex2.tabs⟩
  cases e : H b with
  | none => exact (n e).elim
  | some u =>
    rw [unc_out (nb b u e)]
    exact st.live b (by rw [C.same e]; simp)
theorem rp_unc {M N' : As} {v : V} {d : PyData} (C : CovOf env N σ H Hc) (st : Step T (fun _ => False) Hc H2) (hN : ∀ b, N' b → M b) (r : Rp H2 M v d) : Rp (unc env.cells H2) N' v d := by
  have out : ∀ b u, H2 b = some u → (∀ o, u ≠ .frz o (.own 0)) → unc env.cells H2 b = some u := fun b u e n => (unc_out fun ⟨y, hy⟩ => by
    obtain ⟨o, _, ho, _⟩ := C.known y b hy
    have h2 := st.imm b (.frz o (.own 0)) trivial ho
    rw [e] at h2
    cases h2
    exact n o rfl).trans e
  exact r.mono ⟨fun b xs ⟨o, q, dd⟩ => ⟨o, out b _ q (by simp), dd⟩, fun b xs q n => ⟨out b _ q (by simp), fun z => n (hN b z)⟩⟩
end
theorem CellsT.fu {T : List (Addr × Str)} {cl : List (Str × Addr)} {fr : List Str} {ws : List (Option V)} {H H' : Hp} (C : CellsT cl fr ws H) (fu : Fu T H H') : CellsT cl fr ws H' :=
  ⟨C.len, fun y c e => by
    obtain ⟨o, v, h, d⟩ := C.all y c e
    exact ⟨o, v, fu.1 c _ trivial h, d⟩, C.inj, fun i y e => by
    obtain ⟨c, hc, hv⟩ := C.has i y e
    refine ⟨c, hc, fun v ev => ?_⟩
    obtain ⟨o, u, h, d, r⟩ := hv v ev
    exact ⟨o, u, fu.1 c _ trivial h, d, r⟩⟩
section
variable {X : Cx} {c : Cfg} {E : L2.St → XK}
theorem de_callF {x : Str} {k j kl : Nat} {np npl nl : Nat} {F : FnD} {cc P : Addr} {params : Arguments} {body : Expr} {scope : Scope} {p pos lpos : Pos} {es : List Expr} {ma : M (List PyData)} {lm : M PyData} {Nl psl fr : List Str} {js : List Nat}
    (hq : X.prog = c.P ∧ X.w = c.w ∧ X.K = c.K ∧ X.mg = c.mg ∧ X.base = c.base)
    (cv : CalV X.prog X.w X.K X.mg X.base k x (spD (c.at []) np F)) (hr : RoomG j X.A) (hk : k ≤ j) (hg : Gl X x) (hfn : ∀ x, X.fn x = true)
    (TB : LamX.TabB X.base X.mg cc P) (hcode : X.env.code = .ref cc) (hm : (P, X.env.qual ++ "<lambda>") ∈ c.T) (hu : ∀ p ∈ c.T, p.1 = P → p.2 = X.env.qual ++ "<lambda>") (hdef : defaultsOf params X.env = ([], []))
    (hfree : ∀ y ∈ scope.names, y.2 = .free → X.env.scope.names.lookup y.1 = some .cell ∨ X.env.scope.names.lookup y.1 = some .free)
    (S : NdefX.NScope Nl psl fr scope) (hnl : Nl.length - psl.length - fr.length = nl) (hnp : psl.length = npl) (hlv : c.lv = kl + 1) (hfr : ∀ y ∈ fr, (y, NameKind.free) ∈ scope.names) (hjs : js.map (fun j => X.N[j]?) = fr.map some)
    (hb : ∀ (cl : List (Str × Addr)) (pm ctv : Value) (c' : Addr) (us : List Value), us.length = psl.length → bindArgs (PySem.W.kla_fn "<lambda>" (X.env.qual ++ "<lambda>") params body scope cl pm (.ref c') ctv) ⟨us, []⟩ = pure (psl.zip us))
    (lbody : ∀ (cl : List (Str × Addr)) (c' g : Addr) (A : Around) (outer : List Env) (s : Shared) (H : Hp) (E : XK), RoomG kl (A.deeper (NdefX.envF ⟨"<lambda>", X.env.qual ++ "<lambda>", params, [], scope, cl, c'⟩ g s.heap.objs.size)) →
      PE (NdefX.ncx (L2N.CX c.P c.w) c.P c.w c.K c.mg c.base Nl ⟨"<lambda>", X.env.qual ++ "<lambda>", params, [], scope, cl, c'⟩ g A outer s H E) body (tX (c.at []) (fun _ => E) lm))
    (ha : PA X es (tD c E ma)) (hna : ∀ ρ ds ρ1, ma ρ = some (.ok ds, ρ1) → ds.length + 1 = np)
    (hdb : (x == ("__debug__" : Str)) = false := by decide) (hst : starEach (.Lambda params body scope lpos :: es) X.env = (false, eval (.Lambda params body scope lpos) X.env) :: starEach es X.env := by rfl) (hpl : (backTo pos (starEach es X.env)).any (·.1) = false := by rfl) :
    PE X (.Call (.Name x p) (.Lambda params body scope lpos :: es) [] pos) (tX c E (mCallF js npl nl lm F ma)) := by
  refine peMono (pe_vc cv hr hk hg hfn (pa_cons (pe_lam2 TB hcode hm hu hdef hfree) ha hst) hdb hst hpl) fun σ H Q ⟨f, ρ, S0, q⟩ => ⟨S0.tabs, fun g c' pm ctv H1 eN al t1 n1 g1 k1 nc => ?_⟩
  have st1 : Step c.T (fun _ => False) H H1 := ⟨fun b o _ e t => eN b o e t, fun b o i e => eN b o e fun ps z => by
    rw [z] at i
    exact i, al, fun _ => t1⟩
  obtain ⟨S1, gr1⟩ := Step.zero S0 st1
  refine ⟨f, ρ, S1, (q.rebase gr1 reb_X).bind fun ds ρ2 e2 h2 vs' H2 f2 g2 S2 r2 Hc C => ?_⟩
  have h3 := h2.rebase g2 reb_X
  obtain ⟨r0, ρ0, e0, p0⟩ := h3
  dsimp only at e0
  have g2g := g2.st.imm g (HO.frz _ _) trivial g1
  have g2k := g2.st.imm c' (LamX.CodeO c' _) (by unfold LamX.CodeO; trivial) k1
  cases hF : F (.fn (lamF npl nl lm (js.map fun j => capD ρ2[j]?)) :: ds.map .dat) with
  | none =>
    rw [hF] at e0
    cases e0
  | some z =>
    obtain ⟨z1, ρr⟩ := z
    rw [hF] at e0
    cases z1 with
    | err _ _ => cases e0
    | ok rv0 =>
      cases rv0 with
      | fr _ => cases e0
      | dat d =>
        cases e0
        have extC : Ext H2 Hc := fun b u e => C.same e
        have lenv := r2.len
        have caps : ∀ y ∈ scope.names, y.2 = .free → ∃ c, X.env.cells.lookup y.1 = some c := fun y hy e => by
          have hf := S.free y hy e
          obtain ⟨i, hi, ei⟩ := List.getElem_of_mem hf
          have z : (js.map fun j => X.N[j]?)[i]? = some (some y.1) := by
            rw [hjs, List.getElem?_map, List.getElem?_eq_getElem hi, ei]
            rfl
          rw [List.getElem?_map] at z
          cases ej : js[i]? with
          | none =>
            rw [ej] at z
            cases z
          | some j =>
            rw [ej] at z
            obtain ⟨cc2, hc2, _⟩ := C.slot j y.1 (Option.some.inj z) (hfree y hy e)
            exact ⟨cc2, hc2⟩
        have CT := C.cells (scope := scope) (fr := fr) (js := js) hfree caps hfr hjs
        have CF : CalF (c.at []) Hc g (lamF npl nl lm (js.map fun j => capD ρ2[j]?)) := by
          refine ⟨_, by
            have FV := fnv_lamE (P := c.P) (w := c.w) (K := c.K) (mg := c.mg) (base := c.base) (c := c) (k := kl) (pm := pm) (ctv := ctv) (g := g) (c' := c') (q := X.env.qual ++ "<lambda>") (params := params) (cl := cloFrom X.env.cells scope.names []) S (hb _ pm ctv c') nc hnl (lbody _ c' g)
            rw [← hlv] at FV
            exact FV, fun H' fu => ⟨.inr ⟨_, _, _, _, _, fu.1 g (HO.frz _ _) trivial (C.same g2g)⟩, fun vs Q' E' h => ?_⟩⟩
          obtain ⟨M, O, ds', _, nkM, ra, tb, r, er, pr⟩ := h
          unfold lamF at er
          split at er
          · rename_i hlen
            refine ⟨fu.1 g (HO.frz _ _) trivial (C.same g2g), fu.1 c' (LamX.CodeO c' _) (by unfold LamX.CodeO; trivial) (C.same g2k), js.map (NdefX.slotAt σ), CellsT.fu CT fu, ra.len.trans (hlen.trans hnp.symm), M, _, ds', nkM, ra, by rw [List.length_map, List.length_map], fun kk s hs => ?_, tb, r, er, pr⟩
            rw [List.getElem?_map] at hs
            cases ej : js[kk]? with
            | none =>
              rw [ej] at hs
              cases hs
            | some j =>
              rw [ej] at hs
              have hs : some (capD ρ2[j]?) = some s := hs
              cases hs
              cases hj : ρ2[j]? with
              | none => exact .inl rfl
              | some sj =>
                cases sj with
                | dat dj =>
                  by_cases hno : noL dj = true
                  · obtain ⟨v, e1, rr⟩ := S2.sl j _ hj (fun z => nomatch z)
                    refine .inr ⟨dj, v, if_pos hno, ?_, Rp.stay (fun b xs ⟨o, q, dd⟩ => ⟨o, fu.1 b (HO.frz _ _) trivial (C.same q), dd⟩) hno rr⟩
                    rw [List.getElem?_map, ej]
                    show some (NdefX.slotAt σ j) = _
                    unfold NdefX.slotAt
                    rw [e1]
                  · exact .inl (if_neg hno)
                | _ => exact .inl rfl
          · cases er
        refine ⟨by rw [List.length_cons, lenv, hna _ _ _ e2], ⟨f2.N, fun _ => False, fun b => Hc b ≠ none, f2.N, fun _ => 0⟩, _, ?_, rfl, rfl, _, ρr, hF, fun v H' f' gc S' rv => ?_⟩
        · refine ⟨by simp [lenv], fun i s h n => ?_, fun i jj a s t h1 h2 o1 o2 e1 e2 => ?_, fun b z => z.elim, fun b z => extC.step (T := c.T) (O := fun _ => False) |>.live b (S2.nk b z), fun b z => ⟨z, extC.step (T := c.T) (O := fun _ => False) |>.live b (S2.nk b z)⟩, fun b z => z, fun i a s h o e ni => ?_, (fun i hi => nomatch hi), S2.tabs.ext extC, (fun q hq => nomatch hq), (fun q hq => nomatch hq)⟩
          · cases i with
            | zero =>
              cases h
              exact ⟨.ref g, rfl, g, rfl, CF⟩
            | succ i =>
              have h : (ds.map Sl.dat)[i]? = some s := by simpa using h
              rw [List.getElem?_map] at h
              cases hd : ds[i]? with
              | none =>
                rw [hd] at h
                cases h
              | some dd =>
                rw [hd] at h
                cases h
                obtain ⟨v, hv, rv⟩ := r2.at_ hd
                exact ⟨v, by simp [hv], rv.mono extC.mo⟩
          · have no : ∀ {i : Nat} {s : Sl}, (Sl.fn (lamF npl nl lm (js.map fun j => capD ρ2[j]?)) :: ds.map Sl.dat)[i]? = some s → isOwn s = true → False := fun {i s} h o => by
              cases i with
              | zero =>
                cases h
                cases o
              | succ i =>
                have h : (ds.map Sl.dat)[i]? = some s := by simpa using h
                rw [List.getElem?_map] at h
                cases hd : ds[i]? with
                | none =>
                  rw [hd] at h
                  cases h
                | some dd =>
                  rw [hd] at h
                  cases h
                  cases o
            exact (no h1 o1).elim
          · cases i with
            | zero =>
              cases h
              cases o
            | succ i =>
              have h : (ds.map Sl.dat)[i]? = some s := by simpa using h
              rw [List.getElem?_map] at h
              cases hd : ds[i]? with
              | none =>
                rw [hd] at h
                cases h
              | some dd =>
                rw [hd] at h
                cases h
                cases o
        · have stc : Step c.T (fun _ => False) Hc H' := ⟨fun b o _ e t => gc.st.keep b o (fun z => z) e t, gc.st.imm, gc.st.live, gc.st.tabs⟩
          obtain ⟨S3, g3⟩ := Step.zero S2 (unc_step C stc)
          exact p0 v _ f2 g3 S3 (rp_unc C stc (fun b z => (S'.n0 b (by rw [gc.n0]; exact z)).1) rv)
end
end Ev

set_option Elab.async false
set_option linter.all false
set_option maxRecDepth 100000
set_option maxHeartbeats 4000000
/-! Ev: more operators, loops over pairs, all, any. -/
namespace Ev
open PySem PySem.Spec PyProof.Rows L2 Ed
def mNot (m : M Bool) : M Bool := m.bind fun b => M.pure (!b)
def dNeg : PyData → Option PyData
  | .int i => some (.int (-i))
  | _ => none
section
variable {X : Cx} {c : Cfg} {E : L2.St → XK}
theorem o_neg : Op1 X (unaryOp .USub) dNeg := by
  refine ⟨_, un_neg, fun H N x a d Q ra hg _ q => ?_⟩
  cases a with
  | int i =>
    cases hg
    cases ra with
    | rp r =>
      cases r
      exact ⟨i, rfl, q _ H (Ext.refl H) (.int _)⟩
  | _ => cases hg
theorem o_notB : Op2 X (compareOp .IsNot) dNotB := by
  refine ⟨_, op_notFl, fun H N x y a b d Q ra rb hg _ q => ?_⟩
  have key : ∀ k, b = .bool k → flatV x = true → Rp H N x a → d = .bool (!isBl k a) → flatV x = true ∧ ∃ b : Bool, y = .bl b ∧ Q (.bl (!decide (x = .bl b))) H := by
    rintro k rfl fx r rfl
    cases rb with
    | rp rb =>
      cases rb
      refine ⟨fx, k, rfl, ?_⟩
      rw [isBl_eq r]
      exact q _ H (Ext.refl H) (.bl _)
  cases ra with
  | own _ _ => cases hg
  | rp r =>
    cases b with
    | bool k =>
      cases r with
      | non => exact key k rfl rfl .non (by cases hg; rfl)
      | bl c => exact key k rfl rfl (.bl c) (by cases hg; rfl)
      | int i => exact key k rfl rfl (.int i) (by cases hg; rfl)
      | str i => exact key k rfl rfl (.str i) (by cases hg; rfl)
      | tup _ _ => cases hg
      | lst _ _ _ => cases hg
    | _ => cases r <;> cases hg
/-! ### sums and products of lists, as data -/
theorem Rp.freshL {H : Hp} {N : As} {p : Addr} {xs : List V} {ds : List PyData} (nk : ∀ b, N b → H b ≠ none) (n : H p = none) (r : RpAll H N xs ds) : Rp (upd H p (.lst xs)) N (.ref p) (.list ds) :=
  .lst upd_same (fun z => nk p z n) (r.mono (Ext.new n).mo)
def dAddL : PyData → PyData → Option PyData
  | .list a, .list b => if a.length + b.length ≤ lim then some (.list (a ++ b)) else none
  | _, _ => none
theorem o_addL : Op2 X (binaryOp .Add) dAddL := by
  refine ⟨_, op_cat, fun H N x y a b d Q ra rb hg nk q => ?_⟩
  cases a with
  | list as =>
    cases b with
    | list bs =>
      have hg : (if as.length + bs.length ≤ lim then some (PyData.list (as ++ bs)) else none) = some d := hg
      split at hg
      · rename_i hl
        cases hg
        obtain ⟨l, xs, rfl, hx, ax⟩ := ra.seqL (K := X.K)
        obtain ⟨m, zs, rfl, hz, az⟩ := rb.seqL (K := X.K)
        exact ⟨l, m, xs, zs, rfl, rfl, hx, hz, by rw [ax.len, az.len]; exact lim_ok hl, fun p n => q _ _ (Ext.new n) (Rp.freshL nk n (ax.app az))⟩
      · cases hg
    | _ => cases hg
  | _ => cases hg
def dAddA : PyData → PyData → Option PyData
  | .int i, .int j => some (.int (i + j))
  | .tuple a, .tuple b => if a.length + b.length ≤ lim then some (.tuple (a ++ b)) else none
  | .list a, .list b => if a.length + b.length ≤ lim then some (.list (a ++ b)) else none
  | _, _ => none
theorem o_addA : Op2 X (binaryOp .Add) dAddA := o_or o_add o_addL fun a b d h => by
  unfold dAddA at h
  split at h
  · exact .inl h
  · exact .inl h
  · exact .inr h
  · cases h
theorem RpAll.rep {H : Hp} {N : As} {xs : List V} {ds : List PyData} (r : RpAll H N xs ds) : ∀ k, RpAll H N (List.replicate k xs).flatten (List.replicate k ds).flatten
  | 0 => .nil
  | k + 1 => by
    rw [List.replicate_succ, List.replicate_succ, List.flatten_cons, List.flatten_cons]
    exact r.app (RpAll.rep r k)
def dMulL : PyData → PyData → Option PyData
  | .list a, .int k => if 0 ≤ k ∧ k ≤ 1000 ∧ a.length ≤ 1000 then some (.list (List.replicate k.toNat a).flatten) else none
  | _, _ => none
theorem o_mulL : Op2 X (binaryOp .Mult) dMulL := by
  refine ⟨_, op_rep, fun H N x y a b d Q ra rb hg nk q => ?_⟩
  cases a with
  | list as =>
    cases b with
    | int k =>
      have hg : (if 0 ≤ k ∧ k ≤ 1000 ∧ as.length ≤ 1000 then some (PyData.list (List.replicate k.toNat as).flatten) else none) = some d := hg
      split at hg
      · rename_i hl
        cases hg
        obtain ⟨l, xs, rfl, hx, ax⟩ := ra.seqL (K := X.K)
        cases rb with
        | rp rb =>
          cases rb
          refine ⟨l, k, xs, rfl, rfl, hx, by omega, by omega, ?_, fun p n => q _ _ (Ext.new n) (Rp.freshL nk n (ax.rep _))⟩
          rw [ax.len]
          have h1 : k.toNat ≤ 1000 := by omega
          exact Nat.le_trans (Nat.mul_le_mul hl.2.2 h1) (by decide)
      · cases hg
    | _ => cases hg
  | _ => cases hg
/-! ### a tuple times a number -/
theorem mul_same (l : Addr) (items : Array Value) (n : Nat) (dd : Option Addr) (sl : Array (Option Value)) (x : Int) (u : Tok) (c0 : (decide (x < -(2 ^ 63)) || decide (x ≥ 2 ^ 63)) = false) (c1 : (items.isEmpty || x == 1) = true) :
    Meets (Builtin.«tuple.__mul__» ⟨[.ref l, .int x u], []⟩) (fun _ R s => s.heap.get? l = some { cls := .type "tuple", dict := dd, data := .seq items n, slots := sl } ∧ R (.ok (.ret (Value.ref l))) s) :=
  .of_wp fun prog w A R s h => by
    obtain ⟨hp, g, d, tk, os⟩ := s
    obtain ⟨hl, h⟩ := h
    have f1 := AutoSeq1.idx_int
    wp_walk using wpAny_loadPart' hl
    repeat (first
      | (refine wpAny_ite_false (decide_eq_false (by rw [c0]; exact Bool.false_ne_true)) ?_; wp_walk using wpAny_loadPart' hl)
      | (refine wpAny_ite_true (decide_eq_true c1) ?_; wp_walk using wpAny_loadPart' hl))
    exact ⟨_, rfl, h⟩
theorem mul_none (l : Addr) (items : Array Value) (n : Nat) (dd : Option Addr) (sl : Array (Option Value)) (x : Int) (u : Tok) (c0 : (decide (x < -(2 ^ 63)) || decide (x ≥ 2 ^ 63)) = false) (c1 : (items.isEmpty || x == 1) = false) (c2 : (decide (x ≤ 0) || items.isEmpty) = true) :
    Meets (Builtin.«tuple.__mul__» ⟨[.ref l, .int x u], []⟩) (fun _ R s => s.heap.get? l = some { cls := .type "tuple", dict := dd, data := .seq items n, slots := sl } ∧
      R (.ok (.ret (Value.ref s.heap.objs.size))) { s with heap := s.heap.push { cls := Value.type "tuple", data := Data.seq #[] }, toks := s.toks }) :=
  .of_wp fun prog w A R s h => by
    obtain ⟨hp, g, d, tk, os⟩ := s
    obtain ⟨hl, h⟩ := h
    have f1 := AutoSeq1.idx_int
    wp_walk using wpAny_loadPart' hl
    repeat (first
      | (refine wpAny_ite_false (decide_eq_false (by rw [c0]; exact Bool.false_ne_true)) ?_; wp_walk using wpAny_loadPart' hl)
      | (refine wpAny_ite_false (decide_eq_false (by rw [c1]; exact Bool.false_ne_true)) ?_; wp_walk using wpAny_loadPart' hl)
      | (refine wpAny_ite_true (decide_eq_true c2) ?_; wp_walk using wpAny_loadPart' hl)
      | (refine wpAny_ite_false (decide_eq_false (Nat.not_lt.mpr (Nat.zero_le _))) ?_; wp_walk using wpAny_loadPart' hl))
    exact ⟨_, rfl, h⟩
def rMulT (N : As) : R2 := fun x y H Q => ∃ ds k, Rp H N x (.tuple ds) ∧ y = .int k ∧ 0 ≤ k ∧ k ≤ 1000 ∧ ds.length ≤ 1000 ∧ ∀ z H', Ext H H' → Rp H' N z (.tuple (List.replicate k.toNat ds).flatten) → Q z H'
theorem op_mulT (N : As) : OpR X (binaryOp .Mult) (rMulT N) := by
  intro pins s σ H x y v u Q I rx ry h
  obtain ⟨ds, k, hx, rfl, h0, h1, hz, q⟩ := h
  obtain ⟨l, xs, rfl, ta, ax⟩ := hx.tuple_inv
  cases rx
  obtain ⟨t, rfl⟩ := ry
  obtain ⟨its, r, ⟨⟨cls, dd, data, sl⟩, ho, hc, n, hd⟩, hs⟩ := I.tuple (ta.sq (K := X.K))
  simp only at hc hd
  subst hc hd
  have l1 : its.length = xs.length := r.length.symm
  have l2 := ax.len
  have c0 : (decide (k < -(2 ^ 63)) || decide (k ≥ 2 ^ 63)) = false := by
    rw [decide_eq_false (by omega), decide_eq_false (by omega)] <;> rfl
  have fl : ∀ (α : Type) (ys : List α), ys.length ≤ 1000 → (List.replicate k.toNat ys).flatten.length ≤ sizeLine := fun α ys hy => by
    rw [PyProof.Rows.lm_len_rep_flat, sizeLine_eq]
    have a1 : k.toNat * ys.length ≤ 1000 * 1000 := Nat.mul_le_mul (by omega) hy
    omega
  refine wpAny_binaryOp_repeat_ref (T := "tuple") (U := "int") (by decide) ⟨_, ho, rfl⟩ (fun s' => typeIs_int s' k t) noFill_tuple_mul PySem.F.fills_int_mul PySem.F.slot_int_rmul repeat_tuple PySem.F.slot_int_index.lookup
    (call_meets PySem.F.slot_int_rmul (typeIs_int s k t) PySem.F.entry_int_rmul (PySem.F.args_int_rmul_2 _ _) (int_rmul_tuple k t l its.toArray n dd sl) ⟨ho, rfl, ⟨_, ho, rfl⟩, ?_⟩)
  by_cases c1 : (its.toArray.isEmpty || k == 1) = true
  · refine call_meets PySem.F.slot_tuple_mul ⟨_, ho, rfl⟩ PySem.F.entry_tuple_mul (PySem.F.args_tuple_mul_2 _ _) (mul_same l its.toArray n dd sl k t c0 c1) ⟨ho, .ref l, H, I, rfl, q _ _ (Ext.refl H) ?_⟩
    have e : (List.replicate k.toNat ds).flatten = ds := by
      rw [Bool.or_eq_true] at c1
      rcases c1 with z | z
      · have : its = [] := by simpa using z
        rw [this] at l1
        have hd0 : ds = [] := List.eq_nil_of_length_eq_zero (by rw [← l2, ← l1]; rfl)
        rw [hd0]
        simp
      · have : k = 1 := by simpa using z
        rw [this]
        simp
    rw [e]
    exact hx
  · have c1 : (its.toArray.isEmpty || k == 1) = false := by simpa using c1
    have made : ∀ (zs : List Value) (ws : List V), Vals ws zs → ws.length ≤ sizeLine → RpAll H N ws (List.replicate k.toNat ds).flatten → ∃ v' H', Inv X pins σ H' { s with heap := s.heap.push { cls := Value.type "tuple", data := Data.seq zs.toArray }, toks := s.toks } ∧ RelV v' (.ref s.heap.objs.size) ∧ Q v' H' := fun zs ws rz hl aw => by
      have nF := I.hok.fresh (Nat.le_refl s.heap.objs.size)
      have mk := Heap.get?_push_size s.heap (o := { cls := .type "tuple", data := .seq zs.toArray }) rfl
      have J := I.laid (o := .frz { cls := .type "tuple", data := .seq zs.toArray } (.tup ws)) (t' := s.toks) (fun b u e => Heap.get?_push_of_some _ e) (Nat.le_refl _) ⟨mk, hl, _, rz, ⟨_, mk, rfl, _, rfl⟩⟩
      have kp := Ext.new (o := .frz { cls := .type "tuple", data := .seq zs.toArray } (.tup ws)) nF
      exact ⟨.ref s.heap.objs.size, _, J, rfl, q _ _ kp (.tup (Tp.made rfl) (aw.mono kp.mo))⟩
    by_cases c2 : (decide (k ≤ 0) || its.toArray.isEmpty) = true
    · refine call_meets PySem.F.slot_tuple_mul ⟨_, ho, rfl⟩ PySem.F.entry_tuple_mul (PySem.F.args_tuple_mul_2 _ _) (mul_none l its.toArray n dd sl k t c0 c1 c2) ⟨ho, ?_⟩
      have hk : k = 0 := by
        rw [Bool.or_eq_false_iff] at c1
        rw [c1.1, Bool.or_false] at c2
        have := of_decide_eq_true c2
        omega
      exact made [] [] .nil (Nat.zero_le _) (by rw [hk]; exact .nil)
    · have c2 : (decide (k ≤ 0) || its.toArray.isEmpty) = false := by simpa using c2
      have sz : its.toArray.size = xs.length := by rw [List.size_toArray, l1]
      have hm : ((its.toArray.size : Nat) : Int) * k ≤ 1000000 := by
        rw [sz]
        have a1 : ((xs.length : Nat) : Int) * k ≤ 1000 * k := Int.mul_le_mul_of_nonneg_right (by omega) (by omega)
        omega
      have c4 : Builtin.Tuple.tupleTooMany (((its.toArray.size : Nat) : Int) * k) = false := by
        unfold Builtin.Tuple.tupleTooMany
        rw [sizeLine_eq]
        exact decide_eq_false (by omega)
      refine call_meets PySem.F.slot_tuple_mul ⟨_, ho, rfl⟩ PySem.F.entry_tuple_mul (PySem.F.args_tuple_mul_2 _ _) (tuple_mulW l its.toArray n dd sl k t c0 c1 c2 (by omega) c4 (by rw [size_rep, List.size_toArray]; exact fl _ _ (by omega))) ⟨ho, ?_⟩
      rw [size_rep]
      exact made _ _ (r.rep k.toNat) (fl _ _ (by omega)) (ax.rep _)
def dMulT : PyData → PyData → Option PyData
  | .tuple a, .int k => if 0 ≤ k ∧ k ≤ 1000 ∧ a.length ≤ 1000 then some (.tuple (List.replicate k.toNat a).flatten) else none
  | _, _ => none
theorem o_mulT : Op2 X (binaryOp .Mult) dMulT := by
  refine ⟨_, OpR.any op_mulT, fun H N x y a b d Q ra rb hg nk q => ?_⟩
  cases a with
  | tuple as =>
    cases b with
    | int k =>
      have hg : (if 0 ≤ k ∧ k ≤ 1000 ∧ as.length ≤ 1000 then some (PyData.tuple (List.replicate k.toNat as).flatten) else none) = some d := hg
      split at hg
      · rename_i hl
        cases hg
        cases rb with
        | rp rb =>
          cases rb
          exact ⟨N, as, k, ra.tup, rfl, hl.1, hl.2.1, hl.2.2, q⟩
      · cases hg
    | _ => cases hg
  | _ => cases hg
def dMulA : PyData → PyData → Option PyData
  | .int i, .int j => dMulI (.int i) (.int j)
  | .tuple a, b => dMulT (.tuple a) b
  | .list a, b => dMulL (.list a) b
  | _, _ => none
theorem o_mulA : Op2 X (binaryOp .Mult) dMulA := o_or (o_or o_mulI o_mulT (g := fun a b => match a, b with
  | .int i, .int j => dMulI (.int i) (.int j)
  | .tuple a, b => dMulT (.tuple a) b
  | _, _ => none) fun a b d h => by
    split at h
    · exact .inl h
    · exact .inr h
    · cases h) o_mulL fun a b d h => by
  unfold dMulA at h
  split at h
  · exact .inl h
  · exact .inl h
  · exact .inr h
  · cases h
/-! ### slices of tuples and lists, as data -/
def dCutA (d : PyData) (lo hi : Option Int) : Option PyData := match d with
  | .tuple ds => some (.tuple (cutD ds lo hi))
  | .list ds => some (.list (cutD ds lo hi))
  | _ => none
theorem cutV_rp {H : Hp} {N : As} {xs : List V} {ds : List PyData} (ax : RpAll H N xs ds) (lo hi : Option Int) : RpAll H N (cutV xs lo hi) (cutD ds lo hi) := by
  have e : cutD ds lo hi = (ds.drop (HT.sIx xs.length 0 lo)).take (HT.sIx xs.length xs.length hi - HT.sIx xs.length 0 lo) := by
    unfold Ed.cutD
    rw [ax.len]
  rw [e]
  exact (ax.drop _).take _
theorem de_slA {e : Expr} {lo hi : Option Expr} {p2 pos : Pos} {ma : M PyData} {re : PyData → M PyData} {ml mu : M (Option Int)} (he : PE X e (tA c E ma re)) (hl : PO X lo (tO c E ml)) (hu : PO X hi (tO c E mu)) : PE X (.Subscript e (.Slice lo hi none p2) pos) (tX c E (mSl dCutA ma re ml mu)) := by
  refine peMono (pe_slice ((SlR.any sl_tupR).or sl_list) he hl hu) fun σ H Q ⟨f, ρ, S, q⟩ => x_sl S q reb_X fun f H ρ x a lo hi b S r1 hg q => ?_
  cases a with
  | tuple ds =>
    cases hg
    exact .inl ⟨f.N, ds, r1.tup, fun z H' e' rv => ox_ext S q e' rv⟩
  | list ds =>
    cases hg
    obtain ⟨a, xs, rfl, hl, ax⟩ := r1.seqL (K := X.K)
    exact .inr ⟨a, xs, rfl, .inl (.inl hl), fun p n => ox_ext S q (Ext.new n) (Rp.freshL S.nk n (cutV_rp ax lo hi))⟩
  | _ => cases hg
/-! ### all, any of a list of bools -/
def boolsOf : List PyData → Option (List Bool)
  | [] => some []
  | .bool b :: ds => (boolsOf ds).map fun bs => b :: bs
  | _ => none
theorem RpAll.bools {H : Hp} {N : As} : ∀ {ds : List PyData} {vs : List V} {bs : List Bool}, RpAll H N vs ds → boolsOf ds = some bs → vs = bs.map V.bl
  | [], _, _, .nil, e => by
    cases e
    rfl
  | d :: ds, v :: vs, bs, .cons a b, e => by
    cases d with
    | bool x =>
      have e : (boolsOf ds).map (fun xs => x :: xs) = some bs := e
      cases h : boolsOf ds with
      | none =>
        rw [h] at e
        cases e
      | some zs =>
        rw [h] at e
        cases e
        cases a
        rw [RpAll.bools b h]
        rfl
    | _ => cases e
def dAll : PyData → Option PyData
  | .list ds => (boolsOf ds).map fun bs => .bool (bs.all id)
  | _ => none
def dAny : PyData → Option PyData
  | .list ds => (boolsOf ds).map fun bs => .bool (bs.any id)
  | _ => none
theorem c_all (hc : X.calm = true) : Cl1 X (.builtin "all") dAll := by
  refine ⟨_, cr_all hc, fun H N x a d Q ra hg _ q => ?_⟩
  cases a with
  | list ds =>
    have hg : (boolsOf ds).map (fun bs => PyData.bool (bs.all id)) = some d := hg
    cases h : boolsOf ds with
    | none =>
      rw [h] at hg
      cases hg
    | some bs =>
      rw [h] at hg
      cases hg
      obtain ⟨a, xs, rfl, hl, ax⟩ := ra.seqL (K := X.K)
      have := ax.bools h
      subst this
      exact ⟨a, bs, rfl, .inl (.inl hl), q _ H (Ext.refl H) (.bl _)⟩
  | _ => cases hg
theorem c_any (hc : X.calm = true) : Cl1 X (.builtin "any") dAny := by
  refine ⟨_, cr_any hc, fun H N x a d Q ra hg _ q => ?_⟩
  cases a with
  | list ds =>
    have hg : (boolsOf ds).map (fun bs => PyData.bool (bs.any id)) = some d := hg
    cases h : boolsOf ds with
    | none =>
      rw [h] at hg
      cases hg
    | some bs =>
      rw [h] at hg
      cases hg
      obtain ⟨a, xs, rfl, hl, ax⟩ := ra.seqL (K := X.K)
      have := ax.bools h
      subst this
      exact ⟨a, bs, rfl, .inl (.inl hl), q _ H (Ext.refl H) (.bl _)⟩
  | _ => cases hg
/-! ### a chain as a test; x = [..] as data; x += n -/
theorem dt_chain {op op' : CmpOp} {a b d : Expr} {pos : Pos} {g g' : PyData → PyData → Option PyData} {ma mb md : M PyData} (ho : Op2 X (compareOp op) g) (ho' : Op2 X (compareOp op') g') (ha : PE X a (tX c E ma)) (hb : PE X b (tX c E mb)) (hd : PE X d (tX c E md))
    (hm : lastMarks [op, op'] [b, d] = false := by with_unfolding_all rfl) : PT X (.Compare a [op, op'] [b, d] pos) (tT c E (mTest (mChain g g' ma mb md))) := by
  obtain ⟨r, hr, hk⟩ := ho
  obtain ⟨r', hr', hk'⟩ := ho'
  refine ptMono (pt_chain hr hr' ha hb hd hm) fun σ H Q ⟨f, ρ, S, h⟩ => ?_
  have h := h.bind (Ok1 := OkX c σ fun x H' => ∃ k, x = .bl k ∧ Q k H') fun dd ρ1 _ h1 v H' f' g' S' rv => by
    obtain ⟨b, e, q⟩ := h1.lift
    cases dd with
    | bool k =>
      cases e
      cases rv
      exact ⟨_, rfl, q H' f' g' S'⟩
    | _ => cases e
  refine x_bind S h reb_X fun x ρ1 v H1 f1 _ g1 S1 r1 h1 => ?_
  refine x_bind S1 h1 reb_X fun y ρ2 u H2 f2 _ g2 S2 r2 h2 => ?_
  have h3 := h2.bind (Ok1 := fun f H b ρ1 => ρ1 = ρ2 ∧ RX c E f σ (if b = true then md.bind fun z => M.lift (g' y z) else M.pure (.bool false)) (OkX c σ fun x H' => ∃ k, x = .bl k ∧ Q k H') ρ2 H) (fun k ρ3 e h3 => by
    cases hg : (g x y).bind asB with
    | none =>
      rw [hg] at e
      cases e
    | some k2 =>
      rw [hg] at e
      cases e
      exact ⟨rfl, h3⟩)
  obtain ⟨k, hg, _, h4⟩ := h3.lift
  cases hg1 : g x y with
  | none =>
    rw [hg1] at hg
    cases hg
  | some d1 =>
    rw [hg1] at hg
    cases d1 with
    | bool k1 =>
      cases hg
      refine hk H2 f2.N v u x y _ _ (.rp (g2.rp S1 r1)) (.rp r2) hg1 S2.nk fun v' H' e' rv => ?_
      cases rv
      refine ⟨_, rfl, ?_⟩
      have S3 := S2.ext e'
      have h5 := h4.rebase (Gr.ext e') reb_X
      cases k with
      | true =>
        refine x_bind S3 h5 reb_X fun z ρ3 w' H3 f3 _ g3 S4 r3 h6 => ?_
        obtain ⟨dd, eg, q⟩ := h6.lift
        exact hk' H3 f3.N u w' y z dd _ (.rp (g3.rp S3 (r2.mono e'.mo))) (.rp r3) eg S4.nk fun v2 H4 e4 rv4 => ox_ext S4 q e4 rv4
      | false =>
        obtain ⟨k2, e2, q2⟩ := h5.pure (.bl false) _ f2 (Gr.refl _ _) S3 (.bl false)
        cases e2
        exact ⟨_, rfl, q2⟩
    | _ => cases hg
theorem tl_tx {m : M OD} {σ : L2.St} {H : Hp} {Q : VK} (h : tX c E (mOfL m) σ H Q) : tL c E m σ H Q := by
  obtain ⟨f, ρ, S, q⟩ := h
  refine ⟨f, ρ, S, q.bind fun o ρ1 _ h1 p u H1 f1 g1 S1 op nb hp r ns => ?_⟩
  obtain ⟨d, e, q⟩ := h1.lift
  cases o with
  | lst ds =>
    cases e
    cases u with
    | lst xs =>
      refine q _ H1 (f1.sub p) (g1.trans Gr.sub) (S1.sub ns nb) (.lst hp (fun z => z.2 rfl) ?_)
      exact OdR.weak (u := .lst xs) (o := .lst ds) (fun b z => z.1) r
    | _ => exact r.elim
  | _ => cases e
theorem ds_setLcD {i : Nat} {y : Str} {py : Pos} {elt tg iter : Expr} {ifs : List Expr} {scope : Scope} {own : List (Str × Nat)} {pos spos : Pos} {vw : Vwr} {mi : M (List PyData)} {g : Tf} {mt : M Bool} {me : M PyData} {ws : List Nat} (hc : X.calm = true) (hN : X.N.Nodup) (hy : X.N[i]? = some y) (hyl : X.env.scope.names.lookup y = some .local) (hio : c.loc i = true)
    (hsw : swapsWith (.ListComp elt [⟨tg, iter, ifs, 0⟩] scope pos) (some (.Name y py)) spos.line X.env = pure true) (hi : DI X c E tg iter vw mi) (ok : BlkOk X.N X.env.scope scope own) (hv : offIo c (own.map (·.2)) = true) (sub : ∀ i ∈ ws, i ∈ own.map (·.2))
    (hg : ∀ (s : Shared) (H : Hp) (C : Addr) (cl : List (Str × Addr)) (fp : List Addr), Tgw vw (X.blk s H scope (compEnvC scope cl C X.env) fp) c ws tg g) (ht : ∀ (s : Shared) (H : Hp) (C : Addr) (cl : List (Str × Addr)) (fp : List Addr), PTs (X.blk s H scope (compEnvC scope cl C X.env) fp) ifs (tT c EN mt))
    (he : ∀ (s : Shared) (H : Hp) (C : Addr) (cl : List (Str × Addr)) (fp : List Addr), PE (X.blk s H scope (compEnvC scope cl C X.env) fp) elt (tX c EN me)) (hs : ∀ x, foldedSetIterable iter X.env x = pure x := by intro _; rfl) :
    PS X (.Assign [.Name y py] (.ListComp elt [⟨tg, iter, ifs, 0⟩] scope pos) spos) (tS c E (sSet i (mOfL (mLc (own.map (·.2)) mi g mt me)))) :=
  psMono (ps_setLc hc hN hy hyl hsw hi.pi ok (fun s H C cl fp => (hg s H C cl fp).pg) ht he hs) fun D σ H q => x_set hio (fun σ H Q z => x_lc hv sub (tl_tx z)) q
def dAddI := dInt2 fun i j => .int (i + j)
def sAug (i : Nat) (g : PyData → PyData → Option PyData) (m : M PyData) : SM := fun ρ => match ρ[i]? with
  | some (.dat a) => sOf m (fun d ρ => (g a d).map fun z => (.nx, ρ.set i (.dat z))) ρ
  | _ => none
theorem x_aug {i : Nat} {m : M PyData} {fz : Int → Int → Int} (hio : c.loc i = true) {D : Ends} {σ : L2.St} {H : Hp} (h : tS c E (sAug i (dInt2 fun a b => .int (fz a b)) m) D σ H) : tAug i (tX c E m) (ipI fz) D σ H := by
  obtain ⟨f, ρ, S, o, ρ', e, p⟩ := h
  unfold sAug at e
  cases hi : ρ[i]? with
  | none =>
    rw [hi] at e
    cases e
  | some s =>
    rw [hi] at e
    cases s with
    | dat a =>
      obtain ⟨v, e1, rv⟩ := S.sl i _ hi (fun z => nomatch z)
      refine ⟨v, e1, f, ρ, S, s_of ⟨o, ρ', e, p⟩ fun d ρ1 _ ⟨o2, ρ2, e2, p2⟩ u H1 f1 g1 S1 ru => ?_⟩
      cases a with
      | int ia =>
        cases d with
        | int id =>
          cases e2
          cases ru
          cases (show v = .int ia by cases rv; rfl)
          exact ⟨ia, id, rfl, rfl, p2 _ H1 f1 g1 (S1.setD (.int _) hio)⟩
        | _ => cases e2
      | _ => cases d <;> cases e2
    | _ => cases e
theorem ds_augadd {i : Nat} {x : Str} {e : Expr} {m : M PyData} {pos pos' : Pos} (hN : X.N.Nodup) (hi : X.N[i]? = some x) (hx : Loc X.env.scope x) (he : PE X e (tX c E m)) (hio : c.loc i = true) (hf : X.fn x = true ∨ X.env.scope.names.lookup x = some .local := by first | exact .inl rfl | exact .inr rfl | assumption) :
    PS X (.AugAssign (.Name x pos') .Add e pos) (tS c E (sAug i dAddI m)) := psMono (ps_aug hN hi hx he ip_add hf) fun D σ H q => x_aug hio q
theorem ds_augsub {i : Nat} {x : Str} {e : Expr} {m : M PyData} {pos pos' : Pos} (hN : X.N.Nodup) (hi : X.N[i]? = some x) (hx : Loc X.env.scope x) (he : PE X e (tX c E m)) (hio : c.loc i = true) (hf : X.fn x = true ∨ X.env.scope.names.lookup x = some .local := by first | exact .inl rfl | exact .inr rfl | assumption) :
    PS X (.AugAssign (.Name x pos') .Sub e pos) (tS c E (sAug i dSub m)) := psMono (ps_aug hN hi hx he ip_sub hf) fun D σ H q => x_aug hio q
end
end Ev

set_option Elab.async false
set_option linter.all false
set_option maxRecDepth 100000
set_option maxHeartbeats 4000000
/-! Ev: pairs gone through: enumerate, zip. -/
namespace Ev
open PySem PySem.Spec PyProof.Rows L2 Ed
def enumD : Nat → List PyData → List PyData
  | _, [] => []
  | i, d :: ds => .tuple [.int (i : Nat), d] :: enumD (i + 1) ds
theorem enumD_len : ∀ (i : Nat) (ds : List PyData), (enumD i ds).length = ds.length
  | _, [] => rfl
  | i, _ :: ds => congrArg Nat.succ (enumD_len (i + 1) ds)
theorem enumD_get : ∀ (i : Nat) (ds : List PyData) (k : Nat) (d : PyData), (enumD i ds)[k]? = some d → ∃ x, ds[k]? = some x ∧ d = .tuple [.int ((i + k : Nat) : Int), x]
  | _, [], k, d, h => by simp [enumD] at h
  | i, x :: ds, 0, d, h => by
    cases h
    exact ⟨x, rfl, by simp⟩
  | i, x :: ds, k + 1, d, h => by
    obtain ⟨y, h1, h2⟩ := enumD_get (i + 1) ds k d (by simpa [enumD] using h)
    exact ⟨y, by simpa using h1, by rw [h2, show i + 1 + k = i + (k + 1) by omega]⟩
def mEnum (m : M PyData) : M (List PyData) := (mCons m mNil).bind fun as => M.lift (match as with
  | [d] => (seqD d).map (enumD 0)
  | _ => none)
section
variable {X : Cx} {c : Cfg} {E : L2.St → XK} {f : Fm} {H : Hp} {σ : L2.St} {ρ : List Sl}
theorem pair_yl {f' : Fm} {H' H'' : Hp} {T : Addr} {x y : V} {dx dy : PyData} (n : H' T = none) (e : H'' = upd H' T (.tup [x, y])) (rx : Rp H' f'.N x dx) (ry : Rp H' f'.N y dy) : Vt H'' f'.N (.ref T) (.tuple [dx, dy]) := by
  subst e
  have ex := Ext.new (o := .tup [x, y]) n
  exact .tup upd_same (.cons (rx.mono ex.mo) (.one (ry.mono ex.mo)))
theorem ite {K : PySem.W.Frag} {a : Addr} {xs : List V} {ds : List PyData} (S : StR c f σ H ρ) (ha : H a = some (.lst xs)) (n : ¬ f.N a) (ax : RpAll H f.N xs ds) : ItR c f H (Ite K a) (enumD 0 ds) Vt where
  go := fun i H' f' g => by
    have h1 : SqL K H' a xs := .inl (.inl (g.lst ha fun z => n (S.on a z)))
    rw [enumD_len]
    exact ⟨fun l => ⟨xs, xs[i]'(by rw [ax.len]; exact l), h1, List.getElem?_eq_getElem _⟩, fun l => ⟨xs, h1, by rw [ax.len, l]; exact Nat.le_refl _⟩⟩
  yl := fun i H' f' x H'' g y => by
    obtain ⟨T, z, rfl, hn, e, hz⟩ := y
    have h1 : SqL K H' a xs := .inl (.inl (g.lst ha fun z => n (S.on a z)))
    refine ⟨by rw [e]; exact Ext.new hn, fun d hd => ?_⟩
    obtain ⟨w, hw, rfl⟩ := enumD_get 0 ds i d hd
    obtain ⟨d', e', r⟩ := (g.rpa S ax).get (hz xs h1)
    rw [hw] at e'
    cases e'
    rw [Nat.zero_add]
    exact pair_yl hn e (.int _) r
theorem iteT {K : PySem.W.Frag} {a : Addr} {xs : List V} {ds : List PyData} (S : StR c f σ H ρ) (ha : Tp H a xs) (ax : RpAll H f.N xs ds) : ItR c f H (IteT K a) (enumD 0 ds) Vt where
  go := fun i H' f' g => by
    have h1 : SqT K H' a xs := (g.st.tup _ _ ha).sq
    rw [enumD_len]
    exact ⟨fun l => ⟨xs, xs[i]'(by rw [ax.len]; exact l), h1, List.getElem?_eq_getElem _⟩, fun l => ⟨xs, h1, by rw [ax.len]; exact l⟩⟩
  yl := fun i H' f' x H'' g y => by
    obtain ⟨T, z, rfl, hn, e, hz⟩ := y
    have h1 : SqT K H' a xs := (g.st.tup _ _ ha).sq
    refine ⟨by rw [e]; exact Ext.new hn, fun d hd => ?_⟩
    obtain ⟨w, hw, rfl⟩ := enumD_get 0 ds i d hd
    obtain ⟨d', e', r⟩ := (g.rpa S ax).get (hz xs h1)
    rw [hw] at e'
    cases e'
    rw [Nat.zero_add]
    exact pair_yl hn e (.int _) r
theorem RpAll.one_inv {N : As} {xs : List V} {d : PyData} (h : RpAll H N xs [d]) : ∃ x, xs = [x] ∧ Rp H N x d := by
  cases h with
  | cons a b =>
    cases b
    exact ⟨_, rfl, a⟩
theorem di_enum {e : Expr} {m : M PyData} {p pos tpos : Pos} {elts : List Expr} {kk : Nat} (hg : Gl X "enumerate") (hm : X.mg "enumerate" = none) (ha : PE X e (tX c E m)) (hs : starEach [e] X.env = [(false, eval e X.env)] := by rfl) : DI X c E (.Tuple elts kk tpos) (.Call (.Name "enumerate" p) [e] [] pos) Vt (mEnum m) := by
  refine ⟨_, pi_or (pi_enum hg hm (da_cons ha da_nil hs) hs) (pi_enumT hg hm (da_cons ha da_nil hs) hs), fun σ H R ⟨f, ρ, S, q⟩ => ?_⟩
  have key : ∀ (b : Bool), (∀ as ρ1, mCons m mNil ρ = some (.ok as, ρ1) → ∃ ds, as = [if b = true then .list ds else .tuple ds]) → tD c E (mCons m mNil) σ H (fun vs H1 => if b = true then (∃ a xs, vs = [.ref a] ∧ SqL X.K H1 a xs ∧ R (Ite X.K a) H1) else (∃ a xs, vs = [.ref a] ∧ SqT X.K H1 a xs ∧ R (IteT X.K a) H1)) := by
    intro b hb
    refine ⟨f, ρ, S, q.bind fun as ρ1 e h1 vs H1 f1 g1 S1 r1 => ?_⟩
    obtain ⟨ds', e2, q⟩ := (h1.rebase g1 reb_I).lift
    obtain ⟨ds, rfl⟩ := hb as ρ1 e
    obtain ⟨v, rfl, rv⟩ := RpAll.one_inv r1
    cases b with
    | true =>
      cases e2
      obtain ⟨a, xs, rfl, ha, n, ax⟩ := Rp.list_inv rv
      exact ⟨a, xs, rfl, .inl (.inl ha), q _ H1 f1 (Gr.refl _ _) S1 (ite S1 ha n ax)⟩
    | false =>
      cases e2
      obtain ⟨a, xs, rfl, ha, ax⟩ := Rp.tuple_inv rv
      exact ⟨a, xs, rfl, ha.sq, q _ H1 f1 (Gr.refl _ _) S1 (iteT S1 ha ax)⟩
  obtain ⟨r0, ρ0, e0, p0⟩ := q
  unfold mEnum M.bind at e0
  cases hm' : mCons m mNil ρ with
  | none =>
    rw [hm'] at e0
    cases e0
  | some z =>
    obtain ⟨z1, z2⟩ := z
    cases z1 with
    | err cn x => exact .inl (by
        have := key true (fun d ρ1 e => by rw [hm'] at e; cases e)
        simp only [if_true] at this
        exact this)
    | ok as =>
      rw [hm'] at e0
      match as, hm', e0 with
      | [.list ds], hm', e0 => exact .inl (by
          have := key true (fun d ρ1 e => by
            rw [hm'] at e
            cases e
            exact ⟨ds, rfl⟩)
          simp only [if_true] at this
          exact this)
      | [.tuple ds], hm', e0 => exact .inr (by
          have := key false (fun d ρ1 e => by
            rw [hm'] at e
            cases e
            exact ⟨ds, rfl⟩)
          simp only [Bool.false_eq_true, if_false] at this
          exact this)
      | [], _, e0 => cases e0
      | [.none], _, e0 => cases e0
      | [.bool _], _, e0 => cases e0
      | [.int _], _, e0 => cases e0
      | [.str _], _, e0 => cases e0
      | [.dict _], _, e0 => cases e0
      | _ :: _ :: _, _, e0 => cases e0
/-! ### zip -/
def zipD (a b : List PyData) : List PyData := List.zipWith (fun x y => .tuple [x, y]) a b
def zipA : List PyData → Option (List PyData)
  | [.list a, .list b] => some (zipD a b)
  | [.tuple a, .tuple b] => some (zipD a b)
  | _ => none
def mZip (a b : M PyData) : M (List PyData) := (mCons a (mCons b mNil)).bind fun as => M.lift (zipA as)
theorem zipD_get {a b : List PyData} {k : Nat} {d : PyData} (h : (zipD a b)[k]? = some d) : ∃ x y, a[k]? = some x ∧ b[k]? = some y ∧ d = .tuple [x, y] := by
  unfold zipD at h
  rw [List.getElem?_zipWith] at h
  cases ha : a[k]? with
  | none =>
    rw [ha] at h
    cases h
  | some x =>
    cases hb : b[k]? with
    | none =>
      rw [ha, hb] at h
      cases h
    | some y =>
      rw [ha, hb] at h
      cases h
      exact ⟨x, y, rfl, rfl, rfl⟩
theorem itz {K : PySem.W.Frag} {a b : Addr} {xs ys : List V} {ds es : List PyData} (S : StR c f σ H ρ) (ha : H a = some (.lst xs)) (n : ¬ f.N a) (ax : RpAll H f.N xs ds) (hb : H b = some (.lst ys)) (nb : ¬ f.N b) (ay : RpAll H f.N ys es) : ItR c f H (Itz K a b) (zipD ds es) Vt where
  go := fun i H' f' g => by
    have h1 : SqL K H' a xs := .inl (.inl (g.lst ha fun z => n (S.on a z)))
    have h2 : SqL K H' b ys := .inl (.inl (g.lst hb fun z => nb (S.on b z)))
    have l1 := ax.len
    have l2 := ay.len
    unfold zipD
    rw [List.length_zipWith]
    exact ⟨fun l => ⟨xs, ys, xs[i]'(by omega), ys[i]'(by omega), h1, h2, List.getElem?_eq_getElem _, List.getElem?_eq_getElem _⟩, fun l => ⟨xs, ys, h1, h2, by omega⟩⟩
  yl := fun i H' f' x H'' g y => by
    obtain ⟨T, z, w, rfl, hn, e, hz, hw⟩ := y
    have h1 : SqL K H' a xs := .inl (.inl (g.lst ha fun z => n (S.on a z)))
    have h2 : SqL K H' b ys := .inl (.inl (g.lst hb fun z => nb (S.on b z)))
    refine ⟨by rw [e]; exact Ext.new hn, fun d hd => ?_⟩
    obtain ⟨u, v, hu, hv, rfl⟩ := zipD_get hd
    obtain ⟨d1, e1, r1⟩ := (g.rpa S ax).get (hz xs h1)
    obtain ⟨d2, e2, r2⟩ := (g.rpa S ay).get (hw ys h2)
    rw [hu] at e1
    rw [hv] at e2
    cases e1
    cases e2
    exact pair_yl hn e r1 r2
theorem itzT {K : PySem.W.Frag} {a b : Addr} {xs ys : List V} {ds es : List PyData} (S : StR c f σ H ρ) (ha : Tp H a xs) (ax : RpAll H f.N xs ds) (hb : Tp H b ys) (ay : RpAll H f.N ys es) : ItR c f H (RZ.ItzT K a b) (zipD ds es) Vt where
  go := fun i H' f' g => by
    have h1 : SqT K H' a xs := (g.st.tup _ _ ha).sq
    have h2 : SqT K H' b ys := (g.st.tup _ _ hb).sq
    have l1 := ax.len
    have l2 := ay.len
    unfold zipD
    rw [List.length_zipWith]
    exact ⟨fun l => ⟨xs, ys, xs[i]'(by omega), ys[i]'(by omega), h1, h2, List.getElem?_eq_getElem _, List.getElem?_eq_getElem _⟩, fun l => ⟨xs, ys, h1, h2, by omega⟩⟩
  yl := fun i H' f' x H'' g y => by
    obtain ⟨T, z, w, rfl, hn, e, hz, hw⟩ := y
    have h1 : SqT K H' a xs := (g.st.tup _ _ ha).sq
    have h2 : SqT K H' b ys := (g.st.tup _ _ hb).sq
    refine ⟨by rw [e]; exact Ext.new hn, fun d hd => ?_⟩
    obtain ⟨u, v, hu, hv, rfl⟩ := zipD_get hd
    obtain ⟨d1, e1, r1⟩ := (g.rpa S ax).get (hz xs h1)
    obtain ⟨d2, e2, r2⟩ := (g.rpa S ay).get (hw ys h2)
    rw [hu] at e1
    rw [hv] at e2
    cases e1
    cases e2
    exact pair_yl hn e r1 r2
theorem RpAll.two_inv {N : As} {xs : List V} {d e : PyData} (h : RpAll H N xs [d, e]) : ∃ x y, xs = [x, y] ∧ Rp H N x d ∧ Rp H N y e := by
  cases h with
  | cons a b =>
    cases b with
    | cons b1 b2 =>
      cases b2
      exact ⟨_, _, rfl, a, b1⟩
theorem di_zip {e e2 : Expr} {ma mb : M PyData} {p pos tpos : Pos} {elts : List Expr} {kk : Nat} (hg : Gl X "zip") (hm : X.mg "zip" = none) (ha : PE X e (tX c E ma)) (hb : PE X e2 (tX c E mb)) (hs : starEach [e, e2] X.env = (false, eval e X.env) :: starEach [e2] X.env := by rfl) (hs2 : starEach [e2] X.env = (false, eval e2 X.env) :: starEach [] X.env := by rfl) (hpl : (backTo pos (starEach [e2] X.env)).any (·.1) = false := by rfl) :
    DI X c E (.Tuple elts kk tpos) (.Call (.Name "zip" p) [e, e2] [] pos) Vt (mZip ma mb) := by
  refine ⟨_, RZ.pi_zipA hg hm (da_cons ha (da_cons hb da_nil hs2) hs) hs hpl, fun σ H R ⟨f, ρ, S, q⟩ => ⟨f, ρ, S, q.bind fun as ρ1 _ h1 vs H1 f1 g1 S1 r1 => ?_⟩⟩
  obtain ⟨ds', e2, q⟩ := (h1.rebase g1 reb_I).lift
  unfold zipA at e2
  split at e2
  · cases e2
    obtain ⟨v, w, rfl, rv, rw_⟩ := RpAll.two_inv r1
    obtain ⟨a, xs, rfl, ha, n, ax⟩ := Rp.list_inv rv
    obtain ⟨b, ys, rfl, hb, nb, ay⟩ := Rp.list_inv rw_
    exact ⟨a, b, xs, ys, rfl, .inl ⟨.inl (.inl ha), .inl (.inl hb), q _ H1 f1 (Gr.refl _ _) S1 (itz S1 ha n ax hb nb ay)⟩⟩
  · cases e2
    obtain ⟨v, w, rfl, rv, rw_⟩ := RpAll.two_inv r1
    obtain ⟨a, xs, rfl, ha, ax⟩ := Rp.tuple_inv rv
    obtain ⟨b, ys, rfl, hb, ay⟩ := Rp.tuple_inv rw_
    exact ⟨a, b, xs, ys, rfl, .inr ⟨ha.sq, hb.sq, q _ H1 f1 (Gr.refl _ _) S1 (itzT S1 ha ax hb ay)⟩⟩
  · cases e2
end
end Ev

set_option Elab.async false
set_option linter.all false
set_option maxRecDepth 100000
set_option maxHeartbeats 4000000
/-! Ev: how many unlike ones: len(set(x)), x a tuple or list of tuples of ints. -/
namespace L2
open PySem PySem.Spec PyProof.Rows
section
variable {P : Program} {w : World} {A : Around} {E : Value → Shared → Prop} {s : Shared}
/-- set(t), t a tuple of tuples of ints -/
theorem set_of_tuple {l : Addr} {items : Array Value} (ks : List (Addr × List Int)) {Q : Value → Shared → Prop} (hh : A.handled = none) (hl : s.heap.IsTuple l items) (hit : items.toList = ks.map fun p => Value.ref p.1)
    (hk : ∀ p ∈ ks, IsT P w s.heap p.2 p.1) (hfew : ks.length < 64) (hu : A.units + 3 < cLine)
    (h : ∀ (h' : Heap) (tk : Nat) L es ep t, SetTR P w h' s.heap.objs.size L es ep t → Got ks ks.length L → (∀ b o, s.heap.get? b = some o → h'.get? b = some o) → Q (.ref s.heap.objs.size) { s with heap := h', toks := tk }) :
    wpAny (model P w) A (call (.type "set") [.ref l]) Q E s := by
  have hisz : items.size = ks.length := by
    have q := congrArg List.length hit
    rw [Array.length_toList, List.length_map] at q
    exact q
  obtain ⟨c, tl, hmro⟩ := F.called_set.mro
  have hmade := F.called_set.made
  have hsub := F.called_set.sub
  refine wpAny_call (codeAny_of_tree ?_)
  show wpAny _ _ (callAny (.type "set") _) _ _ _
  refine wpAny_pure ⟨Code.quiet_builtin _ (by decide +kernel), codeAny_builtin F.entry_type_call ?_⟩
  rw [Around.under_plain (weight_type_call_type "set" [.ref l] []) rfl]
  have h1 := F.called_set.notType
  have h2 := F.called_set.canCreate
  have hct := F.typeCall_set_1 (.ref l)
  repeat (any_goals (first | assumption | wp_step))

  refine codeAny_mono (code_set_led1 (.ref l) (E := E) (Q₁ := fun obj s₁ => obj = .ref s.heap.objs.size ∧ s₁ = { s with heap := s.heap.push { cls := .type "set", dict := none, data := .set #[] 0 (.fresh 0 0 (!w.params.followText "set-order")) } }) ⟨rfl, rfl⟩) fun r s₁ hr => ?_
  cases r with
  | error e => exact hr
  | ok fl =>
    cases fl with
    | ret obj =>
      obtain ⟨rfl, rfl⟩ := hr
      have hS : (s.heap.push { cls := .type "set", dict := none, data := .set #[] 0 (.fresh 0 0 (!w.params.followText "set-order")) }).get? s.heap.objs.size = some { cls := .type "set", dict := none, data := .set #[] 0 (.fresh 0 0 (!w.params.followText "set-order")) } := Heap.get?_push_size _ rfl
      have hT : Shared.TypeIs { s with heap := s.heap.push { cls := .type "set", dict := none, data := .set #[] 0 (.fresh 0 0 (!w.params.followText "set-order")) } } (.ref s.heap.objs.size) "set" := ⟨_, hS, rfl⟩
      have hli := F.called_set.init.lookup
      have hbi := F.called_set.init.bind (.ref s.heap.objs.size)
      repeat (any_goals (first | assumption | wp_step))

      refine codeAny_mono (codeAny_call_builtin (R := wants (fun r s₂ => r = .none ∧ ∃ h' tk L es ep t, s₂ = { s with heap := h', toks := tk } ∧ SetTR P w h' s.heap.objs.size L es ep t ∧ Got ks ks.length L ∧
          (∀ b o, s.heap.get? b = some o → h'.get? b = some o)) E) F.called_set.init.plain F.entry_set_init (check_set_init_1 hT ?_)) fun r₂ s₂ hr₂ => ?_
      · obtain ⟨ol, hol, hcl, nl, hdl⟩ := hl
        obtain ⟨ocls, odict, odata, oslots⟩ := ol
        simp only at hcl hdl
        subst hcl; subst hdl
        have hol' : (s.heap.push { cls := .type "set", dict := none, data := .set #[] 0 (.fresh 0 0 (!w.params.followText "set-order")) }).get? l = some { cls := .type "tuple", dict := odict, data := .seq items nl, slots := oslots } := Heap.get?_push_of_some _ hol
        have hsls := F.sub_tuple_set
        have hslf := F.sub_tuple_frozenset
        have hne : (Value.type "tuple" == Value.type "dict") = false := by decide
        have hl1 : (s.heap.push { cls := .type "set", dict := none, data := .set #[] 0 (.fresh 0 0 (!w.params.followText "set-order")) }).IsTuple l items := ⟨_, hol', rfl, nl, rfl⟩
        unfold Builtin.«set.__init__» noKeywords Builtin.Frozenset.updateFrom
        generalize hPI : pyIter = PI
        wp_walk
        subst hPI

        refine wpAny_pyIter_tuple hl1 ?_
        refine wpAny_bind (wpAny_runValue ?_)
        have hlS : l < s.heap.objs.size := Heap.lt_size hol
        have hh3 : A.in1.in1.in1.handled = none := by simp [hh]
        have hz1 : (s.heap.push { cls := .type "set", dict := none, data := .set #[] 0 (.fresh 0 0 (!w.params.followText "set-order")) }).objs.size = s.heap.objs.size + 1 := Heap.size_push ..
        have hneI : l ≠ (s.heap.push { cls := .type "set", dict := none, data := .set #[] 0 (.fresh 0 0 (!w.params.followText "set-order")) }).objs.size := by
          rw [Heap.size_push]; exact Nat.ne_of_lt (Nat.lt_succ_of_lt hlS)
        have hSf : s.heap.objs.size ∉ [(s.heap.push { cls := .type "set", dict := none, data := .set #[] 0 (.fresh 0 0 (!w.params.followText "set-order")) }).objs.size, l] := by
          rw [Heap.size_push]; simp only [List.mem_cons, List.mem_singleton, List.not_mem_nil, or_false, not_or]
          exact ⟨Nat.ne_of_lt (Nat.lt_succ_self _), Nat.ne_of_gt hlS⟩
        have hval : ∀ (i : Nat) (v : Value), items[i]? = some v → ∃ p, ks[i]? = some p ∧ v = .ref p.1 := fun i v hv => by
          have q : items.toList[i]? = some v := by rw [Array.getElem?_toList]; exact hv
          rw [hit, List.getElem?_map] at q
          cases hq : ks[i]? with
          | none => rw [hq] at q; cases q
          | some p =>
            rw [hq] at q
            exact ⟨p, rfl, (Option.some.inj q).symm⟩
        have none_of : ∀ b, s.heap.objs.size ≤ b → s.heap.get? b = none := fun b hb => by
          cases q : s.heap.get? b with
          | none => rfl
          | some o => exact absurd (Nat.lt_of_lt_of_le (Heap.lt_size q) hb) (Nat.lt_irrefl _)
        refine set_update_tups ((Walks.tuple hh3 _ l hneI items).toS) s.heap.objs.size
          hSf ks hisz hfew hval s.heap hk (none_of _ (Nat.le_refl _)) (fun b hb => none_of b (by
            rw [List.mem_singleton.mp hb, Heap.size_push]
            exact Nat.le_succ _)) hu (items.size - 0) 0 _ (by omega) (Nat.zero_le _)
          ⟨⟨_, Heap.get?_push_size _ rfl, rfl, rfl⟩, (hl1.push _)⟩ (fun b o e => Heap.get?_push_of_some _ (Heap.get?_push_of_some _ e)) ?hS0 ?hR
        case hS0 =>
          have hget : ((s.heap.push { cls := .type "set", dict := none, data := .set #[] 0 (.fresh 0 0 (!w.params.followText "set-order")) }).push { cls := .type "tuple_iterator", data := .fields #[.ref l, .int 0 0] }).get? s.heap.objs.size
              = some { cls := .type "set", dict := none, data := .set #[] 0 (.fresh 0 0 (!w.params.followText "set-order")) } := Heap.get?_push_of_some _ hS
          exact ⟨[], #[], 0, _, setTR_fresh hget, Got.zero ks⟩
        case hR =>
          intro s' L es ep t hm hS' g' hkp
          obtain ⟨h', g2, d', tk', os'⟩ := s'
          have eg : g2 = s.gens := hm.gens
          have ed : d' = s.drawn := hm.drawn
          have eo : os' = s.os := hm.os
          subst eg; subst ed; subst eo
          show wpAny _ _ _ _ _ _
          refine wpAny_pure ?_
          show wpAny _ _ (ret Value.none) _ _ _
          rw [hisz] at g'
          exact wpAny_pure ⟨rfl, h', tk', L, es, ep, t, rfl, hS', g', hkp⟩

      · cases r₂ with
        | error e => exact hr₂
        | ok fl₂ =>
          cases fl₂ with
          | ret r =>
            obtain ⟨rfl, h', tk, L, es, ep, t, rfl, hS', g', hk'⟩ := hr₂
            repeat (any_goals (first | assumption | wp_step))
            exact h _ _ _ _ _ _ hS' g' hk'
          | _ => exact hr₂.elim
    | _ => exact hr.elim
end
end L2
namespace Ev
open PySem PySem.Spec PyProof.Rows L2 Ed
def intsOf : List PyData → Option (List Int)
  | [] => some []
  | .int i :: ds => (intsOf ds).map fun xs => i :: xs
  | _ => none
def tupsOf : List PyData → Option (List (List Int))
  | [] => some []
  | .tuple d :: ds => (intsOf d).bind fun x => (tupsOf ds).map fun xs => x :: xs
  | _ => none
/-- the unlike ones -/
def ddp (xs : List (List Int)) : List (List Int) := match xs with
  | [] => []
  | x :: xs => if x ∈ xs then ddp xs else x :: ddp xs
theorem mem_ddp : ∀ {xs : List (List Int)} {y : List Int}, y ∈ ddp xs ↔ y ∈ xs
  | [], y => Iff.rfl
  | x :: xs, y => by
    unfold ddp
    split
    · rename_i h
      rw [mem_ddp, List.mem_cons]
      exact ⟨.inr, fun z => z.elim (fun e => e ▸ h) id⟩
    · rw [List.mem_cons, List.mem_cons, mem_ddp]
theorem nodup_ddp : ∀ {xs : List (List Int)}, (ddp xs).Nodup
  | [] => List.nodup_nil
  | x :: xs => by
    unfold ddp
    split
    · exact nodup_ddp
    · rename_i h
      exact List.nodup_cons.mpr ⟨fun z => h (mem_ddp.mp z), nodup_ddp⟩
theorem nodup_len {a b : List (List Int)} (ha : a.Nodup) (hb : b.Nodup) (h : ∀ x, x ∈ a ↔ x ∈ b) : a.length = b.length := ((List.perm_ext_iff_of_nodup ha hb).mpr h).length_eq
theorem RpAll.ints {H : Hp} {N : As} : ∀ {ds : List PyData} {vs : List V} {is : List Int}, RpAll H N vs ds → intsOf ds = some is → vs = is.map V.int
  | [], _, _, .nil, e => by
    cases e
    rfl
  | d :: ds, v :: vs, is, .cons a b, e => by
    cases d with
    | int x =>
      have e : (intsOf ds).map (fun xs => x :: xs) = some is := e
      cases h : intsOf ds with
      | none =>
        rw [h] at e
        cases e
      | some zs =>
        rw [h] at e
        cases e
        cases a
        rw [RpAll.ints b h]
        rfl
    | _ => cases e
theorem RpAll.tups {H : Hp} {N : As} : ∀ {ds : List PyData} {vs : List V} {ks : List (List Int)}, RpAll H N vs ds → tupsOf ds = some ks → ∃ ps : List (Addr × List Int), vs = ps.map (fun p => V.ref p.1) ∧ ps.map (·.2) = ks ∧ ∀ p ∈ ps, Tp H p.1 (p.2.map V.int)
  | [], _, _, .nil, e => by
    cases e
    exact ⟨[], rfl, rfl, fun p h => nomatch h⟩
  | d :: ds, v :: vs, ks, .cons a b, e => by
    cases d with
    | tuple x =>
      have e : ((intsOf x).bind fun y => (tupsOf ds).map fun xs => y :: xs) = some ks := e
      cases h : intsOf x with
      | none =>
        rw [h] at e
        cases e
      | some y =>
        rw [h] at e
        have e : (tupsOf ds).map (fun xs => y :: xs) = some ks := e
        cases h2 : tupsOf ds with
        | none =>
          rw [h2] at e
          cases e
        | some zs =>
          rw [h2] at e
          cases e
          obtain ⟨t, xs, rfl, ht, ax⟩ := a.tuple_inv
          have := ax.ints h
          subst this
          obtain ⟨ps, h3, h4, h5⟩ := RpAll.tups b h2
          refine ⟨(t, y) :: ps, by rw [h3]; rfl, by rw [List.map_cons, h4], fun p hp => ?_⟩
          rcases List.mem_cons.mp hp with z | z
          · rw [z]
            exact ht
          · exact h5 p z
    | _ => cases e
def dLenSet (d : PyData) : Option PyData := (seqD d).bind fun ds => (tupsOf ds).bind fun ks => if ks.length < 64 then some (.int (ddp ks).length) else none
section
variable {X : Cx} {c : Cfg} {E : L2.St → XK}
theorem de_lenset {a : Expr} {m : M PyData} {p p2 q pos : Pos} (hc : X.calm = true) (hu : X.A.units + 65 < cLine) (hg : Gl X "len") (hm : X.mg "len" = none) (hg2 : Gl X "set") (hm2 : X.mg "set" = none) (ha : PE X a (tX c E m)) (na : starEach [a] X.env = (false, eval a X.env) :: starEach [] X.env := by rfl) :
    PE X (.Call (.Name "len" p) [.Call (.Name "set" p2) [a] [] q] [] pos) (tX c E (m1 dLenSet m)) := by
  refine ⟨fun pins s σ H Q I ⟨f, ρ, S, h⟩ => ?_⟩
  have h' : tX c E m σ H (fun v H1 => ∃ f1 ρ1 d, StR c f1 σ H1 ρ1 ∧ Rp H1 f1.N v d ∧ RX c E f1 σ (M.lift (dLenSet d)) (OkX c σ Q) ρ1 H1) := x_bind S h reb_X fun d ρ1 v H1 f1 _ g1 S1 r1 h1 => ⟨f1, ρ1, d, S1, r1, h1⟩
  refine Call_ (ld_blt I hg hm PySem.boot_len ?_)
  refine PyProof.Rows.callWith_builtin1 (PyProof.Rows.args_cons ?_ rfl) rfl rfl
  refine Call_ (ld_blt I hg2 hm2 PyProof.Rows.boot_set ?_)
  refine PyProof.Rows.callWith_type1 (PyProof.Rows.args_cons (thn (ha.run pins s σ H _ I h') fun v s1 ⟨x, H1, I1, rx, f1, ρ1, d, S1, r1, h1⟩ => PyProof.Rows.args_nil ?_) na) na rfl
  obtain ⟨dr, e, qq⟩ := h1.lift
  unfold dLenSet at e
  cases hs : seqD d with
  | none =>
    rw [hs] at e
    cases e
  | some ds =>
    rw [hs] at e
    have e : ((tupsOf ds).bind fun ks => if ks.length < 64 then some (PyData.int (ddp ks).length) else none) = some dr := e
    cases ht : tupsOf ds with
    | none =>
      rw [ht] at e
      cases e
    | some ks =>
      rw [ht] at e
      have e : (if ks.length < 64 then some (PyData.int (ddp ks).length) else none) = some dr := e
      split at e
      · rename_i few
        cases e
        have fin : ∀ (ps : List (Addr × List Int)), ps.map (·.2) = ks → ∀ (h' : Heap) (tk : Nat) L es ep t, SetTR X.prog X.w h' s1.heap.objs.size L es ep t → Got ps ps.length L → (∀ b o, s1.heap.get? b = some o → h'.get? b = some o) →
            wpAny (model X.prog X.w) X.A (call (.builtin "len") [.ref s1.heap.objs.size]) (EP X pins σ Q) X.xe { s1 with heap := h', toks := tk } := fun ps hps h' tk L es ep t R G kp => by
          obtain ⟨o, ho, hex, hd⟩ := R.ob
          have sz := SetTR.size (s := { s1 with heap := h', toks := tk }) R
          have few' := R.few
          have I2 : Inv X pins σ H1 { s1 with heap := h', toks := tk } := I1.kept kp
          have el : (L.map (·.2)).length = (ddp ks).length := nodup_len R.nd nodup_ddp fun y => by
            rw [mem_ddp]
            constructor
            · intro hy
              obtain ⟨p, hp, rfl⟩ := List.mem_map.mp hy
              rw [← hps]
              exact List.mem_map.mpr ⟨p, List.mem_of_mem_take (G.sub p hp), rfl⟩
            · intro hy
              rw [← hps] at hy
              obtain ⟨p, hp, rfl⟩ := List.mem_map.mp hy
              exact G.all p (by rw [List.take_length]; exact hp)
          rw [List.length_map] at el
          refine call_len_set ho hex hd (SetTR.fits (s := { s1 with heap := h', toks := tk }) R) (by rw [sz]; omega) ⟨.int ((ddp ks).length : Nat), H1, I2.tok _, ⟨_, by rw [sz, el]⟩, qq _ H1 f1 (Gr.refl _ _) S1 (.int _)⟩
        cases d with
        | tuple ds' =>
          cases hs
          obtain ⟨l, xs, rfl, hl, ax⟩ := r1.tuple_inv
          cases rx
          obtain ⟨its, rv, pl, hz⟩ := I1.tuple (hl.sq (K := X.K))
          obtain ⟨ps, e1, e2, e3⟩ := ax.tups ht
          subst e1
          have lp : ps.length < 64 := by
            have := congrArg List.length e2
            rw [List.length_map] at this
            omega
          exact set_of_tuple ps (I1.ok.hd hc) pl (by simpa using refs_of_vals rv) (fun p hp => I1.isT ((e3 p hp).sq)) lp (by omega) fun h' tk L es ep t R G kp => PyProof.Rows.args_nil (fin ps e2 h' tk L es ep t R G kp)
        | list ds' =>
          cases hs
          obtain ⟨l, xs, rfl, hl, _, ax⟩ := r1.list_inv
          cases rx
          obtain ⟨its, rv, pl, hz⟩ := I1.list (SqL.of hl)
          obtain ⟨ps, e1, e2, e3⟩ := ax.tups ht
          subst e1
          have lp : ps.length < 64 := by
            have := congrArg List.length e2
            rw [List.length_map] at this
            omega
          exact call_set_tups ps (I1.ok.hd hc) pl.isList (by simpa using refs_of_vals rv) (fun p hp => I1.isT ((e3 p hp).sq)) lp (by omega) fun h' tk L es ep t R G kp => PyProof.Rows.args_nil (fin ps e2 h' tk L es ep t R G kp)
        | _ => cases hs
      · cases e
end
end Ev

set_option Elab.async false
set_option linter.all false
set_option maxRecDepth 100000
set_option maxHeartbeats 4000000
/-! Ev: the script that a law is asked with. -/
namespace Ev
open PySem PySem.Spec PyProof.Rows L2 Ed
def scrD (ns : List Int) : PyData := .list (ns.map .int)
theorem scr_dp {K : PySem.W.Frag} {H : Hp} {a : Addr} {ns : List Int} (h : SqL K H a (ns.map V.int)) : Dp K H (.ref a) (scrD ns) := by
  refine .lst h ?_
  clear h
  induction ns with
  | nil => exact .nil
  | cons n ns ih => exact .cons (.int n) ih
def mSlen (i : Nat) : M PyData := fun ρ => match ρ[i]? with
  | some (.scr ns) => some (.ok (.int ns.length), ρ)
  | _ => none
def mScr (i : Nat) (g : PyData → PyData → Option PyData) (mb : M PyData) : M PyData := fun ρ => match ρ[i]? with
  | some (.scr ns) => (mb.bind fun y => M.lift (g (scrD ns) y)) ρ
  | _ => none
section
variable {X : Cx} {c : Cfg} {E : L2.St → XK} {i : Nat} {x : Str} {p p2 pos : Pos}
theorem scr_at {f : Fm} {σ : L2.St} {H : Hp} {ρ : List Sl} {ns : List Int} (S : StR c f σ H ρ) (h : ρ[i]? = some (.scr ns)) : ∃ a, σ[i]? = some (some (.ref a)) ∧ ScrA c.K H a ns := by
  obtain ⟨v, e, a, rfl, q⟩ := S.sl i _ h (fun z => nomatch z)
  exact ⟨a, e, q⟩
theorem de_slen (hK : X.K = c.K) (hN : X.N[i]? = some x) (hv : Vis X.env.scope x) (hg : Gl X "len") (hm : X.mg "len" = none) (hd : (x == ("__debug__" : Str)) = false := by decide) (hcd : (x == ("__classdict__" : Str)) = false := by decide)
    (hs : starEach [.Name x p] X.env = (false, eval (.Name x p) X.env) :: starEach [] X.env := by rfl) : PE X (.Call (.Name "len" p2) [.Name x p] [] pos) (tX c E (mSlen i)) := by
  refine peMono (pe_callB call_len hg hm PySem.boot_len (pa_cons (pe_var hN hv hd hcd) pa_nil hs) (by decide) (by decide) hs rfl) fun σ H Q ⟨f, ρ, S, r, ρ', e, q⟩ => ?_
  unfold mSlen at e
  cases hi : ρ[i]? with
  | none =>
    rw [hi] at e
    cases e
  | some s =>
    rw [hi] at e
    cases s with
    | scr ns =>
      cases e
      obtain ⟨a, e1, hq⟩ := scr_at S hi
      exact ⟨_, e1, .ref a, ns.length, rfl, .inl ⟨_, by rw [hK]; exact hq.sq, by rw [List.length_map]⟩, q _ H f (Gr.refl _ _) S (.int _)⟩
    | _ => cases e
theorem scr_split {g : PyData → PyData → Option PyData} {mb : M PyData} {f : Fm} {σ : L2.St} {H : Hp} {ρ : List Sl} {Ok : OkF PyData} (h : RX c E f σ (mScr i g mb) Ok ρ H) : ∃ ns, ρ[i]? = some (.scr ns) ∧ RX c E f σ (mb.bind fun y => M.lift (g (scrD ns) y)) Ok ρ H := by
  obtain ⟨r, ρ', e, q⟩ := h
  unfold mScr at e
  cases hi : ρ[i]? with
  | none =>
    rw [hi] at e
    cases e
  | some s =>
    rw [hi] at e
    cases s with
    | scr ns => exact ⟨ns, rfl, r, ρ', e, q⟩
    | _ => cases e
theorem de_six {b : Expr} {mb : M PyData} (hK : X.K = c.K) (hN : X.N[i]? = some x) (hv : Vis X.env.scope x) (hb : PE X b (tX c E mb)) (hs : PlainIx b) (hd : (x == ("__debug__" : Str)) = false := by decide) (hcd : (x == ("__classdict__" : Str)) = false := by decide) : PE X (.Subscript (.Name x p) b pos) (tX c E (mScr i dIx mb)) := by
  refine peMono (pe_ix (ix_seqK (K := X.K) rfl) (pe_var hN hv hd hcd) hb hs) fun σ H Q ⟨f, ρ, S, h⟩ => ?_
  obtain ⟨ns, hi, h⟩ := scr_split h
  obtain ⟨a, e1, hq⟩ := scr_at S hi
  refine ⟨_, e1, ?_⟩
  refine x_bind S h reb_X fun d ρ1 v H1 f1 _ g1 S1 r1 h1 => ?_
  obtain ⟨dd, e, q⟩ := h1.lift
  cases d with
  | int k =>
    cases r1
    have hq1 := (ScrA.fu hq (Fu.of g1.st)).sq
    have e : atI (ns.map PyData.int) k = some dd := e
    have : ∃ z, ns[(ixN ns.length k).getD 0]? = some z ∧ dd = .int z ∧ atI (ns.map V.int) k = some (.int z) := by
      unfold L2.atI at e ⊢
      rw [List.length_map] at e ⊢
      cases hx : ixN ns.length k with
      | none =>
        rw [hx] at e
        cases e
      | some j =>
        rw [hx] at e
        have e : (ns.map PyData.int)[j]? = some dd := e
        rw [List.getElem?_map] at e
        cases hz : ns[j]? with
        | none =>
          rw [hz] at e
          cases e
        | some z =>
          rw [hz] at e
          cases e
          exact ⟨z, by simpa using hz, rfl, by show (ns.map V.int)[j]? = _; rw [List.getElem?_map, hz]; rfl⟩
    obtain ⟨z, _, rfl, ez⟩ := this
    exact .inl ⟨a, _, k, .int z, rfl, rfl, by rw [hK]; exact hq1, ez, q _ H1 f1 (Gr.refl _ _) S1 (.int z)⟩
  | _ => cases e
theorem dt_sne {b : Expr} {mb : M PyData} (hK : X.K = c.K) (hu : X.A.units + 65 < cLine) (hN : X.N[i]? = some x) (hv : Vis X.env.scope x) (hb : PE X b (tX c E mb)) (hm : behindInMarks .NotEq b = false := by rfl) (hd : (x == ("__debug__" : Str)) = false := by decide) (hcd : (x == ("__classdict__" : Str)) = false := by decide) : PT X (.Compare (.Name x p) [.NotEq] [b] pos) (tT c E (mTest (mScr i dNe mb))) := by
  refine ptMono (pt_cmpR (op_neD (X := X) (by omega)) (pe_var hN hv hd hcd) hb hm) fun σ H Q ⟨f, ρ, S, h⟩ => ?_
  have h := h.bind (Ok1 := OkX c σ fun x H' => ∃ k, x = .bl k ∧ Q k H') fun dd ρ1 _ h1 v H' f' g' S' rv => by
    obtain ⟨b, e, q⟩ := h1.lift
    cases dd with
    | bool k =>
      cases e
      cases rv
      exact ⟨_, rfl, q H' f' g' S'⟩
    | _ => cases e
  obtain ⟨ns, hi, h⟩ := scr_split h
  obtain ⟨a, e1, hq⟩ := scr_at S hi
  refine ⟨_, e1, ?_⟩
  refine x_bind S h reb_X fun d ρ1 v H1 f1 _ g1 S1 r1 h1 => ?_
  obtain ⟨dd, e, q⟩ := h1.lift
  have e : dNe0 (scrD ns) d = some dd := e
  unfold dNe0 at e
  split at e
  · rename_i hsh
    rw [Bool.and_eq_true] at hsh
    cases e
    have hq1 := (ScrA.fu hq (Fu.of g1.st)).sq
    exact ⟨scrD ns, d, by rw [hK]; exact scr_dp hq1, r1.dp, hsh.1, hsh.2, q _ H1 f1 (Gr.refl _ _) S1 (.bl _)⟩
  · cases e
end
end Ev
namespace Ev
open PySem PySem.Spec PyProof.Rows L2 Ed
/-- how the law begins -/
theorem law_start {c : Cfg} {F : FnD} {H : Hp} {a : Addr} {ns : List Int} {K : PySem.W.Frag} (hK : c.K = K) (hio : c.io = []) (hk : c.kp = []) (hx : c.fx = []) (hS : ScrA K H a ns) (ht : LamX.Tabs c.T H) (m : ∃ ρ', F [.scr ns] = some (.ok (.dat (.bool true)), ρ')) :
    spD (c.at []) 1 F [.ref a] H (fun v _ => v = .bl true) fun _ _ _ => False := by
  obtain ⟨ρ', e⟩ := m
  refine ⟨rfl, ⟨fun _ => False, fun _ => False, fun b => H b ≠ none, fun _ => False, fun _ => 0⟩, [.scr ns], ?_, rfl, rfl, _, ρ', e, fun v H' f' g S' r => ?_⟩
  · refine ⟨rfl, fun i s h n => ?_, fun i j b s t h1 h2 o1 o2 e1 e2 => ?_, fun b z => z.elim, fun b z => z.elim, fun b z => z.elim, fun b z => z, fun i b s h o e ni => ?_, (fun i hi => nomatch hi), ht, (fun q hq => nomatch hq), (fun q hq => nomatch hq)⟩
    · cases i with
      | zero =>
        cases h
        exact ⟨.ref a, rfl, a, rfl, by rw [← hK] at hS; exact hS⟩
      | succ i => simp at h
    · cases i with
      | zero =>
        cases h1
        cases o1
      | succ i => simp at h1
    · cases i with
      | zero =>
        cases h
        cases o
      | succ i => simp at h
  · cases r
    rfl
end Ev

set_option Elab.async false
set_option linter.all false
set_option maxRecDepth 100000
set_option maxHeartbeats 4000000
/-! Ev: how the functions of bodies are reckoned: comprehensions, loops, calls. -/
namespace Ev
open PySem PySem.Spec PyProof.Rows L2 Ed
/-- this value comes, the slots stay -/
def Val {α : Type} (m : M α) (ρ : List Sl) (a : α) : Prop := m ρ = some (.ok a, ρ)
section
variable {α β : Type} {ρ ρ1 ρ2 : List Sl}
theorem M.bind_ok {m : M α} {k : α → M β} {a : α} (h : m ρ = some (.ok a, ρ1)) : m.bind k ρ = k a ρ1 := by
  unfold M.bind
  rw [h]
theorem M.lift_some {o : Option α} {a : α} (h : o = some a) : M.lift o ρ = some (.ok a, ρ) := by
  rw [h]
  rfl
theorem sOf_ok {m : M α} {k : α → SM} {a : α} (h : m ρ = some (.ok a, ρ1)) : sOf m k ρ = k a ρ1 := by
  unfold sOf
  rw [h]
theorem sOf_err {m : M α} {k : α → SM} {cn : Str} {x : PyData} (h : m ρ = some (.err cn x, ρ1)) : sOf m k ρ = some (.err cn x, ρ1) := by
  unfold sOf
  rw [h]
theorem sSeq_nx {m k : SM} (h : m ρ = some (.nx, ρ1)) : sSeq m k ρ = k ρ1 := by
  unfold sSeq
  rw [h]
theorem sSeq_ret {m k : SM} {r : Rv} (h : m ρ = some (.ret r, ρ1)) : sSeq m k ρ = some (.ret r, ρ1) := by
  unfold sSeq
  rw [h]
theorem sSeq_err {m k : SM} {cn : Str} {x : PyData} (h : m ρ = some (.err cn x, ρ1)) : sSeq m k ρ = some (.err cn x, ρ1) := by
  unfold sSeq
  rw [h]
theorem sIf_t {t : M Bool} {a b : SM} (h : t ρ = some (.ok true, ρ1)) : sIf t a b ρ = a ρ1 := by
  unfold sIf
  rw [sOf_ok h]
  rfl
theorem sIf_f {t : M Bool} {a b : SM} (h : t ρ = some (.ok false, ρ1)) : sIf t a b ρ = b ρ1 := by
  unfold sIf
  rw [sOf_ok h]
  rfl
theorem m1_ok {g : PyData → Option PyData} {m : M PyData} {a d : PyData} (h : m ρ = some (.ok a, ρ1)) (e : g a = some d) : m1 g m ρ = some (.ok d, ρ1) := by
  unfold m1
  rw [M.bind_ok h, M.lift_some e]
theorem m2_ok {g : PyData → PyData → Option PyData} {ma mb : M PyData} {a b d : PyData} (ha : ma ρ = some (.ok a, ρ1)) (hb : mb ρ1 = some (.ok b, ρ2)) (e : g a b = some d) : m2A g ma M.pure mb ρ = some (.ok d, ρ2) := by
  unfold m2A
  rw [M.bind_ok ha, M.bind_ok hb]
  show M.lift (g a b) ρ2 = _
  rw [M.lift_some e]
theorem mTest_ok {m : M PyData} {b : Bool} (h : m ρ = some (.ok (.bool b), ρ1)) : mTest m ρ = some (.ok b, ρ1) := by
  unfold mTest
  rw [M.bind_ok h]
  rfl
theorem mNot_ok {m : M Bool} {b : Bool} (h : m ρ = some (.ok b, ρ1)) : mNot m ρ = some (.ok (!b), ρ1) := by
  unfold mNot
  rw [M.bind_ok h]
  rfl
theorem mAnd_ok {a b : M Bool} {x y : Bool} (ha : a ρ = some (.ok x, ρ1)) (hb : x = true → b ρ1 = some (.ok y, ρ1)) : mAnd a b ρ = some (.ok (x && y), ρ1) := by
  unfold mAnd
  rw [M.bind_ok ha]
  cases x with
  | true => exact hb rfl
  | false => rfl
theorem mOr_ok {a b : M Bool} {x y : Bool} (ha : a ρ = some (.ok x, ρ1)) (hb : x = false → b ρ1 = some (.ok y, ρ1)) : mOr a b ρ = some (.ok (x || y), ρ1) := by
  unfold mOr
  rw [M.bind_ok ha]
  cases x with
  | true => rfl
  | false => exact hb rfl
theorem vAnd_ok {a b : M PyData} {x y : Bool} (ha : a ρ = some (.ok (.bool x), ρ1)) (hb : x = true → b ρ1 = some (.ok (.bool y), ρ1)) : vAnd a b ρ = some (.ok (.bool (x && y)), ρ1) := by
  unfold vAnd
  rw [M.bind_ok (mTest_ok ha)]
  cases x with
  | true => exact hb rfl
  | false => rfl
theorem mChain_ok {g g' : PyData → PyData → Option PyData} {a b d : M PyData} {x y z : PyData} {p q : Bool} (ha : a ρ = some (.ok x, ρ)) (hb : b ρ = some (.ok y, ρ)) (hd : d ρ = some (.ok z, ρ)) (e : g x y = some (.bool p)) (e2 : g' y z = some (.bool q)) : mChain g g' a b d ρ = some (.ok (.bool (p && q)), ρ) := by
  unfold mChain
  rw [M.bind_ok ha, M.bind_ok hb, e]
  show (M.lift (some p)).bind _ ρ = _
  rw [M.bind_ok (a := p) (ρ1 := ρ) rfl]
  cases p with
  | true =>
    show (d.bind fun z => M.lift (g' y z)) ρ = _
    rw [M.bind_ok hd, e2]
    rfl
  | false => rfl
/-! ### comprehensions that leave the slots -/
theorem lcLoop_ok {vs : List Nat} {g : Tf} {t : M Bool} {e : M PyData} {p : PyData → Bool} {f : PyData → PyData} : ∀ {ds acc : List PyData} {ρ : List Sl}, acc.length + ds.length ≤ lim →
    (∀ d ∈ ds, ∀ ρ', wS vs ρ' = wS vs ρ → ∃ ρ1, g d (wS vs ρ') = some ρ1 ∧ wS vs ρ1 = wS vs ρ ∧ t ρ1 = some (.ok (p d), ρ1) ∧ (p d = true → e ρ1 = some (.ok (f d), ρ1))) →
    ∃ ρ', lcLoop vs g t e ds acc ρ = some (acc ++ (ds.filter p).map f, ρ') ∧ wS vs ρ' = wS vs ρ
  | [], acc, ρ, _, _ => ⟨ρ, by simp [lcLoop], rfl⟩
  | d :: ds, acc, ρ, hl, h => by
    rw [List.length_cons] at hl
    obtain ⟨ρ1, h1, h2, h3, h4⟩ := h d List.mem_cons_self ρ rfl
    unfold lcLoop
    rw [h1]
    dsimp only
    rw [h3]
    cases hp : p d with
    | false =>
      obtain ⟨ρ', e1, e2⟩ := lcLoop_ok (ds := ds) (ρ := ρ1) (acc := acc) (by omega) fun x hx ρ2 z => by
        obtain ⟨q, q1, q2, q3⟩ := h x (List.mem_cons_of_mem _ hx) ρ2 (z.trans h2)
        exact ⟨q, q1, q2.trans h2.symm, q3⟩
      exact ⟨ρ', by dsimp only; rw [e1, List.filter_cons_of_neg (by rw [hp]; exact Bool.false_ne_true)], e2.trans h2⟩
    | true =>
      dsimp only
      rw [h4 hp]
      dsimp only
      rw [if_pos (show acc.length < lim by omega)]
      obtain ⟨ρ', e1, e2⟩ := lcLoop_ok (ds := ds) (ρ := ρ1) (acc := acc ++ [f d]) (by rw [List.length_append, List.length_singleton]; omega) fun x hx ρ2 z => by
        obtain ⟨q, q1, q2, q3⟩ := h x (List.mem_cons_of_mem _ hx) ρ2 (z.trans h2)
        exact ⟨q, q1, q2.trans h2.symm, q3⟩
      exact ⟨ρ', by rw [e1, List.filter_cons_of_pos hp, List.map_cons, List.append_assoc]; rfl, e2.trans h2⟩
theorem mLc_ok {vs : List Nat} {mi : M (List PyData)} {g : Tf} {t : M Bool} {e : M PyData} {p : PyData → Bool} {f : PyData → PyData} {ds : List PyData} (hi : mi ρ = some (.ok ds, ρ1)) (hl : ds.length ≤ lim)
    (h : ∀ d ∈ ds, ∀ ρ', wS vs ρ' = wS vs ρ1 → ∃ ρ2, g d (wS vs ρ') = some ρ2 ∧ wS vs ρ2 = wS vs ρ1 ∧ t ρ2 = some (.ok (p d), ρ2) ∧ (p d = true → e ρ2 = some (.ok (f d), ρ2))) :
    mLc vs mi g t e ρ = some (.ok (.lst ((ds.filter p).map f)), resto ρ1 vs (wS vs ρ1)) := by
  obtain ⟨ρ', e1, e2⟩ := lcLoop_ok (acc := []) (by simpa using hl) h
  unfold mLc
  rw [M.bind_ok hi, e1]
  show some (Rs.ok (OD.lst _), resto ρ1 vs (wS vs ρ')) = _
  rw [e2]
  rfl
/-! ### loops -/
/-- each turn goes on -/
theorem sFor_ok {g : Tf} {body : SM} (Pv : Nat → List Sl → Prop) : ∀ {ds : List PyData} {i : Nat} {ρ : List Sl}, Pv i ρ → (∀ k d ρ, ds[k]? = some d → Pv (i + k) ρ → ∃ ρ1 ρ2, g d ρ = some ρ1 ∧ body ρ1 = some (.nx, ρ2) ∧ Pv (i + k + 1) ρ2) → ∃ ρ', sFor g body ds ρ = some (.nx, ρ') ∧ Pv (i + ds.length) ρ'
  | [], i, ρ, h, _ => ⟨ρ, rfl, h⟩
  | d :: ds, i, ρ, h, st => by
    obtain ⟨ρ1, ρ2, h1, h2, h3⟩ := st 0 d ρ rfl h
    unfold sFor
    rw [h1]
    dsimp only
    rw [h2]
    dsimp only
    obtain ⟨ρ', e1, e2⟩ := sFor_ok (ds := ds) (i := i + 1) Pv h3 fun k x ρ hk hp => by
      have := st (k + 1) x ρ (by simpa using hk) (by rw [show i + (k + 1) = i + 1 + k by omega]; exact hp)
      rw [show i + (k + 1) + 1 = i + 1 + k + 1 by omega] at this
      exact this
    exact ⟨ρ', e1, by rw [List.length_cons, show i + (ds.length + 1) = i + 1 + ds.length by omega]; exact e2⟩
/-- a look for the first that is so: r tells what is handed back -/
theorem sFor_find {g : Tf} {body : SM} {r : PyData → Option Rv} (Pv : List Sl → Prop) : ∀ {ds : List PyData} {ρ : List Sl}, Pv ρ → (∀ d ∈ ds, ∀ ρ, Pv ρ → ∃ ρ1 ρ2, g d ρ = some ρ1 ∧ Pv ρ2 ∧ body ρ1 = some ((match r d with
    | some v => .ret v
    | none => .nx), ρ2)) → ∃ ρ', Pv ρ' ∧ sFor g body ds ρ = some ((match ds.findSome? r with
    | some v => .ret v
    | none => .nx), ρ')
  | [], ρ, h, _ => ⟨ρ, h, rfl⟩
  | d :: ds, ρ, h, st => by
    obtain ⟨ρ1, ρ2, h1, h2, h3⟩ := st d List.mem_cons_self ρ h
    unfold sFor
    rw [h1]
    dsimp only
    rw [h3, List.findSome?_cons]
    cases hr : r d with
    | some v => exact ⟨ρ2, h2, rfl⟩
    | none =>
      dsimp only
      exact sFor_find (ds := ds) Pv h2 fun x hx => st x (List.mem_cons_of_mem _ hx)
/-! ### calls of data -/
theorem agJs_d (xs : List Sl) : agJs (xs.map Ag.d) = [] := by
  induction xs with
  | nil => rfl
  | cons x xs ih => exact ih
theorem agIo_d (xs : List Sl) : agIo (xs.map Ag.d) = [] := by
  unfold agIo
  refine List.filter_eq_nil_iff.mpr fun k hk => ?_
  rw [List.getElem?_map]
  cases xs[k]? <;> simp
theorem agBack_d (xs : List Sl) : ∀ (k : Nat) (ρc ρ : List Sl), agBack (xs.map Ag.d) k ρc ρ = ρ := by
  induction xs with
  | nil => exact fun _ _ _ => rfl
  | cons x xs ih => exact fun k ρc ρ => ih (k + 1) ρc ρ
theorem agS_d (ρ : List Sl) (xs : List Sl) : (xs.map Ag.d).map (agS ρ) = xs := by
  rw [List.map_map]
  exact List.map_id xs
theorem agOk_d (ρ : List Sl) (xs : List Sl) : agOk [] ρ (xs.map Ag.d) = true := by
  unfold agOk
  rw [agJs_d, agIo_d]
  rfl
theorem mCall_ok {F : FnD} {ma : M (List Ag)} {xs : List Sl} {r : Rv} {ρc : List Sl} (ha : ma ρ = some (.ok (xs.map Ag.d), ρ1)) (h : F xs = some (.ok r, ρc)) : mCall [] F ma ρ = some (.ok r, ρ1) := by
  unfold mCall
  rw [M.bind_ok ha, if_pos (agOk_d ρ1 xs), agS_d, h]
  dsimp only
  rw [agBack_d]
theorem call_ok {F : FnD} {ma : M (List Ag)} {xs : List Sl} {d : PyData} {ρc : List Sl} (ha : ma ρ = some (.ok (xs.map Ag.d), ρ1)) (h : F xs = some (.ok (.dat d), ρc)) : mCallX [] F ma ρ = some (.ok d, ρ1) := by
  unfold mCallX
  rw [M.bind_ok (mCall_ok ha h)]
  rfl
theorem call_err {F : FnD} {ma : M (List Ag)} {xs : List Sl} {cn : Str} {x : PyData} {ρc : List Sl} (ha : ma ρ = some (.ok (xs.map Ag.d), ρ1)) (h : F xs = some (.err cn x, ρc)) : mCallX [] F ma ρ = some (.err cn x, ρ1) := by
  unfold mCallX mCall M.bind
  rw [ha]
  dsimp only
  rw [if_pos (agOk_d ρ1 xs), agS_d, h]
  dsimp only
  rw [agBack_d]
theorem gaD_ok {a : M PyData} {b : M (List Ag)} {d : PyData} {xs : List Sl} (ha : a ρ = some (.ok d, ρ1)) (hb : b ρ1 = some (.ok (xs.map Ag.d), ρ2)) : gaD a b ρ = some (.ok ((.dat d :: xs).map Ag.d), ρ2) := by
  unfold gaD
  rw [M.bind_ok ha, M.bind_ok hb]
  rfl
theorem gaNil_ok : gaNil ρ = some (.ok (([] : List Sl).map Ag.d), ρ) := rfl
theorem mCons_ok {a : M PyData} {b : M (List PyData)} {d : PyData} {xs : List PyData} (ha : a ρ = some (.ok d, ρ1)) (hb : b ρ1 = some (.ok xs, ρ2)) : mCons a b ρ = some (.ok (d :: xs), ρ2) := by
  unfold mCons
  rw [M.bind_ok ha, M.bind_ok hb]
  rfl
theorem mNil_ok : mNil ρ = some (.ok [], ρ) := rfl
theorem mTup_ok {m : M (List PyData)} {xs : List PyData} (h : m ρ = some (.ok xs, ρ1)) (hl : xs.length ≤ lim) : mTup m ρ = some (.ok (.tuple xs), ρ1) := by
  unfold mTup
  rw [M.bind_ok h]
  unfold tupOf
  rw [if_pos hl]
  rfl
theorem mLst_ok {m : M (List PyData)} {xs : List PyData} (h : m ρ = some (.ok xs, ρ1)) (hl : xs.length ≤ lim) : mLst m ρ = some (.ok (.lst xs), ρ1) := by
  unfold mLst
  rw [M.bind_ok h]
  unfold lstOf
  rw [if_pos hl]
  rfl
theorem mOfL_ok {m : M OD} {xs : List PyData} (h : m ρ = some (.ok (.lst xs), ρ1)) : mOfL m ρ = some (.ok (.list xs), ρ1) := by
  unfold mOfL
  rw [M.bind_ok h]
  rfl
theorem mIsi_ok {T : String} {m : M PyData} {d : PyData} (h : m ρ = some (.ok d, ρ1)) : mIsi T m ρ = some (.ok (.bool (isT T d)), ρ1) := by
  unfold mIsi
  rw [M.bind_ok h]
  rfl
theorem fnOf_ret {n : Nat} {m : SM} {r : Rv} (h : m (ρ ++ List.replicate n .no) = some (.ret r, ρ1)) : fnOf n m ρ = some (.ok r, ρ1) := by
  unfold fnOf
  rw [h]
theorem fnOf_err {n : Nat} {m : SM} {cn : Str} {x : PyData} (h : m (ρ ++ List.replicate n .no) = some (.err cn x, ρ1)) : fnOf n m ρ = some (.err cn x, ρ1) := by
  unfold fnOf
  rw [h]
theorem fnOf_nx {n : Nat} {m : SM} (h : m (ρ ++ List.replicate n .no) = some (.nx, ρ1)) : fnOf n m ρ = some (.ok (.dat .none), ρ1) := by
  unfold fnOf
  rw [h]
theorem sSeq_congr {m m' k : SM} (h : m ρ = m' ρ1) : sSeq m k ρ = sSeq m' k ρ1 := by
  unfold sSeq
  rw [h]
theorem sFor_nx {g : Tf} {body : SM} {d : PyData} {ds : List PyData} (hg : g d ρ = some ρ1) (h : body ρ1 = some (.nx, ρ2)) : sFor g body (d :: ds) ρ = sFor g body ds ρ2 := by
  rw [sFor, hg]
  dsimp only
  rw [h]
theorem sFor_ret {g : Tf} {body : SM} {d : PyData} {ds : List PyData} {r : Rv} (hg : g d ρ = some ρ1) (h : body ρ1 = some (.ret r, ρ2)) : sFor g body (d :: ds) ρ = some (.ret r, ρ2) := by
  rw [sFor, hg]
  dsimp only
  rw [h]
theorem sFor_err {g : Tf} {body : SM} {d : PyData} {ds : List PyData} {cn : Str} {x : PyData} (hg : g d ρ = some ρ1) (h : body ρ1 = some (.err cn x, ρ2)) : sFor g body (d :: ds) ρ = some (.err cn x, ρ2) := by
  rw [sFor, hg]
  dsimp only
  rw [h]
theorem sForS_ok {g : Tf} {body : SM} {m : M (List PyData)} {ds : List PyData} (h : m ρ = some (.ok ds, ρ1)) : sForS m g body ρ = sFor g body ds ρ1 := sOf_ok h
theorem sRet_ok {m : M PyData} {d : PyData} (h : m ρ = some (.ok d, ρ1)) : sRet m ρ = some (.ret (.dat d), ρ1) := sOf_ok h
end
end Ev

set_option Elab.async false
set_option linter.all false
set_option maxRecDepth 100000
set_option maxHeartbeats 4000000
/-! Ev: sorted of a list of ints. -/
namespace Ev
open PySem PySem.Spec PyProof.Rows L2 Ed
def ins (x : Int) : List Int → List Int
  | [] => [x]
  | y :: ys => if x ≤ y then x :: y :: ys else y :: ins x ys
def isort : List Int → List Int
  | [] => []
  | x :: xs => ins x (isort xs)
theorem ins_perm (x : Int) : ∀ ys : List Int, (ins x ys).Perm (x :: ys)
  | [] => List.Perm.refl _
  | y :: ys => by
    unfold ins
    split
    · exact List.Perm.refl _
    · exact ((ins_perm x ys).cons y).trans (List.Perm.swap _ _ _)
theorem isort_perm : ∀ xs : List Int, (isort xs).Perm xs
  | [] => List.Perm.refl _
  | x :: xs => (ins_perm x _).trans ((isort_perm xs).cons x)
theorem ins_sorted {x : Int} : ∀ {ys : List Int}, ys.Pairwise (· ≤ ·) → (ins x ys).Pairwise (· ≤ ·)
  | [], _ => List.pairwise_singleton _ _
  | y :: ys, h => by
    obtain ⟨h1, h2⟩ := List.pairwise_cons.mp h
    unfold ins
    split
    · rename_i hx
      refine List.pairwise_cons.mpr ⟨fun z hz => ?_, h⟩
      rcases List.mem_cons.mp hz with rfl | hz
      · exact hx
      · exact Int.le_trans hx (h1 z hz)
    · rename_i hx
      refine List.pairwise_cons.mpr ⟨fun z hz => ?_, ins_sorted h2⟩
      rcases List.mem_cons.mp ((ins_perm x ys).mem_iff.mp hz) with rfl | hz
      · omega
      · exact h1 z hz
theorem isort_sorted : ∀ xs : List Int, (isort xs).Pairwise (· ≤ ·)
  | [] => List.Pairwise.nil
  | _ :: xs => ins_sorted (isort_sorted xs)
theorem sorted_uniq : ∀ {xs ys : List Int}, xs.Perm ys → xs.Pairwise (· ≤ ·) → ys.Pairwise (· ≤ ·) → xs = ys
  | [], ys, p, _, _ => (List.nil_perm.mp p).symm
  | x :: xs, [], p, _, _ => by cases List.perm_nil.mp p
  | x :: xs, y :: ys, p, hx, hy => by
    obtain ⟨a1, a2⟩ := List.pairwise_cons.mp hx
    obtain ⟨b1, b2⟩ := List.pairwise_cons.mp hy
    have e : x = y := by
      have m1 : x ∈ y :: ys := p.mem_iff.mp List.mem_cons_self
      have m2 : y ∈ x :: xs := p.mem_iff.mpr List.mem_cons_self
      rcases List.mem_cons.mp m1 with h | h
      · exact h
      · rcases List.mem_cons.mp m2 with h' | h'
        · exact h'.symm
        · exact Int.le_antisymm (a1 y h') (b1 x h)
    subst e
    rw [sorted_uniq ((List.perm_cons x).mp p) a2 b2]
/-- sorted of a list of ints -/
def dSorted : PyData → Option OD
  | .list ds => (intsOf ds).map fun ns => .lst ((isort ns).map .int)
  | _ => none
theorem RpAll.ofInts {H : Hp} {N : As} : ∀ ns : List Int, RpAll H N (ns.map V.int) (ns.map .int)
  | [] => .nil
  | n :: ns => .cons (.int n) (RpAll.ofInts ns)
theorem c_sorted {X : Cx} : Cl1L X (.builtin "sorted") dSorted := by
  refine ⟨_, cr_sortedI, fun H N x a o Q ra hg _ q => ?_⟩
  cases a with
  | list ds =>
    obtain ⟨ns, h, rfl⟩ := Option.map_eq_some_iff.mp hg
    obtain ⟨a, xs, rfl, hl, ax⟩ := ra.seqL (K := X.K)
    have := RpAll.ints ax h
    subst this
    refine ⟨a, ns, rfl, .inl (.inl hl), fun ns' p hp hs hn => ?_⟩
    have e : ns' = isort ns := sorted_uniq (hp.trans (isort_perm ns).symm) hs (isort_sorted ns)
    subst e
    have x := Ext.new (o := .lst ((isort ns).map V.int)) hn
    exact q p _ _ x hn upd_same (RpAll.ofInts _)
  | _ => cases hg
/-! ### sorted(set(t)), t a tuple of ints -/
def udd : List Int → List Int
  | [] => []
  | x :: xs => if x ∈ xs then udd xs else x :: udd xs
theorem mem_udd : ∀ {xs : List Int} {y : Int}, y ∈ udd xs ↔ y ∈ xs
  | [], y => Iff.rfl
  | x :: xs, y => by
    unfold udd
    split
    · rename_i h
      rw [mem_udd, List.mem_cons]
      exact ⟨.inr, fun z => z.elim (fun e => e ▸ h) id⟩
    · rw [List.mem_cons, List.mem_cons, mem_udd]
theorem nodup_udd : ∀ {xs : List Int}, (udd xs).Nodup
  | [] => List.Pairwise.nil
  | x :: xs => by
    unfold udd
    split
    · exact nodup_udd
    · rename_i h
      exact List.nodup_cons.mpr ⟨fun z => h (mem_udd.mp z), nodup_udd⟩
def usort (ns : List Int) : List Int := isort (udd ns)
theorem mem_usort {ns : List Int} {k : Int} : k ∈ usort ns ↔ k ∈ ns := ((isort_perm _).mem_iff).trans mem_udd
theorem usort_uniq {ns ms : List Int} (hs : ms.Pairwise (· < ·)) (hm : ∀ k : Int, k ∈ ms ↔ k ∈ ns) : ms = usort ns := by
  have nd : ms.Nodup := hs.imp fun h e => by omega
  have nu : (usort ns).Nodup := ((isort_perm _).nodup_iff).mpr nodup_udd
  exact sorted_uniq ((List.perm_ext_iff_of_nodup nd nu).mpr fun k => (hm k).trans mem_usort.symm) (hs.imp fun h => Int.le_of_lt h) (isort_sorted _)
def dSortSet : PyData → Option OD
  | .tuple ds => (intsOf ds).bind fun ns => if ns.length < 64 then some (.lst ((usort ns).map .int)) else none
  | _ => none
section
variable {X : Cx} {c : Cfg} {E : L2.St → XK}
theorem dl_sortSet {a : Expr} {m : M PyData} {p p2 q pos : Pos} (hc : X.calm = true) (hg : Gl X "sorted") (hm : X.mg "sorted" = none) (hbs : bootBuiltins "sorted" = some (.builtin "sorted")) (hg2 : Gl X "set") (hm2 : X.mg "set" = none) (ha : PE X a (tX c E m)) (na : starEach [a] X.env = (false, eval a X.env) :: starEach [] X.env := by rfl) :
    PE X (.Call (.Name "sorted" p) [.Call (.Name "set" p2) [a] [] q] [] pos) (tL c E (m1L dSortSet m)) := by
  refine ⟨fun pins s σ H Q I ⟨f, ρ, S, h⟩ => ?_⟩
  have h' : tX c E m σ H (fun v H1 => ∃ f1 ρ1 d, StR c f1 σ H1 ρ1 ∧ Rp H1 f1.N v d ∧ RX c E f1 σ (M.lift (dSortSet d)) (OkL c σ Q) ρ1 H1) := x_bind S h reb_L fun d ρ1 v H1 f1 _ g1 S1 r1 h1 => ⟨f1, ρ1, d, S1, r1, h1⟩
  refine Call_ (ld_blt I hg hm hbs ?_)
  refine PyProof.Rows.callWith_builtin1 (PyProof.Rows.args_cons ?_ rfl) rfl rfl
  refine Call_ (ld_blt I hg2 hm2 PyProof.Rows.boot_set ?_)
  refine PyProof.Rows.callWith_type1 (PyProof.Rows.args_cons (thn (ha.run pins s σ H _ I h') fun v s1 ⟨x, H1, I1, rx, f1, ρ1, d, S1, r1, h1⟩ => PyProof.Rows.args_nil ?_) na) na rfl
  obtain ⟨o, e, qq⟩ := h1.lift
  cases d with
  | tuple ds =>
    obtain ⟨ns, hi, e⟩ := Option.bind_eq_some_iff.mp e
    split at e
    · rename_i few
      cases e
      obtain ⟨l, xs, rfl, hl, ax⟩ := r1.tuple_inv
      cases rx
      obtain ⟨its, rv, pl, hz⟩ := I1.tuple (hl.sq (K := X.K))
      have := RpAll.ints ax hi
      subst this
      refine call_set_tupI ns (I1.ok.hd hc) pl (ints_of_vals rv) (by have : (64 : Nat) < scanBound := by decide
                                                                     omega) fun h' tk cnt R hcnt kp => PyProof.Rows.args_nil ?_
      have I2 : Inv X pins σ H1 { s1 with heap := h', toks := tk } := I1.kept kp
      refine sorted_set R (I2.ok.hd hc) (by omega) fun s' p out c2 ms k g o hp hgt hit hs hmm hlen => ?_
      have hlen2 : (ms.map V.int).length ≤ sizeLine := by rw [List.length_map, hlen, sizeLine_eq]; omega
      have hn : H1 p = none := I2.hok.fresh hp
      have J : Inv X pins σ (upd H1 p (.lst (ms.map V.int))) { s1 with heap := s'.heap, gens := s'.gens, drawn := s'.drawn, toks := s'.toks } :=
        Inv.call (s := { s1 with heap := h', toks := tk }) I2 (ch := []) (Un.laid k hp hn) (I2.hok.laid k hp ⟨hlen2, out.toList, c2, vals_of_ints hit, hgt⟩) (by rw [g]; exact I2.bare) (fun _ z => nomatch z)
      have e : s' = { s1 with heap := s'.heap, gens := s'.gens, drawn := s'.drawn, toks := s'.toks } := by
        cases s'
        cases s1
        cases o
        rfl
      rw [e]
      have em : ms = usort ns := usort_uniq hs fun k => by rw [hmm k, decide_eq_true_iff]
      subst em
      have x := Ext.new (o := .lst ((usort ns).map V.int)) hn
      exact ⟨.ref p, _, J, rfl, ol_new S1 qq x hn upd_same (RpAll.ofInts _)⟩
    · cases e
  | _ => cases e
/-! ### tuple(range(n)) -/
def dTupRng : PyData → Option PyData
  | .int n => if 0 ≤ n ∧ n ≤ 1000000 then some (.tuple (rngD 0 n.toNat)) else none
  | _ => none
def dLstRng : PyData → Option OD
  | .int n => if 0 ≤ n ∧ n ≤ 1000000 then some (.lst (rngD 0 n.toNat)) else none
  | _ => none
theorem pe_tupRgF {e : Expr} {te : L2.St → Hp → (Int → Int → Hp → Prop) → Prop} {p pos : Pos} (hc : X.calm = true) (hg : Gl X "tuple") (hm : X.mg "tuple" = none) (he : PRg X e te) (na : starEach [e] X.env = (false, eval e X.env) :: starEach [] X.env := by rfl) :
    PE X (.Call (.Name "tuple" p) [e] [] pos) fun σ H Q => te σ H fun a b H1 => RgOk a b ∧ ∀ (q : Addr) (o : Obj), H1 q = none → o.dict = none → Q (.ref q) (upd H1 q (.frz o (.tup (rgV a b)))) := by
  refine ⟨fun pins s σ H Q I h => ?_⟩
  refine Call_ (ld_blt I hg hm boot_tuple (PyProof.Rows.callWith_type1 (PyProof.Rows.args_cons (thn (he pins s σ H _ I h) fun x s1 ⟨r, a, b, t, u, v, H1, ex, hr, I1, ok, q⟩ => PyProof.Rows.args_nil ?_) na) na))
  subst ex
  obtain ⟨b1, b2, b3, b4, b5⟩ := ok
  refine call_tuple_range (n := (b - a).toNat) (I1.ok.hd hc) hr (small_one b1 b2 b3 b4) (rangeSize_nat a b) b5 fun h' tk acc hk hi => ?_
  have I2 : Inv X pins σ H1 { s1 with heap := h', toks := tk } := I1.kept hk
  have made := Heap.get?_push_size h' (o := { cls := .type "tuple", data := .seq acc }) rfl
  have hz : (rgV a b).length ≤ sizeLine := by rw [rgV_length, sizeLine_eq]; omega
  have I4 := I2.laid (o := .frz { cls := .type "tuple", data := .seq acc } (.tup (rgV a b))) (t' := tk) (fun c o e => Heap.get?_push_of_some _ e) (Nat.le_refl _) ⟨made, hz, acc.toList, vals_rg hi, by rw [Array.toArray_toList]; exact ⟨_, made, rfl, _, rfl⟩⟩
  exact ⟨.ref h'.objs.size, _, I4, rfl, q _ _ (I2.hok.fresh (Nat.le_refl _)) rfl⟩
theorem rgV_rp {H : Hp} {N : As} (n : Int) : RpAll H N (rgV 0 n) (rngD 0 n.toNat) := by
  unfold rgV rngD
  rw [Int.sub_zero]
  induction (List.range n.toNat) with
  | nil => exact .nil
  | cons i l ih => exact .cons (.int _) ih
theorem de_tupRng {a : Expr} {m : M PyData} {p p2 q pos : Pos} (hc : X.calm = true) (hg : Gl X "tuple") (hm : X.mg "tuple" = none) (hg2 : Gl X "range") (hm2 : X.mg "range" = none) (ha : PE X a (tX c E m)) (na : starEach [a] X.env = (false, eval a X.env) :: starEach [] X.env := by rfl)
    (nb : starEach [.Call (.Name "range" p2) [a] [] q] X.env = (false, eval (.Call (.Name "range" p2) [a] [] q) X.env) :: starEach [] X.env := by rfl) : PE X (.Call (.Name "tuple" p) [.Call (.Name "range" p2) [a] [] q] [] pos) (tX c E (m1 dTupRng m)) := by
  refine peMono (pe_tupRgF hc hg hm (prg_1 hg2 hm2 ha na) nb) fun σ H Q ⟨f, ρ, S, h⟩ => ?_
  show tX c E m σ H fun x H1 => ∃ n, x = .int n ∧ RgOk 0 n ∧ ∀ (q : Addr) (o : Obj), H1 q = none → o.dict = none → Q (.ref q) (upd H1 q (.frz o (.tup (rgV 0 n))))
  refine x_bind S h reb_X fun d ρ1 v H1 f1 _ g1 S1 r1 h1 => ?_
  obtain ⟨dr, e, qq⟩ := h1.lift
  cases d with
  | int n =>
    unfold dTupRng at e
    dsimp only at e
    split at e
    · rename_i hn
      cases e
      cases r1
      refine ⟨n, rfl, RgOk.of_le (by omega) (by omega) (by omega) (by omega), fun q o hq hd => ?_⟩
      have x := Ext.new (o := .frz o (.tup (rgV 0 n))) hq
      exact ox_ext S1 qq x (.tup (Tp.made hd) (rgV_rp n))
    · cases e
  | _ => cases e
theorem dl_lstRng {a : Expr} {m : M PyData} {p p2 q pos : Pos} (hc : X.calm = true) (hg : Gl X "list") (hm : X.mg "list" = none) (hg2 : Gl X "range") (hm2 : X.mg "range" = none) (ha : PE X a (tX c E m)) (na : starEach [a] X.env = (false, eval a X.env) :: starEach [] X.env := by rfl)
    (nb : starEach [.Call (.Name "range" p2) [a] [] q] X.env = (false, eval (.Call (.Name "range" p2) [a] [] q) X.env) :: starEach [] X.env := by rfl) : PE X (.Call (.Name "list" p) [.Call (.Name "range" p2) [a] [] q] [] pos) (tL c E (m1L dLstRng m)) := by
  refine peMono (pe_listRg hc hg hm (prg_1 hg2 hm2 ha na) nb) fun σ H Q ⟨f, ρ, S, h⟩ => ?_
  show tX c E m σ H fun x H1 => ∃ n, x = .int n ∧ RgOk 0 n ∧ ∀ q, H1 q = none → Q (.ref q) (upd H1 q (.lst (rgV 0 n)))
  refine x_bind S h reb_L fun d ρ1 v H1 f1 _ g1 S1 r1 h1 => ?_
  obtain ⟨dr, e, qq⟩ := h1.lift
  cases d with
  | int n =>
    unfold dLstRng at e
    dsimp only at e
    split at e
    · rename_i hn
      cases e
      cases r1
      refine ⟨n, rfl, RgOk.of_le (by omega) (by omega) (by omega) (by omega), fun q hq => ?_⟩
      have x := Ext.new (o := .lst (rgV 0 n)) hq
      exact ol_new S1 qq x hq upd_same (rgV_rp n)
    · cases e
  | _ => cases e
end
end Ev

set_option Elab.async false
set_option linter.all false
set_option maxRecDepth 100000
set_option maxHeartbeats 4000000
/-! Ev: t.index(x). -/
namespace Ev
open PySem PySem.Spec PyProof.Rows L2 Ed
theorem Rp.eqv {H H' : Hp} {N N' : As} {x y : V} {a b : PyData} (rx : Rp H N x a) (ry : Rp H' N' y b) (fa : flatD a = true) (fb : flatD b = true) : eqV x y = PyData.eqv a b := by
  cases rx with
  | tup _ _ => cases fa
  | lst _ _ _ => cases fa
  | _ =>
    cases ry with
    | tup _ _ => cases fb
    | lst _ _ _ => cases fb
    | _ => first | rfl | (rw [PyData.eqv] <;> first | rfl | (intros; simp_all))
theorem Rp.flatV {H : Hp} {N : As} {x : V} {a : PyData} (rx : Rp H N x a) (fa : flatD a = true) : L2.flatV x = true := by
  cases rx with
  | tup _ _ => cases fa
  | lst _ _ _ => cases fa
  | _ => rfl
def dTix (ds : List PyData) (y : PyData) : Option PyData := if (flatD y && ds.all flatD) = true then (ds.findIdx? fun d => PyData.eqv d y).map fun j => .int (j : Nat) else none
def mTix (mo me : M PyData) : M PyData := mo.bind fun d => match d with
  | .tuple ds => me.bind fun y => M.lift (dTix ds y)
  | _ => M.stuck
section
variable {X : Cx} {c : Cfg} {E : L2.St → XK}
theorem de_tix {o e : Expr} {mo me : M PyData} {apos cpos : Pos} (ho : PE X o (tX c E mo)) (he : PE X e (tX c E me))
    (hbase : attributeBase o "index" X.env (eval o X.env) = eval o X.env := by rfl)
    (hfew : ((backTo cpos (starEach [e] X.env)).all (fun x => !x.1) && (backToKw cpos (keywordEach [] X.env)).all (fun x => x.1.isSome) && decide ([e].length + ([] : List Keyword).length + (if ([] : List Keyword).isEmpty then 0 else 1) < 30)) = true := by rfl)
    (hline : (apos.endLine == cpos.line) = true := by rfl) (hs : starEach [e] X.env = (false, eval e X.env) :: starEach [] X.env := by rfl) (hplain : (backTo cpos (starEach [] X.env)).any (·.1) = false := by rfl) :
    PE X (.Call (.Attribute o "index" apos) [e] [] cpos) (tX c E (mTix mo me)) := by
  refine peMono (pe_bmT PySem.F.slot_tuple_index (by rfl) mt_tup_indexF ho (pa_cons he pa_nil hs) hbase hfew hline hs hplain) fun σ H Q ⟨f, ρ, S, h⟩ => ?_
  refine x_bind S h reb_X fun d ρ1 v H1 f1 _ g1 S1 r1 h1 => ?_
  cases d with
  | tuple ds =>
    cases r1 with
    | tup t ax =>
      rename_i p xs
      refine ⟨⟨p, xs, rfl, t⟩, ?_⟩
      refine x_bind S1 h1 reb_X fun y ρ2 u H2 f2 _ g2 S2 r2 h2 => ?_
      obtain ⟨dr, e, qq⟩ := h2.lift
      unfold dTix at e
      split at e
      · rename_i hf
        rw [Bool.and_eq_true] at hf
        obtain ⟨j, hj, rfl⟩ := Option.map_eq_some_iff.mp e
        obtain ⟨hlt, hp, hno⟩ := List.findIdx?_eq_some_iff_getElem.mp hj
        have rt : Rp H2 f2.N (.ref p) (.tuple ds) := g2.rp S1 (.tup t ax)
        cases rt with
        | tup t2 ax2 =>
          rename_i xs2
          have fl : xs2.all L2.flatV = true := by
            rw [List.all_eq_true]
            intro x hx
            obtain ⟨k, hk⟩ := List.mem_iff_getElem?.mp hx
            obtain ⟨d, hd, rd⟩ := RpAll.get ax2 hk
            exact rd.flatV (List.all_eq_true.mp hf.2 d (List.mem_iff_getElem?.mpr ⟨k, hd⟩))
          have ln : xs2.length = ds.length := ax2.len
          have hx : j < xs2.length := by omega
          refine ⟨p, xs2, u, j, rfl, rfl, t2.sq, r2.flatV hf.1, fl, ⟨xs2[j], List.getElem?_eq_getElem hx, ?_⟩, fun m y hm hy => ?_, qq _ H2 f2 (Gr.refl _ _) S2 (.int _)⟩
          · obtain ⟨d, hd, rd⟩ := RpAll.get ax2 (List.getElem?_eq_getElem hx)
            rw [List.getElem?_eq_getElem hlt] at hd
            cases hd
            rw [rd.eqv r2 (List.all_eq_true.mp hf.2 _ (List.getElem_mem hlt)) hf.1]
            exact hp
          · obtain ⟨d, hd, rd⟩ := RpAll.get ax2 hy
            have hml : m < ds.length := by omega
            rw [List.getElem?_eq_getElem hml] at hd
            cases hd
            rw [rd.eqv r2 (List.all_eq_true.mp hf.2 _ (List.getElem_mem hml)) hf.1]
            exact Bool.eq_false_iff.mpr (hno m hm)
      · cases e
  | _ =>
    obtain ⟨r, ρ', e, _⟩ := h1
    cases e
end
end Ev

set_option Elab.async false
set_option linter.all false
set_option maxRecDepth 100000
set_option maxHeartbeats 4000000
namespace Ev
open PySem PySem.Spec PyProof.Rows L2 Ed
def clF (CL : Cl) : Str → Addr := fun x => if x == "BadKind" then CL.BadKind else if x == "BadFields" then CL.BadFields else if x == "BadRecord" then CL.BadRecord else CL.Refused
def cf (P : Program) (w : World) (K : PySem.W.Frag) (mg : Str → Option Value) (base : Heap) (TT : List (Addr × Str)) (CL : Cl) : Cfg := ⟨P, w, K, mg, base, TT, clF CL, 9, [], [], []⟩
theorem _root_.Ed.Txt.allE {K : PySem.W.Frag} {mg : Str → Option Value} {base : Heap} {TT : List (Addr × Str)} {CL : Cl} (T : Txt K mg base TT CL) : ∀ cn ∈ (["BadKind", "BadFields", "BadRecord"] : List Str), PySem.W.ErrC K (clF CL cn) ∧ PySem.W.findIn K (.ref (clF CL cn)) "what" = some none := by
  intro cn h
  simp only [List.mem_cons, List.not_mem_nil, or_false] at h
  rcases h with rfl | rfl | rfl
  · exact ⟨T.e_BadKind.er, T.e_BadKind.wh⟩
  · exact ⟨T.e_BadFields.er, T.e_BadFields.wh⟩
  · exact ⟨T.e_BadRecord.er, T.e_BadRecord.wh⟩
theorem _root_.Ed.Txt.allX {K : PySem.W.Frag} {mg : Str → Option Value} {base : Heap} {TT : List (Addr × Str)} {CL : Cl} (T : Txt K mg base TT CL) : ∀ cn ∈ (["BadKind", "BadFields", "BadRecord"] : List Str), PySem.W.exmOne K (.ref (clF CL cn)) (.ref CL.Refused) = some true := by
  intro cn h
  simp only [List.mem_cons, List.not_mem_nil, or_false] at h
  rcases h with rfl | rfl | rfl
  · exact T.x_BadKind
  · exact T.x_BadFields
  · exact T.x_BadRecord
theorem _root_.Ed.Txt.allK {K : PySem.W.Frag} {mg : Str → Option Value} {base : Heap} {TT : List (Addr × Str)} {CL : Cl} (T : Txt K mg base TT CL) : ∀ cn ∈ (["BadKind", "BadFields", "BadRecord"] : List Str), ∀ C' ∈ (["BadKind", "BadFields", "BadRecord"] : List Str), PySem.W.kitOne K (.ref (clF CL cn)) (.ref (clF CL C')) = some (cn == C') := by
  intro cn h
  simp only [List.mem_cons, List.not_mem_nil, or_false] at h
  rcases h with rfl | rfl | rfl
  · intro C' h
    simp only [List.mem_cons, List.not_mem_nil, or_false] at h
    rcases h with rfl | rfl | rfl
    · exact T.k_BadKind_BadKind
    · exact T.k_BadKind_BadFields
    · exact T.k_BadKind_BadRecord
  · intro C' h
    simp only [List.mem_cons, List.not_mem_nil, or_false] at h
    rcases h with rfl | rfl | rfl
    · exact T.k_BadFields_BadKind
    · exact T.k_BadFields_BadFields
    · exact T.k_BadFields_BadRecord
  · intro C' h
    simp only [List.mem_cons, List.not_mem_nil, or_false] at h
    rcases h with rfl | rfl | rfl
    · exact T.k_BadRecord_BadKind
    · exact T.k_BadRecord_BadFields
    · exact T.k_BadRecord_BadRecord
theorem hctx_of {cls : Value} {d : Option Addr} {oe : Obj} (hz : L2N.Zn cls d oe) (hf : ∃ vs, oe.data = .fields vs) : ∃ vs : Array Value, oe.data = .fields vs ∧ vs[2]? = some .none := by
  obtain ⟨vs, h⟩ := hf
  exact ⟨vs, h, hz.2.2 vs h⟩
end Ev

set_option Elab.async false
set_option linter.all false
set_option maxRecDepth 100000
set_option maxHeartbeats 4000000
namespace Ev
open PySem PySem.Spec PyProof.Rows L2 Ed
section
variable {P : Program} {w : World} {K : PySem.W.Frag} {mg : Str → Option Value} {base : Heap} {TT : List (Addr × Str)} {CL : Cl}
/-- whole -/
noncomputable def m_whole : SM :=
  (sRet (vAnd (mIsi "int" (mDat 0)) (vNot (mIsi "bool" (mDat 0)))))
noncomputable def F_whole : FnD := fnOf 0 m_whole
theorem v_whole (T : Txt K mg base TT CL) : CalV P w K mg base 1 "whole" (spD ((cf P w K mg base TT CL).at []) 1 F_whole) := by
  obtain ⟨f, cd, D, hm⟩ := T.d_whole
  have sc := sc_whole
  refine D.cal hm (fnv_ev (c := (cf P w K mg base TT CL).at []) D sc rfl fun A outer s H E hr => ?_)
  exact (dss_one (ds_ret (de_and (de_isi (T := "int") (by decide) (by rfl) T.n_isinstance (dw (de_var (i := 0) rfl (by first | exact Or.inl rfl | exact Or.inr (Or.inl rfl) | exact Or.inr (Or.inr rfl)))) (pe_bltn (v := .ty "int") (by rfl) T.n_int (by decide +kernel) rfl)) (de_one (de_not (de_isi (T := "bool") (by decide) (by rfl) T.n_isinstance (dw (de_var (i := 0) rfl (by first | exact Or.inl rfl | exact Or.inr (Or.inl rfl) | exact Or.inr (Or.inr rfl)))) (pe_bltn (v := .ty "bool") (by rfl) T.n_bool (by decide +kernel) rfl)))))))
/-- whole_between -/
noncomputable def m_whole_between : SM :=
  (sRet (vAnd (mCallX [] F_whole (gaD (mDat 0) gaNil)) (mChain dLe dLe (mDat 1) (mDat 0) (mDat 2))))
noncomputable def F_whole_between : FnD := fnOf 0 m_whole_between
theorem v_whole_between (T : Txt K mg base TT CL) (c_whole : CalV P w K mg base 1 "whole" (spD ((cf P w K mg base TT CL).at []) 1 F_whole)) : CalV P w K mg base 2 "whole_between" (spD ((cf P w K mg base TT CL).at []) 3 F_whole_between) := by
  obtain ⟨f, cd, D, hm⟩ := T.d_whole_between
  have sc := sc_whole_between
  refine D.cal hm (fnv_ev (c := (cf P w K mg base TT CL).at []) D sc rfl fun A outer s H E hr => ?_)
  exact (dss_one (ds_ret (de_and (de_call (io := []) (np := 1) (F := F_whole) c_whole hr (by decide) (by rfl) (fun σ => L2N.passAt (L2N.takes_of (E := E) rfl rfl rfl rfl) σ) (ag_d (de_var (i := 0) rfl (by first | exact Or.inl rfl | exact Or.inr (Or.inl rfl) | exact Or.inr (Or.inr rfl))) ag_nil) (gaD_len (fun _ _ _ e => ga_nil e))) (de_one (de_chain o_le o_le (de_var (i := 1) rfl (by first | exact Or.inl rfl | exact Or.inr (Or.inl rfl) | exact Or.inr (Or.inr rfl))) (de_var (i := 0) rfl (by first | exact Or.inl rfl | exact Or.inr (Or.inl rfl) | exact Or.inr (Or.inr rfl))) (de_var (i := 2) rfl (by first | exact Or.inl rfl | exact Or.inr (Or.inl rfl) | exact Or.inr (Or.inr rfl))))))))
/-- tuple_between -/
noncomputable def m_tuple_between : SM :=
  (sRet (vAnd (mIsi "tuple" (mDat 0)) (mChain dLe dLe (mDat 1) (m1 dLen (mDat 0)) (mDat 2))))
noncomputable def F_tuple_between : FnD := fnOf 0 m_tuple_between
theorem v_tuple_between (T : Txt K mg base TT CL) : CalV P w K mg base 1 "tuple_between" (spD ((cf P w K mg base TT CL).at []) 3 F_tuple_between) := by
  obtain ⟨f, cd, D, hm⟩ := T.d_tuple_between
  have sc := sc_tuple_between
  refine D.cal hm (fnv_ev (c := (cf P w K mg base TT CL).at []) D sc rfl fun A outer s H E hr => ?_)
  exact (dss_one (ds_ret (de_and (de_isi (T := "tuple") (by decide) (by rfl) T.n_isinstance (dw (de_var (i := 0) rfl (by first | exact Or.inl rfl | exact Or.inr (Or.inl rfl) | exact Or.inr (Or.inr rfl)))) (pe_bltn (v := .ty "tuple") (by rfl) T.n_tuple (by decide +kernel) rfl)) (de_one (de_chain o_le o_le (de_var (i := 1) rfl (by first | exact Or.inl rfl | exact Or.inr (Or.inl rfl) | exact Or.inr (Or.inr rfl))) (de_b1 c_len (by rfl) T.n_len PySem.boot_len (dw (de_var (i := 0) rfl (by first | exact Or.inl rfl | exact Or.inr (Or.inl rfl) | exact Or.inr (Or.inr rfl))))) (de_var (i := 2) rfl (by first | exact Or.inl rfl | exact Or.inr (Or.inl rfl) | exact Or.inr (Or.inr rfl))))))))
/-- amount_fits -/
noncomputable def m_amount_fits : SM :=
  (sSeq (sIf (mNot (mTest (mCallX [] F_tuple_between (gaD (mDat 1) (gaD (m1 dLen (mDat 0)) (gaD (m1 dLen (mDat 0)) gaNil)))))) (sRet (M.pure (.bool false))) sNx)
  (sSeq (sForS (mZip (mDat 0) (mDat 1)) (gTupT 2 (gCon (gN 2) (gCon (gN 3) gNil0))) (sIf (mOr (mNot (mTest (mIsi "int" (mDat 3)))) (mOr (mTest (m2A dIsB (mDat 3) M.pure (M.pure (.bool true)))) (mOr (mTest (m2A dIsB (mDat 3) M.pure (M.pure (.bool false)))) (mOr (mTest (m2A dLt (mDat 3) M.pure (M.pure (.int 0)))) (mTest (m2A dGe (mDat 3) M.pure (mDat 2))))))) (sRet (M.pure (.bool false))) sNx))
  (sRet (M.pure (.bool true)))))
noncomputable def F_amount_fits : FnD := fnOf 2 m_amount_fits
theorem v_amount_fits (T : Txt K mg base TT CL) (c_tuple_between : CalV P w K mg base 1 "tuple_between" (spD ((cf P w K mg base TT CL).at []) 3 F_tuple_between)) : CalV P w K mg base 2 "amount_fits" (spD ((cf P w K mg base TT CL).at []) 2 F_amount_fits) := by
  obtain ⟨f, cd, D, hm⟩ := T.d_amount_fits
  have sc := sc_amount_fits
  refine D.cal hm (fnv_ev (c := (cf P w K mg base TT CL).at []) D sc rfl fun A outer s H E hr => ?_)
  exact (dss_cons (ds_if (dt_not (dt_val (de_call (io := []) (np := 3) (F := F_tuple_between) c_tuple_between hr (by decide) (by rfl) (fun σ => L2N.passAt (L2N.takes_of (E := E) rfl rfl rfl rfl) σ) (ag_d (de_var (i := 1) rfl (by first | exact Or.inl rfl | exact Or.inr (Or.inl rfl) | exact Or.inr (Or.inr rfl))) (ag_d (de_b1 c_len (by rfl) T.n_len PySem.boot_len (dw (de_var (i := 0) rfl (by first | exact Or.inl rfl | exact Or.inr (Or.inl rfl) | exact Or.inr (Or.inr rfl))))) (ag_d (de_b1 c_len (by rfl) T.n_len PySem.boot_len (dw (de_var (i := 0) rfl (by first | exact Or.inl rfl | exact Or.inr (Or.inl rfl) | exact Or.inr (Or.inr rfl))))) ag_nil))) (gaD_len (gaD_len (gaD_len (fun _ _ _ e => ga_nil e))))))) (dss_one (ds_ret de_bl)) dss_nil)
      (dss_cons (ds_for (passes_of rfl) rfl (di_zip (by rfl) T.n_zip (de_var (i := 0) rfl (by first | exact Or.inl rfl | exact Or.inr (Or.inl rfl) | exact Or.inr (Or.inr rfl))) (de_var (i := 1) rfl (by first | exact Or.inl rfl | exact Or.inr (Or.inl rfl) | exact Or.inr (Or.inr rfl)))) (tg_tup rfl (tg_con (tg_name (i := 2) sc.nd rfl (by first | exact Or.inl rfl | exact Or.inr rfl) rfl) (tg_con (tg_name (i := 3) sc.nd rfl (by first | exact Or.inl rfl | exact Or.inr rfl) rfl) tg_nil))).w (dss_one (ds_if (dw_or (dt_not (dt_val (de_isi (T := "int") (by decide) (by rfl) T.n_isinstance (dw (de_var (i := 3) rfl (by first | exact Or.inl rfl | exact Or.inr (Or.inl rfl) | exact Or.inr (Or.inr rfl)))) (pe_bltn (v := .ty "int") (by rfl) T.n_int (by decide +kernel) rfl)))) (dw_or (dt_cmp o_isB (da (de_var (i := 3) rfl (by first | exact Or.inl rfl | exact Or.inr (Or.inl rfl) | exact Or.inr (Or.inr rfl)))) (dw de_bl) (by rfl)) (dw_or (dt_cmp o_isB (da (de_var (i := 3) rfl (by first | exact Or.inl rfl | exact Or.inr (Or.inl rfl) | exact Or.inr (Or.inr rfl)))) (dw de_bl) (by rfl)) (dw_or (dt_cmp o_lt (da (de_var (i := 3) rfl (by first | exact Or.inl rfl | exact Or.inr (Or.inl rfl) | exact Or.inr (Or.inr rfl)))) (dw de_int) (by rfl)) (dw_or1 (dt_cmp o_ge (da (de_var (i := 3) rfl (by first | exact Or.inl rfl | exact Or.inr (Or.inl rfl) | exact Or.inr (Or.inr rfl)))) (dw (de_var (i := 2) rfl (by first | exact Or.inl rfl | exact Or.inr (Or.inl rfl) | exact Or.inr (Or.inr rfl)))) (by rfl))))))).pt (dss_one (ds_ret de_bl)) dss_nil)))
      (dss_one (ds_ret de_bl))))
/-- hands_fit -/
noncomputable def m_hands_fit : SM :=
  (sSeq (sIf (mOr (mNot (mTest (mCallX [] F_tuple_between (gaD (mDat 1) (gaD (M.pure (.int 1)) (gaD (M.pure (.int 12)) gaNil)))))) (mNot (mTest (m1 dAll (mOfL (mLc [2] (mSeq (mDat 1)) (gN 2) (M.pure true) (mCallX [] F_amount_fits (gaD (mDat 0) (gaD (mDat 2) gaNil))))))))) (sRet (M.pure (.bool false))) sNx)
  (sRet (m2A dEq (m1 dLenSet (mDat 1)) M.pure (m1 dLen (mDat 1)))))
noncomputable def F_hands_fit : FnD := fnOf 1 m_hands_fit
theorem v_hands_fit (T : Txt K mg base TT CL) (c_tuple_between : CalV P w K mg base 1 "tuple_between" (spD ((cf P w K mg base TT CL).at []) 3 F_tuple_between)) (c_amount_fits : CalV P w K mg base 2 "amount_fits" (spD ((cf P w K mg base TT CL).at []) 2 F_amount_fits)) : CalV P w K mg base 3 "hands_fit" (spD ((cf P w K mg base TT CL).at []) 2 F_hands_fit) := by
  obtain ⟨f, cd, D, hm⟩ := T.d_hands_fit
  have sc := sc_hands_fit
  refine D.cal hm (fnv_ev (c := (cf P w K mg base TT CL).at []) D sc rfl fun A outer s H E hr => ?_)
  exact (dss_cons (ds_if (dw_or (dt_not (dt_val (de_call (io := []) (np := 3) (F := F_tuple_between) c_tuple_between hr (by decide) (by rfl) (fun σ => L2N.passAt (L2N.takes_of (E := E) rfl rfl rfl rfl) σ) (ag_d (de_var (i := 1) rfl (by first | exact Or.inl rfl | exact Or.inr (Or.inl rfl) | exact Or.inr (Or.inr rfl))) (ag_d de_int (ag_d (de_glob (v := .int 12) (d := .int 12) (by rfl) T.g_MOST_STATES.choose_spec ⟨_, rfl⟩ (fun _ _ => .int _)) ag_nil))) (gaD_len (gaD_len (gaD_len (fun _ _ _ e => ga_nil e))))))) (dw_or1 (dt_not (dt_val (de_b1 (c_all rfl) (by rfl) T.n_all (by decide +kernel) (dw (de_dl (dl_lc (own := [("hand", 2)]) rfl sc.nd (di_seq (de_var (i := 1) rfl (by first | exact Or.inl rfl | exact Or.inr (Or.inl rfl) | exact Or.inr (Or.inr rfl)))) (blkOk_by (N := n_hands_fit) (sc := defScope s_hands_fit) (own := [("hand", 2)]) (by first | decide +kernel | rfl)) rfl (by decide) (fun _ _ _ _ _ => (TgR.w (tg_name (i := 2) sc.nd rfl (by first | exact Or.inl rfl | exact Or.inr rfl) rfl))) (fun _ _ _ _ _ => dts_nil) (fun _ _ _ _ _ => (de_call (io := []) (np := 2) (F := F_amount_fits) c_amount_fits hr (by decide) (by rfl) (fun σ => at0 σ) (ag_d (de_var (i := 0) rfl (by first | exact Or.inl rfl | exact Or.inr (Or.inl rfl) | exact Or.inr (Or.inr rfl))) (ag_d (de_var (i := 2) rfl (by first | exact Or.inl rfl | exact Or.inr (Or.inl rfl) | exact Or.inr (Or.inr rfl))) ag_nil)) (gaD_len (gaD_len (fun _ _ _ e => ga_nil e))))))))))))).pt (dss_one (ds_ret de_bl)) dss_nil)
      (dss_one (ds_ret (de_cmp (o_eq hr.u65) (da (de_lenset rfl hr.u65 (by rfl) T.n_len (by rfl) T.n_set (de_var (i := 1) rfl (by first | exact Or.inl rfl | exact Or.inr (Or.inl rfl) | exact Or.inr (Or.inr rfl))))) (dw (de_b1 c_len (by rfl) T.n_len PySem.boot_len (dw (de_var (i := 1) rfl (by first | exact Or.inl rfl | exact Or.inr (Or.inl rfl) | exact Or.inr (Or.inr rfl)))))) (by rfl)))))
/-- wrong_kind -/
noncomputable def m_wrong_kind : SM :=
  (sSeq (sIf (mNot (mTest (mCallX [] F_tuple_between (gaD (mDat 0) (gaD (M.pure (.int 2)) (gaD (M.pure (.int 2)) gaNil)))))) (sRet (m1 dNeg (M.pure (.int 1)))) sNx)
  (sSeq (sAsg (gTupT 2 (gCon (gN 1) (gCon (gN 2) gNil0))) (mDat 0))
  (sSeq (sIf (mOr (mNot (mTest (mCallX [] F_tuple_between (gaD (mDat 1) (gaD (M.pure (.int 0)) (gaD (M.pure (.int 12)) gaNil)))))) (mNot (mTest (m1 dAll (mOfL (mLc [3] (mSeq (mDat 1)) (gN 3) (M.pure true) (vAnd (mCallX [] F_whole (gaD (mDat 3) gaNil)) (m2A dGe (mDat 3) M.pure (M.pure (.int 2)))))))))) (sRet (M.pure (.int 0))) sNx)
  (sRet (mIf (mTest (mCallX [] F_hands_fit (gaD (mDat 1) (gaD (mDat 2) gaNil)))) (M.pure .none) (M.pure (.int 1)))))))
noncomputable def F_wrong_kind : FnD := fnOf 3 m_wrong_kind
theorem v_wrong_kind (T : Txt K mg base TT CL) (c_tuple_between : CalV P w K mg base 1 "tuple_between" (spD ((cf P w K mg base TT CL).at []) 3 F_tuple_between)) (c_hands_fit : CalV P w K mg base 3 "hands_fit" (spD ((cf P w K mg base TT CL).at []) 2 F_hands_fit)) (c_whole : CalV P w K mg base 1 "whole" (spD ((cf P w K mg base TT CL).at []) 1 F_whole)) : CalV P w K mg base 4 "wrong_kind" (spD ((cf P w K mg base TT CL).at []) 1 F_wrong_kind) := by
  obtain ⟨f, cd, D, hm⟩ := T.d_wrong_kind
  have sc := sc_wrong_kind
  refine D.cal hm (fnv_ev (c := (cf P w K mg base TT CL).at []) D sc rfl fun A outer s H E hr => ?_)
  exact (dss_cons (ds_if (dt_not (dt_val (de_call (io := []) (np := 3) (F := F_tuple_between) c_tuple_between hr (by decide) (by rfl) (fun σ => L2N.passAt (L2N.takes_of (E := E) rfl rfl rfl rfl) σ) (ag_d (de_var (i := 0) rfl (by first | exact Or.inl rfl | exact Or.inr (Or.inl rfl) | exact Or.inr (Or.inr rfl))) (ag_d de_int (ag_d de_int ag_nil))) (gaD_len (gaD_len (gaD_len (fun _ _ _ e => ga_nil e))))))) (dss_one (ds_ret (de_un o_neg (dw de_int)))) dss_nil)
      (dss_cons (ds_asg (de_var (i := 0) rfl (by first | exact Or.inl rfl | exact Or.inr (Or.inl rfl) | exact Or.inr (Or.inr rfl))) (tg_tup rfl (tg_con (tg_name (i := 1) sc.nd rfl (by first | exact Or.inl rfl | exact Or.inr rfl) rfl) (tg_con (tg_name (i := 2) sc.nd rfl (by first | exact Or.inl rfl | exact Or.inr rfl) rfl) tg_nil))).r)
      (dss_cons (ds_if (dw_or (dt_not (dt_val (de_call (io := []) (np := 3) (F := F_tuple_between) c_tuple_between hr (by decide) (by rfl) (fun σ => L2N.passAt (L2N.takes_of (E := E) rfl rfl rfl rfl) σ) (ag_d (de_var (i := 1) rfl (by first | exact Or.inl rfl | exact Or.inr (Or.inl rfl) | exact Or.inr (Or.inr rfl))) (ag_d de_int (ag_d (de_glob (v := .int 12) (d := .int 12) (by rfl) T.g_MOST_SIZES.choose_spec ⟨_, rfl⟩ (fun _ _ => .int _)) ag_nil))) (gaD_len (gaD_len (gaD_len (fun _ _ _ e => ga_nil e))))))) (dw_or1 (dt_not (dt_val (de_b1 (c_all rfl) (by rfl) T.n_all (by decide +kernel) (dw (de_dl (dl_lc (own := [("size", 3)]) rfl sc.nd (di_seq (de_var (i := 1) rfl (by first | exact Or.inl rfl | exact Or.inr (Or.inl rfl) | exact Or.inr (Or.inr rfl)))) (blkOk_by (N := n_wrong_kind) (sc := defScope s_wrong_kind) (own := [("size", 3)]) (by first | decide +kernel | rfl)) rfl (by decide) (fun _ _ _ _ _ => (TgR.w (tg_name (i := 3) sc.nd rfl (by first | exact Or.inl rfl | exact Or.inr rfl) rfl))) (fun _ _ _ _ _ => dts_nil) (fun _ _ _ _ _ => (de_and (de_call (io := []) (np := 1) (F := F_whole) c_whole hr (by decide) (by rfl) (fun σ => at0 σ) (ag_d (de_var (i := 3) rfl (by first | exact Or.inl rfl | exact Or.inr (Or.inl rfl) | exact Or.inr (Or.inr rfl))) ag_nil) (gaD_len (fun _ _ _ e => ga_nil e))) (de_one (de_cmp o_ge (da (de_var (i := 3) rfl (by first | exact Or.inl rfl | exact Or.inr (Or.inl rfl) | exact Or.inr (Or.inr rfl)))) (dw de_int) (by rfl))))))))))))).pt (dss_one (ds_ret de_int)) dss_nil)
      (dss_one (ds_ret (de_if (dt_val (de_call (io := []) (np := 2) (F := F_hands_fit) c_hands_fit hr (by decide) (by rfl) (fun σ => L2N.passAt (L2N.takes_of (E := E) rfl rfl rfl rfl) σ) (ag_d (de_var (i := 1) rfl (by first | exact Or.inl rfl | exact Or.inr (Or.inl rfl) | exact Or.inr (Or.inr rfl))) (ag_d (de_var (i := 2) rfl (by first | exact Or.inl rfl | exact Or.inr (Or.inl rfl) | exact Or.inr (Or.inr rfl))) ag_nil)) (gaD_len (gaD_len (fun _ _ _ e => ga_nil e))))) de_non de_int))))))
end
end Ev

set_option Elab.async false
set_option linter.all false
set_option maxRecDepth 100000
set_option maxHeartbeats 4000000
namespace Ev
open PySem PySem.Spec PyProof.Rows L2 Ed
section
variable {P : Program} {w : World} {K : PySem.W.Frag} {mg : Str → Option Value} {base : Heap} {TT : List (Addr × Str)} {CL : Cl}
/-- made_kind -/
noncomputable def m_made_kind : SM :=
  (sSeq (sSet 1 (mCallX [] F_wrong_kind (gaD (mDat 0) gaNil)))
  (sSeq (sIf (mTest (m2A dNotN (mDat 1) M.pure (M.pure .none))) (sRaise "BadKind" (mDat 1)) sNx)
  (sRet (mDat 0))))
noncomputable def F_made_kind : FnD := fnOf 1 m_made_kind
theorem v_made_kind (T : Txt K mg base TT CL) (c_wrong_kind : CalV P w K mg base 4 "wrong_kind" (spD ((cf P w K mg base TT CL).at []) 1 F_wrong_kind)) : CalV P w K mg base 5 "made_kind" (spD ((cf P w K mg base TT CL).at []) 1 F_made_kind) := by
  obtain ⟨f, cd, D, hm⟩ := T.d_made_kind
  have sc := sc_made_kind
  obtain ⟨fdI, FI, bI⟩ := T.i_fun
  have GI := ok_init (P := P) (w := w) (mg := mg) (base := base) FI
  refine D.cal hm (fnv_ev (c := (cf P w K mg base TT CL).at []) D sc rfl fun A outer s H E hr => ?_)
  exact (dss_cons (ds_set (i := 1) sc.nd rfl (Or.inl rfl) (de_call (io := []) (np := 1) (F := F_wrong_kind) c_wrong_kind hr (by decide) (by rfl) (fun σ => L2N.passAt (L2N.takes_of (E := E) rfl rfl rfl rfl) σ) (ag_d (de_var (i := 0) rfl (by first | exact Or.inl rfl | exact Or.inr (Or.inl rfl) | exact Or.inr (Or.inr rfl))) ag_nil) (gaD_len (fun _ _ _ e => ga_nil e))) rfl)
      (dss_cons (ds_if (dt_cmp o_notN (da (de_var (i := 1) rfl (by first | exact Or.inl rfl | exact Or.inr (Or.inl rfl) | exact Or.inr (Or.inr rfl)))) (dw de_non) (by rfl)) (dss_one (ds_raise rfl (L2N.takes_of (E := E) rfl rfl rfl rfl) T.e_BadKind T.i_ty GI bI (hr.r.mono (by decide)) rfl rfl (de_var (i := 1) rfl (by first | exact Or.inl rfl | exact Or.inr (Or.inl rfl) | exact Or.inr (Or.inr rfl))))) dss_nil)
      (dss_one (ds_ret (de_var (i := 0) rfl (by first | exact Or.inl rfl | exact Or.inr (Or.inl rfl) | exact Or.inr (Or.inr rfl)))))))
/-- is_kind -/
noncomputable def m_is_kind : SM :=
  (sRet (m2A dIsN (mCallX [] F_wrong_kind (gaD (mDat 0) gaNil)) M.pure (M.pure .none)))
noncomputable def F_is_kind : FnD := fnOf 0 m_is_kind
theorem v_is_kind (T : Txt K mg base TT CL) (c_wrong_kind : CalV P w K mg base 4 "wrong_kind" (spD ((cf P w K mg base TT CL).at []) 1 F_wrong_kind)) : CalV P w K mg base 5 "is_kind" (spD ((cf P w K mg base TT CL).at []) 1 F_is_kind) := by
  obtain ⟨f, cd, D, hm⟩ := T.d_is_kind
  have sc := sc_is_kind
  refine D.cal hm (fnv_ev (c := (cf P w K mg base TT CL).at []) D sc rfl fun A outer s H E hr => ?_)
  exact (dss_one (ds_ret (de_cmp o_isN (da (de_call (io := []) (np := 1) (F := F_wrong_kind) c_wrong_kind hr (by decide) (by rfl) (fun σ => L2N.passAt (L2N.takes_of (E := E) rfl rfl rfl rfl) σ) (ag_d (de_var (i := 0) rfl (by first | exact Or.inl rfl | exact Or.inr (Or.inl rfl) | exact Or.inr (Or.inr rfl))) ag_nil) (gaD_len (fun _ _ _ e => ga_nil e)))) (dw de_non) (by rfl))))
/-- wrong_fields -/
noncomputable def m_wrong_fields : SM :=
  (sSeq (sIf (mNot (mTest (mCallX [] F_tuple_between (gaD (mDat 0) (gaD (M.pure (.int 1)) (gaD (M.pure (.int 6)) gaNil)))))) (sRet (m1 dNeg (M.pure (.int 1)))) sNx)
  (sSeq (sForS (mEnum (mDat 0)) (gTupT 2 (gCon (gN 1) (gCon (gN 2) gNil0))) (sIf (mNot (mTest (mCallX [] F_is_kind (gaD (mDat 2) gaNil)))) (sRet (mDat 1)) sNx))
  (sRet (M.pure .none))))
noncomputable def F_wrong_fields : FnD := fnOf 2 m_wrong_fields
theorem v_wrong_fields (T : Txt K mg base TT CL) (c_tuple_between : CalV P w K mg base 1 "tuple_between" (spD ((cf P w K mg base TT CL).at []) 3 F_tuple_between)) (c_is_kind : CalV P w K mg base 5 "is_kind" (spD ((cf P w K mg base TT CL).at []) 1 F_is_kind)) : CalV P w K mg base 6 "wrong_fields" (spD ((cf P w K mg base TT CL).at []) 1 F_wrong_fields) := by
  obtain ⟨f, cd, D, hm⟩ := T.d_wrong_fields
  have sc := sc_wrong_fields
  refine D.cal hm (fnv_ev (c := (cf P w K mg base TT CL).at []) D sc rfl fun A outer s H E hr => ?_)
  exact (dss_cons (ds_if (dt_not (dt_val (de_call (io := []) (np := 3) (F := F_tuple_between) c_tuple_between hr (by decide) (by rfl) (fun σ => L2N.passAt (L2N.takes_of (E := E) rfl rfl rfl rfl) σ) (ag_d (de_var (i := 0) rfl (by first | exact Or.inl rfl | exact Or.inr (Or.inl rfl) | exact Or.inr (Or.inr rfl))) (ag_d de_int (ag_d (de_glob (v := .int 6) (d := .int 6) (by rfl) T.g_MOST_FIELDS.choose_spec ⟨_, rfl⟩ (fun _ _ => .int _)) ag_nil))) (gaD_len (gaD_len (gaD_len (fun _ _ _ e => ga_nil e))))))) (dss_one (ds_ret (de_un o_neg (dw de_int)))) dss_nil)
      (dss_cons (ds_for (passes_of rfl) rfl (di_enum (by rfl) T.n_enumerate (de_var (i := 0) rfl (by first | exact Or.inl rfl | exact Or.inr (Or.inl rfl) | exact Or.inr (Or.inr rfl)))) (tg_tup rfl (tg_con (tg_name (i := 1) sc.nd rfl (by first | exact Or.inl rfl | exact Or.inr rfl) rfl) (tg_con (tg_name (i := 2) sc.nd rfl (by first | exact Or.inl rfl | exact Or.inr rfl) rfl) tg_nil))).w (dss_one (ds_if (dt_not (dt_val (de_call (io := []) (np := 1) (F := F_is_kind) c_is_kind hr (by decide) (by rfl) (fun σ => L2N.passAt (L2N.takes_of (E := E) rfl rfl rfl rfl) σ) (ag_d (de_var (i := 2) rfl (by first | exact Or.inl rfl | exact Or.inr (Or.inl rfl) | exact Or.inr (Or.inr rfl))) ag_nil) (gaD_len (fun _ _ _ e => ga_nil e))))) (dss_one (ds_ret (de_var (i := 1) rfl (by first | exact Or.inl rfl | exact Or.inr (Or.inl rfl) | exact Or.inr (Or.inr rfl))))) dss_nil)))
      (dss_one (ds_ret de_non))))
/-- made_fields -/
noncomputable def m_made_fields : SM :=
  (sSeq (sSet 1 (mCallX [] F_wrong_fields (gaD (mDat 0) gaNil)))
  (sSeq (sIf (mTest (m2A dNotN (mDat 1) M.pure (M.pure .none))) (sRaise "BadFields" (mDat 1)) sNx)
  (sRet (mDat 0))))
noncomputable def F_made_fields : FnD := fnOf 1 m_made_fields
theorem v_made_fields (T : Txt K mg base TT CL) (c_wrong_fields : CalV P w K mg base 6 "wrong_fields" (spD ((cf P w K mg base TT CL).at []) 1 F_wrong_fields)) : CalV P w K mg base 7 "made_fields" (spD ((cf P w K mg base TT CL).at []) 1 F_made_fields) := by
  obtain ⟨f, cd, D, hm⟩ := T.d_made_fields
  have sc := sc_made_fields
  obtain ⟨fdI, FI, bI⟩ := T.i_fun
  have GI := ok_init (P := P) (w := w) (mg := mg) (base := base) FI
  refine D.cal hm (fnv_ev (c := (cf P w K mg base TT CL).at []) D sc rfl fun A outer s H E hr => ?_)
  exact (dss_cons (ds_set (i := 1) sc.nd rfl (Or.inl rfl) (de_call (io := []) (np := 1) (F := F_wrong_fields) c_wrong_fields hr (by decide) (by rfl) (fun σ => L2N.passAt (L2N.takes_of (E := E) rfl rfl rfl rfl) σ) (ag_d (de_var (i := 0) rfl (by first | exact Or.inl rfl | exact Or.inr (Or.inl rfl) | exact Or.inr (Or.inr rfl))) ag_nil) (gaD_len (fun _ _ _ e => ga_nil e))) rfl)
      (dss_cons (ds_if (dt_cmp o_notN (da (de_var (i := 1) rfl (by first | exact Or.inl rfl | exact Or.inr (Or.inl rfl) | exact Or.inr (Or.inr rfl)))) (dw de_non) (by rfl)) (dss_one (ds_raise rfl (L2N.takes_of (E := E) rfl rfl rfl rfl) T.e_BadFields T.i_ty GI bI (hr.r.mono (by decide)) rfl rfl (de_var (i := 1) rfl (by first | exact Or.inl rfl | exact Or.inr (Or.inl rfl) | exact Or.inr (Or.inr rfl))))) dss_nil)
      (dss_one (ds_ret (de_var (i := 0) rfl (by first | exact Or.inl rfl | exact Or.inr (Or.inl rfl) | exact Or.inr (Or.inr rfl)))))))
/-- check_record -/
noncomputable def m_check_record : SM :=
  (sSeq (sIf (mNot (mTest (mCallX [] F_tuple_between (gaD (mDat 1) (gaD (m1 dLen (mDat 0)) (gaD (m1 dLen (mDat 0)) gaNil)))))) (sRaise "BadRecord" (m1 dNeg (M.pure (.int 1)))) sNx)
  (sForS (mEnum (mDat 0)) (gTupT 2 (gCon (gN 2) (gCon (gTupT 2 (gCon (gN 3) (gCon (gN 4) gNil0))) gNil0))) (sIf (mNot (mTest (mCallX [] F_whole_between (gaD (m2A dIx (mDat 1) M.pure (mDat 2)) (gaD (M.pure (.int 0)) (gaD (m2A dSub (m1 dLen (mDat 4)) M.pure (M.pure (.int 1))) gaNil)))))) (sRaise "BadRecord" (mDat 2)) sNx)))
noncomputable def F_check_record : FnD := fnOf 3 m_check_record
theorem v_check_record (T : Txt K mg base TT CL) (c_tuple_between : CalV P w K mg base 1 "tuple_between" (spD ((cf P w K mg base TT CL).at []) 3 F_tuple_between)) (c_whole_between : CalV P w K mg base 2 "whole_between" (spD ((cf P w K mg base TT CL).at []) 3 F_whole_between)) : CalV P w K mg base 3 "check_record" (spD ((cf P w K mg base TT CL).at []) 2 F_check_record) := by
  obtain ⟨f, cd, D, hm⟩ := T.d_check_record
  have sc := sc_check_record
  obtain ⟨fdI, FI, bI⟩ := T.i_fun
  have GI := ok_init (P := P) (w := w) (mg := mg) (base := base) FI
  refine D.cal hm (fnv_ev (c := (cf P w K mg base TT CL).at []) D sc rfl fun A outer s H E hr => ?_)
  exact (dss_cons (ds_if (dt_not (dt_val (de_call (io := []) (np := 3) (F := F_tuple_between) c_tuple_between hr (by decide) (by rfl) (fun σ => L2N.passAt (L2N.takes_of (E := E) rfl rfl rfl rfl) σ) (ag_d (de_var (i := 1) rfl (by first | exact Or.inl rfl | exact Or.inr (Or.inl rfl) | exact Or.inr (Or.inr rfl))) (ag_d (de_b1 c_len (by rfl) T.n_len PySem.boot_len (dw (de_var (i := 0) rfl (by first | exact Or.inl rfl | exact Or.inr (Or.inl rfl) | exact Or.inr (Or.inr rfl))))) (ag_d (de_b1 c_len (by rfl) T.n_len PySem.boot_len (dw (de_var (i := 0) rfl (by first | exact Or.inl rfl | exact Or.inr (Or.inl rfl) | exact Or.inr (Or.inr rfl))))) ag_nil))) (gaD_len (gaD_len (gaD_len (fun _ _ _ e => ga_nil e))))))) (dss_one (ds_raise rfl (L2N.takes_of (E := E) rfl rfl rfl rfl) T.e_BadRecord T.i_ty GI bI (hr.r.mono (by decide)) rfl rfl (de_un o_neg (dw de_int)))) dss_nil)
      (dss_one (ds_for (passes_of rfl) rfl (di_enum (by rfl) T.n_enumerate (de_var (i := 0) rfl (by first | exact Or.inl rfl | exact Or.inr (Or.inl rfl) | exact Or.inr (Or.inr rfl)))) (tg_tup rfl (tg_con (tg_name (i := 2) sc.nd rfl (by first | exact Or.inl rfl | exact Or.inr rfl) rfl) (tg_con (tg_tup rfl (tg_con (tg_name (i := 3) sc.nd rfl (by first | exact Or.inl rfl | exact Or.inr rfl) rfl) (tg_con (tg_name (i := 4) sc.nd rfl (by first | exact Or.inl rfl | exact Or.inr rfl) rfl) tg_nil))).r tg_nil))).w (dss_one (ds_if (dt_not (dt_val (de_call (io := []) (np := 3) (F := F_whole_between) c_whole_between hr (by decide) (by rfl) (fun σ => L2N.passAt (L2N.takes_of (E := E) rfl rfl rfl rfl) σ) (ag_d (de_ix o_ix (da (de_var (i := 1) rfl (by first | exact Or.inl rfl | exact Or.inr (Or.inl rfl) | exact Or.inr (Or.inr rfl)))) (dw (de_var (i := 2) rfl (by first | exact Or.inl rfl | exact Or.inr (Or.inl rfl) | exact Or.inr (Or.inr rfl)))) (fun _ _ => rfl)) (ag_d de_int (ag_d (de_op o_sub (da (de_b1 c_len (by rfl) T.n_len PySem.boot_len (dw (de_var (i := 4) rfl (by first | exact Or.inl rfl | exact Or.inr (Or.inl rfl) | exact Or.inr (Or.inr rfl)))))) (dw de_int)) ag_nil))) (gaD_len (gaD_len (gaD_len (fun _ _ _ e => ga_nil e))))))) (dss_one (ds_raise rfl (L2N.takes_of (E := E) rfl rfl rfl rfl) T.e_BadRecord T.i_ty GI bI (hr.r.mono (by decide)) rfl rfl (de_var (i := 2) rfl (by first | exact Or.inl rfl | exact Or.inr (Or.inl rfl) | exact Or.inr (Or.inr rfl))))) dss_nil)))))
/-- made_record -/
noncomputable def m_made_record : SM :=
  (sSeq (sEx (mCallX [] F_made_fields (gaD (mDat 0) gaNil)))
  (sSeq (sEx (mCallX [] F_check_record (gaD (mDat 0) (gaD (mDat 1) gaNil))))
  (sRet (mDat 1))))
noncomputable def F_made_record : FnD := fnOf 0 m_made_record
theorem v_made_record (T : Txt K mg base TT CL) (c_made_fields : CalV P w K mg base 7 "made_fields" (spD ((cf P w K mg base TT CL).at []) 1 F_made_fields)) (c_check_record : CalV P w K mg base 3 "check_record" (spD ((cf P w K mg base TT CL).at []) 2 F_check_record)) : CalV P w K mg base 8 "made_record" (spD ((cf P w K mg base TT CL).at []) 2 F_made_record) := by
  obtain ⟨f, cd, D, hm⟩ := T.d_made_record
  have sc := sc_made_record
  refine D.cal hm (fnv_ev (c := (cf P w K mg base TT CL).at []) D sc rfl fun A outer s H E hr => ?_)
  exact (dss_cons (ds_expr (de_call (io := []) (np := 1) (F := F_made_fields) c_made_fields hr (by decide) (by rfl) (fun σ => L2N.passAt (L2N.takes_of (E := E) rfl rfl rfl rfl) σ) (ag_d (de_var (i := 0) rfl (by first | exact Or.inl rfl | exact Or.inr (Or.inl rfl) | exact Or.inr (Or.inr rfl))) ag_nil) (gaD_len (fun _ _ _ e => ga_nil e))))
      (dss_cons (ds_expr (de_call (io := []) (np := 2) (F := F_check_record) c_check_record hr (by decide) (by rfl) (fun σ => L2N.passAt (L2N.takes_of (E := E) rfl rfl rfl rfl) σ) (ag_d (de_var (i := 0) rfl (by first | exact Or.inl rfl | exact Or.inr (Or.inl rfl) | exact Or.inr (Or.inr rfl))) (ag_d (de_var (i := 1) rfl (by first | exact Or.inl rfl | exact Or.inr (Or.inl rfl) | exact Or.inr (Or.inr rfl))) ag_nil)) (gaD_len (gaD_len (fun _ _ _ e => ga_nil e)))))
      (dss_one (ds_ret (de_var (i := 1) rfl (by first | exact Or.inl rfl | exact Or.inr (Or.inl rfl) | exact Or.inr (Or.inr rfl)))))))
end
end Ev

set_option Elab.async false
set_option linter.all false
set_option maxRecDepth 100000
set_option maxHeartbeats 4000000
namespace Ev
open PySem PySem.Spec PyProof.Rows L2 Ed
section
variable {P : Program} {w : World} {K : PySem.W.Frag} {mg : Str → Option Value} {base : Heap} {TT : List (Addr × Str)} {CL : Cl}
/-- _law_pool -/
noncomputable def m__law_pool : SM :=
  (sSeq (sSet 2 (M.pure (.int 0)))
  (sSeq (sIf (mTest (m2A dLt (mDat 1) M.pure (mSlen 0))) (sSet 2 (mScr 0 dIx (mDat 1))) (sIf (mTest (mScr 0 dNe (mOfL (mLst mNil)))) (sSet 2 (mScr 0 dIx (M.pure (.int 0)))) sNx))
  (sSeq (sSet 3 (mN dMax (mCons (m1 dInt (mDat 2)) (mCons (m1 dInt (m2A dSub (m1 dNeg (M.pure (.int 1))) M.pure (mDat 2))) mNil))))
  (sSeq (sSet 4 (m2A dMod (m1 dInt (m2A dMulA (m2A dAddA (m2A dAddA (m2A dAddA (m2A dMod (m1 dInt (mDat 3)) M.pure (M.pure (.int 2147483629))) M.pure (m2A dMulA (m2A dMulA (M.pure (.int 7919)) M.pure (mDat 1)) M.pure (mDat 1))) M.pure (m2A dMulA (M.pure (.int 31)) M.pure (mDat 1))) M.pure (M.pure (.int 17))) M.pure (M.pure (.int 48271)))) M.pure (M.pure (.int 2147483647))))
  (sRetL (mLst (mCons (m2A dMulA (mDat 3) M.pure (m1 dInt (vAnd (m2A dGe (mDat 3) M.pure (m2A dPow (M.pure (.int 10)) M.pure (M.pure (.int 18)))) (m2A dLt (mDat 1) M.pure (mSlen 0))))) (mCons (mDat 4) mNil))))))))
noncomputable def F__law_pool : FnD := fnOf 3 m__law_pool
theorem v__law_pool (T : Txt K mg base TT CL) : CalV P w K mg base 1 "_law_pool" (spD ((cf P w K mg base TT CL).at []) 2 F__law_pool) := by
  obtain ⟨f, cd, D, hm⟩ := T.d__law_pool
  have sc := sc__law_pool
  refine D.cal hm (fnv_ev (c := (cf P w K mg base TT CL).at []) D sc rfl fun A outer s H E hr => ?_)
  exact (dss_cons (ds_set (i := 2) sc.nd rfl (Or.inl rfl) de_int rfl)
      (dss_cons (ds_if (dt_cmp o_lt (da (de_var (i := 1) rfl (by first | exact Or.inl rfl | exact Or.inr (Or.inl rfl) | exact Or.inr (Or.inr rfl)))) (dw (de_slen (i := 0) rfl rfl (by first | exact Or.inl rfl | exact Or.inr (Or.inl rfl) | exact Or.inr (Or.inr rfl)) (by rfl) T.n_len)) (by rfl)) (dss_one (ds_set (i := 2) sc.nd rfl (Or.inl rfl) (de_six (i := 0) rfl rfl (by first | exact Or.inl rfl | exact Or.inr (Or.inl rfl) | exact Or.inr (Or.inr rfl)) (de_var (i := 1) rfl (by first | exact Or.inl rfl | exact Or.inr (Or.inl rfl) | exact Or.inr (Or.inr rfl))) (fun _ _ => rfl)) rfl)) (dss_one (ds_if (dt_sne (i := 0) rfl hr.u65 rfl (by first | exact Or.inl rfl | exact Or.inr (Or.inl rfl) | exact Or.inr (Or.inr rfl)) (de_dl (dl_lst da_nil))) (dss_one (ds_set (i := 2) sc.nd rfl (Or.inl rfl) (de_six (i := 0) rfl rfl (by first | exact Or.inl rfl | exact Or.inr (Or.inl rfl) | exact Or.inr (Or.inr rfl)) de_int (fun _ _ => rfl)) rfl)) dss_nil)))
      (dss_cons (ds_set (i := 3) sc.nd rfl (Or.inl rfl) (de_bn (c_max rfl) (by rfl) T.n_max (by decide +kernel) (da_cons (de_t1 c_int (by rfl) T.n_int (by decide +kernel) (dw (de_var (i := 2) rfl (by first | exact Or.inl rfl | exact Or.inr (Or.inl rfl) | exact Or.inr (Or.inr rfl))))) (da_cons (de_t1 c_int (by rfl) T.n_int (by decide +kernel) (dw (de_op o_sub (da (de_un o_neg (dw de_int))) (dw (de_var (i := 2) rfl (by first | exact Or.inl rfl | exact Or.inr (Or.inl rfl) | exact Or.inr (Or.inr rfl))))))) da_nil))) rfl)
      (dss_cons (ds_set (i := 4) sc.nd rfl (Or.inl rfl) (de_op o_mod (da (de_t1 c_int (by rfl) T.n_int (by decide +kernel) (dw (de_op o_mulA (da (de_op o_addA (da (de_op o_addA (da (de_op o_addA (da (de_op o_mod (da (de_t1 c_int (by rfl) T.n_int (by decide +kernel) (dw (de_var (i := 3) rfl (by first | exact Or.inl rfl | exact Or.inr (Or.inl rfl) | exact Or.inr (Or.inr rfl)))))) (dw de_int))) (dw (de_op o_mulA (da (de_op o_mulA (da de_int) (dw (de_var (i := 1) rfl (by first | exact Or.inl rfl | exact Or.inr (Or.inl rfl) | exact Or.inr (Or.inr rfl)))))) (dw (de_var (i := 1) rfl (by first | exact Or.inl rfl | exact Or.inr (Or.inl rfl) | exact Or.inr (Or.inr rfl)))))))) (dw (de_op o_mulA (da de_int) (dw (de_var (i := 1) rfl (by first | exact Or.inl rfl | exact Or.inr (Or.inl rfl) | exact Or.inr (Or.inr rfl)))))))) (dw de_int))) (dw de_int))))) (dw de_int)) rfl)
      (dss_one (ds_retL (dl_lst (da_cons (de_op o_mulA (da (de_var (i := 3) rfl (by first | exact Or.inl rfl | exact Or.inr (Or.inl rfl) | exact Or.inr (Or.inr rfl)))) (dw (de_t1 c_int (by rfl) T.n_int (by decide +kernel) (dw (de_and (de_cmp o_ge (da (de_var (i := 3) rfl (by first | exact Or.inl rfl | exact Or.inr (Or.inl rfl) | exact Or.inr (Or.inr rfl)))) (dw (de_op o_pow (da de_int) (dw de_int))) (by rfl)) (de_one (de_cmp o_lt (da (de_var (i := 1) rfl (by first | exact Or.inl rfl | exact Or.inr (Or.inl rfl) | exact Or.inr (Or.inr rfl)))) (dw (de_slen (i := 0) rfl rfl (by first | exact Or.inl rfl | exact Or.inr (Or.inl rfl) | exact Or.inr (Or.inr rfl)) (by rfl) T.n_len)) (by rfl)))))))) (da_cons (de_var (i := 4) rfl (by first | exact Or.inl rfl | exact Or.inr (Or.inl rfl) | exact Or.inr (Or.inr rfl))) da_nil)))))))))
/-- _law_take -/
noncomputable def m__law_take : SM :=
  (sSeq (sIf (mTest (m2A dGt (m2A dIx (mVar 0) (fun _ => mVar 0) (M.pure (.int 0))) M.pure (M.pure (.int 0)))) (sSeq (sSet 2 (m2A dMod (m1 dInt (m2A dIx (mVar 0) (fun _ => mVar 0) (M.pure (.int 0)))) M.pure (mDat 1)))
  (sSeq (sSetIx 0 (M.pure (.int 0)) (m2A dDiv (m2A dIx (mVar 0) (fun _ => mVar 0) (M.pure (.int 0))) M.pure (mDat 1)))
  (sRet (mDat 2)))) sNx)
  (sSeq (sSetIx 0 (M.pure (.int 1)) (m2A dMod (m1 dInt (m2A dAddA (m2A dMulA (m2A dIx (mVar 0) (fun _ => mVar 0) (M.pure (.int 1))) M.pure (M.pure (.int 39373))) M.pure (M.pure (.int 7)))) M.pure (M.pure (.int 2147483647))))
  (sRet (m2A dMod (m1 dInt (m2A dDiv (m2A dMod (m1 dInt (m2A dMulA (m2A dIx (mVar 0) (fun _ => mVar 0) (M.pure (.int 1))) M.pure (m2A dIx (mVar 0) (fun _ => mVar 0) (M.pure (.int 1))))) M.pure (M.pure (.int 2147483629))) M.pure (M.pure (.int 32)))) M.pure (mDat 1)))))
noncomputable def F__law_take : FnD := fnOf 1 m__law_take
theorem v__law_take (T : Txt K mg base TT CL) : CalV P w K mg base 1 "_law_take" (spD ((cf P w K mg base TT CL).at [0]) 2 F__law_take) := by
  obtain ⟨f, cd, D, hm⟩ := T.d__law_take
  have sc := sc__law_take
  refine D.cal hm (fnv_ev (c := (cf P w K mg base TT CL).at [0]) D sc rfl fun A outer s H E hr => ?_)
  exact (dss_cons (ds_if (dt_cmp o_gt (da (de_ix o_ix (da_var (i := 0) rfl (by first | exact Or.inl rfl | exact Or.inr (Or.inl rfl) | exact Or.inr (Or.inr rfl))) (dw de_int) (fun _ _ => rfl))) (dw de_int) (by rfl)) (dss_cons (ds_set (i := 2) sc.nd rfl (Or.inl rfl) (de_op o_mod (da (de_t1 c_int (by rfl) T.n_int (by decide +kernel) (dw (de_ix o_ix (da_var (i := 0) rfl (by first | exact Or.inl rfl | exact Or.inr (Or.inl rfl) | exact Or.inr (Or.inr rfl))) (dw de_int) (fun _ _ => rfl))))) (dw (de_var (i := 1) rfl (by first | exact Or.inl rfl | exact Or.inr (Or.inl rfl) | exact Or.inr (Or.inr rfl))))) rfl)
      (dss_cons (ds_setIx (i := 0) rfl (by first | exact Or.inl rfl | exact Or.inr (Or.inl rfl) | exact Or.inr (Or.inr rfl)) de_int (de_op o_div (da (de_ix o_ix (da_var (i := 0) rfl (by first | exact Or.inl rfl | exact Or.inr (Or.inl rfl) | exact Or.inr (Or.inr rfl))) (dw de_int) (fun _ _ => rfl))) (dw (de_var (i := 1) rfl (by first | exact Or.inl rfl | exact Or.inr (Or.inl rfl) | exact Or.inr (Or.inr rfl))))) (fun _ _ => rfl))
      (dss_one (ds_ret (de_var (i := 2) rfl (by first | exact Or.inl rfl | exact Or.inr (Or.inl rfl) | exact Or.inr (Or.inr rfl))))))) dss_nil)
      (dss_cons (ds_setIx (i := 0) rfl (by first | exact Or.inl rfl | exact Or.inr (Or.inl rfl) | exact Or.inr (Or.inr rfl)) de_int (de_op o_mod (da (de_t1 c_int (by rfl) T.n_int (by decide +kernel) (dw (de_op o_addA (da (de_op o_mulA (da (de_ix o_ix (da_var (i := 0) rfl (by first | exact Or.inl rfl | exact Or.inr (Or.inl rfl) | exact Or.inr (Or.inr rfl))) (dw de_int) (fun _ _ => rfl))) (dw de_int))) (dw de_int))))) (dw de_int)) (fun _ _ => rfl))
      (dss_one (ds_ret (de_op o_mod (da (de_t1 c_int (by rfl) T.n_int (by decide +kernel) (dw (de_op o_div (da (de_op o_mod (da (de_t1 c_int (by rfl) T.n_int (by decide +kernel) (dw (de_op o_mulA (da (de_ix o_ix (da_var (i := 0) rfl (by first | exact Or.inl rfl | exact Or.inr (Or.inl rfl) | exact Or.inr (Or.inr rfl))) (dw de_int) (fun _ _ => rfl))) (dw (de_ix o_ix (da_var (i := 0) rfl (by first | exact Or.inl rfl | exact Or.inr (Or.inl rfl) | exact Or.inr (Or.inr rfl))) (dw de_int) (fun _ _ => rfl))))))) (dw de_int))) (dw de_int))))) (dw (de_var (i := 1) rfl (by first | exact Or.inl rfl | exact Or.inr (Or.inl rfl) | exact Or.inr (Or.inr rfl)))))))))
/-- _law_one -/
noncomputable def m__law_one : SM :=
  (sRet (m2A dIx (mDat 1) M.pure (mCallX [0] F__law_take (gaS 0 (gaD (m1 dLen (mDat 1)) gaNil)))))
noncomputable def F__law_one : FnD := fnOf 0 m__law_one
theorem v__law_one (T : Txt K mg base TT CL) (c__law_take : CalV P w K mg base 1 "_law_take" (spD ((cf P w K mg base TT CL).at [0]) 2 F__law_take)) : CalV P w K mg base 2 "_law_one" (spD ((cf P w K mg base TT CL).at [0]) 2 F__law_one) := by
  obtain ⟨f, cd, D, hm⟩ := T.d__law_one
  have sc := sc__law_one
  refine D.cal hm (fnv_ev (c := (cf P w K mg base TT CL).at [0]) D sc rfl fun A outer s H E hr => ?_)
  exact (dss_one (ds_ret (de_ix o_ix (da (de_var (i := 1) rfl (by first | exact Or.inl rfl | exact Or.inr (Or.inl rfl) | exact Or.inr (Or.inr rfl)))) (dw (de_call (io := [0]) (np := 2) (F := F__law_take) c__law_take hr (by decide) (by rfl) (fun σ => L2N.passAt (L2N.takes_of (E := E) rfl rfl rfl rfl) σ) (ag_s (j := 0) rfl (by first | exact Or.inl rfl | exact Or.inr (Or.inl rfl) | exact Or.inr (Or.inr rfl)) (ag_d (de_b1 c_len (by rfl) T.n_len PySem.boot_len (dw (de_var (i := 1) rfl (by first | exact Or.inl rfl | exact Or.inr (Or.inl rfl) | exact Or.inr (Or.inr rfl))))) ag_nil)) (gaS_len (gaD_len (fun _ _ _ e => ga_nil e))))) (fun _ _ => rfl))))
/-- _law_mixed -/
noncomputable def m__law_mixed : SM :=
  (sSeq (sPar2 2 3 (aO (m1L dList (mDat 1)) (aO (mLst mNil) aNil)))
  (sSeq (sForS (mRng (mCons (m1 dLen (mDat 1)) mNil)) (gN 4) (sEx (mMt1 3 dAppend (mMt1 2 dPopAt (mCallX [0] F__law_take (gaS 0 (gaD (m1 dLen (mVar 2)) gaNil)))))))
  (sRet (mFrz 3))))
noncomputable def F__law_mixed : FnD := fnOf 3 m__law_mixed
theorem v__law_mixed (T : Txt K mg base TT CL) (c__law_take : CalV P w K mg base 1 "_law_take" (spD ((cf P w K mg base TT CL).at [0]) 2 F__law_take)) : CalV P w K mg base 2 "_law_mixed" (spD ((cf P w K mg base TT CL).at [0]) 2 F__law_mixed) := by
  obtain ⟨f, cd, D, hm⟩ := T.d__law_mixed
  have sc := sc__law_mixed
  refine D.cal hm (fnv_ev (c := (cf P w K mg base TT CL).at [0]) D sc rfl fun A outer s H E hr => ?_)
  exact (dss_cons (ds_par (i := 2) (j := 3) (by rfl) sc.nd rfl rfl (by decide) rfl rfl (am_o (dl_t1 c_list (by rfl) T.n_list (by decide +kernel) (dw (de_var (i := 1) rfl (by first | exact Or.inl rfl | exact Or.inr (Or.inl rfl) | exact Or.inr (Or.inr rfl))))) (am_o (dl_lst da_nil) am_nil)) rfl rfl (by rfl))
      (dss_cons (ds_for (passes_of rfl) rfl (di_rng1 (by rfl) T.n_range (de_b1 c_len (by rfl) T.n_len PySem.boot_len (dw (de_var (i := 1) rfl (by first | exact Or.inl rfl | exact Or.inr (Or.inl rfl) | exact Or.inr (Or.inr rfl)))))) (TgR.w (tg_name (i := 4) sc.nd rfl (by first | exact Or.inl rfl | exact Or.inr rfl) rfl)) (dss_one (ds_expr (de_mt1 (i := 3) PySem.F.slot_list_append PySem.F.type_list_append mt1_append rfl (by first | exact Or.inl rfl | exact Or.inr (Or.inl rfl) | exact Or.inr (Or.inr rfl)) (de_mt1 (i := 2) PySem.F.slot_list_pop PySem.F.type_list_pop mt1_popAt rfl (by first | exact Or.inl rfl | exact Or.inr (Or.inl rfl) | exact Or.inr (Or.inr rfl)) (de_call (io := [0]) (np := 2) (F := F__law_take) c__law_take hr (by decide) (by rfl) (fun σ => L2N.passAt (L2N.takes_of (E := E) rfl rfl rfl rfl) σ) (ag_s (j := 0) rfl (by first | exact Or.inl rfl | exact Or.inr (Or.inl rfl) | exact Or.inr (Or.inr rfl)) (ag_d (de_b1 c_len (by rfl) T.n_len PySem.boot_len (dw_var (i := 2) rfl (by first | exact Or.inl rfl | exact Or.inr (Or.inl rfl) | exact Or.inr (Or.inr rfl)))) ag_nil)) (gaS_len (gaD_len (fun _ _ _ e => ga_nil e)))))))))
      (dss_one (ds_ret (de_frz (i := 3) rfl (by first | exact Or.inl rfl | exact Or.inr (Or.inl rfl) | exact Or.inr (Or.inr rfl)) rfl)))))
/-- _law_v_all_amounts -/
noncomputable def m__law_v_all_amounts : SM :=
  (sSeq (sSet 1 (mOfL (mLst (mCons (mTup mNil) mNil))))
  (sSeq (sForS (mSeq (mDat 0)) (gN 2) (sSeq (sSetL 3 (mLst mNil))
  (sSeq (sForS (mSeq (mDat 1)) (gN 4) (sEx (mMt1 3 dExtend (mOfL (mLc [5] (mRng (mCons (mDat 2) mNil)) (gN 5) (M.pure true) (m2A dAddA (mDat 4) M.pure (mTup (mCons (mDat 5) mNil))))))))
  (sSet 1 (mFrz 3)))))
  (sRet (mDat 1))))
noncomputable def F__law_v_all_amounts : FnD := fnOf 5 m__law_v_all_amounts
theorem v__law_v_all_amounts (T : Txt K mg base TT CL) : CalV P w K mg base 1 "_law_v_all_amounts" (spD ((cf P w K mg base TT CL).at []) 1 F__law_v_all_amounts) := by
  obtain ⟨f, cd, D, hm⟩ := T.d__law_v_all_amounts
  have sc := sc__law_v_all_amounts
  refine D.cal hm (fnv_ev (c := (cf P w K mg base TT CL).at []) D sc rfl fun A outer s H E hr => ?_)
  exact (dss_cons (ds_set (i := 1) sc.nd rfl (Or.inl rfl) (de_dl (dl_lst (da_cons (de_tup da_nil) da_nil))) rfl)
      (dss_cons (ds_for (passes_of rfl) rfl (di_seq (de_var (i := 0) rfl (by first | exact Or.inl rfl | exact Or.inr (Or.inl rfl) | exact Or.inr (Or.inr rfl)))) (TgR.w (tg_name (i := 2) sc.nd rfl (by first | exact Or.inl rfl | exact Or.inr rfl) rfl)) (dss_cons (ds_setL (i := 3) sc.nd rfl (Or.inl rfl) (dl_lst da_nil) rfl)
      (dss_cons (ds_for (passes_of rfl) rfl (di_seq (de_var (i := 1) rfl (by first | exact Or.inl rfl | exact Or.inr (Or.inl rfl) | exact Or.inr (Or.inr rfl)))) (TgR.w (tg_name (i := 4) sc.nd rfl (by first | exact Or.inl rfl | exact Or.inr rfl) rfl)) (dss_one (ds_expr (de_mt1 (i := 3) PySem.F.slot_list_extend PySem.F.type_list_extend mt1_extend rfl (by first | exact Or.inl rfl | exact Or.inr (Or.inl rfl) | exact Or.inr (Or.inr rfl)) (de_dl (dl_lc (own := [("number", 5)]) rfl sc.nd (di_rng1 (by rfl) T.n_range (de_var (i := 2) rfl (by first | exact Or.inl rfl | exact Or.inr (Or.inl rfl) | exact Or.inr (Or.inr rfl)))) (blkOk_by (N := n__law_v_all_amounts) (sc := defScope s__law_v_all_amounts) (own := [("number", 5)]) (by first | decide +kernel | rfl)) rfl (by decide) (fun _ _ _ _ _ => (TgR.w (tg_name (i := 5) sc.nd rfl (by first | exact Or.inl rfl | exact Or.inr rfl) rfl))) (fun _ _ _ _ _ => dts_nil) (fun _ _ _ _ _ => (de_op o_addA (da (de_var (i := 4) rfl (by first | exact Or.inl rfl | exact Or.inr (Or.inl rfl) | exact Or.inr (Or.inr rfl)))) (dw (de_tup (da_cons (de_var (i := 5) rfl (by first | exact Or.inl rfl | exact Or.inr (Or.inl rfl) | exact Or.inr (Or.inr rfl))) da_nil)))))))))))
      (dss_one (ds_set (i := 1) sc.nd rfl (Or.inl rfl) (de_frz (i := 3) rfl (by first | exact Or.inl rfl | exact Or.inr (Or.inl rfl) | exact Or.inr (Or.inr rfl)) rfl) rfl)))))
      (dss_one (ds_ret (de_var (i := 1) rfl (by first | exact Or.inl rfl | exact Or.inr (Or.inl rfl) | exact Or.inr (Or.inr rfl)))))))
/-- _law_v_sizes -/
noncomputable def m__law_v_sizes : SM :=
  (sRet (m1 dTup (mOfL (mLc [1] (mRng (mCons (mCallX [0] F__law_one (gaS 0 (gaD (mOfL (mLst (mCons (M.pure (.int 1)) (mCons (M.pure (.int 2)) (mCons (M.pure (.int 1)) (mCons (M.pure (.int 2)) (mCons (M.pure (.int 0)) mNil))))))) gaNil))) mNil)) (gN 1) (M.pure true) (mCallX [0] F__law_one (gaS 0 (gaD (mOfL (mLst (mCons (M.pure (.int 2)) (mCons (M.pure (.int 3)) (mCons (M.pure (.int 2)) (mCons (M.pure (.int 4)) (mCons (M.pure (.int 5)) (mCons (M.pure (.int 6)) mNil)))))))) gaNil)))))))
noncomputable def F__law_v_sizes : FnD := fnOf 1 m__law_v_sizes
theorem v__law_v_sizes (T : Txt K mg base TT CL) (c__law_one : CalV P w K mg base 2 "_law_one" (spD ((cf P w K mg base TT CL).at [0]) 2 F__law_one)) : CalV P w K mg base 3 "_law_v_sizes" (spD ((cf P w K mg base TT CL).at [0]) 1 F__law_v_sizes) := by
  obtain ⟨f, cd, D, hm⟩ := T.d__law_v_sizes
  have sc := sc__law_v_sizes
  refine D.cal hm (fnv_ev (c := (cf P w K mg base TT CL).at [0]) D sc rfl fun A outer s H E hr => ?_)
  exact (dss_one (ds_ret (de_tuple (by rfl) T.n_tuple (dw (de_dl (dl_lc (own := [("place", 1)]) rfl sc.nd (di_rng1 (by rfl) T.n_range (de_call (io := [0]) (np := 2) (F := F__law_one) c__law_one hr (by decide) (by rfl) (fun σ => L2N.passAt (L2N.takes_of (E := E) rfl rfl rfl rfl) σ) (ag_s (j := 0) rfl (by first | exact Or.inl rfl | exact Or.inr (Or.inl rfl) | exact Or.inr (Or.inr rfl)) (ag_d (de_dl (dl_lst (da_cons de_int (da_cons de_int (da_cons de_int (da_cons de_int (da_cons de_int da_nil))))))) ag_nil)) (gaS_len (gaD_len (fun _ _ _ e => ga_nil e))))) (blkOk_by (N := n__law_v_sizes) (sc := defScope s__law_v_sizes) (own := [("place", 1)]) (by first | decide +kernel | rfl)) rfl (by decide) (fun _ _ _ _ _ => (TgR.w (tg_name (i := 1) sc.nd rfl (by first | exact Or.inl rfl | exact Or.inr rfl) rfl))) (fun _ _ _ _ _ => dts_nil) (fun _ _ _ _ _ => (de_call (io := [0]) (np := 2) (F := F__law_one) c__law_one hr (by decide) (by rfl) (fun σ => at0 σ) (ag_s (j := 0) rfl (by first | exact Or.inl rfl | exact Or.inr (Or.inl rfl) | exact Or.inr (Or.inr rfl)) (ag_d (de_dl (dl_lst (da_cons de_int (da_cons de_int (da_cons de_int (da_cons de_int (da_cons de_int (da_cons de_int da_nil)))))))) ag_nil)) (gaS_len (gaD_len (fun _ _ _ e => ga_nil e)))))))))))
end
end Ev

set_option Elab.async false
set_option linter.all false
set_option maxRecDepth 100000
set_option maxHeartbeats 4000000
namespace Ev
open PySem PySem.Spec PyProof.Rows L2 Ed
section
variable {P : Program} {w : World} {K : PySem.W.Frag} {mg : Str → Option Value} {base : Heap} {TT : List (Addr × Str)} {CL : Cl}
/-- _law_v_kind -/
noncomputable def m__law_v_kind : SM :=
  (sSeq (sSet 2 (mCallX [0] F__law_v_sizes (gaS 0 gaNil)))
  (sSeq (sSet 3 (mCallX [] F__law_v_all_amounts (gaD (mDat 2) gaNil)))
  (sSeq (sSet 4 (mSl dCutA (mCallX [0] F__law_mixed (gaS 0 (gaD (mDat 3) gaNil))) M.pure mNoP (mPart (m2A dAddA (M.pure (.int 1)) M.pure (mCallX [0] F__law_take (gaS 0 (gaD (mN dMin (mCons (mDat 1) (mCons (m1 dLen (mDat 3)) mNil))) gaNil)))))))
  (sSeq (sIf (mAnd (mTest (m2A dLe (m1 dLen (mDat 3)) M.pure (mDat 1))) (mTest (m2A dEq (mCallX [0] F__law_take (gaS 0 (gaD (M.pure (.int 2)) gaNil))) M.pure (M.pure (.int 0))))) (sSet 4 (mCallX [0] F__law_mixed (gaS 0 (gaD (mDat 3) gaNil)))) sNx)
  (sRet (mTup (mCons (mDat 2) (mCons (m1 dTup (mDat 4)) mNil))))))))
noncomputable def F__law_v_kind : FnD := fnOf 3 m__law_v_kind
theorem v__law_v_kind (T : Txt K mg base TT CL) (c__law_v_sizes : CalV P w K mg base 3 "_law_v_sizes" (spD ((cf P w K mg base TT CL).at [0]) 1 F__law_v_sizes)) (c__law_v_all_amounts : CalV P w K mg base 1 "_law_v_all_amounts" (spD ((cf P w K mg base TT CL).at []) 1 F__law_v_all_amounts)) (c__law_mixed : CalV P w K mg base 2 "_law_mixed" (spD ((cf P w K mg base TT CL).at [0]) 2 F__law_mixed)) (c__law_take : CalV P w K mg base 1 "_law_take" (spD ((cf P w K mg base TT CL).at [0]) 2 F__law_take)) : CalV P w K mg base 4 "_law_v_kind" (spD ((cf P w K mg base TT CL).at [0]) 2 F__law_v_kind) := by
  obtain ⟨f, cd, D, hm⟩ := T.d__law_v_kind
  have sc := sc__law_v_kind
  refine D.cal hm (fnv_ev (c := (cf P w K mg base TT CL).at [0]) D sc rfl fun A outer s H E hr => ?_)
  exact (dss_cons (ds_set (i := 2) sc.nd rfl (Or.inl rfl) (de_call (io := [0]) (np := 1) (F := F__law_v_sizes) c__law_v_sizes hr (by decide) (by rfl) (fun σ => L2N.passAt (L2N.takes_of (E := E) rfl rfl rfl rfl) σ) (ag_s (j := 0) rfl (by first | exact Or.inl rfl | exact Or.inr (Or.inl rfl) | exact Or.inr (Or.inr rfl)) ag_nil) (gaS_len (fun _ _ _ e => ga_nil e))) rfl)
      (dss_cons (ds_set (i := 3) sc.nd rfl (Or.inl rfl) (de_call (io := []) (np := 1) (F := F__law_v_all_amounts) c__law_v_all_amounts hr (by decide) (by rfl) (fun σ => L2N.passAt (L2N.takes_of (E := E) rfl rfl rfl rfl) σ) (ag_d (de_var (i := 2) rfl (by first | exact Or.inl rfl | exact Or.inr (Or.inl rfl) | exact Or.inr (Or.inr rfl))) ag_nil) (gaD_len (fun _ _ _ e => ga_nil e))) rfl)
      (dss_cons (ds_set (i := 4) sc.nd rfl (Or.inl rfl) (de_slA (da (de_call (io := [0]) (np := 2) (F := F__law_mixed) c__law_mixed hr (by decide) (by rfl) (fun σ => L2N.passAt (L2N.takes_of (E := E) rfl rfl rfl rfl) σ) (ag_s (j := 0) rfl (by first | exact Or.inl rfl | exact Or.inr (Or.inl rfl) | exact Or.inr (Or.inr rfl)) (ag_d (de_var (i := 3) rfl (by first | exact Or.inl rfl | exact Or.inr (Or.inl rfl) | exact Or.inr (Or.inr rfl))) ag_nil)) (gaS_len (gaD_len (fun _ _ _ e => ga_nil e))))) do_none (do_some (de_op o_addA (da de_int) (dw (de_call (io := [0]) (np := 2) (F := F__law_take) c__law_take hr (by decide) (by rfl) (fun σ => L2N.passAt (L2N.takes_of (E := E) rfl rfl rfl rfl) σ) (ag_s (j := 0) rfl (by first | exact Or.inl rfl | exact Or.inr (Or.inl rfl) | exact Or.inr (Or.inr rfl)) (ag_d (de_bn (c_min rfl) (by rfl) T.n_min (by decide +kernel) (da_cons (de_var (i := 1) rfl (by first | exact Or.inl rfl | exact Or.inr (Or.inl rfl) | exact Or.inr (Or.inr rfl))) (da_cons (de_b1 c_len (by rfl) T.n_len PySem.boot_len (dw (de_var (i := 3) rfl (by first | exact Or.inl rfl | exact Or.inr (Or.inl rfl) | exact Or.inr (Or.inr rfl))))) da_nil))) ag_nil)) (gaS_len (gaD_len (fun _ _ _ e => ga_nil e)))))))) rfl)
      (dss_cons (ds_if (dw_and (dt_cmp o_le (da (de_b1 c_len (by rfl) T.n_len PySem.boot_len (dw (de_var (i := 3) rfl (by first | exact Or.inl rfl | exact Or.inr (Or.inl rfl) | exact Or.inr (Or.inr rfl)))))) (dw (de_var (i := 1) rfl (by first | exact Or.inl rfl | exact Or.inr (Or.inl rfl) | exact Or.inr (Or.inr rfl)))) (by rfl)) (dw_and1 (dt_cmp (o_eq hr.u65) (da (de_call (io := [0]) (np := 2) (F := F__law_take) c__law_take hr (by decide) (by rfl) (fun σ => L2N.passAt (L2N.takes_of (E := E) rfl rfl rfl rfl) σ) (ag_s (j := 0) rfl (by first | exact Or.inl rfl | exact Or.inr (Or.inl rfl) | exact Or.inr (Or.inr rfl)) (ag_d de_int ag_nil)) (gaS_len (gaD_len (fun _ _ _ e => ga_nil e))))) (dw de_int) (by rfl)))).pt (dss_one (ds_set (i := 4) sc.nd rfl (Or.inl rfl) (de_call (io := [0]) (np := 2) (F := F__law_mixed) c__law_mixed hr (by decide) (by rfl) (fun σ => L2N.passAt (L2N.takes_of (E := E) rfl rfl rfl rfl) σ) (ag_s (j := 0) rfl (by first | exact Or.inl rfl | exact Or.inr (Or.inl rfl) | exact Or.inr (Or.inr rfl)) (ag_d (de_var (i := 3) rfl (by first | exact Or.inl rfl | exact Or.inr (Or.inl rfl) | exact Or.inr (Or.inr rfl))) ag_nil)) (gaS_len (gaD_len (fun _ _ _ e => ga_nil e)))) rfl)) dss_nil)
      (dss_one (ds_ret (de_tup (da_cons (de_var (i := 2) rfl (by first | exact Or.inl rfl | exact Or.inr (Or.inl rfl) | exact Or.inr (Or.inr rfl))) (da_cons (de_tuple (by rfl) T.n_tuple (dw (de_var (i := 4) rfl (by first | exact Or.inl rfl | exact Or.inr (Or.inl rfl) | exact Or.inr (Or.inr rfl))))) da_nil)))))))))
/-- _law_v_fields -/
noncomputable def m__law_v_fields : SM :=
  (sRet (m1 dTup (mOfL (mLc [3] (mRng (mCons (m2A dAddA (M.pure (.int 1)) M.pure (mCallX [0] F__law_take (gaS 0 (gaD (mDat 1) gaNil)))) mNil)) (gN 3) (M.pure true) (mCallX [0] F__law_v_kind (gaS 0 (gaD (mDat 2) gaNil)))))))
noncomputable def F__law_v_fields : FnD := fnOf 1 m__law_v_fields
theorem v__law_v_fields (T : Txt K mg base TT CL) (c__law_v_kind : CalV P w K mg base 4 "_law_v_kind" (spD ((cf P w K mg base TT CL).at [0]) 2 F__law_v_kind)) (c__law_take : CalV P w K mg base 1 "_law_take" (spD ((cf P w K mg base TT CL).at [0]) 2 F__law_take)) : CalV P w K mg base 5 "_law_v_fields" (spD ((cf P w K mg base TT CL).at [0]) 3 F__law_v_fields) := by
  obtain ⟨f, cd, D, hm⟩ := T.d__law_v_fields
  have sc := sc__law_v_fields
  refine D.cal hm (fnv_ev (c := (cf P w K mg base TT CL).at [0]) D sc rfl fun A outer s H E hr => ?_)
  exact (dss_one (ds_ret (de_tuple (by rfl) T.n_tuple (dw (de_dl (dl_lc (own := [("field", 3)]) rfl sc.nd (di_rng1 (by rfl) T.n_range (de_op o_addA (da de_int) (dw (de_call (io := [0]) (np := 2) (F := F__law_take) c__law_take hr (by decide) (by rfl) (fun σ => L2N.passAt (L2N.takes_of (E := E) rfl rfl rfl rfl) σ) (ag_s (j := 0) rfl (by first | exact Or.inl rfl | exact Or.inr (Or.inl rfl) | exact Or.inr (Or.inr rfl)) (ag_d (de_var (i := 1) rfl (by first | exact Or.inl rfl | exact Or.inr (Or.inl rfl) | exact Or.inr (Or.inr rfl))) ag_nil)) (gaS_len (gaD_len (fun _ _ _ e => ga_nil e))))))) (blkOk_by (N := n__law_v_fields) (sc := defScope s__law_v_fields) (own := [("field", 3)]) (by first | decide +kernel | rfl)) rfl (by decide) (fun _ _ _ _ _ => (TgR.w (tg_name (i := 3) sc.nd rfl (by first | exact Or.inl rfl | exact Or.inr rfl) rfl))) (fun _ _ _ _ _ => dts_nil) (fun _ _ _ _ _ => (de_call (io := [0]) (np := 2) (F := F__law_v_kind) c__law_v_kind hr (by decide) (by rfl) (fun σ => at0 σ) (ag_s (j := 0) rfl (by first | exact Or.inl rfl | exact Or.inr (Or.inl rfl) | exact Or.inr (Or.inr rfl)) (ag_d (de_var (i := 2) rfl (by first | exact Or.inl rfl | exact Or.inr (Or.inl rfl) | exact Or.inr (Or.inr rfl))) ag_nil)) (gaS_len (gaD_len (fun _ _ _ e => ga_nil e)))))))))))
/-- _law_v_some_record -/
noncomputable def m__law_v_some_record : SM :=
  (sRet (m1 dTup (mOfL (mLc [2] (mSeq (mDat 1)) (gN 2) (M.pure true) (mCallX [0] F__law_take (gaS 0 (gaD (m1 dLen (m2A dIx (mDat 2) M.pure (M.pure (.int 1)))) gaNil)))))))
noncomputable def F__law_v_some_record : FnD := fnOf 1 m__law_v_some_record
theorem v__law_v_some_record (T : Txt K mg base TT CL) (c__law_take : CalV P w K mg base 1 "_law_take" (spD ((cf P w K mg base TT CL).at [0]) 2 F__law_take)) : CalV P w K mg base 2 "_law_v_some_record" (spD ((cf P w K mg base TT CL).at [0]) 2 F__law_v_some_record) := by
  obtain ⟨f, cd, D, hm⟩ := T.d__law_v_some_record
  have sc := sc__law_v_some_record
  refine D.cal hm (fnv_ev (c := (cf P w K mg base TT CL).at [0]) D sc rfl fun A outer s H E hr => ?_)
  exact (dss_one (ds_ret (de_tuple (by rfl) T.n_tuple (dw (de_dl (dl_lc (own := [("sort", 2)]) rfl sc.nd (di_seq (de_var (i := 1) rfl (by first | exact Or.inl rfl | exact Or.inr (Or.inl rfl) | exact Or.inr (Or.inr rfl)))) (blkOk_by (N := n__law_v_some_record) (sc := defScope s__law_v_some_record) (own := [("sort", 2)]) (by first | decide +kernel | rfl)) rfl (by decide) (fun _ _ _ _ _ => (TgR.w (tg_name (i := 2) sc.nd rfl (by first | exact Or.inl rfl | exact Or.inr rfl) rfl))) (fun _ _ _ _ _ => dts_nil) (fun _ _ _ _ _ => (de_call (io := [0]) (np := 2) (F := F__law_take) c__law_take hr (by decide) (by rfl) (fun σ => at0 σ) (ag_s (j := 0) rfl (by first | exact Or.inl rfl | exact Or.inr (Or.inl rfl) | exact Or.inr (Or.inr rfl)) (ag_d (de_b1 c_len (by rfl) T.n_len PySem.boot_len (dw (de_ix o_ix (da (de_var (i := 2) rfl (by first | exact Or.inl rfl | exact Or.inr (Or.inl rfl) | exact Or.inr (Or.inr rfl)))) (dw de_int) (fun _ _ => rfl)))) ag_nil)) (gaS_len (gaD_len (fun _ _ _ e => ga_nil e)))))))))))
/-- _law_is_whole -/
noncomputable def m__law_is_whole : SM :=
  (sRet (vAnd (mIsi "int" (mDat 0)) (vAnd (vNot (mIsi "bool" (mDat 0))) (m2A dGe (mDat 0) M.pure (mDat 1)))))
noncomputable def F__law_is_whole : FnD := fnOf 0 m__law_is_whole
theorem v__law_is_whole (T : Txt K mg base TT CL) : CalV P w K mg base 1 "_law_is_whole" (spD ((cf P w K mg base TT CL).at []) 2 F__law_is_whole) := by
  obtain ⟨f, cd, D, hm⟩ := T.d__law_is_whole
  have sc := sc__law_is_whole
  refine D.cal hm (fnv_ev (c := (cf P w K mg base TT CL).at []) D sc rfl fun A outer s H E hr => ?_)
  exact (dss_one (ds_ret (de_and (de_isi (T := "int") (by decide) (by rfl) T.n_isinstance (dw (de_var (i := 0) rfl (by first | exact Or.inl rfl | exact Or.inr (Or.inl rfl) | exact Or.inr (Or.inr rfl)))) (pe_bltn (v := .ty "int") (by rfl) T.n_int (by decide +kernel) rfl)) (de_and (de_not (de_isi (T := "bool") (by decide) (by rfl) T.n_isinstance (dw (de_var (i := 0) rfl (by first | exact Or.inl rfl | exact Or.inr (Or.inl rfl) | exact Or.inr (Or.inr rfl)))) (pe_bltn (v := .ty "bool") (by rfl) T.n_bool (by decide +kernel) rfl))) (de_one (de_cmp o_ge (da (de_var (i := 0) rfl (by first | exact Or.inl rfl | exact Or.inr (Or.inl rfl) | exact Or.inr (Or.inr rfl)))) (dw (de_var (i := 1) rfl (by first | exact Or.inl rfl | exact Or.inr (Or.inl rfl) | exact Or.inr (Or.inr rfl)))) (by rfl)))))))
/-- _law_is_hand -/
noncomputable def m__law_is_hand : SM :=
  (sSeq (sIf (mOr (mNot (mTest (mIsi "tuple" (mDat 1)))) (mTest (m2A dNe (m1 dLen (mDat 1)) M.pure (m1 dLen (mDat 0))))) (sRet (M.pure (.bool false))) sNx)
  (sRet (m2A dEq (mOfL (mLc [2] (mRng (mCons (m1 dLen (mDat 0)) mNil)) (gN 2) (mOr (mNot (mTest (mCallX [] F__law_is_whole (gaD (m2A dIx (mDat 1) M.pure (mDat 2)) (gaD (M.pure (.int 0)) gaNil))))) (mTest (m2A dGe (m2A dIx (mDat 1) M.pure (mDat 2)) M.pure (m2A dIx (mDat 0) M.pure (mDat 2))))) (mDat 2))) M.pure (mOfL (mLst mNil)))))
noncomputable def F__law_is_hand : FnD := fnOf 1 m__law_is_hand
theorem v__law_is_hand (T : Txt K mg base TT CL) (c__law_is_whole : CalV P w K mg base 1 "_law_is_whole" (spD ((cf P w K mg base TT CL).at []) 2 F__law_is_whole)) : CalV P w K mg base 2 "_law_is_hand" (spD ((cf P w K mg base TT CL).at []) 2 F__law_is_hand) := by
  obtain ⟨f, cd, D, hm⟩ := T.d__law_is_hand
  have sc := sc__law_is_hand
  refine D.cal hm (fnv_ev (c := (cf P w K mg base TT CL).at []) D sc rfl fun A outer s H E hr => ?_)
  exact (dss_cons (ds_if (dw_or (dt_not (dt_val (de_isi (T := "tuple") (by decide) (by rfl) T.n_isinstance (dw (de_var (i := 1) rfl (by first | exact Or.inl rfl | exact Or.inr (Or.inl rfl) | exact Or.inr (Or.inr rfl)))) (pe_bltn (v := .ty "tuple") (by rfl) T.n_tuple (by decide +kernel) rfl)))) (dw_or1 (dt_cmp (o_ne hr.u65) (da (de_b1 c_len (by rfl) T.n_len PySem.boot_len (dw (de_var (i := 1) rfl (by first | exact Or.inl rfl | exact Or.inr (Or.inl rfl) | exact Or.inr (Or.inr rfl)))))) (dw (de_b1 c_len (by rfl) T.n_len PySem.boot_len (dw (de_var (i := 0) rfl (by first | exact Or.inl rfl | exact Or.inr (Or.inl rfl) | exact Or.inr (Or.inr rfl)))))) (by rfl)))).pt (dss_one (ds_ret de_bl)) dss_nil)
      (dss_one (ds_ret (de_cmp (o_eq hr.u65) (da (de_dl (dl_lc (own := [("k", 2)]) rfl sc.nd (di_rng1 (by rfl) T.n_range (de_b1 c_len (by rfl) T.n_len PySem.boot_len (dw (de_var (i := 0) rfl (by first | exact Or.inl rfl | exact Or.inr (Or.inl rfl) | exact Or.inr (Or.inr rfl)))))) (blkOk_by (N := n__law_is_hand) (sc := defScope s__law_is_hand) (own := [("k", 2)]) (by first | decide +kernel | rfl)) rfl (by decide) (fun _ _ _ _ _ => (TgR.w (tg_name (i := 2) sc.nd rfl (by first | exact Or.inl rfl | exact Or.inr rfl) rfl))) (fun _ _ _ _ _ => dts_one (dw_or (dt_not (dt_val (de_call (io := []) (np := 2) (F := F__law_is_whole) c__law_is_whole hr (by decide) (by rfl) (fun σ => at0 σ) (ag_d (de_ix o_ix (da (de_var (i := 1) rfl (by first | exact Or.inl rfl | exact Or.inr (Or.inl rfl) | exact Or.inr (Or.inr rfl)))) (dw (de_var (i := 2) rfl (by first | exact Or.inl rfl | exact Or.inr (Or.inl rfl) | exact Or.inr (Or.inr rfl)))) (fun _ _ => rfl)) (ag_d de_int ag_nil)) (gaD_len (gaD_len (fun _ _ _ e => ga_nil e)))))) (dw_or1 (dt_cmp o_ge (da (de_ix o_ix (da (de_var (i := 1) rfl (by first | exact Or.inl rfl | exact Or.inr (Or.inl rfl) | exact Or.inr (Or.inr rfl)))) (dw (de_var (i := 2) rfl (by first | exact Or.inl rfl | exact Or.inr (Or.inl rfl) | exact Or.inr (Or.inr rfl)))) (fun _ _ => rfl))) (dw (de_ix o_ix (da (de_var (i := 0) rfl (by first | exact Or.inl rfl | exact Or.inr (Or.inl rfl) | exact Or.inr (Or.inr rfl)))) (dw (de_var (i := 2) rfl (by first | exact Or.inl rfl | exact Or.inr (Or.inl rfl) | exact Or.inr (Or.inr rfl)))) (fun _ _ => rfl))) (by rfl)))).pt) (fun _ _ _ _ _ => (de_var (i := 2) rfl (by first | exact Or.inl rfl | exact Or.inr (Or.inl rfl) | exact Or.inr (Or.inr rfl))))))) (dw (de_dl (dl_lst da_nil))) (by rfl)))))
/-- _law_wrong_kind -/
noncomputable def m__law_wrong_kind : SM :=
  (sSeq (sIf (mOr (mNot (mTest (mIsi "tuple" (mDat 0)))) (mTest (m2A dNe (m1 dLen (mDat 0)) M.pure (M.pure (.int 2))))) (sRet (m1 dNeg (M.pure (.int 1)))) sNx)
  (sSeq (sAsg (gTupT 2 (gCon (gN 1) (gCon (gN 2) gNil0))) (mDat 0))
  (sSeq (sIf (mOr (mNot (mTest (mIsi "tuple" (mDat 1)))) (mOr (mTest (m2A dGt (m1 dLen (mDat 1)) M.pure (M.pure (.int 12)))) (mTest (m2A dNe (mOfL (mLc [3] (mSeq (mDat 1)) (gN 3) (mNot (mTest (mCallX [] F__law_is_whole (gaD (mDat 3) (gaD (M.pure (.int 2)) gaNil))))) (mDat 3))) M.pure (mOfL (mLst mNil)))))) (sRet (M.pure (.int 0))) sNx)
  (sSeq (sIf (mOr (mNot (mTest (mIsi "tuple" (mDat 2)))) (mNot (mTest (mChain dLe dLe (M.pure (.int 1)) (m1 dLen (mDat 2)) (M.pure (.int 12)))))) (sRet (M.pure (.int 1))) sNx)
  (sSeq (sIf (mTest (m2A dNe (mOfL (mLc [4] (mSeq (mDat 2)) (gN 4) (mNot (mTest (mCallX [] F__law_is_hand (gaD (mDat 1) (gaD (mDat 4) gaNil))))) (mDat 4))) M.pure (mOfL (mLst mNil)))) (sRet (M.pure (.int 1))) sNx)
  (sRet (mIf (mTest (m2A dNe (mOfL (mLc [5] (mRng (mCons (m1 dLen (mDat 2)) mNil)) (gN 5) (mTest (m2A (dInS false) (m2A dIx (mDat 2) M.pure (mDat 5)) M.pure (mSl dCutA (mDat 2) M.pure mNoP (mPart (mDat 5))))) (mDat 5))) M.pure (mOfL (mLst mNil)))) (M.pure (.int 1)) (M.pure .none))))))))
noncomputable def F__law_wrong_kind : FnD := fnOf 5 m__law_wrong_kind
theorem v__law_wrong_kind (T : Txt K mg base TT CL) (c__law_is_hand : CalV P w K mg base 2 "_law_is_hand" (spD ((cf P w K mg base TT CL).at []) 2 F__law_is_hand)) (c__law_is_whole : CalV P w K mg base 1 "_law_is_whole" (spD ((cf P w K mg base TT CL).at []) 2 F__law_is_whole)) : CalV P w K mg base 3 "_law_wrong_kind" (spD ((cf P w K mg base TT CL).at []) 1 F__law_wrong_kind) := by
  obtain ⟨f, cd, D, hm⟩ := T.d__law_wrong_kind
  have sc := sc__law_wrong_kind
  refine D.cal hm (fnv_ev (c := (cf P w K mg base TT CL).at []) D sc rfl fun A outer s H E hr => ?_)
  exact (dss_cons (ds_if (dw_or (dt_not (dt_val (de_isi (T := "tuple") (by decide) (by rfl) T.n_isinstance (dw (de_var (i := 0) rfl (by first | exact Or.inl rfl | exact Or.inr (Or.inl rfl) | exact Or.inr (Or.inr rfl)))) (pe_bltn (v := .ty "tuple") (by rfl) T.n_tuple (by decide +kernel) rfl)))) (dw_or1 (dt_cmp (o_ne hr.u65) (da (de_b1 c_len (by rfl) T.n_len PySem.boot_len (dw (de_var (i := 0) rfl (by first | exact Or.inl rfl | exact Or.inr (Or.inl rfl) | exact Or.inr (Or.inr rfl)))))) (dw de_int) (by rfl)))).pt (dss_one (ds_ret (de_un o_neg (dw de_int)))) dss_nil)
      (dss_cons (ds_asg (de_var (i := 0) rfl (by first | exact Or.inl rfl | exact Or.inr (Or.inl rfl) | exact Or.inr (Or.inr rfl))) (tg_tup rfl (tg_con (tg_name (i := 1) sc.nd rfl (by first | exact Or.inl rfl | exact Or.inr rfl) rfl) (tg_con (tg_name (i := 2) sc.nd rfl (by first | exact Or.inl rfl | exact Or.inr rfl) rfl) tg_nil))).r)
      (dss_cons (ds_if (dw_or (dt_not (dt_val (de_isi (T := "tuple") (by decide) (by rfl) T.n_isinstance (dw (de_var (i := 1) rfl (by first | exact Or.inl rfl | exact Or.inr (Or.inl rfl) | exact Or.inr (Or.inr rfl)))) (pe_bltn (v := .ty "tuple") (by rfl) T.n_tuple (by decide +kernel) rfl)))) (dw_or (dt_cmp o_gt (da (de_b1 c_len (by rfl) T.n_len PySem.boot_len (dw (de_var (i := 1) rfl (by first | exact Or.inl rfl | exact Or.inr (Or.inl rfl) | exact Or.inr (Or.inr rfl)))))) (dw de_int) (by rfl)) (dw_or1 (dt_cmp (o_ne hr.u65) (da (de_dl (dl_lc (own := [("one", 3)]) rfl sc.nd (di_seq (de_var (i := 1) rfl (by first | exact Or.inl rfl | exact Or.inr (Or.inl rfl) | exact Or.inr (Or.inr rfl)))) (blkOk_by (N := n__law_wrong_kind) (sc := defScope s__law_wrong_kind) (own := [("one", 3)]) (by first | decide +kernel | rfl)) rfl (by decide) (fun _ _ _ _ _ => (TgR.w (tg_name (i := 3) sc.nd rfl (by first | exact Or.inl rfl | exact Or.inr rfl) rfl))) (fun _ _ _ _ _ => dts_one (dt_not (dt_val (de_call (io := []) (np := 2) (F := F__law_is_whole) c__law_is_whole hr (by decide) (by rfl) (fun σ => at0 σ) (ag_d (de_var (i := 3) rfl (by first | exact Or.inl rfl | exact Or.inr (Or.inl rfl) | exact Or.inr (Or.inr rfl))) (ag_d de_int ag_nil)) (gaD_len (gaD_len (fun _ _ _ e => ga_nil e))))))) (fun _ _ _ _ _ => (de_var (i := 3) rfl (by first | exact Or.inl rfl | exact Or.inr (Or.inl rfl) | exact Or.inr (Or.inr rfl))))))) (dw (de_dl (dl_lst da_nil))) (by rfl))))).pt (dss_one (ds_ret de_int)) dss_nil)
      (dss_cons (ds_if (dw_or (dt_not (dt_val (de_isi (T := "tuple") (by decide) (by rfl) T.n_isinstance (dw (de_var (i := 2) rfl (by first | exact Or.inl rfl | exact Or.inr (Or.inl rfl) | exact Or.inr (Or.inr rfl)))) (pe_bltn (v := .ty "tuple") (by rfl) T.n_tuple (by decide +kernel) rfl)))) (dw_or1 (dt_not (dt_chain o_le o_le de_int (de_b1 c_len (by rfl) T.n_len PySem.boot_len (dw (de_var (i := 2) rfl (by first | exact Or.inl rfl | exact Or.inr (Or.inl rfl) | exact Or.inr (Or.inr rfl))))) de_int)))).pt (dss_one (ds_ret de_int)) dss_nil)
      (dss_cons (ds_if (dt_cmp (o_ne hr.u65) (da (de_dl (dl_lc (own := [("hand", 4)]) rfl sc.nd (di_seq (de_var (i := 2) rfl (by first | exact Or.inl rfl | exact Or.inr (Or.inl rfl) | exact Or.inr (Or.inr rfl)))) (blkOk_by (N := n__law_wrong_kind) (sc := defScope s__law_wrong_kind) (own := [("hand", 4)]) (by first | decide +kernel | rfl)) rfl (by decide) (fun _ _ _ _ _ => (TgR.w (tg_name (i := 4) sc.nd rfl (by first | exact Or.inl rfl | exact Or.inr rfl) rfl))) (fun _ _ _ _ _ => dts_one (dt_not (dt_val (de_call (io := []) (np := 2) (F := F__law_is_hand) c__law_is_hand hr (by decide) (by rfl) (fun σ => at0 σ) (ag_d (de_var (i := 1) rfl (by first | exact Or.inl rfl | exact Or.inr (Or.inl rfl) | exact Or.inr (Or.inr rfl))) (ag_d (de_var (i := 4) rfl (by first | exact Or.inl rfl | exact Or.inr (Or.inl rfl) | exact Or.inr (Or.inr rfl))) ag_nil)) (gaD_len (gaD_len (fun _ _ _ e => ga_nil e))))))) (fun _ _ _ _ _ => (de_var (i := 4) rfl (by first | exact Or.inl rfl | exact Or.inr (Or.inl rfl) | exact Or.inr (Or.inr rfl))))))) (dw (de_dl (dl_lst da_nil))) (by rfl)) (dss_one (ds_ret de_int)) dss_nil)
      (dss_one (ds_ret (de_if (dt_cmp (o_ne hr.u65) (da (de_dl (dl_lc (own := [("at", 5)]) rfl sc.nd (di_rng1 (by rfl) T.n_range (de_b1 c_len (by rfl) T.n_len PySem.boot_len (dw (de_var (i := 2) rfl (by first | exact Or.inl rfl | exact Or.inr (Or.inl rfl) | exact Or.inr (Or.inr rfl)))))) (blkOk_by (N := n__law_wrong_kind) (sc := defScope s__law_wrong_kind) (own := [("at", 5)]) (by first | decide +kernel | rfl)) rfl (by decide) (fun _ _ _ _ _ => (TgR.w (tg_name (i := 5) sc.nd rfl (by first | exact Or.inl rfl | exact Or.inr rfl) rfl))) (fun _ _ _ _ _ => dts_one (dt_cmp (o_in hr.u65) (da (de_ix o_ix (da (de_var (i := 2) rfl (by first | exact Or.inl rfl | exact Or.inr (Or.inl rfl) | exact Or.inr (Or.inr rfl)))) (dw (de_var (i := 5) rfl (by first | exact Or.inl rfl | exact Or.inr (Or.inl rfl) | exact Or.inr (Or.inr rfl)))) (fun _ _ => rfl))) (dw (de_slA (da (de_var (i := 2) rfl (by first | exact Or.inl rfl | exact Or.inr (Or.inl rfl) | exact Or.inr (Or.inr rfl)))) do_none (do_some (de_var (i := 5) rfl (by first | exact Or.inl rfl | exact Or.inr (Or.inl rfl) | exact Or.inr (Or.inr rfl)))))) (by rfl))) (fun _ _ _ _ _ => (de_var (i := 5) rfl (by first | exact Or.inl rfl | exact Or.inr (Or.inl rfl) | exact Or.inr (Or.inr rfl))))))) (dw (de_dl (dl_lst da_nil))) (by rfl)) de_int de_non))))))))
end
end Ev

set_option Elab.async false
set_option linter.all false
set_option maxRecDepth 100000
set_option maxHeartbeats 4000000
namespace Ev
open PySem PySem.Spec PyProof.Rows L2 Ed
section
variable {P : Program} {w : World} {K : PySem.W.Frag} {mg : Str → Option Value} {base : Heap} {TT : List (Addr × Str)} {CL : Cl}
/-- _law_wrong_fields -/
noncomputable def m__law_wrong_fields : SM :=
  (sSeq (sIf (mOr (mNot (mTest (mIsi "tuple" (mDat 0)))) (mNot (mTest (mChain dLe dLe (M.pure (.int 1)) (m1 dLen (mDat 0)) (M.pure (.int 6)))))) (sRet (m1 dNeg (M.pure (.int 1)))) sNx)
  (sSeq (sForS (mRng (mCons (m1 dLen (mDat 0)) mNil)) (gN 1) (sIf (mTest (m2A dNotN (mCallX [] F__law_wrong_kind (gaD (m2A dIx (mDat 0) M.pure (mDat 1)) gaNil)) M.pure (M.pure .none))) (sRet (mDat 1)) sNx))
  (sRet (M.pure .none))))
noncomputable def F__law_wrong_fields : FnD := fnOf 1 m__law_wrong_fields
theorem v__law_wrong_fields (T : Txt K mg base TT CL) (c__law_wrong_kind : CalV P w K mg base 3 "_law_wrong_kind" (spD ((cf P w K mg base TT CL).at []) 1 F__law_wrong_kind)) : CalV P w K mg base 4 "_law_wrong_fields" (spD ((cf P w K mg base TT CL).at []) 1 F__law_wrong_fields) := by
  obtain ⟨f, cd, D, hm⟩ := T.d__law_wrong_fields
  have sc := sc__law_wrong_fields
  refine D.cal hm (fnv_ev (c := (cf P w K mg base TT CL).at []) D sc rfl fun A outer s H E hr => ?_)
  exact (dss_cons (ds_if (dw_or (dt_not (dt_val (de_isi (T := "tuple") (by decide) (by rfl) T.n_isinstance (dw (de_var (i := 0) rfl (by first | exact Or.inl rfl | exact Or.inr (Or.inl rfl) | exact Or.inr (Or.inr rfl)))) (pe_bltn (v := .ty "tuple") (by rfl) T.n_tuple (by decide +kernel) rfl)))) (dw_or1 (dt_not (dt_chain o_le o_le de_int (de_b1 c_len (by rfl) T.n_len PySem.boot_len (dw (de_var (i := 0) rfl (by first | exact Or.inl rfl | exact Or.inr (Or.inl rfl) | exact Or.inr (Or.inr rfl))))) de_int)))).pt (dss_one (ds_ret (de_un o_neg (dw de_int)))) dss_nil)
      (dss_cons (ds_for (passes_of rfl) rfl (di_rng1 (by rfl) T.n_range (de_b1 c_len (by rfl) T.n_len PySem.boot_len (dw (de_var (i := 0) rfl (by first | exact Or.inl rfl | exact Or.inr (Or.inl rfl) | exact Or.inr (Or.inr rfl)))))) (TgR.w (tg_name (i := 1) sc.nd rfl (by first | exact Or.inl rfl | exact Or.inr rfl) rfl)) (dss_one (ds_if (dt_cmp o_notN (da (de_call (io := []) (np := 1) (F := F__law_wrong_kind) c__law_wrong_kind hr (by decide) (by rfl) (fun σ => L2N.passAt (L2N.takes_of (E := E) rfl rfl rfl rfl) σ) (ag_d (de_ix o_ix (da (de_var (i := 0) rfl (by first | exact Or.inl rfl | exact Or.inr (Or.inl rfl) | exact Or.inr (Or.inr rfl)))) (dw (de_var (i := 1) rfl (by first | exact Or.inl rfl | exact Or.inr (Or.inl rfl) | exact Or.inr (Or.inr rfl)))) (fun _ _ => rfl)) ag_nil) (gaD_len (fun _ _ _ e => ga_nil e)))) (dw de_non) (by rfl)) (dss_one (ds_ret (de_var (i := 1) rfl (by first | exact Or.inl rfl | exact Or.inr (Or.inl rfl) | exact Or.inr (Or.inr rfl))))) dss_nil)))
      (dss_one (ds_ret de_non))))
/-- _law_wrong_record -/
noncomputable def m__law_wrong_record : SM :=
  (sSeq (sIf (mOr (mNot (mTest (mIsi "tuple" (mDat 1)))) (mTest (m2A dNe (m1 dLen (mDat 1)) M.pure (m1 dLen (mDat 0))))) (sRet (m1 dNeg (M.pure (.int 1)))) sNx)
  (sSeq (sForS (mRng (mCons (m1 dLen (mDat 1)) mNil)) (gN 2) (sIf (mOr (mNot (mTest (mCallX [] F__law_is_whole (gaD (m2A dIx (mDat 1) M.pure (mDat 2)) (gaD (M.pure (.int 0)) gaNil))))) (mTest (m2A dGe (m2A dIx (mDat 1) M.pure (mDat 2)) M.pure (m1 dLen (m2A dIx (m2A dIx (mDat 0) M.pure (mDat 2)) M.pure (M.pure (.int 1))))))) (sRet (mDat 2)) sNx))
  (sRet (M.pure .none))))
noncomputable def F__law_wrong_record : FnD := fnOf 1 m__law_wrong_record
theorem v__law_wrong_record (T : Txt K mg base TT CL) (c__law_is_whole : CalV P w K mg base 1 "_law_is_whole" (spD ((cf P w K mg base TT CL).at []) 2 F__law_is_whole)) : CalV P w K mg base 2 "_law_wrong_record" (spD ((cf P w K mg base TT CL).at []) 2 F__law_wrong_record) := by
  obtain ⟨f, cd, D, hm⟩ := T.d__law_wrong_record
  have sc := sc__law_wrong_record
  refine D.cal hm (fnv_ev (c := (cf P w K mg base TT CL).at []) D sc rfl fun A outer s H E hr => ?_)
  exact (dss_cons (ds_if (dw_or (dt_not (dt_val (de_isi (T := "tuple") (by decide) (by rfl) T.n_isinstance (dw (de_var (i := 1) rfl (by first | exact Or.inl rfl | exact Or.inr (Or.inl rfl) | exact Or.inr (Or.inr rfl)))) (pe_bltn (v := .ty "tuple") (by rfl) T.n_tuple (by decide +kernel) rfl)))) (dw_or1 (dt_cmp (o_ne hr.u65) (da (de_b1 c_len (by rfl) T.n_len PySem.boot_len (dw (de_var (i := 1) rfl (by first | exact Or.inl rfl | exact Or.inr (Or.inl rfl) | exact Or.inr (Or.inr rfl)))))) (dw (de_b1 c_len (by rfl) T.n_len PySem.boot_len (dw (de_var (i := 0) rfl (by first | exact Or.inl rfl | exact Or.inr (Or.inl rfl) | exact Or.inr (Or.inr rfl)))))) (by rfl)))).pt (dss_one (ds_ret (de_un o_neg (dw de_int)))) dss_nil)
      (dss_cons (ds_for (passes_of rfl) rfl (di_rng1 (by rfl) T.n_range (de_b1 c_len (by rfl) T.n_len PySem.boot_len (dw (de_var (i := 1) rfl (by first | exact Or.inl rfl | exact Or.inr (Or.inl rfl) | exact Or.inr (Or.inr rfl)))))) (TgR.w (tg_name (i := 2) sc.nd rfl (by first | exact Or.inl rfl | exact Or.inr rfl) rfl)) (dss_one (ds_if (dw_or (dt_not (dt_val (de_call (io := []) (np := 2) (F := F__law_is_whole) c__law_is_whole hr (by decide) (by rfl) (fun σ => L2N.passAt (L2N.takes_of (E := E) rfl rfl rfl rfl) σ) (ag_d (de_ix o_ix (da (de_var (i := 1) rfl (by first | exact Or.inl rfl | exact Or.inr (Or.inl rfl) | exact Or.inr (Or.inr rfl)))) (dw (de_var (i := 2) rfl (by first | exact Or.inl rfl | exact Or.inr (Or.inl rfl) | exact Or.inr (Or.inr rfl)))) (fun _ _ => rfl)) (ag_d de_int ag_nil)) (gaD_len (gaD_len (fun _ _ _ e => ga_nil e)))))) (dw_or1 (dt_cmp o_ge (da (de_ix o_ix (da (de_var (i := 1) rfl (by first | exact Or.inl rfl | exact Or.inr (Or.inl rfl) | exact Or.inr (Or.inr rfl)))) (dw (de_var (i := 2) rfl (by first | exact Or.inl rfl | exact Or.inr (Or.inl rfl) | exact Or.inr (Or.inr rfl)))) (fun _ _ => rfl))) (dw (de_b1 c_len (by rfl) T.n_len PySem.boot_len (dw (de_ix o_ix (da (de_ix o_ix (da (de_var (i := 0) rfl (by first | exact Or.inl rfl | exact Or.inr (Or.inl rfl) | exact Or.inr (Or.inr rfl)))) (dw (de_var (i := 2) rfl (by first | exact Or.inl rfl | exact Or.inr (Or.inl rfl) | exact Or.inr (Or.inr rfl)))) (fun _ _ => rfl))) (dw de_int) (fun _ _ => rfl))))) (by rfl)))).pt (dss_one (ds_ret (de_var (i := 2) rfl (by first | exact Or.inl rfl | exact Or.inr (Or.inl rfl) | exact Or.inr (Or.inr rfl))))) dss_nil)))
      (dss_one (ds_ret de_non))))
/-- _law_odd_kind -/
noncomputable def m__law_odd_kind : SM :=
  (sSeq (sAsg (gTupT 2 (gCon (gN 2) (gCon (gN 3) gNil0))) (mDat 1))
  (sSeq (sPar2 4 5 (aD (mCallX [0] F__law_take (gaS 0 (gaD (m1 dLen (mDat 3)) gaNil))) (aD (m1 dTup (mSl dCutA (mDat 2) M.pure mNoP (mPart (M.pure (.int 1))))) aNil)))
  (sSeq (sSetL 6 (mLst (mCons (mTup (mCons (m2A dAddA (mDat 2) M.pure (mTup (mCons (M.pure (.int 1)) mNil))) (mCons (mDat 3) mNil))) (mCons (mTup (mCons (m2A dAddA (mDat 2) M.pure (mTup (mCons (M.pure .none) mNil))) (mCons (mDat 3) mNil))) (mCons (mTup (mCons (M.pure .none) (mCons (mDat 3) mNil))) (mCons (mTup (mCons (mDat 2) (mCons (mTup mNil) mNil))) (mCons (mTup (mCons (mDat 2) (mCons (M.pure .none) mNil))) (mCons (mTup (mCons (mDat 2) mNil)) (mCons (mTup (mCons (mDat 2) (mCons (mDat 3) (mCons (mTup mNil) mNil)))) mNil)))))))))
  (sSeq (sEx (mMt1 6 dExtend (mOfL (mLst (mCons (mTup (mCons (mDat 2) (mCons (m2A dAddA (m2A dAddA (mSl dCutA (mDat 3) M.pure mNoP (mPart (mDat 4))) M.pure (mTup (mCons (m2A dAddA (m2A dIx (mDat 3) M.pure (mDat 4)) M.pure (mTup (mCons (M.pure (.int 0)) mNil))) mNil))) M.pure (mSl dCutA (mDat 3) M.pure (mPart (m2A dAddA (mDat 4) M.pure (M.pure (.int 1)))) mNoP)) mNil))) (mCons (mTup (mCons (mDat 2) (mCons (m2A dAddA (mDat 3) M.pure (mSl dCutA (mDat 3) M.pure mNoP (mPart (M.pure (.int 1))))) mNil))) (mCons (M.pure .none) (mCons (mDat 3) (mCons (M.pure (.str "kind")) mNil)))))))))
  (sSeq (sEx (mMt1 6 dExtend (mOfL (mLst (mCons (mTup (mCons (mDat 2) (mCons (m2A dAddA (m2A dAddA (mSl dCutA (mDat 3) M.pure mNoP (mPart (mDat 4))) M.pure (mTup (mCons (m2A dAddA (mDat 5) M.pure (mSl dCutA (m2A dIx (mDat 3) M.pure (mDat 4)) M.pure (mPart (M.pure (.int 1))) mNoP)) mNil))) M.pure (mSl dCutA (mDat 3) M.pure (mPart (m2A dAddA (mDat 4) M.pure (M.pure (.int 1)))) mNoP)) mNil))) (mCons (mTup (mCons (mDat 2) (mCons (m2A dAddA (m2A dAddA (mSl dCutA (mDat 3) M.pure mNoP (mPart (mDat 4))) M.pure (mTup (mCons (M.pure .none) mNil))) M.pure (mSl dCutA (mDat 3) M.pure (mPart (m2A dAddA (mDat 4) M.pure (M.pure (.int 1)))) mNoP)) mNil))) mNil))))))
  (sSeq (sEx (mMt1 6 dExtend (mOfL (mLst (mCons (mTup (mCons (m2A dMulA (mTup (mCons (M.pure (.int 2)) mNil)) M.pure (M.pure (.int 13))) (mCons (mTup (mCons (m2A dMulA (mTup (mCons (M.pure (.int 0)) mNil)) M.pure (M.pure (.int 13))) mNil)) mNil))) (mCons (mTup (mCons (mTup (mCons (M.pure (.int 2)) (mCons (M.pure (.bool true)) mNil))) (mCons (mTup (mCons (mTup (mCons (M.pure (.int 0)) (mCons (M.pure (.int 0)) mNil))) mNil)) mNil))) (mCons (mTup (mCons (mTup (mCons (m2A dPow (M.pure (.int 10)) M.pure (M.pure (.int 30))) mNil)) (mCons (mTup (mCons (mTup (mCons (m2A dSub (m2A dPow (M.pure (.int 10)) M.pure (M.pure (.int 30))) M.pure (M.pure (.int 1))) mNil)) mNil)) mNil))) (mCons (mTup (mCons (mTup (mCons (M.pure (.int 20)) mNil)) (mCons (m1 dTup (mOfL (mLc [7] (mRng (mCons (M.pure (.int 13)) mNil)) (gN 7) (M.pure true) (mTup (mCons (mDat 7) mNil))))) mNil))) mNil))))))))
  (sRet (mCallX [0] F__law_one (gaS 0 (gaD (mFrz 6) gaNil))))))))))
noncomputable def F__law_odd_kind : FnD := fnOf 6 m__law_odd_kind
theorem v__law_odd_kind (T : Txt K mg base TT CL) (c__law_one : CalV P w K mg base 2 "_law_one" (spD ((cf P w K mg base TT CL).at [0]) 2 F__law_one)) (c__law_take : CalV P w K mg base 1 "_law_take" (spD ((cf P w K mg base TT CL).at [0]) 2 F__law_take)) : CalV P w K mg base 3 "_law_odd_kind" (spD ((cf P w K mg base TT CL).at [0]) 2 F__law_odd_kind) := by
  obtain ⟨f, cd, D, hm⟩ := T.d__law_odd_kind
  have sc := sc__law_odd_kind
  refine D.cal hm (fnv_ev (c := (cf P w K mg base TT CL).at [0]) D sc rfl fun A outer s H E hr => ?_)
  exact (dss_cons (ds_asg (de_var (i := 1) rfl (by first | exact Or.inl rfl | exact Or.inr (Or.inl rfl) | exact Or.inr (Or.inr rfl))) (tg_tup rfl (tg_con (tg_name (i := 2) sc.nd rfl (by first | exact Or.inl rfl | exact Or.inr rfl) rfl) (tg_con (tg_name (i := 3) sc.nd rfl (by first | exact Or.inl rfl | exact Or.inr rfl) rfl) tg_nil))).r)
      (dss_cons (ds_par (i := 4) (j := 5) (by rfl) sc.nd rfl rfl (by decide) rfl rfl (am_d (de_call (io := [0]) (np := 2) (F := F__law_take) c__law_take hr (by decide) (by rfl) (fun σ => L2N.passAt (L2N.takes_of (E := E) rfl rfl rfl rfl) σ) (ag_s (j := 0) rfl (by first | exact Or.inl rfl | exact Or.inr (Or.inl rfl) | exact Or.inr (Or.inr rfl)) (ag_d (de_b1 c_len (by rfl) T.n_len PySem.boot_len (dw (de_var (i := 3) rfl (by first | exact Or.inl rfl | exact Or.inr (Or.inl rfl) | exact Or.inr (Or.inr rfl))))) ag_nil)) (gaS_len (gaD_len (fun _ _ _ e => ga_nil e)))) (am_d (de_tuple (by rfl) T.n_tuple (dw (de_slA (da (de_var (i := 2) rfl (by first | exact Or.inl rfl | exact Or.inr (Or.inl rfl) | exact Or.inr (Or.inr rfl)))) do_none (do_some de_int)))) am_nil)) rfl rfl (by rfl))
      (dss_cons (ds_setL (i := 6) sc.nd rfl (Or.inl rfl) (dl_lst (da_cons (de_tup (da_cons (de_op o_addA (da (de_var (i := 2) rfl (by first | exact Or.inl rfl | exact Or.inr (Or.inl rfl) | exact Or.inr (Or.inr rfl)))) (dw (de_tup (da_cons de_int da_nil)))) (da_cons (de_var (i := 3) rfl (by first | exact Or.inl rfl | exact Or.inr (Or.inl rfl) | exact Or.inr (Or.inr rfl))) da_nil))) (da_cons (de_tup (da_cons (de_op o_addA (da (de_var (i := 2) rfl (by first | exact Or.inl rfl | exact Or.inr (Or.inl rfl) | exact Or.inr (Or.inr rfl)))) (dw (de_tup (da_cons de_non da_nil)))) (da_cons (de_var (i := 3) rfl (by first | exact Or.inl rfl | exact Or.inr (Or.inl rfl) | exact Or.inr (Or.inr rfl))) da_nil))) (da_cons (de_tup (da_cons de_non (da_cons (de_var (i := 3) rfl (by first | exact Or.inl rfl | exact Or.inr (Or.inl rfl) | exact Or.inr (Or.inr rfl))) da_nil))) (da_cons (de_tup (da_cons (de_var (i := 2) rfl (by first | exact Or.inl rfl | exact Or.inr (Or.inl rfl) | exact Or.inr (Or.inr rfl))) (da_cons (de_tup da_nil) da_nil))) (da_cons (de_tup (da_cons (de_var (i := 2) rfl (by first | exact Or.inl rfl | exact Or.inr (Or.inl rfl) | exact Or.inr (Or.inr rfl))) (da_cons de_non da_nil))) (da_cons (de_tup (da_cons (de_var (i := 2) rfl (by first | exact Or.inl rfl | exact Or.inr (Or.inl rfl) | exact Or.inr (Or.inr rfl))) da_nil)) (da_cons (de_tup (da_cons (de_var (i := 2) rfl (by first | exact Or.inl rfl | exact Or.inr (Or.inl rfl) | exact Or.inr (Or.inr rfl))) (da_cons (de_var (i := 3) rfl (by first | exact Or.inl rfl | exact Or.inr (Or.inl rfl) | exact Or.inr (Or.inr rfl))) (da_cons (de_tup da_nil) da_nil)))) da_nil)))))))) rfl)
      (dss_cons (ds_expr (de_mt1 (i := 6) PySem.F.slot_list_extend PySem.F.type_list_extend mt1_extend rfl (by first | exact Or.inl rfl | exact Or.inr (Or.inl rfl) | exact Or.inr (Or.inr rfl)) (de_dl (dl_lst (da_cons (de_tup (da_cons (de_var (i := 2) rfl (by first | exact Or.inl rfl | exact Or.inr (Or.inl rfl) | exact Or.inr (Or.inr rfl))) (da_cons (de_op o_addA (da (de_op o_addA (da (de_slA (da (de_var (i := 3) rfl (by first | exact Or.inl rfl | exact Or.inr (Or.inl rfl) | exact Or.inr (Or.inr rfl)))) do_none (do_some (de_var (i := 4) rfl (by first | exact Or.inl rfl | exact Or.inr (Or.inl rfl) | exact Or.inr (Or.inr rfl)))))) (dw (de_tup (da_cons (de_op o_addA (da (de_ix o_ix (da (de_var (i := 3) rfl (by first | exact Or.inl rfl | exact Or.inr (Or.inl rfl) | exact Or.inr (Or.inr rfl)))) (dw (de_var (i := 4) rfl (by first | exact Or.inl rfl | exact Or.inr (Or.inl rfl) | exact Or.inr (Or.inr rfl)))) (fun _ _ => rfl))) (dw (de_tup (da_cons de_int da_nil)))) da_nil))))) (dw (de_slA (da (de_var (i := 3) rfl (by first | exact Or.inl rfl | exact Or.inr (Or.inl rfl) | exact Or.inr (Or.inr rfl)))) (do_some (de_op o_addA (da (de_var (i := 4) rfl (by first | exact Or.inl rfl | exact Or.inr (Or.inl rfl) | exact Or.inr (Or.inr rfl)))) (dw de_int))) do_none))) da_nil))) (da_cons (de_tup (da_cons (de_var (i := 2) rfl (by first | exact Or.inl rfl | exact Or.inr (Or.inl rfl) | exact Or.inr (Or.inr rfl))) (da_cons (de_op o_addA (da (de_var (i := 3) rfl (by first | exact Or.inl rfl | exact Or.inr (Or.inl rfl) | exact Or.inr (Or.inr rfl)))) (dw (de_slA (da (de_var (i := 3) rfl (by first | exact Or.inl rfl | exact Or.inr (Or.inl rfl) | exact Or.inr (Or.inr rfl)))) do_none (do_some de_int)))) da_nil))) (da_cons de_non (da_cons (de_var (i := 3) rfl (by first | exact Or.inl rfl | exact Or.inr (Or.inl rfl) | exact Or.inr (Or.inr rfl))) (da_cons de_str da_nil)))))))))
      (dss_cons (ds_expr (de_mt1 (i := 6) PySem.F.slot_list_extend PySem.F.type_list_extend mt1_extend rfl (by first | exact Or.inl rfl | exact Or.inr (Or.inl rfl) | exact Or.inr (Or.inr rfl)) (de_dl (dl_lst (da_cons (de_tup (da_cons (de_var (i := 2) rfl (by first | exact Or.inl rfl | exact Or.inr (Or.inl rfl) | exact Or.inr (Or.inr rfl))) (da_cons (de_op o_addA (da (de_op o_addA (da (de_slA (da (de_var (i := 3) rfl (by first | exact Or.inl rfl | exact Or.inr (Or.inl rfl) | exact Or.inr (Or.inr rfl)))) do_none (do_some (de_var (i := 4) rfl (by first | exact Or.inl rfl | exact Or.inr (Or.inl rfl) | exact Or.inr (Or.inr rfl)))))) (dw (de_tup (da_cons (de_op o_addA (da (de_var (i := 5) rfl (by first | exact Or.inl rfl | exact Or.inr (Or.inl rfl) | exact Or.inr (Or.inr rfl)))) (dw (de_slA (da (de_ix o_ix (da (de_var (i := 3) rfl (by first | exact Or.inl rfl | exact Or.inr (Or.inl rfl) | exact Or.inr (Or.inr rfl)))) (dw (de_var (i := 4) rfl (by first | exact Or.inl rfl | exact Or.inr (Or.inl rfl) | exact Or.inr (Or.inr rfl)))) (fun _ _ => rfl))) (do_some de_int) do_none))) da_nil))))) (dw (de_slA (da (de_var (i := 3) rfl (by first | exact Or.inl rfl | exact Or.inr (Or.inl rfl) | exact Or.inr (Or.inr rfl)))) (do_some (de_op o_addA (da (de_var (i := 4) rfl (by first | exact Or.inl rfl | exact Or.inr (Or.inl rfl) | exact Or.inr (Or.inr rfl)))) (dw de_int))) do_none))) da_nil))) (da_cons (de_tup (da_cons (de_var (i := 2) rfl (by first | exact Or.inl rfl | exact Or.inr (Or.inl rfl) | exact Or.inr (Or.inr rfl))) (da_cons (de_op o_addA (da (de_op o_addA (da (de_slA (da (de_var (i := 3) rfl (by first | exact Or.inl rfl | exact Or.inr (Or.inl rfl) | exact Or.inr (Or.inr rfl)))) do_none (do_some (de_var (i := 4) rfl (by first | exact Or.inl rfl | exact Or.inr (Or.inl rfl) | exact Or.inr (Or.inr rfl)))))) (dw (de_tup (da_cons de_non da_nil))))) (dw (de_slA (da (de_var (i := 3) rfl (by first | exact Or.inl rfl | exact Or.inr (Or.inl rfl) | exact Or.inr (Or.inr rfl)))) (do_some (de_op o_addA (da (de_var (i := 4) rfl (by first | exact Or.inl rfl | exact Or.inr (Or.inl rfl) | exact Or.inr (Or.inr rfl)))) (dw de_int))) do_none))) da_nil))) da_nil))))))
      (dss_cons (ds_expr (de_mt1 (i := 6) PySem.F.slot_list_extend PySem.F.type_list_extend mt1_extend rfl (by first | exact Or.inl rfl | exact Or.inr (Or.inl rfl) | exact Or.inr (Or.inr rfl)) (de_dl (dl_lst (da_cons (de_tup (da_cons (de_op o_mulA (da (de_tup (da_cons de_int da_nil))) (dw de_int)) (da_cons (de_tup (da_cons (de_op o_mulA (da (de_tup (da_cons de_int da_nil))) (dw de_int)) da_nil)) da_nil))) (da_cons (de_tup (da_cons (de_tup (da_cons de_int (da_cons de_bl da_nil))) (da_cons (de_tup (da_cons (de_tup (da_cons de_int (da_cons de_int da_nil))) da_nil)) da_nil))) (da_cons (de_tup (da_cons (de_tup (da_cons (de_op o_pow (da de_int) (dw de_int)) da_nil)) (da_cons (de_tup (da_cons (de_tup (da_cons (de_op o_sub (da (de_op o_pow (da de_int) (dw de_int))) (dw de_int)) da_nil)) da_nil)) da_nil))) (da_cons (de_tup (da_cons (de_tup (da_cons de_int da_nil)) (da_cons (de_tuple (by rfl) T.n_tuple (dw (de_dl (dl_lc (own := [("k", 7)]) rfl sc.nd (di_rng1 (by rfl) T.n_range de_int) (blkOk_by (N := n__law_odd_kind) (sc := defScope s__law_odd_kind) (own := [("k", 7)]) (by first | decide +kernel | rfl)) rfl (by decide) (fun _ _ _ _ _ => (TgR.w (tg_name (i := 7) sc.nd rfl (by first | exact Or.inl rfl | exact Or.inr rfl) rfl))) (fun _ _ _ _ _ => dts_nil) (fun _ _ _ _ _ => (de_tup (da_cons (de_var (i := 7) rfl (by first | exact Or.inl rfl | exact Or.inr (Or.inl rfl) | exact Or.inr (Or.inr rfl))) da_nil))))))) da_nil))) da_nil))))))))
      (dss_one (ds_ret (de_call (io := [0]) (np := 2) (F := F__law_one) c__law_one hr (by decide) (by rfl) (fun σ => L2N.passAt (L2N.takes_of (E := E) rfl rfl rfl rfl) σ) (ag_s (j := 0) rfl (by first | exact Or.inl rfl | exact Or.inr (Or.inl rfl) | exact Or.inr (Or.inr rfl)) (ag_d (de_frz (i := 6) rfl (by first | exact Or.inl rfl | exact Or.inr (Or.inl rfl) | exact Or.inr (Or.inr rfl)) rfl) ag_nil)) (gaS_len (gaD_len (fun _ _ _ e => ga_nil e))))))))))))
/-- _law_heard -/
noncomputable def m__law_heard : SM :=
  (sTryAs ["BadKind", "BadFields", "BadRecord"] 1 (sRet (mTup (mCons (M.pure (.str "told")) (mCons (mFn 0 mNil) mNil)))) (fun cn x => (sSeq (sSetL 2 (mLst (mCons (mTup (mCons (M.pure (.bool (cn == "BadFields"))) (mCons (M.pure (.str "fields")) mNil))) (mCons (mTup (mCons (M.pure (.bool (cn == "BadRecord"))) (mCons (M.pure (.str "record")) mNil))) mNil))))
  (sSeq (sEx (mMt1 2 dAppend (mTup (mCons (M.pure (.bool (cn == "BadKind"))) (mCons (M.pure (.str "kind")) mNil)))))
  (sRet (mTup (mCons (M.pure (.str "refused")) (mCons (m1 (dJoin "") (mOfL (mLc [3] (mLstL (mFrz 2)) (gN 3) (mTest (m2A dIx (mDat 3) M.pure (M.pure (.int 0)))) (m2A dIx (mDat 3) M.pure (M.pure (.int 1)))))) (mCons (M.pure x) mNil)))))))))
noncomputable def F__law_heard : FnD := fnOf 3 m__law_heard
theorem v__law_heard (T : Txt K mg base TT CL) : CalV P w K mg base 10 "_law_heard" (spD ((cf P w K mg base TT CL).at []) 1 F__law_heard) := by
  obtain ⟨f, cd, D, hm⟩ := T.d__law_heard
  have sc := sc__law_heard
  have hE := T.allE
  have hX := T.allX
  have hK := T.allK
  refine D.cal hm (fnv_ev (c := (cf P w K mg base TT CL).at []) D sc rfl fun A outer s H E hr => ?_)
  exact (dss_one (ds_tryAs (i := 1) (L := ["BadKind", "BadFields", "BadRecord"]) rfl rfl sc.nd rfl rfl ⟨rfl, by decide, .inl T.e_Refused.mg⟩ (L2N.takes_of (E := E) rfl rfl rfl rfl) rfl rfl rfl hX
        (fun W pn xe tk _ => (dss_one (ds_ret (de_tup (da_cons de_str (da_cons (de_fn0 (i := 0) ⟨rfl, rfl, rfl, rfl, rfl⟩ hr (Nat.le_of_ble_eq_true rfl) rfl (by first | exact Or.inl rfl | exact Or.inr (Or.inl rfl) | exact Or.inr (Or.inr rfl)) (fun σ => L2N.passAt tk σ)) da_nil))))))
        (fun a oe cn dd x pn hcn hz hf => by
          have hctx := hctx_of hz hf
          exact (dss_cons (ds_setL (i := 2) sc.nd rfl (Or.inl rfl) (dl_lst (da_cons (de_tup (da_cons (de_isE (hE cn hcn).1 hz.zc hf (hK cn hcn "BadFields" (by decide)) (by rfl) T.n_isinstance rfl (by first | exact Or.inl rfl | exact Or.inr (Or.inl rfl) | exact Or.inr (Or.inr rfl)) (by rfl) T.e_BadFields.mg) (da_cons de_str da_nil))) (da_cons (de_tup (da_cons (de_isE (hE cn hcn).1 hz.zc hf (hK cn hcn "BadRecord" (by decide)) (by rfl) T.n_isinstance rfl (by first | exact Or.inl rfl | exact Or.inr (Or.inl rfl) | exact Or.inr (Or.inr rfl)) (by rfl) T.e_BadRecord.mg) (da_cons de_str da_nil))) da_nil))) rfl)
      (dss_cons (ds_expr (de_mt1 (i := 2) PySem.F.slot_list_append PySem.F.type_list_append mt1_append rfl (by first | exact Or.inl rfl | exact Or.inr (Or.inl rfl) | exact Or.inr (Or.inr rfl)) (de_tup (da_cons (de_isE (hE cn hcn).1 hz.zc hf (hK cn hcn "BadKind" (by decide)) (by rfl) T.n_isinstance rfl (by first | exact Or.inl rfl | exact Or.inr (Or.inl rfl) | exact Or.inr (Or.inr rfl)) (by rfl) T.e_BadKind.mg) (da_cons de_str da_nil)))))
      (dss_one (ds_ret (de_tup (da_cons de_str (da_cons (de_join (de_dl (dl_lcH (own := [("word", 3)]) (hot_suite hctx) sc.nd (de_frz (i := 2) rfl (by first | exact Or.inl rfl | exact Or.inr (Or.inl rfl) | exact Or.inr (Or.inr rfl)) rfl) (blkOk_by (N := n__law_heard) (sc := defScope s__law_heard) (own := [("word", 3)]) (by first | decide +kernel | rfl)) rfl (by decide) (fun _ _ _ _ _ => (TgR.w (tg_name (i := 3) sc.nd rfl (by first | exact Or.inl rfl | exact Or.inr rfl) rfl))) (fun _ _ _ _ _ => dts_one (dt_val (de_ix o_ix (da (de_var (i := 3) rfl (by first | exact Or.inl rfl | exact Or.inr (Or.inl rfl) | exact Or.inr (Or.inr rfl)))) (dw de_int) (fun _ _ => rfl)))) (fun _ _ _ _ _ => (de_ix o_ix (da (de_var (i := 3) rfl (by first | exact Or.inl rfl | exact Or.inr (Or.inl rfl) | exact Or.inr (Or.inr rfl)))) (dw de_int) (fun _ _ => rfl)))))) (da_cons (de_what (hE cn hcn).1 (hE cn hcn).2 hz.zc hf rfl (by first | exact Or.inl rfl | exact Or.inr (Or.inl rfl) | exact Or.inr (Or.inr rfl))) da_nil)))))))))))
/-- _law_due -/
noncomputable def m__law_due : SM :=
  (sRet (m1 dRepr (mIf (mTest (m2A dIsN (mDat 1) M.pure (M.pure .none))) (mTup (mCons (M.pure (.str "told")) (mCons (mDat 2) mNil))) (mTup (mCons (M.pure (.str "refused")) (mCons (mDat 0) (mCons (mDat 1) mNil)))))))
noncomputable def F__law_due : FnD := fnOf 0 m__law_due
theorem v__law_due (T : Txt K mg base TT CL) : CalV P w K mg base 1 "_law_due" (spD ((cf P w K mg base TT CL).at []) 3 F__law_due) := by
  obtain ⟨f, cd, D, hm⟩ := T.d__law_due
  have sc := sc__law_due
  refine D.cal hm (fnv_ev (c := (cf P w K mg base TT CL).at []) D sc rfl fun A outer s H E hr => ?_)
  exact (dss_one (ds_ret (de_b1 (c_repr hr.g hr.u65) (by rfl) T.n_repr (by decide +kernel) (dw (de_if (dt_cmp o_isN (da (de_var (i := 1) rfl (by first | exact Or.inl rfl | exact Or.inr (Or.inl rfl) | exact Or.inr (Or.inr rfl)))) (dw de_non) (by rfl)) (de_tup (da_cons de_str (da_cons (de_var (i := 2) rfl (by first | exact Or.inl rfl | exact Or.inr (Or.inl rfl) | exact Or.inr (Or.inr rfl))) da_nil))) (de_tup (da_cons de_str (da_cons (de_var (i := 0) rfl (by first | exact Or.inl rfl | exact Or.inr (Or.inl rfl) | exact Or.inr (Or.inr rfl))) (da_cons (de_var (i := 1) rfl (by first | exact Or.inl rfl | exact Or.inr (Or.inl rfl) | exact Or.inr (Or.inr rfl))) da_nil)))))))))
/-- _law_kind_right -/
noncomputable def m__law_kind_right : SM :=
  (sSeq (sSet 1 (mCallX [] F__law_wrong_kind (gaD (mDat 0) gaNil)))
  (sSeq (sIf (mTest (m2A dNe (m1 dRepr (mCallX [] F_is_kind (gaD (mDat 0) gaNil))) M.pure (m1 dRepr (m2A dIsN (mDat 1) M.pure (M.pure .none))))) (sRet (M.pure (.bool false))) sNx)
  (sRet (m2A dEq (m1 dRepr (mCallF [0] 0 0 (mCallX [] F_made_kind (gaD (mDat 0) gaNil)) F__law_heard mNil)) M.pure (mCallX [] F__law_due (gaD (M.pure (.str "kind")) (gaD (mDat 1) (gaD (mDat 0) gaNil))))))))
noncomputable def F__law_kind_right : FnD := fnOf 1 m__law_kind_right
theorem v__law_kind_right (T : Txt K mg base TT CL) (c__law_wrong_kind : CalV P w K mg base 3 "_law_wrong_kind" (spD ((cf P w K mg base TT CL).at []) 1 F__law_wrong_kind)) (c__law_due : CalV P w K mg base 1 "_law_due" (spD ((cf P w K mg base TT CL).at []) 3 F__law_due)) (c_is_kind : CalV P w K mg base 5 "is_kind" (spD ((cf P w K mg base TT CL).at []) 1 F_is_kind)) (c__law_heard : CalV P w K mg base 10 "_law_heard" (spD ((cf P w K mg base TT CL).at []) 1 F__law_heard)) (c_made_kind : CalV P w K mg base 5 "made_kind" (spD ((cf P w K mg base TT CL).at []) 1 F_made_kind)) : CalV P w K mg base 11 "_law_kind_right" (spD ((cf P w K mg base TT CL).at []) 1 F__law_kind_right) := by
  obtain ⟨f, cc, PP, D, hm, TB, hPT, hPU⟩ := T.d__law_kind_right
  have sc := sc__law_kind_right
  refine D.cal hm (fnv_ev (c := (cf P w K mg base TT CL).at []) D sc rfl fun A outer s H E hr => ?_)
  exact (dss_cons (ds_set (i := 1) sc.nd rfl (Or.inl rfl) (de_call (io := []) (np := 1) (F := F__law_wrong_kind) c__law_wrong_kind hr (by decide) (by rfl) (fun σ => L2N.passAt (L2N.takes_of (E := E) rfl rfl rfl rfl) σ) (ag_d (de_var (i := 0) rfl (by first | exact Or.inl rfl | exact Or.inr (Or.inl rfl) | exact Or.inr (Or.inr rfl))) ag_nil) (gaD_len (fun _ _ _ e => ga_nil e))) rfl)
      (dss_cons (ds_if (dt_cmp (o_ne hr.u65) (da (de_b1 (c_repr hr.g hr.u65) (by rfl) T.n_repr (by decide +kernel) (dw (de_call (io := []) (np := 1) (F := F_is_kind) c_is_kind hr (by decide) (by rfl) (fun σ => L2N.passAt (L2N.takes_of (E := E) rfl rfl rfl rfl) σ) (ag_d (de_var (i := 0) rfl (by first | exact Or.inl rfl | exact Or.inr (Or.inl rfl) | exact Or.inr (Or.inr rfl))) ag_nil) (gaD_len (fun _ _ _ e => ga_nil e)))))) (dw (de_b1 (c_repr hr.g hr.u65) (by rfl) T.n_repr (by decide +kernel) (dw (de_cmp o_isN (da (de_var (i := 1) rfl (by first | exact Or.inl rfl | exact Or.inr (Or.inl rfl) | exact Or.inr (Or.inr rfl)))) (dw de_non) (by rfl))))) (by rfl)) (dss_one (ds_ret de_bl)) dss_nil)
      (dss_one (ds_ret (de_cmp (o_eq hr.u65) (da (de_b1 (c_repr hr.g hr.u65) (by rfl) T.n_repr (by decide +kernel) (dw (de_callF (npl := 0) (nl := 0) (kl := 8) (js := [0]) (Nl := ["thing"]) (psl := []) (fr := ["thing"]) ⟨rfl, rfl, rfl, rfl, rfl⟩ c__law_heard hr (by decide) (by rfl) (fun _ => rfl) TB rfl (q__law_kind_right ▸ hPT) (fun p hp e => (hPU p hp e).trans q__law_kind_right.symm) rfl
      (by show ∀ y ∈ (_ : List (Str × NameKind)), y.2 = NameKind.free → List.lookup y.1 (defScope s__law_kind_right).names = some .cell ∨ List.lookup y.1 (defScope s__law_kind_right).names = some .free; decide +kernel) (NdefX.nscope_by (by decide +kernel)) rfl rfl rfl (by decide +kernel) rfl (fun cl pm ctv c' us hl => by
        match us, hl with
        | [], _ => rfl)
      (fun cl c' g A outer s H E hr => (de_call (io := []) (np := 1) (F := F_made_kind) c_made_kind hr (by decide) (by rfl) (fun σ => L2N.passAt (L2N.takes_of (E := E) rfl rfl rfl rfl) σ) (ag_d (de_var (i := 0) rfl (by first | exact Or.inl rfl | exact Or.inr (Or.inl rfl) | exact Or.inr (Or.inr rfl))) ag_nil) (gaD_len (fun _ _ _ e => ga_nil e)))) da_nil (fun _ _ _ e => congrArg Nat.succ (nil_len e)))))) (dw (de_call (io := []) (np := 3) (F := F__law_due) c__law_due hr (by decide) (by rfl) (fun σ => L2N.passAt (L2N.takes_of (E := E) rfl rfl rfl rfl) σ) (ag_d de_str (ag_d (de_var (i := 1) rfl (by first | exact Or.inl rfl | exact Or.inr (Or.inl rfl) | exact Or.inr (Or.inr rfl))) (ag_d (de_var (i := 0) rfl (by first | exact Or.inl rfl | exact Or.inr (Or.inl rfl) | exact Or.inr (Or.inr rfl))) ag_nil))) (gaD_len (gaD_len (gaD_len (fun _ _ _ e => ga_nil e)))))) (by rfl))))))
end
end Ev

set_option Elab.async false
set_option linter.all false
set_option maxRecDepth 100000
set_option maxHeartbeats 4000000
namespace Ev
open PySem PySem.Spec PyProof.Rows L2 Ed
section
variable {P : Program} {w : World} {K : PySem.W.Frag} {mg : Str → Option Value} {base : Heap} {TT : List (Addr × Str)} {CL : Cl}
/-- _law_fields_right -/
noncomputable def m__law_fields_right : SM :=
  (sRet (m2A dEq (m1 dRepr (mCallF [0] 0 0 (mCallX [] F_made_fields (gaD (mDat 0) gaNil)) F__law_heard mNil)) M.pure (mCallX [] F__law_due (gaD (M.pure (.str "fields")) (gaD (mCallX [] F__law_wrong_fields (gaD (mDat 0) gaNil)) (gaD (mDat 0) gaNil))))))
noncomputable def F__law_fields_right : FnD := fnOf 0 m__law_fields_right
theorem v__law_fields_right (T : Txt K mg base TT CL) (c__law_due : CalV P w K mg base 1 "_law_due" (spD ((cf P w K mg base TT CL).at []) 3 F__law_due)) (c__law_heard : CalV P w K mg base 10 "_law_heard" (spD ((cf P w K mg base TT CL).at []) 1 F__law_heard)) (c__law_wrong_fields : CalV P w K mg base 4 "_law_wrong_fields" (spD ((cf P w K mg base TT CL).at []) 1 F__law_wrong_fields)) (c_made_fields : CalV P w K mg base 7 "made_fields" (spD ((cf P w K mg base TT CL).at []) 1 F_made_fields)) : CalV P w K mg base 11 "_law_fields_right" (spD ((cf P w K mg base TT CL).at []) 1 F__law_fields_right) := by
  obtain ⟨f, cc, PP, D, hm, TB, hPT, hPU⟩ := T.d__law_fields_right
  have sc := sc__law_fields_right
  refine D.cal hm (fnv_ev (c := (cf P w K mg base TT CL).at []) D sc rfl fun A outer s H E hr => ?_)
  exact (dss_one (ds_ret (de_cmp (o_eq hr.u65) (da (de_b1 (c_repr hr.g hr.u65) (by rfl) T.n_repr (by decide +kernel) (dw (de_callF (npl := 0) (nl := 0) (kl := 8) (js := [0]) (Nl := ["thing"]) (psl := []) (fr := ["thing"]) ⟨rfl, rfl, rfl, rfl, rfl⟩ c__law_heard hr (by decide) (by rfl) (fun _ => rfl) TB rfl (q__law_fields_right ▸ hPT) (fun p hp e => (hPU p hp e).trans q__law_fields_right.symm) rfl
      (by show ∀ y ∈ (_ : List (Str × NameKind)), y.2 = NameKind.free → List.lookup y.1 (defScope s__law_fields_right).names = some .cell ∨ List.lookup y.1 (defScope s__law_fields_right).names = some .free; decide +kernel) (NdefX.nscope_by (by decide +kernel)) rfl rfl rfl (by decide +kernel) rfl (fun cl pm ctv c' us hl => by
        match us, hl with
        | [], _ => rfl)
      (fun cl c' g A outer s H E hr => (de_call (io := []) (np := 1) (F := F_made_fields) c_made_fields hr (by decide) (by rfl) (fun σ => L2N.passAt (L2N.takes_of (E := E) rfl rfl rfl rfl) σ) (ag_d (de_var (i := 0) rfl (by first | exact Or.inl rfl | exact Or.inr (Or.inl rfl) | exact Or.inr (Or.inr rfl))) ag_nil) (gaD_len (fun _ _ _ e => ga_nil e)))) da_nil (fun _ _ _ e => congrArg Nat.succ (nil_len e)))))) (dw (de_call (io := []) (np := 3) (F := F__law_due) c__law_due hr (by decide) (by rfl) (fun σ => L2N.passAt (L2N.takes_of (E := E) rfl rfl rfl rfl) σ) (ag_d de_str (ag_d (de_call (io := []) (np := 1) (F := F__law_wrong_fields) c__law_wrong_fields hr (by decide) (by rfl) (fun σ => L2N.passAt (L2N.takes_of (E := E) rfl rfl rfl rfl) σ) (ag_d (de_var (i := 0) rfl (by first | exact Or.inl rfl | exact Or.inr (Or.inl rfl) | exact Or.inr (Or.inr rfl))) ag_nil) (gaD_len (fun _ _ _ e => ga_nil e))) (ag_d (de_var (i := 0) rfl (by first | exact Or.inl rfl | exact Or.inr (Or.inl rfl) | exact Or.inr (Or.inr rfl))) ag_nil))) (gaD_len (gaD_len (gaD_len (fun _ _ _ e => ga_nil e)))))) (by rfl))))
/-- _law_record_right -/
noncomputable def m__law_record_right : SM :=
  (sSeq (sSet 2 (mCallX [] F__law_wrong_fields (gaD (mDat 0) gaNil)))
  (sSeq (sSet 3 (mIf (mTest (m2A dNotN (mDat 2) M.pure (M.pure .none))) (mCallX [] F__law_due (gaD (M.pure (.str "fields")) (gaD (mDat 2) (gaD (M.pure .none) gaNil)))) (mCallX [] F__law_due (gaD (M.pure (.str "record")) (gaD (mCallX [] F__law_wrong_record (gaD (mDat 0) (gaD (mDat 1) gaNil))) (gaD (mDat 1) gaNil))))))
  (sRet (m2A dEq (m1 dRepr (mCallF [0, 1] 0 0 (mCallX [] F_made_record (gaD (mDat 0) (gaD (mDat 1) gaNil))) F__law_heard mNil)) M.pure (mDat 3)))))
noncomputable def F__law_record_right : FnD := fnOf 2 m__law_record_right
theorem v__law_record_right (T : Txt K mg base TT CL) (c__law_wrong_fields : CalV P w K mg base 4 "_law_wrong_fields" (spD ((cf P w K mg base TT CL).at []) 1 F__law_wrong_fields)) (c__law_due : CalV P w K mg base 1 "_law_due" (spD ((cf P w K mg base TT CL).at []) 3 F__law_due)) (c__law_wrong_record : CalV P w K mg base 2 "_law_wrong_record" (spD ((cf P w K mg base TT CL).at []) 2 F__law_wrong_record)) (c__law_heard : CalV P w K mg base 10 "_law_heard" (spD ((cf P w K mg base TT CL).at []) 1 F__law_heard)) (c_made_record : CalV P w K mg base 8 "made_record" (spD ((cf P w K mg base TT CL).at []) 2 F_made_record)) : CalV P w K mg base 11 "_law_record_right" (spD ((cf P w K mg base TT CL).at []) 2 F__law_record_right) := by
  obtain ⟨f, cc, PP, D, hm, TB, hPT, hPU⟩ := T.d__law_record_right
  have sc := sc__law_record_right
  refine D.cal hm (fnv_ev (c := (cf P w K mg base TT CL).at []) D sc rfl fun A outer s H E hr => ?_)
  exact (dss_cons (ds_set (i := 2) sc.nd rfl (Or.inl rfl) (de_call (io := []) (np := 1) (F := F__law_wrong_fields) c__law_wrong_fields hr (by decide) (by rfl) (fun σ => L2N.passAt (L2N.takes_of (E := E) rfl rfl rfl rfl) σ) (ag_d (de_var (i := 0) rfl (by first | exact Or.inl rfl | exact Or.inr (Or.inl rfl) | exact Or.inr (Or.inr rfl))) ag_nil) (gaD_len (fun _ _ _ e => ga_nil e))) rfl)
      (dss_cons (ds_set (i := 3) sc.nd rfl (Or.inl rfl) (de_if (dt_cmp o_notN (da (de_var (i := 2) rfl (by first | exact Or.inl rfl | exact Or.inr (Or.inl rfl) | exact Or.inr (Or.inr rfl)))) (dw de_non) (by rfl)) (de_call (io := []) (np := 3) (F := F__law_due) c__law_due hr (by decide) (by rfl) (fun σ => L2N.passAt (L2N.takes_of (E := E) rfl rfl rfl rfl) σ) (ag_d de_str (ag_d (de_var (i := 2) rfl (by first | exact Or.inl rfl | exact Or.inr (Or.inl rfl) | exact Or.inr (Or.inr rfl))) (ag_d de_non ag_nil))) (gaD_len (gaD_len (gaD_len (fun _ _ _ e => ga_nil e))))) (de_call (io := []) (np := 3) (F := F__law_due) c__law_due hr (by decide) (by rfl) (fun σ => L2N.passAt (L2N.takes_of (E := E) rfl rfl rfl rfl) σ) (ag_d de_str (ag_d (de_call (io := []) (np := 2) (F := F__law_wrong_record) c__law_wrong_record hr (by decide) (by rfl) (fun σ => L2N.passAt (L2N.takes_of (E := E) rfl rfl rfl rfl) σ) (ag_d (de_var (i := 0) rfl (by first | exact Or.inl rfl | exact Or.inr (Or.inl rfl) | exact Or.inr (Or.inr rfl))) (ag_d (de_var (i := 1) rfl (by first | exact Or.inl rfl | exact Or.inr (Or.inl rfl) | exact Or.inr (Or.inr rfl))) ag_nil)) (gaD_len (gaD_len (fun _ _ _ e => ga_nil e)))) (ag_d (de_var (i := 1) rfl (by first | exact Or.inl rfl | exact Or.inr (Or.inl rfl) | exact Or.inr (Or.inr rfl))) ag_nil))) (gaD_len (gaD_len (gaD_len (fun _ _ _ e => ga_nil e)))))) rfl)
      (dss_one (ds_ret (de_cmp (o_eq hr.u65) (da (de_b1 (c_repr hr.g hr.u65) (by rfl) T.n_repr (by decide +kernel) (dw (de_callF (npl := 0) (nl := 0) (kl := 8) (js := [0, 1]) (Nl := ["sorts", "thing"]) (psl := []) (fr := ["sorts", "thing"]) ⟨rfl, rfl, rfl, rfl, rfl⟩ c__law_heard hr (by decide) (by rfl) (fun _ => rfl) TB rfl (q__law_record_right ▸ hPT) (fun p hp e => (hPU p hp e).trans q__law_record_right.symm) rfl
      (by show ∀ y ∈ (_ : List (Str × NameKind)), y.2 = NameKind.free → List.lookup y.1 (defScope s__law_record_right).names = some .cell ∨ List.lookup y.1 (defScope s__law_record_right).names = some .free; decide +kernel) (NdefX.nscope_by (by decide +kernel)) rfl rfl rfl (by decide +kernel) rfl (fun cl pm ctv c' us hl => by
        match us, hl with
        | [], _ => rfl)
      (fun cl c' g A outer s H E hr => (de_call (io := []) (np := 2) (F := F_made_record) c_made_record hr (by decide) (by rfl) (fun σ => L2N.passAt (L2N.takes_of (E := E) rfl rfl rfl rfl) σ) (ag_d (de_var (i := 0) rfl (by first | exact Or.inl rfl | exact Or.inr (Or.inl rfl) | exact Or.inr (Or.inr rfl))) (ag_d (de_var (i := 1) rfl (by first | exact Or.inl rfl | exact Or.inr (Or.inl rfl) | exact Or.inr (Or.inr rfl))) ag_nil)) (gaD_len (gaD_len (fun _ _ _ e => ga_nil e))))) da_nil (fun _ _ _ e => congrArg Nat.succ (nil_len e)))))) (dw (de_var (i := 3) rfl (by first | exact Or.inl rfl | exact Or.inr (Or.inl rfl) | exact Or.inr (Or.inr rfl)))) (by rfl))))))
/-- law -/
noncomputable def m_law : SM :=
  (sSeq (sSetL 1 (mCallL [] F__law_pool (gaC 0 (gaD (M.pure (.int 0)) gaNil))))
  (sSeq (sSet 2 (mCallX [0] F__law_v_fields (gaS 1 (gaD (M.pure (.int 6)) (gaD (M.pure (.int 6)) gaNil)))))
  (sSeq (sSet 3 (mCallX [0] F__law_v_some_record (gaS 1 (gaD (mDat 2) gaNil))))
  (sSeq (sIf (mOr (mTest (m2A dNotN (mCallX [] F__law_wrong_fields (gaD (mDat 2) gaNil)) M.pure (M.pure .none))) (mOr (mNot (mTest (mCallX [] F__law_fields_right (gaD (mDat 2) gaNil)))) (mNot (mTest (mCallX [] F__law_record_right (gaD (mDat 2) (gaD (mDat 3) gaNil))))))) (sRet (M.pure (.bool false))) sNx)
  (sSeq (sForS (mRng (mCons (M.pure (.int 5)) mNil)) (gN 4) (sSeq (sSet 5 (mCallX [0] F__law_take (gaS 1 (gaD (m1 dLen (mDat 2)) gaNil))))
  (sSeq (sSet 6 (mCallX [0] F__law_odd_kind (gaS 1 (gaD (m2A dIx (mDat 2) M.pure (mDat 5)) gaNil))))
  (sSeq (sSet 7 (m2A dAddA (m2A dAddA (mSl dCutA (mDat 2) M.pure mNoP (mPart (mDat 5))) M.pure (mTup (mCons (mDat 6) mNil))) M.pure (mSl dCutA (mDat 2) M.pure (mPart (m2A dAddA (mDat 5) M.pure (M.pure (.int 1)))) mNoP)))
  (sSeq (sIf (mOr (mNot (mTest (mCallX [] F__law_kind_right (gaD (m2A dIx (mDat 2) M.pure (mDat 5)) gaNil)))) (mOr (mNot (mTest (mCallX [] F__law_kind_right (gaD (mDat 6) gaNil)))) (mNot (mTest (mCallX [] F__law_fields_right (gaD (mDat 7) gaNil)))))) (sRet (M.pure (.bool false))) sNx)
  (sSeq (sSet 8 (m1 dLen (m2A dIx (m2A dIx (mDat 2) M.pure (mDat 5)) M.pure (M.pure (.int 1)))))
  (sSeq (sSet 9 (mCallX [0] F__law_one (gaS 1 (gaD (mOfL (mLst (mCons (mDat 8) (mCons (m1 dNeg (M.pure (.int 1))) (mCons (M.pure .none) (mCons (M.pure (.str "0")) (mCons (M.pure (.bool true)) (mCons (mTup (mCons (M.pure (.int 0)) mNil)) (mCons (mCallX [0] F__law_take (gaS 1 (gaD (mDat 8) gaNil))) mNil))))))))) gaNil))))
  (sSeq (sSet 10 (m2A dAddA (m2A dAddA (mSl dCutA (mDat 3) M.pure mNoP (mPart (mDat 5))) M.pure (mTup (mCons (mDat 9) mNil))) M.pure (mSl dCutA (mDat 3) M.pure (mPart (m2A dAddA (mDat 5) M.pure (M.pure (.int 1)))) mNoP)))
  (sForS (mSeq (mOfL (mLst (mCons (mDat 10) (mCons (m2A dAddA (mSl dCutA (mDat 10) M.pure mNoP (mPart (m2A dAddA (mDat 5) M.pure (M.pure (.int 1))))) M.pure (m2A dMulA (mTup (mCons (M.pure .none) mNil)) M.pure (m2A dSub (m2A dSub (m1 dLen (mDat 3)) M.pure (mDat 5)) M.pure (M.pure (.int 1))))) (mCons (mSl dCutA (mDat 3) M.pure (mPart (M.pure (.int 1))) mNoP) (mCons (m2A dAddA (mDat 3) M.pure (mTup (mCons (M.pure (.int 0)) mNil))) (mCons (M.pure .none) (mCons (M.pure (.int 0)) mNil))))))))) (gN 11) (sIf (mOr (mNot (mTest (mCallX [] F__law_record_right (gaD (mDat 2) (gaD (mDat 11) gaNil))))) (mNot (mTest (mCallX [] F__law_record_right (gaD (mDat 7) (gaD (mDat 11) gaNil)))))) (sRet (M.pure (.bool false))) sNx))))))))))
  (sSeq (sForS (mSeq (mOfL (mLst (mCons (M.pure .none) (mCons (mTup mNil) (mCons (m2A dMulA (mTup (mCons (m2A dIx (mDat 2) M.pure (M.pure (.int 0))) mNil)) M.pure (M.pure (.int 7))) (mCons (m2A dIx (mDat 2) M.pure (M.pure (.int 0))) (mCons (M.pure (.str "fields")) (mCons (M.pure (.int 5)) mNil))))))))) (gN 6) (sIf (mOr (mNot (mTest (mCallX [] F__law_fields_right (gaD (mDat 6) gaNil)))) (mNot (mTest (mCallX [] F__law_record_right (gaD (mDat 6) (gaD (mDat 3) gaNil)))))) (sRet (M.pure (.bool false))) sNx))
  (sRet (M.pure (.bool true)))))))))
noncomputable def F_law : FnD := fnOf 11 m_law
theorem v_law (T : Txt K mg base TT CL) (c__law_pool : CalV P w K mg base 1 "_law_pool" (spD ((cf P w K mg base TT CL).at []) 2 F__law_pool)) (c__law_v_fields : CalV P w K mg base 5 "_law_v_fields" (spD ((cf P w K mg base TT CL).at [0]) 3 F__law_v_fields)) (c__law_v_some_record : CalV P w K mg base 2 "_law_v_some_record" (spD ((cf P w K mg base TT CL).at [0]) 2 F__law_v_some_record)) (c__law_take : CalV P w K mg base 1 "_law_take" (spD ((cf P w K mg base TT CL).at [0]) 2 F__law_take)) (c__law_odd_kind : CalV P w K mg base 3 "_law_odd_kind" (spD ((cf P w K mg base TT CL).at [0]) 2 F__law_odd_kind)) (c__law_one : CalV P w K mg base 2 "_law_one" (spD ((cf P w K mg base TT CL).at [0]) 2 F__law_one)) (c__law_wrong_fields : CalV P w K mg base 4 "_law_wrong_fields" (spD ((cf P w K mg base TT CL).at []) 1 F__law_wrong_fields)) (c__law_fields_right : CalV P w K mg base 11 "_law_fields_right" (spD ((cf P w K mg base TT CL).at []) 1 F__law_fields_right)) (c__law_record_right : CalV P w K mg base 11 "_law_record_right" (spD ((cf P w K mg base TT CL).at []) 2 F__law_record_right)) (c__law_kind_right : CalV P w K mg base 11 "_law_kind_right" (spD ((cf P w K mg base TT CL).at []) 1 F__law_kind_right)) : CalV P w K mg base 12 "law" (spD ((cf P w K mg base TT CL).at []) 1 F_law) := by
  obtain ⟨f, cd, D, hm⟩ := T.d_law
  have sc := sc_law
  refine D.cal hm (fnv_ev (c := (cf P w K mg base TT CL).at []) D sc rfl fun A outer s H E hr => ?_)
  exact (dss_cons (ds_setL (i := 1) sc.nd rfl (Or.inl rfl) (dl_call (io := []) (np := 2) (F := F__law_pool) c__law_pool hr (by decide) (by rfl) (fun σ => L2N.passAt (L2N.takes_of (E := E) rfl rfl rfl rfl) σ) (ag_c (j := 0) rfl (by first | exact Or.inl rfl | exact Or.inr (Or.inl rfl) | exact Or.inr (Or.inr rfl)) (ag_d de_int ag_nil)) (gaC_len (gaD_len (fun _ _ _ e => ga_nil e)))) rfl)
      (dss_cons (ds_set (i := 2) sc.nd rfl (Or.inl rfl) (de_call (io := [0]) (np := 3) (F := F__law_v_fields) c__law_v_fields hr (by decide) (by rfl) (fun σ => L2N.passAt (L2N.takes_of (E := E) rfl rfl rfl rfl) σ) (ag_s (j := 1) rfl (by first | exact Or.inl rfl | exact Or.inr (Or.inl rfl) | exact Or.inr (Or.inr rfl)) (ag_d de_int (ag_d de_int ag_nil))) (gaS_len (gaD_len (gaD_len (fun _ _ _ e => ga_nil e))))) rfl)
      (dss_cons (ds_set (i := 3) sc.nd rfl (Or.inl rfl) (de_call (io := [0]) (np := 2) (F := F__law_v_some_record) c__law_v_some_record hr (by decide) (by rfl) (fun σ => L2N.passAt (L2N.takes_of (E := E) rfl rfl rfl rfl) σ) (ag_s (j := 1) rfl (by first | exact Or.inl rfl | exact Or.inr (Or.inl rfl) | exact Or.inr (Or.inr rfl)) (ag_d (de_var (i := 2) rfl (by first | exact Or.inl rfl | exact Or.inr (Or.inl rfl) | exact Or.inr (Or.inr rfl))) ag_nil)) (gaS_len (gaD_len (fun _ _ _ e => ga_nil e)))) rfl)
      (dss_cons (ds_if (dw_or (dt_cmp o_notN (da (de_call (io := []) (np := 1) (F := F__law_wrong_fields) c__law_wrong_fields hr (by decide) (by rfl) (fun σ => L2N.passAt (L2N.takes_of (E := E) rfl rfl rfl rfl) σ) (ag_d (de_var (i := 2) rfl (by first | exact Or.inl rfl | exact Or.inr (Or.inl rfl) | exact Or.inr (Or.inr rfl))) ag_nil) (gaD_len (fun _ _ _ e => ga_nil e)))) (dw de_non) (by rfl)) (dw_or (dt_not (dt_val (de_call (io := []) (np := 1) (F := F__law_fields_right) c__law_fields_right hr (by decide) (by rfl) (fun σ => L2N.passAt (L2N.takes_of (E := E) rfl rfl rfl rfl) σ) (ag_d (de_var (i := 2) rfl (by first | exact Or.inl rfl | exact Or.inr (Or.inl rfl) | exact Or.inr (Or.inr rfl))) ag_nil) (gaD_len (fun _ _ _ e => ga_nil e))))) (dw_or1 (dt_not (dt_val (de_call (io := []) (np := 2) (F := F__law_record_right) c__law_record_right hr (by decide) (by rfl) (fun σ => L2N.passAt (L2N.takes_of (E := E) rfl rfl rfl rfl) σ) (ag_d (de_var (i := 2) rfl (by first | exact Or.inl rfl | exact Or.inr (Or.inl rfl) | exact Or.inr (Or.inr rfl))) (ag_d (de_var (i := 3) rfl (by first | exact Or.inl rfl | exact Or.inr (Or.inl rfl) | exact Or.inr (Or.inr rfl))) ag_nil)) (gaD_len (gaD_len (fun _ _ _ e => ga_nil e))))))))).pt (dss_one (ds_ret de_bl)) dss_nil)
      (dss_cons (ds_for (passes_of rfl) rfl (di_rng1 (by rfl) T.n_range de_int) (TgR.w (tg_name (i := 4) sc.nd rfl (by first | exact Or.inl rfl | exact Or.inr rfl) rfl)) (dss_cons (ds_set (i := 5) sc.nd rfl (Or.inl rfl) (de_call (io := [0]) (np := 2) (F := F__law_take) c__law_take hr (by decide) (by rfl) (fun σ => L2N.passAt (L2N.takes_of (E := E) rfl rfl rfl rfl) σ) (ag_s (j := 1) rfl (by first | exact Or.inl rfl | exact Or.inr (Or.inl rfl) | exact Or.inr (Or.inr rfl)) (ag_d (de_b1 c_len (by rfl) T.n_len PySem.boot_len (dw (de_var (i := 2) rfl (by first | exact Or.inl rfl | exact Or.inr (Or.inl rfl) | exact Or.inr (Or.inr rfl))))) ag_nil)) (gaS_len (gaD_len (fun _ _ _ e => ga_nil e)))) rfl)
      (dss_cons (ds_set (i := 6) sc.nd rfl (Or.inl rfl) (de_call (io := [0]) (np := 2) (F := F__law_odd_kind) c__law_odd_kind hr (by decide) (by rfl) (fun σ => L2N.passAt (L2N.takes_of (E := E) rfl rfl rfl rfl) σ) (ag_s (j := 1) rfl (by first | exact Or.inl rfl | exact Or.inr (Or.inl rfl) | exact Or.inr (Or.inr rfl)) (ag_d (de_ix o_ix (da (de_var (i := 2) rfl (by first | exact Or.inl rfl | exact Or.inr (Or.inl rfl) | exact Or.inr (Or.inr rfl)))) (dw (de_var (i := 5) rfl (by first | exact Or.inl rfl | exact Or.inr (Or.inl rfl) | exact Or.inr (Or.inr rfl)))) (fun _ _ => rfl)) ag_nil)) (gaS_len (gaD_len (fun _ _ _ e => ga_nil e)))) rfl)
      (dss_cons (ds_set (i := 7) sc.nd rfl (Or.inl rfl) (de_op o_addA (da (de_op o_addA (da (de_slA (da (de_var (i := 2) rfl (by first | exact Or.inl rfl | exact Or.inr (Or.inl rfl) | exact Or.inr (Or.inr rfl)))) do_none (do_some (de_var (i := 5) rfl (by first | exact Or.inl rfl | exact Or.inr (Or.inl rfl) | exact Or.inr (Or.inr rfl)))))) (dw (de_tup (da_cons (de_var (i := 6) rfl (by first | exact Or.inl rfl | exact Or.inr (Or.inl rfl) | exact Or.inr (Or.inr rfl))) da_nil))))) (dw (de_slA (da (de_var (i := 2) rfl (by first | exact Or.inl rfl | exact Or.inr (Or.inl rfl) | exact Or.inr (Or.inr rfl)))) (do_some (de_op o_addA (da (de_var (i := 5) rfl (by first | exact Or.inl rfl | exact Or.inr (Or.inl rfl) | exact Or.inr (Or.inr rfl)))) (dw de_int))) do_none))) rfl)
      (dss_cons (ds_if (dw_or (dt_not (dt_val (de_call (io := []) (np := 1) (F := F__law_kind_right) c__law_kind_right hr (by decide) (by rfl) (fun σ => L2N.passAt (L2N.takes_of (E := E) rfl rfl rfl rfl) σ) (ag_d (de_ix o_ix (da (de_var (i := 2) rfl (by first | exact Or.inl rfl | exact Or.inr (Or.inl rfl) | exact Or.inr (Or.inr rfl)))) (dw (de_var (i := 5) rfl (by first | exact Or.inl rfl | exact Or.inr (Or.inl rfl) | exact Or.inr (Or.inr rfl)))) (fun _ _ => rfl)) ag_nil) (gaD_len (fun _ _ _ e => ga_nil e))))) (dw_or (dt_not (dt_val (de_call (io := []) (np := 1) (F := F__law_kind_right) c__law_kind_right hr (by decide) (by rfl) (fun σ => L2N.passAt (L2N.takes_of (E := E) rfl rfl rfl rfl) σ) (ag_d (de_var (i := 6) rfl (by first | exact Or.inl rfl | exact Or.inr (Or.inl rfl) | exact Or.inr (Or.inr rfl))) ag_nil) (gaD_len (fun _ _ _ e => ga_nil e))))) (dw_or1 (dt_not (dt_val (de_call (io := []) (np := 1) (F := F__law_fields_right) c__law_fields_right hr (by decide) (by rfl) (fun σ => L2N.passAt (L2N.takes_of (E := E) rfl rfl rfl rfl) σ) (ag_d (de_var (i := 7) rfl (by first | exact Or.inl rfl | exact Or.inr (Or.inl rfl) | exact Or.inr (Or.inr rfl))) ag_nil) (gaD_len (fun _ _ _ e => ga_nil e)))))))).pt (dss_one (ds_ret de_bl)) dss_nil)
      (dss_cons (ds_set (i := 8) sc.nd rfl (Or.inl rfl) (de_b1 c_len (by rfl) T.n_len PySem.boot_len (dw (de_ix o_ix (da (de_ix o_ix (da (de_var (i := 2) rfl (by first | exact Or.inl rfl | exact Or.inr (Or.inl rfl) | exact Or.inr (Or.inr rfl)))) (dw (de_var (i := 5) rfl (by first | exact Or.inl rfl | exact Or.inr (Or.inl rfl) | exact Or.inr (Or.inr rfl)))) (fun _ _ => rfl))) (dw de_int) (fun _ _ => rfl)))) rfl)
      (dss_cons (ds_set (i := 9) sc.nd rfl (Or.inl rfl) (de_call (io := [0]) (np := 2) (F := F__law_one) c__law_one hr (by decide) (by rfl) (fun σ => L2N.passAt (L2N.takes_of (E := E) rfl rfl rfl rfl) σ) (ag_s (j := 1) rfl (by first | exact Or.inl rfl | exact Or.inr (Or.inl rfl) | exact Or.inr (Or.inr rfl)) (ag_d (de_dl (dl_lst (da_cons (de_var (i := 8) rfl (by first | exact Or.inl rfl | exact Or.inr (Or.inl rfl) | exact Or.inr (Or.inr rfl))) (da_cons (de_un o_neg (dw de_int)) (da_cons de_non (da_cons de_str (da_cons de_bl (da_cons (de_tup (da_cons de_int da_nil)) (da_cons (de_call (io := [0]) (np := 2) (F := F__law_take) c__law_take hr (by decide) (by rfl) (fun σ => L2N.passAt (L2N.takes_of (E := E) rfl rfl rfl rfl) σ) (ag_s (j := 1) rfl (by first | exact Or.inl rfl | exact Or.inr (Or.inl rfl) | exact Or.inr (Or.inr rfl)) (ag_d (de_var (i := 8) rfl (by first | exact Or.inl rfl | exact Or.inr (Or.inl rfl) | exact Or.inr (Or.inr rfl))) ag_nil)) (gaS_len (gaD_len (fun _ _ _ e => ga_nil e)))) da_nil))))))))) ag_nil)) (gaS_len (gaD_len (fun _ _ _ e => ga_nil e)))) rfl)
      (dss_cons (ds_set (i := 10) sc.nd rfl (Or.inl rfl) (de_op o_addA (da (de_op o_addA (da (de_slA (da (de_var (i := 3) rfl (by first | exact Or.inl rfl | exact Or.inr (Or.inl rfl) | exact Or.inr (Or.inr rfl)))) do_none (do_some (de_var (i := 5) rfl (by first | exact Or.inl rfl | exact Or.inr (Or.inl rfl) | exact Or.inr (Or.inr rfl)))))) (dw (de_tup (da_cons (de_var (i := 9) rfl (by first | exact Or.inl rfl | exact Or.inr (Or.inl rfl) | exact Or.inr (Or.inr rfl))) da_nil))))) (dw (de_slA (da (de_var (i := 3) rfl (by first | exact Or.inl rfl | exact Or.inr (Or.inl rfl) | exact Or.inr (Or.inr rfl)))) (do_some (de_op o_addA (da (de_var (i := 5) rfl (by first | exact Or.inl rfl | exact Or.inr (Or.inl rfl) | exact Or.inr (Or.inr rfl)))) (dw de_int))) do_none))) rfl)
      (dss_one (ds_for (passes_of rfl) rfl (di_seq (de_dl (dl_lst (da_cons (de_var (i := 10) rfl (by first | exact Or.inl rfl | exact Or.inr (Or.inl rfl) | exact Or.inr (Or.inr rfl))) (da_cons (de_op o_addA (da (de_slA (da (de_var (i := 10) rfl (by first | exact Or.inl rfl | exact Or.inr (Or.inl rfl) | exact Or.inr (Or.inr rfl)))) do_none (do_some (de_op o_addA (da (de_var (i := 5) rfl (by first | exact Or.inl rfl | exact Or.inr (Or.inl rfl) | exact Or.inr (Or.inr rfl)))) (dw de_int))))) (dw (de_op o_mulA (da (de_tup (da_cons de_non da_nil))) (dw (de_op o_sub (da (de_op o_sub (da (de_b1 c_len (by rfl) T.n_len PySem.boot_len (dw (de_var (i := 3) rfl (by first | exact Or.inl rfl | exact Or.inr (Or.inl rfl) | exact Or.inr (Or.inr rfl)))))) (dw (de_var (i := 5) rfl (by first | exact Or.inl rfl | exact Or.inr (Or.inl rfl) | exact Or.inr (Or.inr rfl)))))) (dw de_int)))))) (da_cons (de_slA (da (de_var (i := 3) rfl (by first | exact Or.inl rfl | exact Or.inr (Or.inl rfl) | exact Or.inr (Or.inr rfl)))) (do_some de_int) do_none) (da_cons (de_op o_addA (da (de_var (i := 3) rfl (by first | exact Or.inl rfl | exact Or.inr (Or.inl rfl) | exact Or.inr (Or.inr rfl)))) (dw (de_tup (da_cons de_int da_nil)))) (da_cons de_non (da_cons de_int da_nil))))))))) (TgR.w (tg_name (i := 11) sc.nd rfl (by first | exact Or.inl rfl | exact Or.inr rfl) rfl)) (dss_one (ds_if (dw_or (dt_not (dt_val (de_call (io := []) (np := 2) (F := F__law_record_right) c__law_record_right hr (by decide) (by rfl) (fun σ => L2N.passAt (L2N.takes_of (E := E) rfl rfl rfl rfl) σ) (ag_d (de_var (i := 2) rfl (by first | exact Or.inl rfl | exact Or.inr (Or.inl rfl) | exact Or.inr (Or.inr rfl))) (ag_d (de_var (i := 11) rfl (by first | exact Or.inl rfl | exact Or.inr (Or.inl rfl) | exact Or.inr (Or.inr rfl))) ag_nil)) (gaD_len (gaD_len (fun _ _ _ e => ga_nil e)))))) (dw_or1 (dt_not (dt_val (de_call (io := []) (np := 2) (F := F__law_record_right) c__law_record_right hr (by decide) (by rfl) (fun σ => L2N.passAt (L2N.takes_of (E := E) rfl rfl rfl rfl) σ) (ag_d (de_var (i := 7) rfl (by first | exact Or.inl rfl | exact Or.inr (Or.inl rfl) | exact Or.inr (Or.inr rfl))) (ag_d (de_var (i := 11) rfl (by first | exact Or.inl rfl | exact Or.inr (Or.inl rfl) | exact Or.inr (Or.inr rfl))) ag_nil)) (gaD_len (gaD_len (fun _ _ _ e => ga_nil e)))))))).pt (dss_one (ds_ret de_bl)) dss_nil))))))))))))
      (dss_cons (ds_for (passes_of rfl) rfl (di_seq (de_dl (dl_lst (da_cons de_non (da_cons (de_tup da_nil) (da_cons (de_op o_mulA (da (de_tup (da_cons (de_ix o_ix (da (de_var (i := 2) rfl (by first | exact Or.inl rfl | exact Or.inr (Or.inl rfl) | exact Or.inr (Or.inr rfl)))) (dw de_int) (fun _ _ => rfl)) da_nil))) (dw de_int)) (da_cons (de_ix o_ix (da (de_var (i := 2) rfl (by first | exact Or.inl rfl | exact Or.inr (Or.inl rfl) | exact Or.inr (Or.inr rfl)))) (dw de_int) (fun _ _ => rfl)) (da_cons de_str (da_cons de_int da_nil))))))))) (TgR.w (tg_name (i := 6) sc.nd rfl (by first | exact Or.inl rfl | exact Or.inr rfl) rfl)) (dss_one (ds_if (dw_or (dt_not (dt_val (de_call (io := []) (np := 1) (F := F__law_fields_right) c__law_fields_right hr (by decide) (by rfl) (fun σ => L2N.passAt (L2N.takes_of (E := E) rfl rfl rfl rfl) σ) (ag_d (de_var (i := 6) rfl (by first | exact Or.inl rfl | exact Or.inr (Or.inl rfl) | exact Or.inr (Or.inr rfl))) ag_nil) (gaD_len (fun _ _ _ e => ga_nil e))))) (dw_or1 (dt_not (dt_val (de_call (io := []) (np := 2) (F := F__law_record_right) c__law_record_right hr (by decide) (by rfl) (fun σ => L2N.passAt (L2N.takes_of (E := E) rfl rfl rfl rfl) σ) (ag_d (de_var (i := 6) rfl (by first | exact Or.inl rfl | exact Or.inr (Or.inl rfl) | exact Or.inr (Or.inr rfl))) (ag_d (de_var (i := 3) rfl (by first | exact Or.inl rfl | exact Or.inr (Or.inl rfl) | exact Or.inr (Or.inr rfl))) ag_nil)) (gaD_len (gaD_len (fun _ _ _ e => ga_nil e)))))))).pt (dss_one (ds_ret de_bl)) dss_nil)))
      (dss_one (ds_ret de_bl))))))))
end
end Ev

set_option Elab.async false
set_option linter.all false
set_option maxRecDepth 100000
set_option maxHeartbeats 4000000
/-! k25: what the functions do. -/
namespace Ev
open PySem PySem.Spec PyProof.Rows L2 Ed
/-- a def that tells data of data -/
def Tells (F : FnD) (as : List PyData) (d : PyData) : Prop := ∃ ρ', F (as.map .dat) = some (.ok (.dat d), ρ')
def Raises (F : FnD) (as : List PyData) (cn : Str) (x : PyData) : Prop := ∃ ρ', F (as.map .dat) = some (.err cn x, ρ')
def wholeD : PyData → Bool
  | .int _ => true
  | _ => false
theorem f_whole (d : PyData) : Tells F_whole [d] (.bool (wholeD d)) := by
  refine ⟨[.dat d], ?_⟩
  cases d <;> rfl
theorem sIf_ok {t : M Bool} {a b : SM} {x : Bool} {ρ ρ1 : List Sl} (h : t ρ = some (.ok x, ρ1)) : sIf t a b ρ = if x = true then a ρ1 else b ρ1 := by
  unfold sIf
  rw [sOf_ok h]
  cases x <;> rfl
def isTup : PyData → Bool
  | .tuple _ => true
  | _ => false
def isInt : PyData → Bool
  | .int _ => true
  | .bool _ => true
  | _ => false
def isBoo : PyData → Bool
  | .bool _ => true
  | _ => false
theorem isT_tuple (d : PyData) : isT "tuple" d = isTup d := by cases d <;> (with_unfolding_all rfl)
theorem isT_int (d : PyData) : isT "int" d = isInt d := by cases d <;> (with_unfolding_all rfl)
theorem isT_bool (d : PyData) : isT "bool" d = isBoo d := by cases d <;> (with_unfolding_all rfl)
theorem mTup_isi {m : M PyData} {d : PyData} {ρ ρ1 : List Sl} (h : m ρ = some (.ok d, ρ1)) : mIsi "tuple" m ρ = some (.ok (.bool (isTup d)), ρ1) := isT_tuple d ▸ mIsi_ok h
theorem mInt_isi {m : M PyData} {d : PyData} {ρ ρ1 : List Sl} (h : m ρ = some (.ok d, ρ1)) : mIsi "int" m ρ = some (.ok (.bool (isInt d)), ρ1) := isT_int d ▸ mIsi_ok h
theorem mBoo_isi {m : M PyData} {d : PyData} {ρ ρ1 : List Sl} (h : m ρ = some (.ok d, ρ1)) : mIsi "bool" m ρ = some (.ok (.bool (isBoo d)), ρ1) := isT_bool d ▸ mIsi_ok h
/-- the length of a tuple, if it is one -/
def lenT : PyData → Option Nat
  | .tuple ds => some ds.length
  | _ => none
def tbD (d : PyData) (lo hi : Int) : Bool := match d with
  | .tuple ds => decide (lo ≤ ds.length) && decide ((ds.length : Int) ≤ hi)
  | _ => false
theorem f_tuple_between (d : PyData) (lo hi : Int) : Tells F_tuple_between [d, .int lo, .int hi] (.bool (tbD d lo hi)) := by
  refine ⟨[.dat d, .dat (.int lo), .dat (.int hi)], ?_⟩
  cases d with
  | tuple ds => exact fnOf_ret (sRet_ok (vAnd_ok (x := true) (mTup_isi (d := .tuple ds) rfl) fun _ => mChain_ok (x := .int lo) (y := .int ds.length) (z := .int hi) rfl (m1_ok (a := .tuple ds) rfl rfl) rfl rfl rfl))
  | _ => rfl
def wbD (d : PyData) (lo hi : Int) : Bool := match d with
  | .int i => decide (lo ≤ i) && decide (i ≤ hi)
  | _ => false
theorem f_whole_between (d : PyData) (lo hi : Int) : Tells F_whole_between [d, .int lo, .int hi] (.bool (wbD d lo hi)) := by
  refine ⟨[.dat d, .dat (.int lo), .dat (.int hi)], ?_⟩
  obtain ⟨ρ', e⟩ := f_whole d
  have h : ∀ ρ, ρ[0]? = some (Sl.dat d) → mCallX [] F_whole (gaD (mDat 0) gaNil) ρ = some (.ok (.bool (wholeD d)), ρ) := fun ρ h => call_ok (xs := [.dat d]) (gaD_ok (xs := []) (by unfold mDat; rw [h]) gaNil_ok) e
  refine fnOf_ret (sRet_ok ?_)
  cases d with
  | int i => exact vAnd_ok (x := true) (h _ rfl) fun _ => mChain_ok (x := .int lo) (y := .int i) (z := .int hi) rfl rfl rfl rfl rfl
  | _ => exact vAnd_ok (x := false) (y := true) (h _ rfl) fun z => nomatch z
theorem mDat_ok {i : Nat} {d : PyData} {ρ : List Sl} (h : ρ[i]? = some (.dat d)) : mDat i ρ = some (.ok d, ρ) := by
  unfold mDat
  rw [h]
/-- a loop that hands v back at the first that is not p -/
theorem sFor_all {g : Tf} {body : SM} {v : Rv} {p : PyData → Bool} (Pv : List Sl → Prop) : ∀ {ds : List PyData} {ρ : List Sl}, Pv ρ → (∀ d ∈ ds, ∀ ρ, Pv ρ → ∃ ρ1 ρ2, g d ρ = some ρ1 ∧ Pv ρ2 ∧ body ρ1 = some (if p d = true then .nx else .ret v, ρ2)) → ∃ ρ', Pv ρ' ∧ sFor g body ds ρ = some (if ds.all p = true then .nx else .ret v, ρ')
  | [], ρ, h, _ => ⟨ρ, h, rfl⟩
  | d :: ds, ρ, h, st => by
    obtain ⟨ρ1, ρ2, h1, h2, h3⟩ := st d List.mem_cons_self ρ h
    unfold sFor
    rw [h1]
    dsimp only
    rw [h3, List.all_cons]
    cases hr : p d with
    | false => exact ⟨ρ2, h2, rfl⟩
    | true =>
      obtain ⟨ρ', a, b⟩ := sFor_all (ds := ds) Pv h2 fun x hx => st x (List.mem_cons_of_mem _ hx)
      exact ⟨ρ', a, b⟩
/-- `if not good: return v` and on -/
theorem chk_ok {t : M Bool} {v : PyData} {x : Bool} {ρ ρ1 : List Sl} (h : t ρ = some (.ok (!x), ρ1)) : sIf t (sRet (M.pure v)) sNx ρ = some (if x = true then .nx else .ret (.dat v), ρ1) := by
  rw [sIf_ok h]
  cases x <;> rfl
def tupI (zs : List Int) : PyData := .tuple (zs.map .int)
def numOk (z : Int) : PyData → Bool
  | .int n => decide (0 ≤ n) && decide (n < z)
  | _ => false
def numP : PyData → Bool
  | .tuple [.int z, n] => numOk z n
  | _ => false
def fitD (zs : List Int) : PyData → Bool
  | .tuple as => decide (as.length = zs.length) && (zipD (zs.map .int) as).all numP
  | _ => false
theorem f_amount_fits (zs : List Int) (d : PyData) : Tells F_amount_fits [tupI zs, d] (.bool (fitD zs d)) := by
  have hb : ∀ ρ, ρ[0]? = some (Sl.dat (tupI zs)) → ρ[1]? = some (Sl.dat d) → mCallX [] F_tuple_between (gaD (mDat 1) (gaD (m1 dLen (mDat 0)) (gaD (m1 dLen (mDat 0)) gaNil))) ρ = some (.ok (.bool (tbD d zs.length zs.length)), ρ) := fun ρ h0 h1 => by
    obtain ⟨ρ', e⟩ := f_tuple_between d zs.length zs.length
    have l0 : m1 dLen (mDat 0) ρ = some (.ok (.int zs.length), ρ) := m1_ok (mDat_ok h0) (by unfold tupI dLen; simp)
    exact call_ok (xs := [.dat d, .dat (.int zs.length), .dat (.int zs.length)]) (gaD_ok (mDat_ok h1) (gaD_ok l0 (gaD_ok l0 gaNil_ok))) e
  have hc := chk_ok (v := .bool false) (mNot_ok (mTest_ok (hb [.dat (tupI zs), .dat d, .no, .no] rfl rfl)))
  by_cases ht : tbD d zs.length zs.length = true
  · rw [ht] at hc
    cases d with
    | tuple as =>
      have hl : as.length = zs.length := by
        simp only [tbD, Bool.and_eq_true, decide_eq_true_eq] at ht
        omega
      obtain ⟨ρ', ⟨a, b, rfl⟩, e⟩ := sFor_all (g := gTupT 2 (gCon (gN 2) (gCon (gN 3) gNil0)))
        (body := sIf (mOr (mNot (mTest (mIsi "int" (mDat 3)))) (mOr (mTest (m2A dIsB (mDat 3) M.pure (M.pure (.bool true)))) (mOr (mTest (m2A dIsB (mDat 3) M.pure (M.pure (.bool false)))) (mOr (mTest (m2A dLt (mDat 3) M.pure (M.pure (.int 0)))) (mTest (m2A dGe (mDat 3) M.pure (mDat 2))))))) (sRet (M.pure (.bool false))) sNx)
        (v := .dat (.bool false)) (p := numP) (fun ρ => ∃ a b, ρ = [Sl.dat (tupI zs), .dat (.tuple as), a, b]) (ds := zipD (zs.map .int) as) (ρ := [Sl.dat (tupI zs), .dat (.tuple as), .no, .no]) ⟨_, _, rfl⟩ (by
          rintro x hx ρ ⟨a, b, rfl⟩
          obtain ⟨k, hk⟩ := List.mem_iff_getElem?.mp hx
          obtain ⟨s, n, h1, h2, rfl⟩ := zipD_get hk
          rw [List.getElem?_map] at h1
          obtain ⟨z, hz, rfl⟩ := Option.map_eq_some_iff.mp h1
          refine ⟨[.dat (tupI zs), .dat (.tuple as), .dat (.int z), .dat n], [.dat (tupI zs), .dat (.tuple as), .dat (.int z), .dat n], rfl, ⟨_, _, rfl⟩, chk_ok ?_⟩
          show _ = some (Rs.ok (!numOk z n), _)
          have h3 : mIsi "int" (mDat 3) [.dat (tupI zs), .dat (.tuple as), .dat (.int z), .dat n] = some (.ok (.bool (isInt n)), [.dat (tupI zs), .dat (.tuple as), .dat (.int z), .dat n]) := mInt_isi rfl
          cases n with
          | int i =>
            have e : (!numOk z (.int i)) = (!true || (false || (false || (decide (i < 0) || decide (z ≤ i))))) := by
              rw [Bool.eq_iff_iff]
              simp only [numOk, Bool.not_true, Bool.false_or, Bool.not_eq_true', Bool.or_eq_true, Bool.and_eq_false_iff, decide_eq_true_eq, decide_eq_false_iff_not]
              omega
            rw [e]
            refine mOr_ok (mNot_ok (mTest_ok (mInt_isi (d := .int i) rfl))) fun _ => mOr_ok (mTest_ok rfl) fun _ => mOr_ok (mTest_ok rfl) fun _ => mOr_ok (mTest_ok rfl) fun _ => mTest_ok rfl
          | bool k => cases k <;> exact mOr_ok (x := false) (y := true) (mNot_ok (mTest_ok (mInt_isi (d := .bool _) rfl))) fun _ => by rfl
          | _ => exact mOr_ok (x := true) (y := false) (mNot_ok (b := false) (mTest_ok h3)) fun z => nomatch z)
      have hf : fitD zs (.tuple as) = (zipD (zs.map .int) as).all numP := by simp [fitD, hl]
      rw [hf]
      cases hp : (zipD (zs.map .int) as).all numP with
      | true =>
        rw [hp] at e
        exact ⟨_, fnOf_ret ((sSeq_nx hc).trans ((sSeq_nx ((sOf_ok (m := mZip (mDat 0) (mDat 1)) (by rfl)).trans e)).trans (sRet_ok rfl)))⟩
      | false =>
        rw [hp] at e
        exact ⟨_, fnOf_ret ((sSeq_nx hc).trans (sSeq_ret ((sOf_ok (m := mZip (mDat 0) (mDat 1)) (by rfl)).trans e)))⟩
    | _ => cases ht
  · rw [Bool.not_eq_true] at ht
    rw [ht] at hc
    have hf : fitD zs d = false := by
      cases d with
      | tuple as =>
        simp only [tbD, Bool.and_eq_false_iff, decide_eq_false_iff_not] at ht
        have : ¬ as.length = zs.length := by omega
        simp [fitD, this]
      | _ => rfl
    rw [hf]
    exact ⟨_, fnOf_ret (sSeq_ret hc)⟩
end Ev

set_option Elab.async false
set_option linter.all false
set_option maxRecDepth 100000
set_option maxHeartbeats 4000000
/-! k25: kinds. -/
namespace Ev
open PySem PySem.Spec PyProof.Rows L2 Ed
/-! ### what a kind is -/
def fitL : List Int → List PyData → Option (List Int)
  | [], [] => some []
  | z :: zs, .int n :: ds => if 0 ≤ n ∧ n < z then (fitL zs ds).map (n :: ·) else none
  | _, _ => none
def handsL (zs : List Int) : List PyData → Option (List (List Int))
  | [] => some []
  | .tuple as :: ds => (fitL zs as).bind fun ns => (handsL zs ds).map (ns :: ·)
  | _ => none
def sizesL : List PyData → Option (List Int)
  | [] => some []
  | .int z :: ds => if 2 ≤ z then (sizesL ds).map (z :: ·) else none
  | _ => none
def szD : PyData → Option (List Int)
  | .tuple ss => if ss.length ≤ 12 then sizesL ss else none
  | _ => none
def hdD (zs : List Int) : PyData → Option (List (List Int))
  | .tuple ds => if 1 ≤ ds.length ∧ ds.length ≤ 12 then (handsL zs ds).bind fun ks => if ks.Nodup then some ks else none else none
  | _ => none
def wkD : PyData → PyData
  | .tuple [s, a] => match szD s with
    | none => .int 0
    | some zs => match hdD zs a with
      | none => .int 1
      | some _ => .none
  | _ => .int (-1)
theorem fitD_fitL (zs : List Int) (as : List PyData) : fitD zs (.tuple as) = (fitL zs as).isSome := by
  show (decide (as.length = zs.length) && (zipD (zs.map .int) as).all numP) = _
  induction zs generalizing as with
  | nil => cases as <;> rfl
  | cons z zs ih =>
    cases as with
    | nil => rfl
    | cons a as =>
      have e : (decide ((a :: as).length = (z :: zs).length) && (zipD ((z :: zs).map .int) (a :: as)).all numP) = (numOk z a && (decide (as.length = zs.length) && (zipD (zs.map .int) as).all numP)) := by
        show (decide (as.length + 1 = zs.length + 1) && (numOk z a && (zipD (zs.map .int) as).all numP)) = _
        simp only [Nat.add_right_cancel_iff]
        cases numOk z a <;> cases decide (as.length = zs.length) <;> rfl
      rw [e, ih]
      cases a with
      | int n =>
        show ((decide (0 ≤ n) && decide (n < z)) && _) = (if 0 ≤ n ∧ n < z then (fitL zs as).map (n :: ·) else none).isSome
        by_cases h : 0 ≤ n ∧ n < z
        · rw [if_pos h]
          simp [h]
        · rw [if_neg h, ← Bool.decide_and, decide_eq_false h]
          rfl
      | _ => rfl
theorem handsL_all (zs : List Int) (ds : List PyData) : ds.all (fitD zs) = (handsL zs ds).isSome := by
  induction ds with
  | nil => rfl
  | cons d ds ih =>
    rw [List.all_cons, ih]
    cases d with
    | tuple as =>
      rw [fitD_fitL]
      show _ = ((fitL zs as).bind fun ns => (handsL zs ds).map (ns :: ·)).isSome
      cases fitL zs as with
      | none => rfl
      | some ns => simp
    | _ => rfl
theorem fitL_eq {zs : List Int} {as : List PyData} {ns : List Int} (h : fitL zs as = some ns) : as = ns.map .int ∧ ns.length = zs.length := by
  induction zs generalizing as ns with
  | nil =>
    cases as with
    | nil =>
      cases h
      exact ⟨rfl, rfl⟩
    | cons a as => cases h
  | cons z zs ih =>
    cases as with
    | nil => cases h
    | cons a as =>
      cases a with
      | int n =>
        change (if 0 ≤ n ∧ n < z then (fitL zs as).map (n :: ·) else none) = _ at h
        split at h
        · obtain ⟨ms, h1, rfl⟩ := Option.map_eq_some_iff.mp h
          obtain ⟨rfl, e⟩ := ih h1
          exact ⟨rfl, by rw [List.length_cons, List.length_cons, e]⟩
        · cases h
      | _ => cases h
theorem handsL_eq {zs : List Int} {ds : List PyData} {ks : List (List Int)} (h : handsL zs ds = some ks) : ds = ks.map tupI := by
  induction ds generalizing ks with
  | nil =>
    cases h
    rfl
  | cons d ds ih =>
    cases d with
    | tuple as =>
      obtain ⟨ns, h1, h2⟩ := Option.bind_eq_some_iff.mp h
      obtain ⟨ms, h3, rfl⟩ := Option.map_eq_some_iff.mp h2
      rw [ih h3, (fitL_eq h1).1]
      rfl
    | _ => cases h
theorem ddp_nodup (ks : List (List Int)) : (ddp ks).length = ks.length ↔ ks.Nodup := by
  have hle : ∀ ks : List (List Int), (ddp ks).length ≤ ks.length := by
    intro ks
    induction ks with
    | nil => exact Nat.le_refl _
    | cons x ks ih =>
      unfold ddp
      split
      · exact Nat.le_succ_of_le ih
      · exact Nat.succ_le_succ ih
  induction ks with
  | nil => simp [ddp]
  | cons x ks ih =>
    unfold ddp
    rw [List.nodup_cons]
    split
    · rename_i h
      have := hle ks
      constructor
      · intro e
        rw [List.length_cons] at e
        omega
      · exact fun z => (z.1 h).elim
    · rename_i h
      rw [List.length_cons, List.length_cons]
      exact ⟨fun e => ⟨h, ih.mp (by omega)⟩, fun z => by have := ih.mpr z.2; omega⟩
theorem tupsOf_map (ks : List (List Int)) : tupsOf (ks.map tupI) = some ks := by
  induction ks with
  | nil => rfl
  | cons k ks ih =>
    show (intsOf (k.map .int)).bind (fun x => (tupsOf (ks.map tupI)).map fun xs => x :: xs) = _
    have e : intsOf (k.map .int) = some k := by
      induction k with
      | nil => rfl
      | cons n k ih2 =>
        show (intsOf (k.map .int)).map _ = _
        rw [ih2]
        rfl
    rw [e, ih]
    rfl
theorem boolsOf_map {α : Type} (f : α → Bool) (ds : List α) : boolsOf (ds.map fun d => .bool (f d)) = some (ds.map f) := by
  induction ds with
  | nil => rfl
  | cons d ds ih =>
    show (boolsOf _).map _ = _
    rw [ih]
    rfl
theorem dAll_map {α : Type} (f : α → Bool) (ds : List α) : dAll (.list (ds.map fun d => .bool (f d))) = some (.bool (ds.all f)) := by
  show (boolsOf _).map _ = _
  rw [boolsOf_map]
  show some (PyData.bool ((ds.map f).all id)) = _
  rw [List.all_map]
  rfl
/-- all of a comprehension over what a slot holds -/
theorem allC_ok {i j : Nat} {ds : List PyData} {F : M PyData} {p : PyData → Bool} {ρ ρ1 : List Sl} {d : PyData} (hi : ρ[i]? = some (.dat d)) (hd : seqD d = some ds) (hl : ds.length ≤ lim) (hr : resto ρ [j] (wS [j] ρ) = ρ)
    (h : ∀ x ∈ ds, F ((wS [j] ρ).set j (.dat x)) = some (.ok (.bool (p x)), (wS [j] ρ).set j (.dat x))) (hw : ∀ x, wS [j] ((wS [j] ρ).set j (.dat x)) = wS [j] ρ) :
    mTest (m1 dAll (mOfL (mLc [j] (mSeq (mDat i)) (gN j) (M.pure true) F))) ρ = some (.ok (ds.all p), ρ) := by
  refine mTest_ok (m1_ok (a := .list (ds.map fun x => .bool (p x))) (mOfL_ok ?_) (dAll_map p ds))
  have e := mLc_ok (vs := [j]) (mi := mSeq (mDat i)) (g := gN j) (t := M.pure true) (e := F) (p := fun _ => true) (f := fun x => .bool (p x)) (ds := ds) (ρ := ρ) (ρ1 := ρ) (by unfold mSeq; rw [M.bind_ok (mDat_ok hi), hd]; rfl) hl fun x hx ρ' hρ => ⟨_, rfl, by rw [hρ]; exact hw x, rfl, fun _ => by rw [hρ]; exact h x hx⟩
  rw [e, hr, List.filter_eq_self.mpr fun _ _ => rfl]
theorem f_hands_fit (zs : List Int) (d : PyData) : Tells F_hands_fit [tupI zs, d] (.bool (hdD zs d).isSome) := by
  obtain ⟨ρb, eb⟩ := f_tuple_between d 1 12
  have hb : mCallX [] F_tuple_between (gaD (mDat 1) (gaD (M.pure (.int 1)) (gaD (M.pure (.int 12)) gaNil))) [.dat (tupI zs), .dat d, .no] = some (.ok (.bool (tbD d 1 12)), [.dat (tupI zs), .dat d, .no]) := call_ok (xs := [.dat d, .dat (.int 1), .dat (.int 12)]) (gaD_ok (d := d) rfl (gaD_ok (d := .int 1) rfl (gaD_ok (d := .int 12) rfl gaNil_ok))) eb
  cases d with
  | tuple ds =>
    by_cases hl : 1 ≤ ds.length ∧ ds.length ≤ 12
    · have ht : tbD (.tuple ds) 1 12 = true := by
        simp only [tbD, Bool.and_eq_true, decide_eq_true_eq]
        omega
      rw [ht] at hb
      have ha := allC_ok (i := 1) (j := 2) (ds := ds) (p := fitD zs) (F := mCallX [] F_amount_fits (gaD (mDat 0) (gaD (mDat 2) gaNil))) (ρ := [.dat (tupI zs), .dat (.tuple ds), .no]) (ρ1 := []) rfl rfl (by unfold lim; omega) rfl (fun x hx => by
        obtain ⟨ρ', e⟩ := f_amount_fits zs x
        exact call_ok (xs := [.dat (tupI zs), .dat x]) (gaD_ok (d := tupI zs) rfl (gaD_ok (d := x) rfl gaNil_ok)) e) fun x => rfl
      rw [handsL_all] at ha
      have hc := chk_ok (v := .bool false) (x := (handsL zs ds).isSome) (ρ := [.dat (tupI zs), .dat (.tuple ds), .no]) (by
        have := mOr_ok (mNot_ok (mTest_ok hb)) fun _ => mNot_ok ha
        exact this)
      cases hk : handsL zs ds with
      | none =>
        rw [hk] at hc
        have : hdD zs (.tuple ds) = none := by
          simp only [hdD, hk, if_pos hl]
          rfl
        rw [this]
        exact ⟨_, fnOf_ret (sSeq_ret hc)⟩
      | some ks =>
        rw [hk] at hc
        have e := handsL_eq hk
        have hn : ds.length = ks.length := by rw [e, List.length_map]
        have h2 : hdD zs (.tuple ds) = if ks.Nodup then some ks else none := by
          simp only [hdD, hk, if_pos hl]
          rfl
        have h3 : (hdD zs (.tuple ds)).isSome = PyData.eqv (.int (ddp ks).length) (.int ks.length) := by
          rw [h2]
          show _ = decide (((ddp ks).length : Int) = ks.length)
          by_cases hnd : ks.Nodup
          · rw [if_pos hnd, (ddp_nodup ks).mpr hnd]
            simp
          · rw [if_neg hnd]
            have : ¬ (ddp ks).length = ks.length := fun z => hnd ((ddp_nodup ks).mp z)
            rw [decide_eq_false (by omega)]
            rfl
        rw [h3]
        refine ⟨_, fnOf_ret ((sSeq_nx hc).trans (sRet_ok (m2_ok (a := .int (ddp ks).length) (b := .int ks.length) (m1_ok (a := .tuple ds) rfl ?_) (m1_ok (a := .tuple ds) rfl ?_) rfl)))⟩
        · show (tupsOf ds).bind _ = _
          rw [e, tupsOf_map]
          show (if ks.length < 64 then _ else none) = _
          rw [if_pos (by omega)]
        · show some (PyData.int ds.length) = _
          rw [hn]
    · have ht : tbD (.tuple ds) 1 12 = false := by
        simp only [tbD, Bool.and_eq_false_iff, decide_eq_false_iff_not]
        omega
      rw [ht] at hb
      have : hdD zs (.tuple ds) = none := by simp only [hdD, if_neg hl]
      rw [this]
      exact ⟨_, fnOf_ret (sSeq_ret (chk_ok (v := .bool false) (x := false) (mOr_ok (x := true) (y := false) (mNot_ok (b := false) (mTest_ok hb)) fun z => nomatch z)))⟩
  | _ => exact ⟨_, fnOf_ret (sSeq_ret (chk_ok (v := .bool false) (x := false) (mOr_ok (x := true) (y := false) (mNot_ok (b := false) (mTest_ok hb)) fun z => nomatch z)))⟩
end Ev

set_option Elab.async false
set_option linter.all false
set_option maxRecDepth 100000
set_option maxHeartbeats 4000000
/-! k25: kinds, fields, records as the program tells them. -/
namespace Ev
open PySem PySem.Spec PyProof.Rows L2 Ed
def sizeP : PyData → Bool
  | .int z => decide (2 ≤ z)
  | _ => false
theorem sizesL_all (ds : List PyData) : ds.all sizeP = (sizesL ds).isSome := by
  induction ds with
  | nil => rfl
  | cons d ds ih =>
    rw [List.all_cons, ih]
    cases d with
    | int z =>
      show (decide (2 ≤ z) && _) = (if 2 ≤ z then (sizesL ds).map (z :: ·) else none).isSome
      by_cases h : 2 ≤ z <;> simp [h]
    | _ => rfl
theorem sizesL_eq {ds : List PyData} {zs : List Int} (h : sizesL ds = some zs) : ds = zs.map .int ∧ ∀ z ∈ zs, 2 ≤ z := by
  induction ds generalizing zs with
  | nil =>
    cases h
    exact ⟨rfl, fun z h => nomatch h⟩
  | cons d ds ih =>
    cases d with
    | int z =>
      change (if 2 ≤ z then (sizesL ds).map (z :: ·) else none) = _ at h
      split at h
      · obtain ⟨ms, h1, rfl⟩ := Option.map_eq_some_iff.mp h
        obtain ⟨rfl, e⟩ := ih h1
        rename_i hz
        refine ⟨rfl, fun y hy => ?_⟩
        rcases List.mem_cons.mp hy with rfl | hy
        · exact hz
        · exact e y hy
      · cases h
    | _ => cases h
theorem szD_eq {d : PyData} {zs : List Int} (h : szD d = some zs) : d = tupI zs := by
  cases d with
  | tuple ss =>
    change (if ss.length ≤ 12 then sizesL ss else none) = _ at h
    split at h
    · rw [(sizesL_eq h).1]
      rfl
    · cases h
  | _ => cases h
theorem sz_test (s a d : PyData) (ρ : List Sl) (hρ : ρ = [.dat d, .dat s, .dat a, .no]) : (mOr (mNot (mTest (mCallX [] F_tuple_between (gaD (mDat 1) (gaD (M.pure (.int 0)) (gaD (M.pure (.int 12)) gaNil)))))) (mNot (mTest (m1 dAll (mOfL (mLc [3] (mSeq (mDat 1)) (gN 3) (M.pure true) (vAnd (mCallX [] F_whole (gaD (mDat 3) gaNil)) (m2A dGe (mDat 3) M.pure (M.pure (.int 2)))))))))) ρ = some (.ok (!(szD s).isSome), ρ) := by
  subst hρ
  obtain ⟨ρb, eb⟩ := f_tuple_between s 0 12
  have hb : mCallX [] F_tuple_between (gaD (mDat 1) (gaD (M.pure (.int 0)) (gaD (M.pure (.int 12)) gaNil))) [.dat d, .dat s, .dat a, .no] = some (.ok (.bool (tbD s 0 12)), [.dat d, .dat s, .dat a, .no]) := call_ok (xs := [.dat s, .dat (.int 0), .dat (.int 12)]) (gaD_ok (d := s) rfl (gaD_ok (d := .int 0) rfl (gaD_ok (d := .int 12) rfl gaNil_ok))) eb
  cases s with
  | tuple ds =>
    by_cases hl : ds.length ≤ 12
    · have ht : tbD (.tuple ds) 0 12 = true := by
        simp only [tbD, Bool.and_eq_true, decide_eq_true_eq]
        omega
      rw [ht] at hb
      have ha := allC_ok (i := 1) (j := 3) (ds := ds) (p := sizeP) (F := vAnd (mCallX [] F_whole (gaD (mDat 3) gaNil)) (m2A dGe (mDat 3) M.pure (M.pure (.int 2)))) (ρ := [.dat d, .dat (.tuple ds), .dat a, .no]) (ρ1 := []) rfl rfl (by unfold lim; omega) rfl (fun x hx => by
        obtain ⟨ρ', e⟩ := f_whole x
        have h1 : mCallX [] F_whole (gaD (mDat 3) gaNil) [.dat d, .dat (.tuple ds), .dat a, .dat x] = some (.ok (.bool (wholeD x)), [.dat d, .dat (.tuple ds), .dat a, .dat x]) := call_ok (xs := [.dat x]) (gaD_ok (d := x) rfl gaNil_ok) e
        cases x with
        | int z => exact vAnd_ok (x := true) (y := decide (2 ≤ z)) h1 fun _ => rfl
        | _ => exact vAnd_ok (x := false) (y := false) h1 fun z => nomatch z) fun x => rfl
      rw [sizesL_all] at ha
      have e : szD (.tuple ds) = sizesL ds := by simp only [szD, if_pos hl]
      rw [e]
      exact mOr_ok (x := false) (mNot_ok (b := true) (mTest_ok hb)) fun _ => mNot_ok ha
    · have ht : tbD (.tuple ds) 0 12 = false := by
        simp only [tbD, Bool.and_eq_false_iff, decide_eq_false_iff_not]
        omega
      rw [ht] at hb
      have e : szD (.tuple ds) = none := by simp only [szD, if_neg hl]
      rw [e]
      exact mOr_ok (x := true) (y := false) (mNot_ok (b := false) (mTest_ok hb)) fun z => nomatch z
  | _ => exact mOr_ok (x := true) (y := false) (mNot_ok (b := false) (mTest_ok hb)) fun z => nomatch z
theorem f_wrong_kind (d : PyData) : Tells F_wrong_kind [d] (wkD d) := by
  obtain ⟨ρb, eb⟩ := f_tuple_between d 2 2
  have hb : mCallX [] F_tuple_between (gaD (mDat 0) (gaD (M.pure (.int 2)) (gaD (M.pure (.int 2)) gaNil))) [.dat d, .no, .no, .no] = some (.ok (.bool (tbD d 2 2)), [.dat d, .no, .no, .no]) := call_ok (xs := [.dat d, .dat (.int 2), .dat (.int 2)]) (gaD_ok (d := d) rfl (gaD_ok (d := .int 2) rfl (gaD_ok (d := .int 2) rfl gaNil_ok))) eb
  have bad : tbD d 2 2 = false → Tells F_wrong_kind [d] (.int (-1)) := fun ht => by
    rw [ht] at hb
    refine ⟨[.dat d, .no, .no, .no], fnOf_ret (sSeq_ret ?_)⟩
    refine (sIf_t (ρ1 := [.dat d, .no, .no, .no]) (mNot_ok (b := false) (mTest_ok hb))).trans ?_
    rfl
  match d with
  | .tuple [s, a] =>
    refine ⟨[.dat (.tuple [s, a]), .dat s, .dat a, .no], fnOf_ret ?_⟩
    refine (sSeq_nx (ρ1 := [.dat (.tuple [s, a]), .no, .no, .no]) ((sIf_f (ρ1 := [.dat (.tuple [s, a]), .no, .no, .no]) (mNot_ok (b := true) (mTest_ok hb))).trans rfl)).trans ?_
    refine (sSeq_nx (ρ1 := [.dat (.tuple [s, a]), .dat s, .dat a, .no]) rfl).trans ?_
    have hs := sz_test s a (.tuple [s, a]) _ rfl
    have hc := chk_ok (v := .int 0) hs
    cases hz : szD s with
    | none =>
      rw [hz] at hc
      have : wkD (.tuple [s, a]) = .int 0 := by simp only [wkD, hz]
      rw [this]
      exact sSeq_ret hc
    | some zs =>
      rw [hz] at hc
      obtain rfl := szD_eq hz
      refine (sSeq_nx hc).trans (sRet_ok ?_)
      obtain ⟨ρ', e⟩ := f_hands_fit zs a
      have h1 : mTest (mCallX [] F_hands_fit (gaD (mDat 1) (gaD (mDat 2) gaNil))) [.dat (.tuple [tupI zs, a]), .dat (tupI zs), .dat a, .no] = some (.ok (hdD zs a).isSome, [.dat (.tuple [tupI zs, a]), .dat (tupI zs), .dat a, .no]) := mTest_ok (call_ok (xs := [.dat (tupI zs), .dat a]) (gaD_ok (d := tupI zs) rfl (gaD_ok (d := a) rfl gaNil_ok)) e)
      unfold mIf
      rw [M.bind_ok h1]
      cases hh : hdD zs a with
      | none =>
        have : wkD (.tuple [tupI zs, a]) = .int 1 := by simp only [wkD, hz, hh]
        rw [this]
        rfl
      | some ks =>
        have : wkD (.tuple [tupI zs, a]) = .none := by simp only [wkD, hz, hh]
        rw [this]
        rfl
  | .tuple [] => exact bad rfl
  | .tuple [_] => exact bad rfl
  | .tuple (_ :: _ :: _ :: l) => exact bad (by simp only [tbD, List.length_cons, Bool.and_eq_false_iff, decide_eq_false_iff_not]; omega)
  | .none => exact bad rfl
  | .bool _ => exact bad rfl
  | .int _ => exact bad rfl
  | .str _ => exact bad rfl
  | .list _ => exact bad rfl
  | .dict _ => exact bad rfl
theorem f_is_kind (d : PyData) : Tells F_is_kind [d] (.bool (isNo (wkD d))) := by
  obtain ⟨ρ', e⟩ := f_wrong_kind d
  exact ⟨[.dat d], fnOf_ret (sRet_ok (m2_ok (a := wkD d) (b := .none) (call_ok (xs := [.dat d]) (gaD_ok (d := d) rfl gaNil_ok) e) rfl rfl))⟩
/-- a def that raises cn of what its check tells, else tells d -/
def Either (F : FnD) (as : List PyData) (cn : Str) (w d : PyData) : Prop := ∃ ρ', F (as.map .dat) = some (if isNo w = true then Rs.ok (.dat d) else .err cn w, ρ')
theorem f_made_kind (d : PyData) : Either F_made_kind [d] "BadKind" (wkD d) d := by
  obtain ⟨ρ', e⟩ := f_wrong_kind d
  have h1 : mCallX [] F_wrong_kind (gaD (mDat 0) gaNil) [.dat d, .no] = some (.ok (wkD d), [.dat d, .no]) := call_ok (xs := [.dat d]) (gaD_ok (d := d) rfl gaNil_ok) e
  refine ⟨[.dat d, .dat (wkD d)], ?_⟩
  have ht : mTest (m2A dNotN (mDat 1) M.pure (M.pure .none)) [.dat d, .dat (wkD d)] = some (.ok (!isNo (wkD d)), [.dat d, .dat (wkD d)]) := mTest_ok (m2_ok (a := wkD d) (b := .none) rfl rfl rfl)
  cases hn : isNo (wkD d) with
  | true =>
    rw [hn] at ht
    exact fnOf_ret ((sSeq_nx (ρ1 := [.dat d, .dat (wkD d)]) (sOf_ok h1)).trans ((sSeq_nx ((sIf_f ht).trans rfl)).trans rfl))
  | false =>
    rw [hn] at ht
    exact fnOf_err ((sSeq_nx (ρ1 := [.dat d, .dat (wkD d)]) (sOf_ok h1)).trans (sSeq_err ((sIf_t ht).trans rfl)))
/-! ### fields -/
def kindP (d : PyData) : Bool := isNo (wkD d)
/-- the first field that is none, from i -/
def wfL : Nat → List PyData → PyData
  | _, [] => .none
  | i, d :: ds => if kindP d = true then wfL (i + 1) ds else .int i
def wfD : PyData → PyData
  | .tuple ds => if 1 ≤ ds.length ∧ ds.length ≤ 6 then wfL 0 ds else .int (-1)
  | _ => .int (-1)
theorem f_wrong_fields (d : PyData) : Tells F_wrong_fields [d] (wfD d) := by
  obtain ⟨ρb, eb⟩ := f_tuple_between d 1 6
  have hb : mCallX [] F_tuple_between (gaD (mDat 0) (gaD (M.pure (.int 1)) (gaD (M.pure (.int 6)) gaNil))) [.dat d, .no, .no] = some (.ok (.bool (tbD d 1 6)), [.dat d, .no, .no]) := call_ok (xs := [.dat d, .dat (.int 1), .dat (.int 6)]) (gaD_ok (d := d) rfl (gaD_ok (d := .int 1) rfl (gaD_ok (d := .int 6) rfl gaNil_ok))) eb
  have bad : tbD d 1 6 = false → Tells F_wrong_fields [d] (.int (-1)) := fun ht => by
    rw [ht] at hb
    refine ⟨[.dat d, .no, .no], fnOf_ret (sSeq_ret ?_)⟩
    exact (sIf_t (ρ1 := [.dat d, .no, .no]) (mNot_ok (b := false) (mTest_ok hb))).trans rfl
  cases d with
  | tuple ds =>
    by_cases hl : 1 ≤ ds.length ∧ ds.length ≤ 6
    · have ht : tbD (.tuple ds) 1 6 = true := by
        simp only [tbD, Bool.and_eq_true, decide_eq_true_eq]
        omega
      rw [ht] at hb
      have e : wfD (.tuple ds) = wfL 0 ds := by simp only [wfD, if_pos hl]
      rw [e]
      have loop : ∀ (es : List PyData) (i : Nat) (a b : Sl), ∃ ρ', (sSeq (sFor (gTupT 2 (gCon (gN 1) (gCon (gN 2) gNil0))) (sIf (mNot (mTest (mCallX [] F_is_kind (gaD (mDat 2) gaNil)))) (sRet (mDat 1)) sNx) (enumD i es)) (sRet (M.pure .none))) [.dat (.tuple ds), a, b] = some (.ret (.dat (wfL i es)), ρ') := by
        intro es
        induction es with
        | nil => exact fun i a b => ⟨_, rfl⟩
        | cons x es ih =>
          intro i a b
          obtain ⟨ρ', e⟩ := f_is_kind x
          have hk : mNot (mTest (mCallX [] F_is_kind (gaD (mDat 2) gaNil))) [.dat (.tuple ds), .dat (.int i), .dat x] = some (.ok (!kindP x), [.dat (.tuple ds), .dat (.int i), .dat x]) := mNot_ok (mTest_ok (call_ok (xs := [.dat x]) (gaD_ok (d := x) rfl gaNil_ok) e))
          cases hp : kindP x with
          | true =>
            rw [hp] at hk
            obtain ⟨ρ', e2⟩ := ih (i + 1) (.dat (.int i)) (.dat x)
            refine ⟨ρ', ?_⟩
            have e3 : wfL i (x :: es) = wfL (i + 1) es := by simp only [wfL, hp, if_true]
            rw [e3, ← e2]
            exact sSeq_congr (sFor_nx (ρ1 := [.dat (.tuple ds), .dat (.int i), .dat x]) rfl ((sIf_f hk).trans rfl))
          | false =>
            rw [hp] at hk
            have e3 : wfL i (x :: es) = .int i := by simp [wfL, hp]
            rw [e3]
            exact ⟨_, sSeq_ret (ρ1 := [.dat (.tuple ds), .dat (.int i), .dat x]) (sFor_ret (ρ1 := [.dat (.tuple ds), .dat (.int i), .dat x]) rfl ((sIf_t hk).trans rfl))⟩
      obtain ⟨ρ', e2⟩ := loop ds 0 .no .no
      exact ⟨ρ', fnOf_ret ((sSeq_nx ((sIf_f (ρ1 := [.dat (.tuple ds), .no, .no]) (mNot_ok (b := true) (mTest_ok hb))).trans rfl)).trans ((sSeq_congr (sForS_ok (by rfl))).trans e2))⟩
    · have e : wfD (.tuple ds) = .int (-1) := by simp only [wfD, if_neg hl]
      rw [e]
      refine bad ?_
      simp only [tbD, Bool.and_eq_false_iff, decide_eq_false_iff_not]
      omega
  | _ => exact bad rfl
end Ev

set_option Elab.async false
set_option linter.all false
set_option maxRecDepth 100000
set_option maxHeartbeats 4000000
/-! k25: fields and records as the program tells them. -/
namespace Ev
open PySem PySem.Spec PyProof.Rows L2 Ed
theorem f_made_fields (d : PyData) : Either F_made_fields [d] "BadFields" (wfD d) d := by
  obtain ⟨ρ', e⟩ := f_wrong_fields d
  have h1 : mCallX [] F_wrong_fields (gaD (mDat 0) gaNil) [.dat d, .no] = some (.ok (wfD d), [.dat d, .no]) := call_ok (xs := [.dat d]) (gaD_ok (d := d) rfl gaNil_ok) e
  refine ⟨[.dat d, .dat (wfD d)], ?_⟩
  have ht : mTest (m2A dNotN (mDat 1) M.pure (M.pure .none)) [.dat d, .dat (wfD d)] = some (.ok (!isNo (wfD d)), [.dat d, .dat (wfD d)]) := mTest_ok (m2_ok (a := wfD d) (b := .none) rfl rfl rfl)
  cases hn : isNo (wfD d) with
  | true =>
    rw [hn] at ht
    exact fnOf_ret ((sSeq_nx (ρ1 := [.dat d, .dat (wfD d)]) (sOf_ok h1)).trans ((sSeq_nx ((sIf_f ht).trans rfl)).trans rfl))
  | false =>
    rw [hn] at ht
    exact fnOf_err ((sSeq_nx (ρ1 := [.dat d, .dat (wfD d)]) (sOf_ok h1)).trans (sSeq_err ((sIf_t ht).trans rfl)))
theorem hdD_eq {zs : List Int} {a : PyData} {ks : List (List Int)} (h : hdD zs a = some ks) : a = .tuple (ks.map tupI) ∧ 1 ≤ ks.length ∧ ks.length ≤ 12 := by
  cases a with
  | tuple ds =>
    change (if 1 ≤ ds.length ∧ ds.length ≤ 12 then (handsL zs ds).bind fun ks => if ks.Nodup then some ks else none else none) = _ at h
    split at h
    · rename_i hl
      obtain ⟨ms, h1, h2⟩ := Option.bind_eq_some_iff.mp h
      split at h2
      · cases h2
        have := handsL_eq h1
        subst this
        rw [List.length_map] at hl
        exact ⟨rfl, hl⟩
      · cases h2
    · cases h
  | _ => cases h
theorem kindP_eq {d : PyData} (h : kindP d = true) : ∃ zs ks, d = .tuple [tupI zs, .tuple (ks.map tupI)] ∧ szD (tupI zs) = some zs ∧ hdD zs (.tuple (ks.map tupI)) = some ks := by
  match d, h with
  | .tuple [s, a], h =>
    unfold kindP wkD at h
    dsimp only at h
    cases hz : szD s with
    | none =>
      rw [hz] at h
      cases h
    | some zs =>
      rw [hz] at h
      dsimp only at h
      cases hh : hdD zs a with
      | none =>
        rw [hh] at h
        cases h
      | some ks =>
        obtain rfl := szD_eq hz
        obtain ⟨rfl, _⟩ := hdD_eq hh
        exact ⟨zs, ks, rfl, hz, hh⟩
  | .tuple [], h => cases h
  | .tuple [_], h => cases h
  | .tuple (_ :: _ :: _ :: _), h => cases h
  | .none, h => cases h
  | .bool _, h => cases h
  | .int _, h => cases h
  | .str _, h => cases h
  | .list _, h => cases h
  | .dict _, h => cases h
theorem wfL_no {ds : List PyData} {i : Nat} (h : isNo (wfL i ds) = true) : ∀ d ∈ ds, kindP d = true := by
  induction ds generalizing i with
  | nil => exact fun d hd => nomatch hd
  | cons x ds ih =>
    unfold wfL at h
    split at h
    · rename_i hx
      intro d hd
      rcases List.mem_cons.mp hd with rfl | hd
      · exact hx
      · exact ih h d hd
    · cases h
theorem wfD_eq {d : PyData} (h : isNo (wfD d) = true) : ∃ ks, d = .tuple ks ∧ (1 ≤ ks.length ∧ ks.length ≤ 6) ∧ ∀ k ∈ ks, kindP k = true := by
  cases d with
  | tuple ds =>
    unfold wfD at h
    dsimp only at h
    split at h
    · rename_i hl
      exact ⟨ds, rfl, hl, wfL_no h⟩
    · cases h
  | _ => cases h
def wrL : Nat → List PyData → List PyData → PyData
  | i, .tuple [_, .tuple as] :: ks, r :: rs => if wbD r 0 (as.length - 1) = true then wrL (i + 1) ks rs else .int i
  | _, _, _ => .none
def wrD : PyData → PyData → PyData
  | .tuple ks, .tuple rs => if rs.length = ks.length then wrL 0 ks rs else .int (-1)
  | _, _ => .int (-1)
theorem atI_nat {α : Type} (xs : List α) (i : Nat) (h : i < xs.length) : atI xs (i : Int) = xs[i]? := by
  unfold atI ixN
  rw [if_pos (by omega), if_pos (by omega)]
  rfl
theorem f_check_record (ks : List PyData) (r : PyData) (hk : ∀ k ∈ ks, kindP k = true) : Either F_check_record [.tuple ks, r] "BadRecord" (wrD (.tuple ks) r) .none := by
  obtain ⟨ρb, eb⟩ := f_tuple_between r ks.length ks.length
  have hb : mCallX [] F_tuple_between (gaD (mDat 1) (gaD (m1 dLen (mDat 0)) (gaD (m1 dLen (mDat 0)) gaNil))) [.dat (.tuple ks), .dat r, .no, .no, .no] = some (.ok (.bool (tbD r ks.length ks.length)), [.dat (.tuple ks), .dat r, .no, .no, .no]) := call_ok (xs := [.dat r, .dat (.int ks.length), .dat (.int ks.length)]) (gaD_ok (d := r) rfl (gaD_ok (d := .int ks.length) rfl (gaD_ok (d := .int ks.length) rfl gaNil_ok))) eb
  have bad : tbD r ks.length ks.length = false → wrD (.tuple ks) r = .int (-1) → Either F_check_record [.tuple ks, r] "BadRecord" (wrD (.tuple ks) r) .none := fun ht e => by
    rw [ht] at hb
    rw [e]
    exact ⟨_, fnOf_err (sSeq_err ((sIf_t (mNot_ok (b := false) (mTest_ok hb))).trans rfl))⟩
  cases r with
  | tuple rs =>
    by_cases hr : rs.length = ks.length
    · have ht : tbD (.tuple rs) ks.length ks.length = true := by simp [tbD, hr]
      rw [ht] at hb
      have e : wrD (.tuple ks) (.tuple rs) = wrL 0 ks rs := by simp only [wrD, if_pos hr]
      rw [e]
      have loop : ∀ (es : List PyData) (i : Nat) (a b c : Sl), (∀ k ∈ es, kindP k = true) → rs.length = i + es.length → ∃ ρ', sFor (gTupT 2 (gCon (gN 2) (gCon (gTupT 2 (gCon (gN 3) (gCon (gN 4) gNil0))) gNil0))) (sIf (mNot (mTest (mCallX [] F_whole_between (gaD (m2A dIx (mDat 1) M.pure (mDat 2)) (gaD (M.pure (.int 0)) (gaD (m2A dSub (m1 dLen (mDat 4)) M.pure (M.pure (.int 1))) gaNil)))))) (sRaise "BadRecord" (mDat 2)) sNx) (enumD i es) [.dat (.tuple ks), .dat (.tuple rs), a, b, c] = some (if isNo (wrL i es (rs.drop i)) = true then .nx else .err "BadRecord" (wrL i es (rs.drop i)), ρ') := by
        intro es
        induction es with
        | nil =>
          intro i a b c _ _
          exact ⟨[.dat (.tuple ks), .dat (.tuple rs), a, b, c], by rfl⟩
        | cons x es ih =>
          intro i a b c hx hn
          rw [List.length_cons] at hn
          obtain ⟨zs, as, rfl, _, _⟩ := kindP_eq (hx x List.mem_cons_self)
          have hi : i < rs.length := by omega
          have hd : rs.drop i = rs[i] :: rs.drop (i + 1) := List.drop_eq_getElem_cons hi
          obtain ⟨ρw, ew⟩ := f_whole_between rs[i] 0 (((as.map tupI).length : Nat) - 1)
          have hk : mNot (mTest (mCallX [] F_whole_between (gaD (m2A dIx (mDat 1) M.pure (mDat 2)) (gaD (M.pure (.int 0)) (gaD (m2A dSub (m1 dLen (mDat 4)) M.pure (M.pure (.int 1))) gaNil))))) [.dat (.tuple ks), .dat (.tuple rs), .dat (.int i), .dat (tupI zs), .dat (.tuple (as.map tupI))] = some (.ok (!wbD rs[i] 0 (((as.map tupI).length : Nat) - 1)), [.dat (.tuple ks), .dat (.tuple rs), .dat (.int i), .dat (tupI zs), .dat (.tuple (as.map tupI))]) :=
            mNot_ok (mTest_ok (call_ok (xs := [.dat rs[i], .dat (.int 0), .dat (.int (((as.map tupI).length : Nat) - 1))]) (gaD_ok (d := rs[i]) (m2_ok (a := .tuple rs) (b := .int i) rfl rfl (by
              show atI rs (i : Int) = _
              rw [atI_nat rs i hi, List.getElem?_eq_getElem hi])) (gaD_ok (d := .int 0) rfl (gaD_ok (d := .int (((as.map tupI).length : Nat) - 1)) rfl gaNil_ok))) ew))
          have e3 : wrL i (.tuple [tupI zs, .tuple (as.map tupI)] :: es) (rs.drop i) = if wbD rs[i] 0 (((as.map tupI).length : Nat) - 1) = true then wrL (i + 1) es (rs.drop (i + 1)) else .int i := by
            rw [hd]
            rfl
          rw [e3]
          cases hp : wbD rs[i] 0 (((as.map tupI).length : Nat) - 1) with
          | true =>
            rw [hp] at hk
            obtain ⟨ρ', e2⟩ := ih (i + 1) (.dat (.int i)) (.dat (tupI zs)) (.dat (.tuple (as.map tupI))) (fun k h => hx k (List.mem_cons_of_mem _ h)) (by omega)
            refine ⟨ρ', ?_⟩
            rw [if_pos rfl, ← e2]
            exact sFor_nx rfl ((sIf_f hk).trans rfl)
          | false =>
            rw [hp] at hk
            exact ⟨_, sFor_err rfl ((sIf_t hk).trans rfl)⟩
      obtain ⟨ρ', e2⟩ := loop ks 0 .no .no .no hk (by omega)
      rw [List.drop_zero] at e2
      have e4 : m_check_record [.dat (.tuple ks), .dat (.tuple rs), .no, .no, .no] = some (if isNo (wrL 0 ks rs) = true then .nx else .err "BadRecord" (wrL 0 ks rs), ρ') :=
        (sSeq_nx ((sIf_f (mNot_ok (b := true) (mTest_ok hb))).trans rfl)).trans ((sForS_ok (by rfl)).trans e2)
      unfold Either
      cases hn : isNo (wrL 0 ks rs) with
      | true =>
        rw [hn, if_pos rfl] at e4
        rw [if_pos rfl]
        exact ⟨_, fnOf_nx e4⟩
      | false =>
        rw [hn, if_neg Bool.false_ne_true] at e4
        rw [if_neg Bool.false_ne_true]
        exact ⟨_, fnOf_err e4⟩
    · refine bad ?_ ?_
      · simp only [tbD, Bool.and_eq_false_iff, decide_eq_false_iff_not]
        omega
      · simp only [wrD, if_neg hr]
  | _ => exact bad rfl rfl
theorem f_made_record (f r : PyData) (hf : isNo (wfD f) = true) : Either F_made_record [f, r] "BadRecord" (wrD f r) r := by
  obtain ⟨ks, rfl, hl, hk⟩ := wfD_eq hf
  obtain ⟨ρa, ea⟩ := f_made_fields (.tuple ks)
  rw [if_pos hf] at ea
  have h1 : mCallX [] F_made_fields (gaD (mDat 0) gaNil) [.dat (.tuple ks), .dat r] = some (.ok (.tuple ks), [.dat (.tuple ks), .dat r]) := call_ok (xs := [.dat (.tuple ks)]) (gaD_ok (d := .tuple ks) rfl gaNil_ok) ea
  obtain ⟨ρc, ec⟩ := f_check_record ks r hk
  unfold Either
  cases hn : isNo (wrD (.tuple ks) r) with
  | true =>
    rw [hn, if_pos rfl] at ec
    rw [if_pos rfl]
    have h2 : mCallX [] F_check_record (gaD (mDat 0) (gaD (mDat 1) gaNil)) [.dat (.tuple ks), .dat r] = some (.ok .none, [.dat (.tuple ks), .dat r]) := call_ok (xs := [.dat (.tuple ks), .dat r]) (gaD_ok (d := .tuple ks) rfl (gaD_ok (d := r) rfl gaNil_ok)) ec
    exact ⟨_, fnOf_ret ((sSeq_nx (sOf_ok h1)).trans ((sSeq_nx (sOf_ok h2)).trans (sRet_ok rfl)))⟩
  | false =>
    rw [hn, if_neg Bool.false_ne_true] at ec
    rw [if_neg Bool.false_ne_true]
    have h2 : mCallX [] F_check_record (gaD (mDat 0) (gaD (mDat 1) gaNil)) [.dat (.tuple ks), .dat r] = some (.err "BadRecord" (wrD (.tuple ks) r), [.dat (.tuple ks), .dat r]) := call_err (xs := [.dat (.tuple ks), .dat r]) (gaD_ok (d := .tuple ks) rfl (gaD_ok (d := r) rfl gaNil_ok)) ec
    exact ⟨_, fnOf_err ((sSeq_nx (sOf_ok h1)).trans (sSeq_err (sOf_err h2)))⟩
theorem f_made_record_f (f r : PyData) (hf : isNo (wfD f) = false) : ∃ ρ', F_made_record [.dat f, .dat r] = some (.err "BadFields" (wfD f), ρ') := by
  obtain ⟨ρa, ea⟩ := f_made_fields f
  rw [hf] at ea
  have h1 : mCallX [] F_made_fields (gaD (mDat 0) gaNil) [.dat f, .dat r] = some (.err "BadFields" (wfD f), [.dat f, .dat r]) := call_err (xs := [.dat f]) (gaD_ok (d := f) rfl gaNil_ok) ea
  exact ⟨_, fnOf_err (sSeq_err (sOf_err h1))⟩
end Ev

set_option Elab.async false
set_option linter.all false
set_option maxRecDepth 100000
set_option maxHeartbeats 4000000
/-! k25: kinds as the law tells them. -/
namespace Ev
open PySem PySem.Spec PyProof.Rows L2 Ed
/-- data that can be compared: no deeper than p -/
def Gd (p : Nat) (d : PyData) : Prop := d.canLay0 = true ∧ d.depth ≤ p
theorem gd_all {p : Nat} : ∀ {ds : List PyData}, (∀ d ∈ ds, Gd p d) ↔ (PyData.canLayAll0 ds = true ∧ PyData.depthAll ds ≤ p)
  | [] => ⟨fun _ => ⟨by rw [PyData.canLayAll0], by rw [PyData.depthAll]; omega⟩, fun _ d h => nomatch h⟩
  | d :: ds => by
    have ih := gd_all (p := p) (ds := ds)
    rw [PyData.canLayAll0, PyData.depthAll, Bool.and_eq_true]
    constructor
    · intro h
      obtain ⟨a, b⟩ := ih.mp fun x hx => h x (List.mem_cons_of_mem _ hx)
      obtain ⟨c, e⟩ := h d List.mem_cons_self
      exact ⟨⟨c, a⟩, Nat.max_le.mpr ⟨e, b⟩⟩
    · rintro ⟨⟨c, a⟩, e⟩ x hx
      obtain ⟨e1, e2⟩ := Nat.max_le.mp e
      rcases List.mem_cons.mp hx with rfl | hx
      · exact ⟨c, e1⟩
      · exact ih.mpr ⟨a, e2⟩ x hx
theorem gd_list {p : Nat} {ds : List PyData} (h : ∀ d ∈ ds, Gd p d) (hp : p ≤ 63) : SeqAt.shaped (.list ds) = true := by
  obtain ⟨a, b⟩ := gd_all.mp h
  unfold SeqAt.shaped
  rw [PyData.canLay0, PyData.depth, a, decide_eq_true (by omega)]
  rfl
theorem gd_tuple {p : Nat} {ds : List PyData} (h : ∀ d ∈ ds, Gd p d) : Gd (p + 1) (.tuple ds) := by
  obtain ⟨a, b⟩ := gd_all.mp h
  exact ⟨by rw [PyData.canLay0]; exact a, by rw [PyData.depth]; omega⟩
theorem gd_mem {p : Nat} {ds : List PyData} (h : Gd (p + 1) (.tuple ds)) : ∀ d ∈ ds, Gd p d := by
  obtain ⟨a, b⟩ := h
  rw [PyData.canLay0] at a
  rw [PyData.depth] at b
  exact gd_all.mpr ⟨a, by omega⟩
theorem gd_sh {p : Nat} {d : PyData} (h : Gd p d) (hp : p ≤ 64) : SeqAt.shaped d = true := by
  unfold SeqAt.shaped
  rw [h.1, decide_eq_true (Nat.le_trans h.2 hp)]
  rfl
theorem gd_int (i : Int) (p : Nat) : Gd p (.int i) := ⟨by rw [PyData.canLay0], by rw [PyData.depth]; omega⟩
theorem gd_mono {p q : Nat} {d : PyData} (h : Gd p d) (hp : p ≤ q) : Gd q d := ⟨h.1, Nat.le_trans h.2 hp⟩
theorem eqv_nil (ds : List PyData) : PyData.eqv (.list ds) (.list []) = ds.isEmpty := by
  rw [PyData.eqv]
  cases ds <;> rfl
/-- a comprehension of what is bad: is it empty -/
theorem bads_ok {j : Nat} {mi : M (List PyData)} {t : M Bool} {ds : List PyData} {q : PyData → Bool} {ρ : List Sl} (hi : mi ρ = some (.ok ds, ρ)) (hl : ds.length ≤ lim) (hr : resto ρ [j] (wS [j] ρ) = ρ)
    (h : ∀ x ∈ ds, t ((wS [j] ρ).set j (.dat x)) = some (.ok (!q x), (wS [j] ρ).set j (.dat x))) (hw : ∀ x, wS [j] ((wS [j] ρ).set j (.dat x)) = wS [j] ρ) (hv : ∀ x, mDat j ((wS [j] ρ).set j (.dat x)) = some (.ok x, (wS [j] ρ).set j (.dat x))) :
    ∃ l : List PyData, mOfL (mLc [j] mi (gN j) t (mDat j)) ρ = some (.ok (.list l), ρ) ∧ l.isEmpty = ds.all q ∧ ∀ x ∈ l, x ∈ ds := by
  have e := mLc_ok (vs := [j]) (mi := mi) (g := gN j) (t := t) (e := mDat j) (p := fun x => !q x) (f := fun x => x) (ds := ds) (ρ := ρ) (ρ1 := ρ) hi hl fun x hx ρ' hρ => ⟨_, rfl, by rw [hρ]; exact hw x, by rw [hρ]; exact h x hx, fun _ => by rw [hρ]; exact hv x⟩
  rw [hr, List.map_id'] at e
  refine ⟨_, mOfL_ok e, ?_, fun x hx => (List.mem_filter.mp hx).1⟩
  rw [Bool.eq_iff_iff, List.isEmpty_iff, List.filter_eq_nil_iff, List.all_eq_true]
  refine forall_congr' fun x => forall_congr' fun _ => ?_
  cases q x <;> simp
theorem eq_nil_ok {m : M PyData} {l : List PyData} {p : Nat} {ρ ρ1 : List Sl} {b : Bool} (h : m ρ = some (.ok (.list l), ρ1)) (hb : l.isEmpty = b) (hg : ∀ x ∈ l, Gd p x) (hp : p ≤ 63) : m2A dEq m M.pure (mOfL (mLst mNil)) ρ = some (.ok (.bool b), ρ1) := by
  refine m2_ok (a := .list l) (b := .list []) h rfl ?_
  show dEq0 _ _ = _
  unfold dEq0
  rw [gd_list hg hp, gd_list (p := 0) (fun d h => (List.not_mem_nil h).elim) (by omega), eqv_nil, hb]
  rfl
theorem ne_nil_ok {m : M PyData} {l : List PyData} {p : Nat} {ρ ρ1 : List Sl} {b : Bool} (h : m ρ = some (.ok (.list l), ρ1)) (hb : l.isEmpty = b) (hg : ∀ x ∈ l, Gd p x) (hp : p ≤ 63) : m2A dNe m M.pure (mOfL (mLst mNil)) ρ = some (.ok (.bool (!b)), ρ1) := by
  refine m2_ok (a := .list l) (b := .list []) h rfl ?_
  show dNe0 _ _ = _
  unfold dNe0
  rw [gd_list hg hp, gd_list (p := 0) (fun d h => (List.not_mem_nil h).elim) (by omega), eqv_nil, hb]
  rfl
theorem dNe_int (a b : Int) : dNe (.int a) (.int b) = some (.bool (!decide (a = b))) := by
  show dNe0 _ _ = _
  unfold dNe0
  rw [gd_sh (gd_int a 0) (by omega), gd_sh (gd_int b 0) (by omega), PyData.eqv]
  rfl
theorem rng_all {f g : PyData → Bool} {l : List PyData} (h : ∀ i x, l[i]? = some x → f (.int ((0 : Int) + (i : Nat))) = g x) : (rngD 0 l.length).all f = l.all g := by
  rw [Bool.eq_iff_iff, List.all_eq_true, List.all_eq_true]
  unfold rngD
  constructor
  · intro z x hx
    obtain ⟨i, hi⟩ := List.mem_iff_getElem?.mp hx
    rw [← h i x hi]
    refine z _ (List.mem_map.mpr ⟨i, List.mem_range.mpr ?_, rfl⟩)
    exact (List.getElem?_eq_some_iff.mp hi).1
  · intro z x hx
    obtain ⟨i, hi, rfl⟩ := List.mem_map.mp hx
    have hi := List.mem_range.mp hi
    rw [h i l[i] (List.getElem?_eq_getElem hi)]
    exact z _ (List.getElem_mem hi)
theorem zip_len (zs : List Int) (as : List PyData) (h : as.length = zs.length) : (zipD (zs.map .int) as).length = zs.length := by
  unfold zipD
  rw [List.length_zipWith, List.length_map]
  omega
theorem rng_ok {m : M PyData} {n : Nat} {ρ ρ1 : List Sl} (h : m ρ = some (.ok (.int n), ρ1)) (hn : n ≤ lim) : mRng (mCons m mNil) ρ = some (.ok (rngD 0 n), ρ1) := by
  unfold mRng
  rw [M.bind_ok (mCons_ok h mNil_ok)]
  show (M.lift (if inR (n : Int) = true then some (rngD 0 (n : Int).toNat) else none)) ρ1 = _
  have : inR (n : Int) = true := inR_iff.mpr (by unfold lim at hn; omega)
  rw [if_pos this]
  rfl
theorem rngD_len (lo : Int) (n : Nat) : (rngD lo n).length = n := by
  unfold rngD
  rw [List.length_map, List.length_range]
theorem rngD_gd {lo : Int} {n : Nat} {x : PyData} (h : x ∈ rngD lo n) (p : Nat) : Gd p x := by
  obtain ⟨i, _, rfl⟩ := List.mem_map.mp h
  exact gd_int _ _
def geD (lo : Int) : PyData → Bool
  | .int i => decide (lo ≤ i)
  | _ => false
theorem f_is_whole (d : PyData) (lo : Int) : Tells F__law_is_whole [d, .int lo] (.bool (geD lo d)) := by
  have h1 : mIsi "int" (mDat 0) [.dat d, .dat (.int lo)] = some (.ok (.bool (isInt d)), [.dat d, .dat (.int lo)]) := mInt_isi rfl
  have h2 : mIsi "bool" (mDat 0) [.dat d, .dat (.int lo)] = some (.ok (.bool (isBoo d)), [.dat d, .dat (.int lo)]) := mBoo_isi rfl
  have h3 : vNot (mIsi "bool" (mDat 0)) [.dat d, .dat (.int lo)] = some (.ok (.bool (!isBoo d)), [.dat d, .dat (.int lo)]) := by
    unfold vNot
    rw [M.bind_ok (mTest_ok h2)]
    rfl
  refine ⟨[.dat d, .dat (.int lo)], fnOf_ret (sRet_ok ?_)⟩
  cases d with
  | int i => exact vAnd_ok (x := true) h1 fun _ => vAnd_ok (x := true) h3 fun _ => rfl
  | bool b => exact vAnd_ok (x := true) h1 fun _ => vAnd_ok (x := false) (y := false) h3 fun z => nomatch z
  | _ => exact vAnd_ok (x := false) (y := false) h1 fun z => nomatch z
theorem f_is_hand (zs : List Int) (d : PyData) (hz : zs.length ≤ 12) : Tells F__law_is_hand [tupI zs, d] (.bool (fitD zs d)) := by
  have hT : mIsi "tuple" (mDat 1) [.dat (tupI zs), .dat d, .no] = some (.ok (.bool (isTup d)), [.dat (tupI zs), .dat d, .no]) := mTup_isi rfl
  have l0 : ∀ a, m1 dLen (mDat 0) [.dat (tupI zs), .dat d, a] = some (.ok (.int zs.length), [.dat (tupI zs), .dat d, a]) := fun a => m1_ok (a := tupI zs) rfl (by unfold tupI dLen; simp)
  cases d with
  | tuple as =>
    have hl : mTest (m2A dNe (m1 dLen (mDat 1)) M.pure (m1 dLen (mDat 0))) [.dat (tupI zs), .dat (.tuple as), .no] = some (.ok (!decide ((as.length : Int) = zs.length)), [.dat (tupI zs), .dat (.tuple as), .no]) := mTest_ok (m2_ok (a := .int as.length) (b := .int zs.length) (m1_ok (a := .tuple as) rfl rfl) (l0 _) (dNe_int _ _))
    have hc := chk_ok (v := .bool false) (x := decide ((as.length : Int) = zs.length)) (mOr_ok (x := false) (mNot_ok (b := true) (mTest_ok hT)) fun _ => hl)
    by_cases e : as.length = zs.length
    · rw [decide_eq_true (by omega)] at hc
      have key : ∀ i x, (zipD (zs.map .int) as)[i]? = some x → ∃ z n, zs[i]? = some z ∧ as[i]? = some n ∧ x = PyData.tuple [.int z, n] := fun i x h => by
        obtain ⟨s, n, h1, h2, rfl⟩ := zipD_get h
        rw [List.getElem?_map] at h1
        obtain ⟨z, hz, rfl⟩ := Option.map_eq_some_iff.mp h1
        exact ⟨z, n, hz, h2, rfl⟩
      obtain ⟨l, e1, e2, e3⟩ := bads_ok (j := 2) (mi := mRng (mCons (m1 dLen (mDat 0)) mNil)) (ds := rngD 0 zs.length) (q := fun x => match x with
          | .int i => match zs[i.toNat]?, as[i.toNat]? with
            | some z, some n => numOk z n
            | _, _ => false
          | _ => false) (ρ := [.dat (tupI zs), .dat (.tuple as), .no]) (t := mOr (mNot (mTest (mCallX [] F__law_is_whole (gaD (m2A dIx (mDat 1) M.pure (mDat 2)) (gaD (M.pure (.int 0)) gaNil))))) (mTest (m2A dGe (m2A dIx (mDat 1) M.pure (mDat 2)) M.pure (m2A dIx (mDat 0) M.pure (mDat 2))))) (rng_ok (l0 _) (by unfold lim; omega)) (by rw [rngD_len]; unfold lim; omega) rfl (by
        intro x hx
        obtain ⟨i, hi, rfl⟩ := List.mem_map.mp hx
        have hi := List.mem_range.mp hi
        have ha : i < as.length := by omega
        have ei : ((0 : Int) + (i : Nat)).toNat = i := by omega
        show mOr _ _ [.dat (tupI zs), .dat (.tuple as), .dat (.int (0 + (i : Nat)))] = some (.ok (!(match zs[((0 : Int) + (i : Nat)).toNat]?, as[((0 : Int) + (i : Nat)).toNat]? with
            | some z, some n => numOk z n
            | _, _ => false)), [.dat (tupI zs), .dat (.tuple as), .dat (.int (0 + (i : Nat)))])
        rw [ei, List.getElem?_eq_getElem hi, List.getElem?_eq_getElem ha]
        rw [show (0 : Int) + (i : Nat) = (i : Nat) by omega]
        have ga : m2A dIx (mDat 1) M.pure (mDat 2) [.dat (tupI zs), .dat (.tuple as), .dat (.int (i : Nat))] = some (.ok as[i], [.dat (tupI zs), .dat (.tuple as), .dat (.int (i : Nat))]) := m2_ok (a := .tuple as) (b := .int (i : Nat)) rfl rfl (by
          show atI as (i : Int) = _
          rw [atI_nat as i ha, List.getElem?_eq_getElem ha])
        have gz : m2A dIx (mDat 0) M.pure (mDat 2) [.dat (tupI zs), .dat (.tuple as), .dat (.int (i : Nat))] = some (.ok (.int zs[i]), [.dat (tupI zs), .dat (.tuple as), .dat (.int (i : Nat))]) := m2_ok (a := tupI zs) (b := .int (i : Nat)) rfl rfl (by
          show atI (zs.map PyData.int) (i : Int) = _
          rw [atI_nat _ i (by rw [List.length_map]; exact hi), List.getElem?_map, List.getElem?_eq_getElem hi]
          rfl)
        obtain ⟨ρw, ew⟩ := f_is_whole as[i] 0
        have hw : mNot (mTest (mCallX [] F__law_is_whole (gaD (m2A dIx (mDat 1) M.pure (mDat 2)) (gaD (M.pure (.int 0)) gaNil)))) [.dat (tupI zs), .dat (.tuple as), .dat (.int (i : Nat))] = some (.ok (!geD 0 as[i]), [.dat (tupI zs), .dat (.tuple as), .dat (.int (i : Nat))]) := mNot_ok (mTest_ok (call_ok (xs := [.dat as[i], .dat (.int 0)]) (gaD_ok ga (gaD_ok (d := .int 0) rfl gaNil_ok)) ew))
        generalize as[i] = a at *
        cases a with
        | int n =>
          have e4 : (!numOk zs[i] (.int n)) = ((!geD 0 (.int n)) || decide (zs[i] ≤ n)) := by
            rw [Bool.eq_iff_iff]
            simp only [numOk, geD, Bool.not_eq_true', Bool.or_eq_true, Bool.and_eq_false_iff, decide_eq_true_eq, decide_eq_false_iff_not]
            omega
          show _ = some (Rs.ok (!numOk zs[i] (.int n)), _)
          rw [e4]
          exact mOr_ok hw fun _ => mTest_ok (m2_ok ga gz rfl)
        | _ => exact mOr_ok (x := true) (y := false) hw fun z => nomatch z) (fun x => rfl) fun x => rfl
      have e5 : fitD zs (.tuple as) = (zipD (zs.map .int) as).all numP := by simp [fitD, e]
      rw [e5]
      refine ⟨_, fnOf_ret ((sSeq_nx hc).trans (sRet_ok (eq_nil_ok (p := 0) e1 ?_ (fun x hx => rngD_gd (e3 x hx) 0) (by omega))))⟩
      rw [e2, ← zip_len zs as e]
      refine rng_all fun i x hx => ?_
      obtain ⟨z, n, h1, h2, rfl⟩ := key i x hx
      have ei : ((0 : Int) + (i : Nat)).toNat = i := by omega
      dsimp only
      rw [ei, h1, h2]
      rfl
    · rw [decide_eq_false (by omega)] at hc
      have e5 : fitD zs (.tuple as) = false := by simp [fitD, e]
      rw [e5]
      exact ⟨_, fnOf_ret (sSeq_ret hc)⟩
  | _ => exact ⟨_, fnOf_ret (sSeq_ret (chk_ok (v := .bool false) (x := false) (mOr_ok (x := true) (y := false) (mNot_ok (b := false) (mTest_ok hT)) fun z => nomatch z)))⟩
end Ev

set_option Elab.async false
set_option linter.all false
set_option maxRecDepth 100000
set_option maxHeartbeats 4000000
/-! k25: kinds as the law tells them, whole. -/
namespace Ev
open PySem PySem.Spec PyProof.Rows L2 Ed
theorem nodup_take (ks : List (List Int)) : ks.Nodup ↔ ∀ i (h : i < ks.length), ks[i] ∉ ks.take i := by
  unfold List.Nodup
  rw [List.pairwise_iff_getElem]
  constructor
  · intro h i hi hm
    obtain ⟨j, hj, e⟩ := List.mem_iff_getElem.mp hm
    rw [List.length_take] at hj
    rw [List.getElem_take] at e
    exact h j i (by omega) hi (by omega) e
  · intro h i j hi hj hij e
    refine h j hj (List.mem_iff_getElem.mpr ⟨i, by rw [List.length_take]; omega, ?_⟩)
    rw [List.getElem_take, e]
theorem eqv_tupI (a b : List Int) : PyData.eqv (tupI a) (tupI b) = decide (a = b) := by
  unfold tupI
  rw [PyData.eqv]
  induction a generalizing b with
  | nil => cases b <;> simp [PyData.eqvAll]
  | cons x a ih =>
    cases b with
    | nil => simp [PyData.eqvAll]
    | cons y b =>
      rw [List.map_cons, List.map_cons, PyData.eqvAll, ih, PyData.eqv, Bool.eq_iff_iff]
      simp
theorem geD_sizeP : geD 2 = sizeP := by
  funext d
  cases d <;> rfl
theorem szD_some (ds : List PyData) : (szD (.tuple ds)).isSome = (decide (ds.length ≤ 12) && ds.all sizeP) := by
  show (if ds.length ≤ 12 then sizesL ds else none).isSome = _
  rw [sizesL_all]
  by_cases h : ds.length ≤ 12 <;> simp [h]
theorem sz_testL (s a d : PyData) (p : Nat) (hp : p ≤ 60) (hs : Gd (p + 1) s) (ρ : List Sl) (hρ : ρ = [.dat d, .dat s, .dat a, .no, .no, .no]) : (mOr (mNot (mTest (mIsi "tuple" (mDat 1)))) (mOr (mTest (m2A dGt (m1 dLen (mDat 1)) M.pure (M.pure (.int 12)))) (mTest (m2A dNe (mOfL (mLc [3] (mSeq (mDat 1)) (gN 3) (mNot (mTest (mCallX [] F__law_is_whole (gaD (mDat 3) (gaD (M.pure (.int 2)) gaNil))))) (mDat 3))) M.pure (mOfL (mLst mNil)))))) ρ = some (.ok (!(szD s).isSome), ρ) := by
  subst hρ
  have hT : mIsi "tuple" (mDat 1) [.dat d, .dat s, .dat a, .no, .no, .no] = some (.ok (.bool (isTup s)), [.dat d, .dat s, .dat a, .no, .no, .no]) := mTup_isi rfl
  cases s with
  | tuple ds =>
    have hl : mTest (m2A dGt (m1 dLen (mDat 1)) M.pure (M.pure (.int 12))) [.dat d, .dat (.tuple ds), .dat a, .no, .no, .no] = some (.ok (decide ((12 : Int) < ds.length)), [.dat d, .dat (.tuple ds), .dat a, .no, .no, .no]) := mTest_ok (m2_ok (a := .int ds.length) (b := .int 12) (m1_ok (a := .tuple ds) rfl rfl) rfl rfl)
    rw [szD_some]
    by_cases h : ds.length ≤ 12
    · rw [decide_eq_false (by omega)] at hl
      obtain ⟨l, e1, e2, e3⟩ := bads_ok (j := 3) (mi := mSeq (mDat 1)) (ds := ds) (q := geD 2) (ρ := [.dat d, .dat (.tuple ds), .dat a, .no, .no, .no]) (t := mNot (mTest (mCallX [] F__law_is_whole (gaD (mDat 3) (gaD (M.pure (.int 2)) gaNil))))) rfl (by unfold lim; omega) rfl (fun x hx => by
        obtain ⟨ρw, ew⟩ := f_is_whole x 2
        exact mNot_ok (mTest_ok (call_ok (xs := [.dat x, .dat (.int 2)]) (gaD_ok (d := x) rfl (gaD_ok (d := .int 2) rfl gaNil_ok)) ew))) (fun x => rfl) fun x => rfl
      rw [geD_sizeP] at e2
      rw [decide_eq_true h, Bool.true_and]
      exact mOr_ok (x := false) (mNot_ok (b := true) (mTest_ok hT)) fun _ => mOr_ok (x := false) hl fun _ => mTest_ok (ne_nil_ok (p := p) e1 e2 (fun x hx => gd_mem hs x (e3 x hx)) (by omega))
    · rw [decide_eq_true (by omega)] at hl
      rw [decide_eq_false h, Bool.false_and]
      exact mOr_ok (x := false) (y := true) (mNot_ok (b := true) (mTest_ok hT)) fun _ => mOr_ok (x := true) (y := false) hl fun z => nomatch z
  | _ => exact mOr_ok (x := true) (y := false) (mNot_ok (b := false) (mTest_ok hT)) fun z => nomatch z
theorem all_congr {α : Type} {l : List α} {p q : α → Bool} (h : ∀ x ∈ l, p x = q x) : l.all p = l.all q := by
  rw [Bool.eq_iff_iff, List.all_eq_true, List.all_eq_true]
  exact forall_congr' fun x => forall_congr' fun hx => by rw [h x hx]
theorem cut_take (ds : List PyData) (i : Nat) (h : i ≤ ds.length) : Ed.cutD ds none (some (i : Int)) = ds.take i := by
  unfold Ed.cutD
  show (ds.drop 0).take ((if (i : Int) < 0 then ((i : Int) + ds.length).toNat else min (i : Int).toNat ds.length) - 0) = _
  rw [if_neg (by omega), List.drop_zero, Nat.sub_zero]
  congr 1
  omega
theorem f_law_wrong_kind (d : PyData) (p : Nat) (hp : p ≤ 57) (hg : Gd (p + 3) d) : Tells F__law_wrong_kind [d] (wkD d) := by
  have hT : mIsi "tuple" (mDat 0) [.dat d, .no, .no, .no, .no, .no] = some (.ok (.bool (isTup d)), [.dat d, .no, .no, .no, .no, .no]) := mTup_isi rfl
  have bad : mTest (m2A dNe (m1 dLen (mDat 0)) M.pure (M.pure (.int 2))) [.dat d, .no, .no, .no, .no, .no] = some (.ok true, [.dat d, .no, .no, .no, .no, .no]) → isTup d = true → Tells F__law_wrong_kind [d] (.int (-1)) := fun h ht => by
    rw [ht] at hT
    exact ⟨_, fnOf_ret (sSeq_ret ((sIf_t (mOr_ok (x := false) (y := true) (mNot_ok (b := true) (mTest_ok hT)) fun _ => h)).trans rfl))⟩
  have bad2 : isTup d = false → Tells F__law_wrong_kind [d] (.int (-1)) := fun ht => by
    rw [ht] at hT
    exact ⟨_, fnOf_ret (sSeq_ret ((sIf_t (mOr_ok (x := true) (y := false) (mNot_ok (b := false) (mTest_ok hT)) fun z => nomatch z)).trans rfl))⟩
  match d with
  | .tuple [s, a] =>
    have gs := gd_mem hg s List.mem_cons_self
    have ga := gd_mem hg a (List.mem_cons_of_mem _ List.mem_cons_self)
    have h0 : sIf (mOr (mNot (mTest (mIsi "tuple" (mDat 0)))) (mTest (m2A dNe (m1 dLen (mDat 0)) M.pure (M.pure (.int 2))))) (sRet (m1 dNeg (M.pure (.int 1)))) sNx [.dat (.tuple [s, a]), .no, .no, .no, .no, .no] = some (.nx, [.dat (.tuple [s, a]), .no, .no, .no, .no, .no]) := (sIf_f (mOr_ok (x := false) (y := false) (mNot_ok (b := true) (mTest_ok hT)) fun _ => mTest_ok (m2_ok (a := .int 2) (b := .int 2) rfl rfl (dNe_int 2 2)))).trans rfl
    have hc := chk_ok (v := .int 0) (sz_testL s a (.tuple [s, a]) (p + 1) (by omega) gs _ rfl)
    cases hz : szD s with
    | none =>
      rw [hz] at hc
      have : wkD (.tuple [s, a]) = .int 0 := by simp only [wkD, hz]
      rw [this]
      exact ⟨_, fnOf_ret ((sSeq_nx h0).trans ((sSeq_nx (ρ1 := [.dat (.tuple [s, a]), .dat s, .dat a, .no, .no, .no]) rfl).trans (sSeq_ret hc)))⟩
    | some zs =>
      rw [hz] at hc
      obtain rfl := szD_eq hz
      have hzl : zs.length ≤ 12 := by
        have : (szD (tupI zs)).isSome = true := by rw [hz]; rfl
        unfold tupI at this
        rw [szD_some, Bool.and_eq_true, decide_eq_true_eq, List.length_map] at this
        exact this.1
      have st : ∀ v ρ', (sSeq (sIf (mOr (mNot (mTest (mIsi "tuple" (mDat 2)))) (mNot (mTest (mChain dLe dLe (M.pure (.int 1)) (m1 dLen (mDat 2)) (M.pure (.int 12)))))) (sRet (M.pure (.int 1))) sNx)
  (sSeq (sIf (mTest (m2A dNe (mOfL (mLc [4] (mSeq (mDat 2)) (gN 4) (mNot (mTest (mCallX [] F__law_is_hand (gaD (mDat 1) (gaD (mDat 4) gaNil))))) (mDat 4))) M.pure (mOfL (mLst mNil)))) (sRet (M.pure (.int 1))) sNx)
  (sRet (mIf (mTest (m2A dNe (mOfL (mLc [5] (mRng (mCons (m1 dLen (mDat 2)) mNil)) (gN 5) (mTest (m2A (dInS false) (m2A dIx (mDat 2) M.pure (mDat 5)) M.pure (mSl dCutA (mDat 2) M.pure mNoP (mPart (mDat 5))))) (mDat 5))) M.pure (mOfL (mLst mNil)))) (M.pure (.int 1)) (M.pure .none))))) [.dat (.tuple [tupI zs, a]), .dat (tupI zs), .dat a, .no, .no, .no] = some (.ret (.dat v), ρ') → Tells F__law_wrong_kind [.tuple [tupI zs, a]] v := fun v ρ' h =>
        ⟨_, fnOf_ret ((sSeq_nx h0).trans ((sSeq_nx (ρ1 := [.dat (.tuple [tupI zs, a]), .dat (tupI zs), .dat a, .no, .no, .no]) rfl).trans ((sSeq_nx hc).trans h)))⟩
      have hT2 : mIsi "tuple" (mDat 2) [.dat (.tuple [tupI zs, a]), .dat (tupI zs), .dat a, .no, .no, .no] = some (.ok (.bool (isTup a)), [.dat (.tuple [tupI zs, a]), .dat (tupI zs), .dat a, .no, .no, .no]) := mTup_isi rfl
      have hna : isTup a = false → wkD (.tuple [tupI zs, a]) = .int 1 := fun h => by
        simp only [wkD, hz]
        cases a <;> first | rfl | cases h
      cases a with
      | tuple ds =>
        have hch : mTest (mChain dLe dLe (M.pure (.int 1)) (m1 dLen (mDat 2)) (M.pure (.int 12))) [.dat (.tuple [tupI zs, .tuple ds]), .dat (tupI zs), .dat (.tuple ds), .no, .no, .no] = some (.ok (decide ((1 : Int) ≤ ds.length) && decide ((ds.length : Int) ≤ 12)), [.dat (.tuple [tupI zs, .tuple ds]), .dat (tupI zs), .dat (.tuple ds), .no, .no, .no]) := mTest_ok (mChain_ok (x := .int 1) (y := .int ds.length) (z := .int 12) rfl (m1_ok (a := .tuple ds) rfl rfl) rfl rfl rfl)
        have hq := chk_ok (v := .int 1) (x := decide ((1 : Int) ≤ ds.length) && decide ((ds.length : Int) ≤ 12)) (mOr_ok (x := false) (mNot_ok (b := true) (mTest_ok hT2)) fun _ => mNot_ok hch)
        by_cases hl : 1 ≤ ds.length ∧ ds.length ≤ 12
        · rw [decide_eq_true (by omega), decide_eq_true (by omega)] at hq
          obtain ⟨l, e1, e2, e3⟩ := bads_ok (j := 4) (mi := mSeq (mDat 2)) (ds := ds) (q := fitD zs) (ρ := [.dat (.tuple [tupI zs, .tuple ds]), .dat (tupI zs), .dat (.tuple ds), .no, .no, .no]) (t := mNot (mTest (mCallX [] F__law_is_hand (gaD (mDat 1) (gaD (mDat 4) gaNil))))) rfl (by unfold lim; omega) rfl (fun x hx => by
            obtain ⟨ρw, ew⟩ := f_is_hand zs x hzl
            exact mNot_ok (mTest_ok (call_ok (xs := [.dat (tupI zs), .dat x]) (gaD_ok (d := tupI zs) rfl (gaD_ok (d := x) rfl gaNil_ok)) ew))) (fun x => rfl) fun x => rfl
          rw [handsL_all] at e2
          have hn := chk_ok (v := .int 1) (mTest_ok (ne_nil_ok (p := p + 1) e1 e2 (fun x hx => gd_mem ga x (e3 x hx)) (by omega)))
          cases hk : handsL zs ds with
          | none =>
            rw [hk] at hn
            have : wkD (.tuple [tupI zs, .tuple ds]) = .int 1 := by
              simp only [wkD, hz, hdD, hk, if_pos hl]
              rfl
            rw [this]
            exact st _ _ ((sSeq_nx hq).trans (sSeq_ret hn))
          | some ks =>
            rw [hk] at hn
            obtain rfl := handsL_eq hk
            have hlk : ks.length ≤ 12 := by
              rw [List.length_map] at hl
              omega
            obtain ⟨l2, f1, f2, f3⟩ := bads_ok (j := 5) (mi := mRng (mCons (m1 dLen (mDat 2)) mNil)) (ds := rngD 0 ks.length) (q := fun x => match x with
                | .int i => match ks[i.toNat]? with
                  | some k => !((ks.take i.toNat).any fun z => decide (z = k))
                  | none => false
                | _ => false) (ρ := [.dat (.tuple [tupI zs, .tuple (ks.map tupI)]), .dat (tupI zs), .dat (.tuple (ks.map tupI)), .no, .no, .no]) (t := mTest (m2A (dInS false) (m2A dIx (mDat 2) M.pure (mDat 5)) M.pure (mSl dCutA (mDat 2) M.pure mNoP (mPart (mDat 5))))) (rng_ok (m1_ok (a := .tuple (ks.map tupI)) rfl (by show some (PyData.int (ks.map tupI).length) = _; rw [List.length_map])) (by unfold lim; omega)) (by rw [rngD_len]; unfold lim; omega) rfl (by
              intro x hx
              obtain ⟨i, hi, rfl⟩ := List.mem_map.mp hx
              have hi := List.mem_range.mp hi
              have ei : ((0 : Int) + (i : Nat)).toNat = i := by omega
              show mTest _ [.dat (.tuple [tupI zs, .tuple (ks.map tupI)]), .dat (tupI zs), .dat (.tuple (ks.map tupI)), .no, .no, .dat (.int (0 + (i : Nat)))] = some (.ok (!(match ks[((0 : Int) + (i : Nat)).toNat]? with
                | some k => !((ks.take ((0 : Int) + (i : Nat)).toNat).any fun z => decide (z = k))
                | none => false)), [.dat (.tuple [tupI zs, .tuple (ks.map tupI)]), .dat (tupI zs), .dat (.tuple (ks.map tupI)), .no, .no, .dat (.int (0 + (i : Nat)))])
              rw [ei, List.getElem?_eq_getElem hi]
              rw [show (0 : Int) + (i : Nat) = (i : Nat) by omega]
              dsimp only
              rw [Bool.not_not]
              refine mTest_ok (m2_ok (a := tupI ks[i]) (b := .tuple ((ks.map tupI).take i)) (m2_ok (a := .tuple (ks.map tupI)) (b := .int (i : Nat)) rfl rfl ?_) ?_ ?_)
              · show atI (ks.map tupI) (i : Int) = _
                rw [atI_nat _ i (by rw [List.length_map]; exact hi), List.getElem?_map, List.getElem?_eq_getElem hi]
                rfl
              · show some (Rs.ok (PyData.tuple (Ed.cutD (ks.map tupI) none (some (i : Int)))), _) = _
                rw [cut_take _ i (by rw [List.length_map]; omega)]
              · have g1 : ∀ x ∈ ks.map tupI, Gd (p + 1) x := gd_mem ga
                unfold dInS
                dsimp only
                rw [gd_sh (g1 _ (List.mem_map.mpr ⟨_, List.getElem_mem hi, rfl⟩)) (by omega), gd_sh (gd_tuple fun x hx => g1 x (List.mem_of_mem_take hx)) (by omega)]
                rw [← List.map_take, List.any_map, Bool.false_xor]
                have e9 : ((fun z => z.eqv (tupI ks[i])) ∘ tupI) = fun z => decide (z = ks[i]) := funext fun z => eqv_tupI z ks[i]
                rw [e9]
                rfl) (fun x => rfl) fun x => rfl
            have hnd : (rngD 0 ks.length).all (fun x => match x with
                | .int i => match ks[i.toNat]? with
                  | some k => !((ks.take i.toNat).any fun z => decide (z = k))
                  | none => false
                | _ => false) = decide ks.Nodup := by
              rw [Bool.eq_iff_iff, List.all_eq_true, decide_eq_true_eq, nodup_take]
              constructor
              · intro h i hi hm
                have := h (.int (0 + (i : Nat))) (List.mem_map.mpr ⟨i, List.mem_range.mpr hi, rfl⟩)
                have ei : ((0 : Int) + (i : Nat)).toNat = i := by omega
                dsimp only at this
                rw [ei, List.getElem?_eq_getElem hi] at this
                simp only [Bool.not_eq_true', List.any_eq_false, decide_eq_true_eq] at this
                exact this _ hm rfl
              · intro h x hx
                obtain ⟨i, hi, rfl⟩ := List.mem_map.mp hx
                have hi := List.mem_range.mp hi
                have ei : ((0 : Int) + (i : Nat)).toNat = i := by omega
                dsimp only
                rw [ei, List.getElem?_eq_getElem hi]
                simp only [Bool.not_eq_true', List.any_eq_false, decide_eq_true_eq]
                rintro z hz rfl
                exact h i hi hz
            rw [hnd] at f2
            have hm := mTest_ok (ne_nil_ok (p := 0) f1 f2 (fun x hx => rngD_gd (f3 x hx) 0) (by omega))
            have hw : wkD (.tuple [tupI zs, .tuple (ks.map tupI)]) = if decide ks.Nodup = true then .none else .int 1 := by
              simp only [wkD, hz, hdD, hk, if_pos hl, Option.bind_some]
              by_cases hnd : ks.Nodup <;> simp [hnd]
            rw [hw]
            refine st _ [.dat (.tuple [tupI zs, .tuple (ks.map tupI)]), .dat (tupI zs), .dat (.tuple (ks.map tupI)), .no, .no, .no] ((sSeq_nx hq).trans ((sSeq_nx hn).trans (sRet_ok ?_)))
            unfold mIf
            rw [M.bind_ok hm]
            cases decide ks.Nodup <;> rfl
        · have : (decide ((1 : Int) ≤ ds.length) && decide ((ds.length : Int) ≤ 12)) = false := by
            rw [Bool.and_eq_false_iff, decide_eq_false_iff_not, decide_eq_false_iff_not]
            omega
          rw [this] at hq
          have : wkD (.tuple [tupI zs, .tuple ds]) = .int 1 := by simp only [wkD, hz, hdD, if_neg hl]
          rw [this]
          exact st _ _ (sSeq_ret hq)
      | _ =>
        rw [hna rfl]
        exact st _ _ (sSeq_ret (chk_ok (v := .int 1) (x := false) (mOr_ok (x := true) (y := false) (mNot_ok (b := false) (mTest_ok hT2)) fun z => nomatch z)))
  | .tuple [] => exact bad rfl rfl
  | .tuple [_] => exact bad rfl rfl
  | .tuple (x :: y :: z :: l) =>
    refine bad (mTest_ok ((m2_ok (a := .int (x :: y :: z :: l).length) (b := .int 2) (m1_ok (a := .tuple (x :: y :: z :: l)) rfl rfl) rfl (dNe_int _ _)).trans ?_)) rfl
    rw [decide_eq_false (by simp only [List.length_cons]; omega)]
    rfl
  | .none => exact bad2 rfl
  | .bool _ => exact bad2 rfl
  | .int _ => exact bad2 rfl
  | .str _ => exact bad2 rfl
  | .list _ => exact bad2 rfl
  | .dict _ => exact bad2 rfl
end Ev

set_option Elab.async false
set_option linter.all false
set_option maxRecDepth 100000
set_option maxHeartbeats 4000000
/-! k25: fields and records as the law tells them; what is heard. -/
namespace Ev
open PySem PySem.Spec PyProof.Rows L2 Ed
theorem drop_at {α : Type} {l es : List α} {i : Nat} {x : α} (h : l.drop i = x :: es) : i < l.length ∧ l[i]? = some x ∧ l.drop (i + 1) = es := by
  have h0 : l[i]? = some x := by
    have : (l.drop i)[0]? = some x := by rw [h]; rfl
    rwa [List.getElem?_drop, Nat.add_zero] at this
  refine ⟨(List.getElem?_eq_some_iff.mp h0).1, h0, ?_⟩
  rw [← List.drop_drop, h]
  rfl
theorem rngD_cons (i n : Nat) : rngD (i : Int) (n + 1) = .int (i : Int) :: rngD ((i + 1 : Nat) : Int) n := by
  unfold rngD
  rw [List.range_succ_eq_map, List.map_cons, List.map_map]
  have e1 : (PyData.int ((i : Int) + ((0 : Nat) : Int))) = .int i := by simp
  have e2 : (List.map ((fun (k : Nat) => PyData.int ((i : Int) + k)) ∘ Nat.succ) (List.range n)) = (List.range n).map fun (k : Nat) => PyData.int (((i + 1 : Nat) : Int) + k) := List.map_congr_left fun k _ => by
    show PyData.int ((i : Int) + ((k + 1 : Nat) : Int)) = PyData.int (((i + 1 : Nat) : Int) + k)
    congr 1
    omega
  exact congr (congrArg List.cons e1) e2
theorem f_law_wrong_fields (d : PyData) (p : Nat) (hp : p ≤ 57) (hg : Gd (p + 4) d) : Tells F__law_wrong_fields [d] (wfD d) := by
  have hT : mIsi "tuple" (mDat 0) [.dat d, .no] = some (.ok (.bool (isTup d)), [.dat d, .no]) := mTup_isi rfl
  cases d with
  | tuple ds =>
    have hch : mTest (mChain dLe dLe (M.pure (.int 1)) (m1 dLen (mDat 0)) (M.pure (.int 6))) [.dat (.tuple ds), .no] = some (.ok (decide ((1 : Int) ≤ ds.length) && decide ((ds.length : Int) ≤ 6)), [.dat (.tuple ds), .no]) := mTest_ok (mChain_ok (x := .int 1) (y := .int ds.length) (z := .int 6) rfl (m1_ok (a := .tuple ds) rfl rfl) rfl rfl rfl)
    have ht := mOr_ok (x := false) (mNot_ok (b := true) (mTest_ok hT)) fun _ => mNot_ok hch
    by_cases hl : 1 ≤ ds.length ∧ ds.length ≤ 6
    · rw [decide_eq_true (by omega), decide_eq_true (by omega)] at ht
      have e : wfD (.tuple ds) = wfL 0 ds := by simp only [wfD, if_pos hl]
      rw [e]
      have loop : ∀ (es : List PyData) (i : Nat) (a : Sl), ds.drop i = es → ∃ ρ', (sSeq (sFor (gN 1) (sIf (mTest (m2A dNotN (mCallX [] F__law_wrong_kind (gaD (m2A dIx (mDat 0) M.pure (mDat 1)) gaNil)) M.pure (M.pure .none))) (sRet (mDat 1)) sNx) (rngD (i : Int) es.length)) (sRet (M.pure .none))) [.dat (.tuple ds), a] = some (.ret (.dat (wfL i es)), ρ') := by
        intro es
        induction es with
        | nil => exact fun i a _ => ⟨_, rfl⟩
        | cons x es ih =>
          intro i a hd
          obtain ⟨hi, hx, hd2⟩ := drop_at hd
          rw [List.length_cons, rngD_cons]
          have gx : Gd (p + 3) x := gd_mem hg x (List.mem_iff_getElem?.mpr ⟨i, hx⟩)
          obtain ⟨ρ', e⟩ := f_law_wrong_kind x p hp gx
          have hk : mTest (m2A dNotN (mCallX [] F__law_wrong_kind (gaD (m2A dIx (mDat 0) M.pure (mDat 1)) gaNil)) M.pure (M.pure .none)) [.dat (.tuple ds), .dat (.int (i : Nat))] = some (.ok (!kindP x), [.dat (.tuple ds), .dat (.int (i : Nat))]) := mTest_ok (m2_ok (a := wkD x) (b := .none) (call_ok (xs := [.dat x]) (gaD_ok (d := x) (m2_ok (a := .tuple ds) (b := .int (i : Nat)) rfl rfl (by
            show atI ds (i : Int) = _
            rw [atI_nat ds i hi, hx])) gaNil_ok) e) rfl rfl)
          cases hp : kindP x with
          | true =>
            rw [hp] at hk
            obtain ⟨ρ', e2⟩ := ih (i + 1) (.dat (.int (i : Nat))) hd2
            refine ⟨ρ', ?_⟩
            have e3 : wfL i (x :: es) = wfL (i + 1) es := by simp only [wfL, hp, if_true]
            rw [e3, ← e2]
            exact sSeq_congr (sFor_nx rfl ((sIf_f hk).trans rfl))
          | false =>
            rw [hp] at hk
            have e3 : wfL i (x :: es) = .int i := by simp [wfL, hp]
            rw [e3]
            exact ⟨_, sSeq_ret (sFor_ret rfl ((sIf_t hk).trans rfl))⟩
      obtain ⟨ρ', e2⟩ := loop ds 0 .no rfl
      exact ⟨ρ', fnOf_ret ((sSeq_nx ((sIf_f ht).trans rfl)).trans ((sSeq_congr (sForS_ok (rng_ok (m1_ok (a := .tuple ds) rfl rfl) (by unfold lim; omega)))).trans e2))⟩
    · have : (decide ((1 : Int) ≤ ds.length) && decide ((ds.length : Int) ≤ 6)) = false := by
        rw [Bool.and_eq_false_iff, decide_eq_false_iff_not, decide_eq_false_iff_not]
        omega
      rw [this] at ht
      have e : wfD (.tuple ds) = .int (-1) := by simp only [wfD, if_neg hl]
      rw [e]
      exact ⟨_, fnOf_ret (sSeq_ret ((sIf_t ht).trans rfl))⟩
  | _ => exact ⟨_, fnOf_ret (sSeq_ret ((sIf_t (mOr_ok (x := true) (y := false) (mNot_ok (b := false) (mTest_ok hT)) fun z => nomatch z)).trans rfl))⟩
theorem f_law_wrong_record (f r : PyData) (hf : isNo (wfD f) = true) : Tells F__law_wrong_record [f, r] (wrD f r) := by
  obtain ⟨ks, rfl, hl, hk⟩ := wfD_eq hf
  have hT : mIsi "tuple" (mDat 1) [.dat (.tuple ks), .dat r, .no] = some (.ok (.bool (isTup r)), [.dat (.tuple ks), .dat r, .no]) := mTup_isi rfl
  cases r with
  | tuple rs =>
    have hn : mTest (m2A dNe (m1 dLen (mDat 1)) M.pure (m1 dLen (mDat 0))) [.dat (.tuple ks), .dat (.tuple rs), .no] = some (.ok (!decide ((rs.length : Int) = ks.length)), [.dat (.tuple ks), .dat (.tuple rs), .no]) := mTest_ok (m2_ok (a := .int rs.length) (b := .int ks.length) (m1_ok (a := .tuple rs) rfl rfl) (m1_ok (a := .tuple ks) rfl rfl) (dNe_int _ _))
    have hq := mOr_ok (x := false) (mNot_ok (b := true) (mTest_ok hT)) fun _ => hn
    by_cases hr : rs.length = ks.length
    · rw [decide_eq_true (by omega)] at hq
      have e : wrD (.tuple ks) (.tuple rs) = wrL 0 ks rs := by simp only [wrD, if_pos hr]
      rw [e]
      have loop : ∀ (es fs : List PyData) (i : Nat) (a : Sl), ks.drop i = es → rs.drop i = fs → fs.length = es.length → ∃ ρ', (sSeq (sFor (gN 2) (sIf (mOr (mNot (mTest (mCallX [] F__law_is_whole (gaD (m2A dIx (mDat 1) M.pure (mDat 2)) (gaD (M.pure (.int 0)) gaNil))))) (mTest (m2A dGe (m2A dIx (mDat 1) M.pure (mDat 2)) M.pure (m1 dLen (m2A dIx (m2A dIx (mDat 0) M.pure (mDat 2)) M.pure (M.pure (.int 1))))))) (sRet (mDat 2)) sNx) (rngD (i : Int) fs.length)) (sRet (M.pure .none))) [.dat (.tuple ks), .dat (.tuple rs), a] = some (.ret (.dat (wrL i es fs)), ρ') := by
        intro es
        induction es with
        | nil =>
          intro fs i a _ _ h
          cases fs with
          | nil => exact ⟨_, rfl⟩
          | cons x fs => cases h
        | cons x es ih =>
          intro fs i a hd hd' h
          cases fs with
          | nil => cases h
          | cons y fs =>
            obtain ⟨hi, hx, hd2⟩ := drop_at hd
            obtain ⟨hj, hy, hd3⟩ := drop_at hd'
            obtain ⟨zs, as, rfl, _, _⟩ := kindP_eq (hk x (List.mem_iff_getElem?.mpr ⟨i, hx⟩))
            rw [List.length_cons, rngD_cons]
            obtain ⟨ρw, ew⟩ := f_is_whole y 0
            have gy : m2A dIx (mDat 1) M.pure (mDat 2) [.dat (.tuple ks), .dat (.tuple rs), .dat (.int (i : Nat))] = some (.ok y, [.dat (.tuple ks), .dat (.tuple rs), .dat (.int (i : Nat))]) := m2_ok (a := .tuple rs) (b := .int (i : Nat)) rfl rfl (by
              show atI rs (i : Int) = _
              rw [atI_nat rs i hj, hy])
            have gx : m1 dLen (m2A dIx (m2A dIx (mDat 0) M.pure (mDat 2)) M.pure (M.pure (.int 1))) [.dat (.tuple ks), .dat (.tuple rs), .dat (.int (i : Nat))] = some (.ok (.int (as.map tupI).length), [.dat (.tuple ks), .dat (.tuple rs), .dat (.int (i : Nat))]) := m1_ok (a := .tuple (as.map tupI)) (m2_ok (a := .tuple [tupI zs, .tuple (as.map tupI)]) (b := .int 1) (m2_ok (a := .tuple ks) (b := .int (i : Nat)) rfl rfl (by
              show atI ks (i : Int) = _
              rw [atI_nat ks i hi, hx])) rfl rfl) rfl
            have hw : mNot (mTest (mCallX [] F__law_is_whole (gaD (m2A dIx (mDat 1) M.pure (mDat 2)) (gaD (M.pure (.int 0)) gaNil)))) [.dat (.tuple ks), .dat (.tuple rs), .dat (.int (i : Nat))] = some (.ok (!geD 0 y), [.dat (.tuple ks), .dat (.tuple rs), .dat (.int (i : Nat))]) := mNot_ok (mTest_ok (call_ok (xs := [.dat y, .dat (.int 0)]) (gaD_ok gy (gaD_ok (d := .int 0) rfl gaNil_ok)) ew))
            have hb : (mOr (mNot (mTest (mCallX [] F__law_is_whole (gaD (m2A dIx (mDat 1) M.pure (mDat 2)) (gaD (M.pure (.int 0)) gaNil))))) (mTest (m2A dGe (m2A dIx (mDat 1) M.pure (mDat 2)) M.pure (m1 dLen (m2A dIx (m2A dIx (mDat 0) M.pure (mDat 2)) M.pure (M.pure (.int 1))))))) [.dat (.tuple ks), .dat (.tuple rs), .dat (.int (i : Nat))] = some (.ok (!wbD y 0 (((as.map tupI).length : Nat) - 1)), [.dat (.tuple ks), .dat (.tuple rs), .dat (.int (i : Nat))]) := by
              cases y with
              | int n =>
                have e4 : (!wbD (.int n) 0 (((as.map tupI).length : Nat) - 1)) = ((!geD 0 (.int n)) || decide ((((as.map tupI).length : Nat) : Int) ≤ n)) := by
                  rw [Bool.eq_iff_iff]
                  simp only [wbD, geD, Bool.not_eq_true', Bool.or_eq_true, Bool.and_eq_false_iff, decide_eq_true_eq, decide_eq_false_iff_not]
                  omega
                rw [e4]
                exact mOr_ok hw fun _ => mTest_ok (m2_ok gy gx rfl)
              | _ => exact mOr_ok (x := true) (y := false) hw fun z => nomatch z
            have e3 : wrL i (.tuple [tupI zs, .tuple (as.map tupI)] :: es) (y :: fs) = if wbD y 0 (((as.map tupI).length : Nat) - 1) = true then wrL (i + 1) es fs else .int i := rfl
            rw [e3]
            cases hp : wbD y 0 (((as.map tupI).length : Nat) - 1) with
            | true =>
              rw [hp] at hb
              obtain ⟨ρ', e2⟩ := ih fs (i + 1) (.dat (.int (i : Nat))) hd2 hd3 (Nat.succ.inj h)
              refine ⟨ρ', ?_⟩
              rw [if_pos rfl, ← e2]
              exact sSeq_congr (sFor_nx rfl ((sIf_f hb).trans rfl))
            | false =>
              rw [hp] at hb
              exact ⟨_, sSeq_ret (sFor_ret rfl ((sIf_t hb).trans rfl))⟩
      obtain ⟨ρ', e2⟩ := loop ks rs 0 .no rfl rfl hr
      exact ⟨ρ', fnOf_ret ((sSeq_nx ((sIf_f hq).trans rfl)).trans ((sSeq_congr (sForS_ok (rng_ok (m1_ok (a := .tuple rs) rfl rfl) (by unfold lim; omega)))).trans e2))⟩
    · rw [decide_eq_false (by omega)] at hq
      have e : wrD (.tuple ks) (.tuple rs) = .int (-1) := by simp only [wrD, if_neg hr]
      rw [e]
      exact ⟨_, fnOf_ret (sSeq_ret ((sIf_t hq).trans rfl))⟩
  | _ => exact ⟨_, fnOf_ret (sSeq_ret ((sIf_t (mOr_ok (x := true) (y := false) (mNot_ok (b := false) (mTest_ok hT)) fun z => nomatch z)).trans rfl))⟩
end Ev

set_option Elab.async false
set_option linter.all false
set_option maxRecDepth 100000
set_option maxHeartbeats 4000000
/-! k25: what is heard, and what is due. -/
namespace Ev
open PySem PySem.Spec PyProof.Rows L2 Ed
theorem mFn_ok {i : Nat} {G : List PyData → Option (Rs PyData)} {d : PyData} {ρ : List Sl} (hi : ρ[i]? = some (.fn G)) (h : G [] = some (.ok d)) : mFn i mNil ρ = some (.ok d, ρ) := by
  unfold mFn
  rw [hi]
  dsimp only
  rw [M.bind_ok mNil_ok, h]
theorem mFn_err {i : Nat} {G : List PyData → Option (Rs PyData)} {cn : Str} {x : PyData} {ρ : List Sl} (hi : ρ[i]? = some (.fn G)) (h : G [] = some (.err cn x)) : mFn i mNil ρ = some (.err cn x, ρ) := by
  unfold mFn
  rw [hi]
  dsimp only
  rw [M.bind_ok mNil_ok, h]
theorem M.bind_err {α β : Type} {m : M α} {k : α → M β} {cn : Str} {x : PyData} {ρ ρ1 : List Sl} (h : m ρ = some (.err cn x, ρ1)) : m.bind k ρ = some (.err cn x, ρ1) := by
  unfold M.bind
  rw [h]
theorem heard_ok {G : List PyData → Option (Rs PyData)} {d : PyData} (h : G [] = some (.ok d)) : ∃ ρ', F__law_heard [.fn G] = some (.ok (.dat (.tuple [.str "told", d])), ρ') := by
  refine ⟨[.fn G, .no, .no, .no], fnOf_ret ?_⟩
  have e : (sRet (mTup (mCons (M.pure (.str "told")) (mCons (mFn 0 mNil) mNil)))) [.fn G, .no, .no, .no] = some (.ret (.dat (.tuple [.str "told", d])), [.fn G, .no, .no, .no]) := sRet_ok (mTup_ok (mCons_ok (d := .str "told") rfl (mCons_ok (mFn_ok rfl h) mNil_ok)) (by show 2 ≤ 1000000; decide))
  unfold m__law_heard sTryAs
  show (match (sRet (mTup (mCons (M.pure (.str "told")) (mCons (mFn 0 mNil) mNil)))) [.fn G, .no, .no, .no] with
    | some (.err cn x, ρ1) => _
    | r => r) = _
  rw [e]
theorem heard_err {G : List PyData → Option (Rs PyData)} {cn nm : Str} {x : PyData} (h : G [] = some (.err cn x)) (hL : cn ∈ (["BadKind", "BadFields", "BadRecord"] : List Str))
    (hs : ∀ a, ∃ b, (sSeq (sSetL 2 (mLst (mCons (mTup (mCons (M.pure (.bool (cn == "BadFields"))) (mCons (M.pure (.str "fields")) mNil))) (mCons (mTup (mCons (M.pure (.bool (cn == "BadRecord"))) (mCons (M.pure (.str "record")) mNil))) mNil))))
  (sSeq (sEx (mMt1 2 dAppend (mTup (mCons (M.pure (.bool (cn == "BadKind"))) (mCons (M.pure (.str "kind")) mNil)))))
  (sRet (mTup (mCons (M.pure (.str "refused")) (mCons (m1 (dJoin "") (mOfL (mLc [3] (mLstL (mFrz 2)) (gN 3) (mTest (m2A dIx (mDat 3) M.pure (M.pure (.int 0)))) (m2A dIx (mDat 3) M.pure (M.pure (.int 1)))))) (mCons (M.pure x) mNil))))))) [a, .no, .no, .no] = some (.ret (.dat (.tuple [.str "refused", .str nm, x])), [a, .no, b, .no])) :
    ∃ ρ', F__law_heard [.fn G] = some (.ok (.dat (.tuple [.str "refused", .str nm, x])), ρ') := by
  have e : (sRet (mTup (mCons (M.pure (.str "told")) (mCons (mFn 0 mNil) mNil)))) [.fn G, .no, .no, .no] = some (.err cn x, [.fn G, .no, .no, .no]) := sOf_err (by
    unfold mTup mCons
    refine M.bind_err ((M.bind_ok (a := .str "told") (ρ1 := [.fn G, .no, .no, .no]) rfl).trans (M.bind_err (M.bind_err (mFn_err rfl h))))) 
  obtain ⟨b, hb⟩ := hs (.fn G)
  refine ⟨[.fn G, .no, b, .no], fnOf_ret (r := .dat (.tuple [.str "refused", .str nm, x])) ?_⟩
  · unfold m__law_heard sTryAs
    show (match (sRet (mTup (mCons (M.pure (.str "told")) (mCons (mFn 0 mNil) mNil)))) [.fn G, .no, .no, .no] with
      | some (.err cn x, ρ1) => _
      | r => r) = _
    rw [e]
    dsimp only
    rw [if_pos ⟨hL, by show 1 < 4; decide⟩]
    show (match (sSeq _ _) [Sl.fn G, .no, .no, .no] with
      | some (.err _ _, _) => none
      | some (o, ρ2) => some (o, ρ2.set 1 .no)
      | none => none) = _
    rw [hb]
    rfl
theorem sb_kk : (("BadKind" : Str) == "BadKind") = true := by decide +kernel
theorem sb_kf : (("BadKind" : Str) == "BadFields") = false := by decide +kernel
theorem sb_kr : (("BadKind" : Str) == "BadRecord") = false := by decide +kernel
theorem sb_fk : (("BadFields" : Str) == "BadKind") = false := by decide +kernel
theorem sb_ff : (("BadFields" : Str) == "BadFields") = true := by decide +kernel
theorem sb_fr : (("BadFields" : Str) == "BadRecord") = false := by decide +kernel
theorem sb_rk : (("BadRecord" : Str) == "BadKind") = false := by decide +kernel
theorem sb_rf : (("BadRecord" : Str) == "BadFields") = false := by decide +kernel
theorem sb_rr : (("BadRecord" : Str) == "BadRecord") = true := by decide +kernel
theorem heard_kind {G : List PyData → Option (Rs PyData)} {x : PyData} (h : G [] = some (.err "BadKind" x)) : ∃ ρ', F__law_heard [.fn G] = some (.ok (.dat (.tuple [.str "refused", .str "kind", x])), ρ') := by
  refine heard_err h (by decide +kernel) fun a => ⟨.dat (.list [.tuple [.bool false, .str "fields"], .tuple [.bool false, .str "record"], .tuple [.bool true, .str "kind"]]), ?_⟩
  rw [sb_kk, sb_kf, sb_kr]
  rfl
theorem heard_fields {G : List PyData → Option (Rs PyData)} {x : PyData} (h : G [] = some (.err "BadFields" x)) : ∃ ρ', F__law_heard [.fn G] = some (.ok (.dat (.tuple [.str "refused", .str "fields", x])), ρ') := by
  refine heard_err h (by decide +kernel) fun a => ⟨.dat (.list [.tuple [.bool true, .str "fields"], .tuple [.bool false, .str "record"], .tuple [.bool false, .str "kind"]]), ?_⟩
  rw [sb_fk, sb_ff, sb_fr]
  rfl
theorem heard_record {G : List PyData → Option (Rs PyData)} {x : PyData} (h : G [] = some (.err "BadRecord" x)) : ∃ ρ', F__law_heard [.fn G] = some (.ok (.dat (.tuple [.str "refused", .str "record", x])), ρ') := by
  refine heard_err h (by decide +kernel) fun a => ⟨.dat (.list [.tuple [.bool false, .str "fields"], .tuple [.bool true, .str "record"], .tuple [.bool false, .str "kind"]]), ?_⟩
  rw [sb_rk, sb_rf, sb_rr]
  rfl
end Ev

set_option Elab.async false
set_option linter.all false
set_option maxRecDepth 100000
set_option maxHeartbeats 4000000
/-! k25: the three looks are right at all nice data. -/
namespace Ev
open PySem PySem.Spec PyProof.Rows L2 Ed
structure Nice (p q : Nat) (d : PyData) : Prop where
  gd : Gd p d
  nl : noL d = true
  sh : ShB p q d
theorem Nice.mono {p q p' q' : Nat} {d : PyData} (h : Nice p q d) (hp : p ≤ p') (hq : q ≤ q') : Nice p' q' d := ⟨gd_mono h.gd hp, h.nl, h.sh.mono hp hq⟩
theorem noLs_all {ds : List PyData} (h : ∀ d ∈ ds, noL d = true) : noLs ds = true := by
  induction ds with
  | nil => rw [noLs]
  | cons d ds ih =>
    rw [noLs, h d List.mem_cons_self, ih fun x hx => h x (List.mem_cons_of_mem _ hx)]
    rfl
theorem nice_tup {p q n : Nat} {ds : List PyData} (h : ∀ d ∈ ds, Nice p q d) (hn : ds.length ≤ n) : Nice (p + 1) (n * q + 2 * n + 3) (.tuple ds) := ⟨gd_tuple fun d hd => (h d hd).gd, by rw [noL]; exact noLs_all fun d hd => (h d hd).nl, shTupN (fun d hd => (h d hd).sh) hn⟩
theorem nice_none : Nice 0 8 .none := ⟨⟨by decide +kernel, by decide +kernel⟩, by decide +kernel, by decide +kernel, by decide +kernel, by decide +kernel, by decide +kernel⟩
theorem nice_small {i : Int} (h0 : -1 ≤ i) (h1 : i ≤ 12) : Nice 0 8 (.int i) := by
  refine ⟨gd_int i 0, by simp [noL], ?_⟩
  by_cases h : 0 ≤ i
  · exact (shInt h h1).mono (by omega) (by omega)
  · have : i = -1 := by omega
    subst this
    exact ⟨by decide +kernel, by decide +kernel, by decide +kernel, by decide +kernel⟩
theorem nice_bool (b : Bool) : Nice 0 8 (.bool b) := by
  cases b <;> exact ⟨⟨by decide +kernel, by decide +kernel⟩, by decide +kernel, by decide +kernel, by decide +kernel, by decide +kernel, by decide +kernel⟩
def Small (w : PyData) : Prop := w = .none ∨ ∃ i, w = .int i ∧ -1 ≤ i ∧ i ≤ 12
theorem Small.nice {w : PyData} (h : Small w) : Nice 0 8 w := by
  rcases h with rfl | ⟨i, rfl, a, b⟩
  · exact nice_none
  · exact nice_small a b
theorem small_wk (d : PyData) : Small (wkD d) := by
  match d with
  | .tuple [s, a] =>
    unfold wkD
    dsimp only
    split
    · exact .inr ⟨0, rfl, by omega, by omega⟩
    · split
      · exact .inr ⟨1, rfl, by omega, by omega⟩
      · exact .inl rfl
  | .tuple [] => exact .inr ⟨-1, rfl, by omega, by omega⟩
  | .tuple [_] => exact .inr ⟨-1, rfl, by omega, by omega⟩
  | .tuple (_ :: _ :: _ :: _) => exact .inr ⟨-1, rfl, by omega, by omega⟩
  | .none => exact .inr ⟨-1, rfl, by omega, by omega⟩
  | .bool _ => exact .inr ⟨-1, rfl, by omega, by omega⟩
  | .int _ => exact .inr ⟨-1, rfl, by omega, by omega⟩
  | .str _ => exact .inr ⟨-1, rfl, by omega, by omega⟩
  | .list _ => exact .inr ⟨-1, rfl, by omega, by omega⟩
  | .dict _ => exact .inr ⟨-1, rfl, by omega, by omega⟩
theorem small_wfL {ds : List PyData} {i : Nat} (h : i + ds.length ≤ 12) : Small (wfL i ds) := by
  induction ds generalizing i with
  | nil => exact .inl rfl
  | cons d ds ih =>
    rw [List.length_cons] at h
    unfold wfL
    split
    · exact ih (by omega)
    · exact .inr ⟨i, rfl, by omega, by omega⟩
theorem small_wf (d : PyData) : Small (wfD d) := by
  cases d with
  | tuple ds =>
    unfold wfD
    dsimp only
    split
    · exact small_wfL (by omega)
    · exact .inr ⟨-1, rfl, by omega, by omega⟩
  | _ => exact .inr ⟨-1, rfl, by omega, by omega⟩
theorem small_wrL : ∀ {ks rs : List PyData} {i : Nat}, i + ks.length ≤ 12 → Small (wrL i ks rs)
  | [], rs, i, h => by
    unfold wrL
    exact .inl rfl
  | k :: ks, rs, i, h => by
    rw [List.length_cons] at h
    unfold wrL
    split
    · injections
      subst_vars
      split
      · exact small_wrL (by omega)
      · exact .inr ⟨_, rfl, by omega, by omega⟩
    · exact .inl rfl
theorem small_wr {f r : PyData} (hf : isNo (wfD f) = true) : Small (wrD f r) := by
  obtain ⟨ks, rfl, hl, _⟩ := wfD_eq hf
  cases r with
  | tuple rs =>
    unfold wrD
    dsimp only
    split
    · exact small_wrL (by omega)
    · exact .inr ⟨-1, rfl, by omega, by omega⟩
  | _ => exact .inr ⟨-1, rfl, by omega, by omega⟩
theorem repr_ok {p q : Nat} {d : PyData} (h : ShB p q d) (hp : p ≤ 60) (hq : q ≤ 1000000) : dRepr d = some (.str d.shown) := by
  unfold dRepr shB
  rw [h.sho, h.nod, decide_eq_true (Nat.le_trans h.dep hp), decide_eq_true (show d.shown.length ≤ lim from Nat.le_trans h.len hq)]
  rfl
def dueD (nm : Str) (w v : PyData) : PyData := if isNo w = true then .tuple [.str "told", v] else .tuple [.str "refused", .str nm, w]
theorem dEq_str (a : Str) : dEq (.str a) (.str a) = some (.bool true) := by
  show some (PyData.bool (a == a)) = _
  simp
theorem dNe_str (a : Str) : dNe (.str a) (.str a) = some (.bool false) := by
  show some (PyData.bool (!(a == a))) = _
  simp
theorem sh_told : ShB 0 16 (.str "told") := ⟨by decide +kernel, by decide +kernel, by decide +kernel, by decide +kernel⟩
theorem sh_refused : ShB 0 16 (.str "refused") := ⟨by decide +kernel, by decide +kernel, by decide +kernel, by decide +kernel⟩
theorem sh_kind : ShB 0 16 (.str "kind") := ⟨by decide +kernel, by decide +kernel, by decide +kernel, by decide +kernel⟩
theorem sh_fields : ShB 0 16 (.str "fields") := ⟨by decide +kernel, by decide +kernel, by decide +kernel, by decide +kernel⟩
theorem sh_record : ShB 0 16 (.str "record") := ⟨by decide +kernel, by decide +kernel, by decide +kernel, by decide +kernel⟩
theorem sh_due {nm : Str} {w v : PyData} {p q : Nat} (hn : ShB 0 16 (.str nm)) (hw : Small w) (hv : isNo w = true → ShB p q v) : ShB (p + 1) (3 * (q + 16) + 9) (dueD nm w v) := by
  unfold dueD
  split
  · rename_i h
    refine (shTupN (p := p) (q := q + 16) (n := 3) (fun d hd => ?_) (by show 2 ≤ 3; omega)).mono (Nat.le_refl _) (by omega)
    rcases List.mem_cons.mp hd with rfl | hd
    · exact sh_told.mono (by omega) (by omega)
    · rcases List.mem_cons.mp hd with rfl | hd
      · exact (hv h).mono (by omega) (by omega)
      · cases hd
  · refine (shTupN (p := p) (q := q + 16) (n := 3) (fun d hd => ?_) (by show 3 ≤ 3; omega)).mono (Nat.le_refl _) (by omega)
    rcases List.mem_cons.mp hd with rfl | hd
    · exact sh_refused.mono (by omega) (by omega)
    · rcases List.mem_cons.mp hd with rfl | hd
      · exact hn.mono (by omega) (by omega)
      · rcases List.mem_cons.mp hd with rfl | hd
        · exact hw.nice.sh.mono (by omega) (by omega)
        · cases hd
theorem f_due {nm : Str} {w v : PyData} {p q : Nat} (h : ShB p q (dueD nm w v)) (hp : p ≤ 60) (hq : q ≤ 1000000) : Tells F__law_due [.str nm, w, v] (.str (dueD nm w v).shown) := by
  refine ⟨[.dat (.str nm), .dat w, .dat v], fnOf_ret (sRet_ok (m1_ok (a := dueD nm w v) ?_ (repr_ok h hp hq)))⟩
  have ht : mTest (m2A dIsN (mDat 1) M.pure (M.pure .none)) [.dat (.str nm), .dat w, .dat v] = some (.ok (isNo w), [.dat (.str nm), .dat w, .dat v]) := mTest_ok (m2_ok (a := w) (b := .none) rfl rfl rfl)
  unfold mIf dueD
  show (M.bind _ _) [.dat (.str nm), .dat w, .dat v] = _
  rw [M.bind_ok ht]
  cases isNo w <;> rfl
theorem callF_ok {js : List Nat} {np nl : Nat} {lm : M PyData} {F : FnD} {d : PyData} {ρ ρc : List Sl} (h : F [.fn (lamF np nl lm (js.map fun j => capD ρ[j]?))] = some (.ok (.dat d), ρc)) : mCallF js np nl lm F mNil ρ = some (.ok d, ρ) := by
  unfold mCallF
  rw [M.bind_ok mNil_ok]
  show (match F [.fn (lamF np nl lm (js.map fun j => capD ρ[j]?))] with
    | some (.ok (.dat d), _) => some (Rs.ok d, ρ)
    | _ => none) = _
  rw [h]
theorem cap_ok {d : PyData} (h : noL d = true) : capD (some (.dat d)) = .dat d := by
  show (if noL d = true then Sl.dat d else Sl.no) = _
  rw [if_pos h]
theorem f_kind_right {d : PyData} {p q : Nat} (hp : p ≤ 50) (hq : q ≤ 300000) (h : Nice (p + 3) q d) : Tells F__law_kind_right [d] (.bool true) := by
  obtain ⟨ρa, ea⟩ := f_law_wrong_kind d p (by omega) h.gd
  obtain ⟨ρb, eb⟩ := f_is_kind d
  have sw := small_wk d
  refine ⟨[.dat d, .dat (wkD d)], fnOf_ret ?_⟩
  refine (sSeq_nx (ρ1 := [.dat d, .dat (wkD d)]) (sOf_ok (call_ok (ρ1 := [.dat d, .no]) (xs := [.dat d]) (gaD_ok (d := d) rfl gaNil_ok) ea))).trans ?_
  refine (sSeq_nx (ρ1 := [.dat d, .dat (wkD d)]) ((sIf_f (mTest_ok (m2_ok (a := .str (PyData.bool (isNo (wkD d))).shown) (b := .str (PyData.bool (isNo (wkD d))).shown) (m1_ok (a := .bool (isNo (wkD d))) (call_ok (xs := [.dat d]) (gaD_ok (d := d) rfl gaNil_ok) eb) (repr_ok (nice_bool _).sh (by omega) (by omega))) (m1_ok (a := .bool (isNo (wkD d))) (m2_ok (a := wkD d) (b := .none) rfl rfl rfl) (repr_ok (nice_bool _).sh (by omega) (by omega))) (dNe_str _)))).trans rfl)).trans ?_
  have sd := sh_due (nm := "kind") (v := d) sh_kind sw fun _ => h.sh
  obtain ⟨ρe, ee⟩ := f_due sd (by omega) (by omega)
  have hF : ∃ ρc, F__law_heard [.fn (lamF 0 0 (mCallX [] F_made_kind (gaD (mDat 0) gaNil)) ([0].map fun j => capD ([.dat d, .dat (wkD d)] : List Sl)[j]?))] = some (.ok (.dat (dueD "kind" (wkD d) d)), ρc) := by
    show ∃ ρc, F__law_heard [.fn (lamF 0 0 (mCallX [] F_made_kind (gaD (mDat 0) gaNil)) [capD (some (.dat d))])] = _
    rw [cap_ok h.nl]
    obtain ⟨ρm, em⟩ := f_made_kind d
    unfold dueD
    cases hn : isNo (wkD d) with
    | true =>
      rw [hn] at em
      refine heard_ok (G := lamF 0 0 (mCallX [] F_made_kind (gaD (mDat 0) gaNil)) [.dat d]) (d := d) ?_
      show (match mCallX [] F_made_kind (gaD (mDat 0) gaNil) [.dat d] with
        | some (r, _) => some r
        | none => none) = _
      rw [call_ok (xs := [.dat d]) (ρ1 := [.dat d]) (gaD_ok (d := d) rfl gaNil_ok) em]
    | false =>
      rw [hn] at em
      refine heard_kind (G := lamF 0 0 (mCallX [] F_made_kind (gaD (mDat 0) gaNil)) [.dat d]) (x := wkD d) ?_
      show (match mCallX [] F_made_kind (gaD (mDat 0) gaNil) [.dat d] with
        | some (r, _) => some r
        | none => none) = _
      rw [call_err (xs := [.dat d]) (ρ1 := [.dat d]) (gaD_ok (d := d) rfl gaNil_ok) em]
  obtain ⟨ρc, ec⟩ := hF
  exact sRet_ok (m2_ok (m1_ok (callF_ok ec) (repr_ok sd (by omega) (by omega))) (call_ok (xs := [.dat (.str "kind"), .dat (wkD d), .dat d]) (gaD_ok (d := .str "kind") rfl (gaD_ok (d := wkD d) rfl (gaD_ok (d := d) rfl gaNil_ok))) ee) (dEq_str _))
theorem f_fields_right {d : PyData} {p q : Nat} (hp : p ≤ 50) (hq : q ≤ 300000) (h : Nice (p + 4) q d) : Tells F__law_fields_right [d] (.bool true) := by
  obtain ⟨ρa, ea⟩ := f_law_wrong_fields d p (by omega) h.gd
  have sw := small_wf d
  refine ⟨[.dat d], fnOf_ret ?_⟩
  have sd := sh_due (nm := "fields") (v := d) sh_fields sw fun _ => h.sh
  obtain ⟨ρe, ee⟩ := f_due sd (by omega) (by omega)
  have hF : ∃ ρc, F__law_heard [.fn (lamF 0 0 (mCallX [] F_made_fields (gaD (mDat 0) gaNil)) ([0].map fun j => capD ([.dat d] : List Sl)[j]?))] = some (.ok (.dat (dueD "fields" (wfD d) d)), ρc) := by
    show ∃ ρc, F__law_heard [.fn (lamF 0 0 (mCallX [] F_made_fields (gaD (mDat 0) gaNil)) [capD (some (.dat d))])] = _
    rw [cap_ok h.nl]
    obtain ⟨ρm, em⟩ := f_made_fields d
    unfold dueD
    cases hn : isNo (wfD d) with
    | true =>
      rw [hn] at em
      refine heard_ok (G := lamF 0 0 (mCallX [] F_made_fields (gaD (mDat 0) gaNil)) [.dat d]) (d := d) ?_
      show (match mCallX [] F_made_fields (gaD (mDat 0) gaNil) [.dat d] with
        | some (r, _) => some r
        | none => none) = _
      rw [call_ok (xs := [.dat d]) (ρ1 := [.dat d]) (gaD_ok (d := d) rfl gaNil_ok) em]
    | false =>
      rw [hn] at em
      refine heard_fields (G := lamF 0 0 (mCallX [] F_made_fields (gaD (mDat 0) gaNil)) [.dat d]) (x := wfD d) ?_
      show (match mCallX [] F_made_fields (gaD (mDat 0) gaNil) [.dat d] with
        | some (r, _) => some r
        | none => none) = _
      rw [call_err (xs := [.dat d]) (ρ1 := [.dat d]) (gaD_ok (d := d) rfl gaNil_ok) em]
  obtain ⟨ρc, ec⟩ := hF
  exact sRet_ok (m2_ok (m1_ok (callF_ok ec) (repr_ok sd (by omega) (by omega))) (call_ok (xs := [.dat (.str "fields"), .dat (wfD d), .dat d]) (gaD_ok (d := .str "fields") rfl (gaD_ok (d := wfD d) (call_ok (xs := [.dat d]) (gaD_ok (d := d) rfl gaNil_ok) ea) (gaD_ok (d := d) rfl gaNil_ok))) ee) (dEq_str _))
end Ev

set_option Elab.async false
set_option linter.all false
set_option maxRecDepth 100000
set_option maxHeartbeats 4000000
/-! k25: the look at records is right at all nice data. -/
namespace Ev
open PySem PySem.Spec PyProof.Rows L2 Ed
theorem f_record_right {f r : PyData} {p q : Nat} (hp : p ≤ 50) (hq : q ≤ 300000) (hf : Nice (p + 4) q f) (hr : Nice (p + 4) q r) : Tells F__law_record_right [f, r] (.bool true) := by
  obtain ⟨ρa, ea⟩ := f_law_wrong_fields f p (by omega) hf.gd
  have sw := small_wf f
  have h1 : ∀ a b, mCallX [] F__law_wrong_fields (gaD (mDat 0) gaNil) [.dat f, .dat r, a, b] = some (.ok (wfD f), [.dat f, .dat r, a, b]) := fun a b => call_ok (xs := [.dat f]) (gaD_ok (d := f) rfl gaNil_ok) ea
  have ht : mTest (m2A dNotN (mDat 2) M.pure (M.pure .none)) [.dat f, .dat r, .dat (wfD f), .no] = some (.ok (!isNo (wfD f)), [.dat f, .dat r, .dat (wfD f), .no]) := mTest_ok (m2_ok (a := wfD f) (b := .none) rfl rfl rfl)
  have key : ∀ D : PyData, ShB (p + 5) (3 * (q + 16) + 9) D → (mIf (mTest (m2A dNotN (mDat 2) M.pure (M.pure .none))) (mCallX [] F__law_due (gaD (M.pure (.str "fields")) (gaD (mDat 2) (gaD (M.pure .none) gaNil)))) (mCallX [] F__law_due (gaD (M.pure (.str "record")) (gaD (mCallX [] F__law_wrong_record (gaD (mDat 0) (gaD (mDat 1) gaNil))) (gaD (mDat 1) gaNil))))) [.dat f, .dat r, .dat (wfD f), .no] = some (.ok (.str D.shown), [.dat f, .dat r, .dat (wfD f), .no]) →
      (∃ ρc, F__law_heard [.fn (lamF 0 0 (mCallX [] F_made_record (gaD (mDat 0) (gaD (mDat 1) gaNil))) [.dat f, .dat r])] = some (.ok (.dat D), ρc)) → Tells F__law_record_right [f, r] (.bool true) := fun D sD hD ⟨ρc, ec⟩ => by
    refine ⟨[.dat f, .dat r, .dat (wfD f), .dat (.str D.shown)], fnOf_ret ?_⟩
    refine (sSeq_nx (ρ1 := [.dat f, .dat r, .dat (wfD f), .no]) (sOf_ok (h1 _ _))).trans ?_
    refine (sSeq_nx (ρ1 := [.dat f, .dat r, .dat (wfD f), .dat (.str D.shown)]) (sOf_ok hD)).trans ?_
    have hF : F__law_heard [.fn (lamF 0 0 (mCallX [] F_made_record (gaD (mDat 0) (gaD (mDat 1) gaNil))) ([0, 1].map fun j => capD ([.dat f, .dat r, .dat (wfD f), .dat (.str D.shown)] : List Sl)[j]?))] = some (.ok (.dat D), ρc) := by
      show F__law_heard [.fn (lamF 0 0 (mCallX [] F_made_record (gaD (mDat 0) (gaD (mDat 1) gaNil))) [capD (some (.dat f)), capD (some (.dat r))])] = _
      rw [cap_ok hf.nl, cap_ok hr.nl]
      exact ec
    exact sRet_ok (m2_ok (m1_ok (callF_ok hF) (repr_ok sD (by omega) (by omega))) rfl (dEq_str _))
  cases hn : isNo (wfD f) with
  | false =>
    rw [hn] at ht
    have sd := sh_due (nm := "fields") (w := wfD f) (v := .none) (p := p + 4) (q := q) sh_fields sw fun h => by rw [hn] at h; cases h
    obtain ⟨ρe, ee⟩ := f_due sd (by omega) (by omega)
    refine key _ sd ?_ ?_
    · unfold mIf
      rw [M.bind_ok ht]
      exact call_ok (xs := [.dat (.str "fields"), .dat (wfD f), .dat .none]) (gaD_ok (d := .str "fields") rfl (gaD_ok (d := wfD f) rfl (gaD_ok (d := .none) rfl gaNil_ok))) ee
    · obtain ⟨ρm, em⟩ := f_made_record_f f r hn
      unfold dueD
      rw [hn]
      refine heard_fields (G := lamF 0 0 (mCallX [] F_made_record (gaD (mDat 0) (gaD (mDat 1) gaNil))) [.dat f, .dat r]) (x := wfD f) ?_
      show (match mCallX [] F_made_record (gaD (mDat 0) (gaD (mDat 1) gaNil)) [.dat f, .dat r] with
        | some (r, _) => some r
        | none => none) = _
      rw [call_err (xs := [.dat f, .dat r]) (ρ1 := [.dat f, .dat r]) (gaD_ok (d := f) rfl (gaD_ok (d := r) rfl gaNil_ok)) em]
  | true =>
    rw [hn] at ht
    obtain ⟨ρr, er⟩ := f_law_wrong_record f r hn
    have sr := small_wr (r := r) hn
    have sd := sh_due (nm := "record") (v := r) sh_record sr fun _ => hr.sh
    obtain ⟨ρe, ee⟩ := f_due sd (by omega) (by omega)
    refine key _ sd ?_ ?_
    · unfold mIf
      rw [M.bind_ok ht]
      exact call_ok (xs := [.dat (.str "record"), .dat (wrD f r), .dat r]) (gaD_ok (d := .str "record") rfl (gaD_ok (d := wrD f r) (call_ok (xs := [.dat f, .dat r]) (gaD_ok (d := f) rfl (gaD_ok (d := r) rfl gaNil_ok)) er) (gaD_ok (d := r) rfl gaNil_ok))) ee
    · obtain ⟨ρm, em⟩ := f_made_record f r hn
      unfold dueD
      cases hw : isNo (wrD f r) with
      | true =>
        rw [hw] at em
        refine heard_ok (G := lamF 0 0 (mCallX [] F_made_record (gaD (mDat 0) (gaD (mDat 1) gaNil))) [.dat f, .dat r]) (d := r) ?_
        show (match mCallX [] F_made_record (gaD (mDat 0) (gaD (mDat 1) gaNil)) [.dat f, .dat r] with
          | some (r, _) => some r
          | none => none) = _
        rw [call_ok (xs := [.dat f, .dat r]) (ρ1 := [.dat f, .dat r]) (gaD_ok (d := f) rfl (gaD_ok (d := r) rfl gaNil_ok)) em]
      | false =>
        rw [hw] at em
        refine heard_record (G := lamF 0 0 (mCallX [] F_made_record (gaD (mDat 0) (gaD (mDat 1) gaNil))) [.dat f, .dat r]) (x := wrD f r) ?_
        show (match mCallX [] F_made_record (gaD (mDat 0) (gaD (mDat 1) gaNil)) [.dat f, .dat r] with
          | some (r, _) => some r
          | none => none) = _
        rw [call_err (xs := [.dat f, .dat r]) (ρ1 := [.dat f, .dat r]) (gaD_ok (d := f) rfl (gaD_ok (d := r) rfl gaNil_ok)) em]
end Ev

set_option Elab.async false
set_option linter.all false
set_option maxRecDepth 100000
set_option maxHeartbeats 4000000
/-! draws from a pool. -/
namespace Ev
open PySem PySem.Spec PyProof.Rows L2 Ed
def pool (x y : Int) : Sl := .own (.lst [.int x, .int y])
/-- a def that draws: what it tells is so, and the pool stays one -/
def Draw (F : FnD) (as : List PyData) (P : PyData → Prop) : Prop := ∀ x y, ∃ d x' y' rest, P d ∧ F (pool x y :: as.map .dat) = some (.ok (.dat d), pool x' y' :: rest)
theorem agIo_s (j : Nat) (xs : List Sl) : agIo (.s j :: xs.map Ag.d) = [0] := by
  unfold agIo
  rw [List.length_cons, List.range_succ_eq_map, List.filter_cons_of_pos (by rfl)]
  congr 1
  refine List.filter_eq_nil_iff.mpr fun k hk => ?_
  obtain ⟨i, _, rfl⟩ := List.mem_map.mp hk
  show ¬ (match (xs.map Ag.d)[i]? with
    | some (.s _) => true
    | _ => false) = true
  rw [List.getElem?_map]
  cases xs[i]? <;> simp
theorem draw_ok {F : FnD} {as : List PyData} {P : PyData → Prop} {j : Nat} {mb : M (List Ag)} {x y : Int} {ρ ρ1 : List Sl} (D : Draw F as P) (hj : ρ[j]? = some (pool x y)) (hb : mb ρ = some (.ok ((as.map Sl.dat).map Ag.d), ρ1)) (hj1 : ∃ x y, ρ1[j]? = some (pool x y)) :
    ∃ d x' y', P d ∧ mCallX [0] F (gaS j mb) ρ = some (.ok d, ρ1.set j (pool x' y')) := by
  obtain ⟨x1, y1, h1⟩ := hj1
  obtain ⟨d, x', y', rest, p, e⟩ := D x1 y1
  refine ⟨d, x', y', p, ?_⟩
  have hg : gaS j mb ρ = some (.ok (.s j :: (as.map Sl.dat).map Ag.d), ρ1) := by
    unfold gaS isO
    rw [hj]
    show (mb.bind _) ρ = _
    rw [M.bind_ok hb]
    rfl
  have hok : agOk [0] ρ1 (.s j :: (as.map Sl.dat).map Ag.d) = true := by
    unfold agOk
    rw [agIo_s]
    show (decide ([0] = [0]) && decide (j :: agJs _).Nodup && (j :: agJs _).all (isO ρ1)) = true
    rw [agJs_d]
    have : isO ρ1 j = true := by
      unfold isO
      rw [h1]
      rfl
    simp [this]
  have hm : mCall [0] F (gaS j mb) ρ = some (.ok (.dat d), ρ1.set j (pool x' y')) := by
    unfold mCall
    rw [M.bind_ok hg, if_pos hok, List.map_cons, agS_d]
    show (match F ((ρ1[j]?).getD .no :: as.map Sl.dat) with
      | some (.ok r, ρc) => some (Rs.ok r, agBack (.s j :: (as.map Sl.dat).map Ag.d) 0 ρc ρ1)
      | some (.err cn x, ρc) => some (.err cn x, agBack (.s j :: (as.map Sl.dat).map Ag.d) 0 ρc ρ1)
      | none => none) = _
    rw [h1]
    show (match F (pool x1 y1 :: as.map Sl.dat) with
      | some (.ok r, ρc) => some (Rs.ok r, agBack (.s j :: (as.map Sl.dat).map Ag.d) 0 ρc ρ1)
      | some (.err cn x, ρc) => some (.err cn x, agBack (.s j :: (as.map Sl.dat).map Ag.d) 0 ρc ρ1)
      | none => none) = _
    rw [e]
    show some (Rs.ok (Rv.dat d), agBack ((as.map Sl.dat).map Ag.d) 1 _ (ρ1.set j (pool x' y'))) = _
    rw [agBack_d]
  unfold mCallX
  rw [M.bind_ok hm]
  rfl
theorem mul_small {i j : Int} (h : -(2 ^ 64) < j ∧ j < 2 ^ 64) : dMulA (.int i) (.int j) = some (.int (i * j)) := by
  show (if mulOk i j = true then some (PyData.int (i * j)) else none) = _
  have : mulOk i j = true := by
    unfold mulOk
    rw [decide_eq_true h.1, decide_eq_true h.2]
    simp
  rw [if_pos this]
theorem mod_ok {i j : Int} (h : 0 < j) : dMod (.int i) (.int j) = some (.int (i % j)) := if_pos h
theorem div_ok {i j : Int} (h : 0 < j) (h2 : j < 9000) : dDiv (.int i) (.int j) = some (.int (i / j)) := by
  refine if_pos ⟨h, ?_⟩
  have := Nat.log2_le_self j.natAbs
  omega
theorem sSet_ok {i : Nat} {m : M PyData} {d : PyData} {ρ ρ1 : List Sl} (h : m ρ = some (.ok d, ρ1)) : sSet i m ρ = some (.nx, ρ1.set i (.dat d)) := sOf_ok h
theorem int_ok (i : Int) : dInt (.int i) = some (.int i) := rfl
theorem f_take {n : Int} (h0 : 0 < n) (h1 : n < 9000) : Draw F__law_take [.int n] fun d => ∃ r, d = .int r ∧ 0 ≤ r ∧ r < n := by
  intro x y
  have hv : ∀ (a : Sl) k, 0 ≤ k → k < 2 → m2A dIx (mVar 0) (fun _ => mVar 0) (M.pure (.int k)) [pool x y, .dat (.int n), a] = some (.ok (if k = 0 then .int x else .int y), [pool x y, .dat (.int n), a]) := fun a k h0 h1 => by
    rcases (show k = 0 ∨ k = 1 by omega) with rfl | rfl <;> rfl
  by_cases hx : 0 < x
  · refine ⟨.int (x % n), x / n, y, [.dat (.int n), .dat (.int (x % n))], ⟨_, rfl, Int.emod_nonneg _ (by omega), Int.emod_lt_of_pos _ h0⟩, fnOf_ret ?_⟩
    refine sSeq_ret ((sIf_t (ρ1 := [pool x y, .dat (.int n), .no]) ?_).trans ?_)
    · refine mTest_ok ((m2_ok (hv _ 0 (by omega) (by omega)) (b := .int 0) rfl rfl).trans ?_)
      show some (Rs.ok (PyData.bool (decide (0 < x))), _) = _
      rw [decide_eq_true hx]
    · refine (sSeq_nx (ρ1 := [pool x y, .dat (.int n), .dat (.int (x % n))]) (sSet_ok (ρ1 := [pool x y, .dat (.int n), .no]) (m2_ok (b := .int n) (m1_ok (hv _ 0 (by omega) (by omega)) (int_ok x)) rfl (mod_ok h0)))).trans ?_
      have h5 : sSetIx 0 (M.pure (.int 0)) (m2A dDiv (m2A dIx (mVar 0) (fun _ => mVar 0) (M.pure (.int 0))) M.pure (mDat 1)) [pool x y, .dat (.int n), .dat (.int (x % n))] = some (.nx, [pool (x / n) y, .dat (.int n), .dat (.int (x % n))]) := by
        refine (sOf_ok (m2_ok (b := .int n) (hv _ 0 (by omega) (by omega)) rfl (div_ok (i := x) h0 h1))).trans ?_
        rfl
      exact (sSeq_nx h5).trans rfl
  · have hs : sIf (mTest (m2A dGt (m2A dIx (mVar 0) (fun _ => mVar 0) (M.pure (.int 0))) M.pure (M.pure (.int 0)))) (sSeq (sSet 2 (m2A dMod (m1 dInt (m2A dIx (mVar 0) (fun _ => mVar 0) (M.pure (.int 0)))) M.pure (mDat 1)))
        (sSeq (sSetIx 0 (M.pure (.int 0)) (m2A dDiv (m2A dIx (mVar 0) (fun _ => mVar 0) (M.pure (.int 0))) M.pure (mDat 1)))
        (sRet (mDat 2)))) sNx [pool x y, .dat (.int n), .no] = some (.nx, [pool x y, .dat (.int n), .no]) := by
      refine (sIf_f ?_).trans rfl
      refine mTest_ok ((m2_ok (hv _ 0 (by omega) (by omega)) (b := .int 0) rfl rfl).trans ?_)
      show some (Rs.ok (PyData.bool (decide (0 < x))), _) = _
      rw [decide_eq_false hx]
    have hy0 : 0 ≤ (y * 39373 + 7) % 2147483647 := Int.emod_nonneg _ (by omega)
    have hy1 : (y * 39373 + 7) % 2147483647 < 2147483647 := Int.emod_lt_of_pos _ (by omega)
    generalize hz : (y * 39373 + 7) % 2147483647 = z at hy0 hy1
    have h2 : sSetIx 0 (M.pure (.int 1)) (m2A dMod (m1 dInt (m2A dAddA (m2A dMulA (m2A dIx (mVar 0) (fun _ => mVar 0) (M.pure (.int 1))) M.pure (M.pure (.int 39373))) M.pure (M.pure (.int 7)))) M.pure (M.pure (.int 2147483647))) [pool x y, .dat (.int n), .no] = some (.nx, [pool x z, .dat (.int n), .no]) := by
      refine (sOf_ok (m2_ok (b := .int 2147483647) (m1_ok (m2_ok (a := .int (y * 39373)) (b := .int 7) (d := .int (y * 39373 + 7)) (m2_ok (b := .int 39373) (hv _ 1 (by omega) (by omega)) rfl (mul_small (i := y) (j := 39373) (by omega))) rfl rfl) (int_ok _)) rfl (mod_ok (by omega)))).trans ?_
      rw [hz]
      rfl
    have hv2 : m2A dIx (mVar 0) (fun _ => mVar 0) (M.pure (.int 1)) [pool x z, .dat (.int n), .no] = some (.ok (.int z), [pool x z, .dat (.int n), .no]) := rfl
    exact ⟨.int ((z * z % 2147483629) / 32 % n), x, z, [.dat (.int n), .no], ⟨_, rfl, Int.emod_nonneg _ (by omega), Int.emod_lt_of_pos _ h0⟩, fnOf_ret ((sSeq_nx hs).trans ((sSeq_nx h2).trans (sRet_ok (m2_ok (b := .int n) (m1_ok (m2_ok (b := .int 32) (m2_ok (b := .int 2147483629) (m1_ok (m2_ok hv2 hv2 (mul_small (i := z) (j := z) (by omega))) (int_ok _)) rfl (mod_ok (by omega))) rfl (div_ok (by omega) (by omega))) (int_ok _)) rfl (mod_ok h0)))))⟩
theorem len_seq {D : PyData} {ds : List PyData} (h : seqD D = some ds) : dLen D = some (.int ds.length) := by
  cases D with
  | list _ =>
    cases h
    rfl
  | tuple _ =>
    cases h
    rfl
  | _ => cases h
theorem ix_seq {D : PyData} {ds : List PyData} (h : seqD D = some ds) (i : Int) : dIx D (.int i) = atI ds i := by
  cases D with
  | list _ =>
    cases h
    rfl
  | tuple _ =>
    cases h
    rfl
  | _ => cases h
theorem f_one {D : PyData} {ds : List PyData} (hD : seqD D = some ds) (hn : ds ≠ []) (hl : ds.length < 9000) : Draw F__law_one [D] fun d => d ∈ ds := by
  intro x y
  have h0 : 0 < ds.length := List.length_pos_iff.mpr hn
  obtain ⟨d, x', y', ⟨r, rfl, r0, r1⟩, e⟩ := draw_ok (j := 0) (mb := gaD (m1 dLen (mDat 1)) gaNil) (x := x) (y := y) (ρ := [pool x y, .dat D]) (ρ1 := [pool x y, .dat D]) (f_take (n := ds.length) (by omega) (by omega)) rfl (gaD_ok (m1_ok (a := D) rfl (len_seq hD)) gaNil_ok) ⟨x, y, rfl⟩
  obtain ⟨k, rfl⟩ := Int.eq_ofNat_of_zero_le r0
  have hr : k < ds.length := by omega
  refine ⟨ds[k], x', y', [.dat D], List.getElem_mem hr, fnOf_ret (sRet_ok (m2_ok (a := D) rfl e ?_))⟩
  rw [ix_seq hD, atI_nat ds k hr, List.getElem?_eq_getElem hr]
end Ev

set_option Elab.async false
set_option linter.all false
set_option maxRecDepth 100000
set_option maxHeartbeats 4000000
/-! the pool, and what is mixed. -/
namespace Ev
open PySem PySem.Spec PyProof.Rows L2 Ed
theorem f_pool (ns : List Int) : ∃ a b rest, F__law_pool [.scr ns, .dat (.int 0)] = some (.ok (.fr (.lst [.int a, .int b])), rest) := by
  have tail : ∀ n : Int, ∃ a b rest, (sSeq (sSet 3 (mN dMax (mCons (m1 dInt (mDat 2)) (mCons (m1 dInt (m2A dSub (m1 dNeg (M.pure (.int 1))) M.pure (mDat 2))) mNil))))
  (sSeq (sSet 4 (m2A dMod (m1 dInt (m2A dMulA (m2A dAddA (m2A dAddA (m2A dAddA (m2A dMod (m1 dInt (mDat 3)) M.pure (M.pure (.int 2147483629))) M.pure (m2A dMulA (m2A dMulA (M.pure (.int 7919)) M.pure (mDat 1)) M.pure (mDat 1))) M.pure (m2A dMulA (M.pure (.int 31)) M.pure (mDat 1))) M.pure (M.pure (.int 17))) M.pure (M.pure (.int 48271)))) M.pure (M.pure (.int 2147483647))))
  (sRetL (mLst (mCons (m2A dMulA (mDat 3) M.pure (m1 dInt (vAnd (m2A dGe (mDat 3) M.pure (m2A dPow (M.pure (.int 10)) M.pure (M.pure (.int 18)))) (m2A dLt (mDat 1) M.pure (mSlen 0))))) (mCons (mDat 4) mNil)))))) [.scr ns, .dat (.int 0), .dat (.int n), .no, .no] = some (.ret (.fr (.lst [.int a, .int b])), rest) := by
    intro n
    have e3 : ∃ m : Int, sSet 3 (mN dMax (mCons (m1 dInt (mDat 2)) (mCons (m1 dInt (m2A dSub (m1 dNeg (M.pure (.int 1))) M.pure (mDat 2))) mNil))) [.scr ns, .dat (.int 0), .dat (.int n), .no, .no] = some (.nx, [.scr ns, .dat (.int 0), .dat (.int n), .dat (.int m), .no]) := ⟨if (-1 - n) > n then -1 - n else n, rfl⟩
    obtain ⟨m, e3⟩ := e3
    have e4 : ∃ u : Int, sSet 4 (m2A dMod (m1 dInt (m2A dMulA (m2A dAddA (m2A dAddA (m2A dAddA (m2A dMod (m1 dInt (mDat 3)) M.pure (M.pure (.int 2147483629))) M.pure (m2A dMulA (m2A dMulA (M.pure (.int 7919)) M.pure (mDat 1)) M.pure (mDat 1))) M.pure (m2A dMulA (M.pure (.int 31)) M.pure (mDat 1))) M.pure (M.pure (.int 17))) M.pure (M.pure (.int 48271)))) M.pure (M.pure (.int 2147483647))) [.scr ns, .dat (.int 0), .dat (.int n), .dat (.int m), .no] = some (.nx, [.scr ns, .dat (.int 0), .dat (.int n), .dat (.int m), .dat (.int u)]) := by
      refine ⟨(m % 2147483629 + 7919 * 0 * 0 + 31 * 0 + 17) * 48271 % 2147483647, ?_⟩
      have s1 : (m2A dAddA (m2A dAddA (m2A dAddA (m2A dMod (m1 dInt (mDat 3)) M.pure (M.pure (.int 2147483629))) M.pure (m2A dMulA (m2A dMulA (M.pure (.int 7919)) M.pure (mDat 1)) M.pure (mDat 1))) M.pure (m2A dMulA (M.pure (.int 31)) M.pure (mDat 1))) M.pure (M.pure (.int 17))) [.scr ns, .dat (.int 0), .dat (.int n), .dat (.int m), .no] = some (.ok (.int (m % 2147483629 + 7919 * 0 * 0 + 31 * 0 + 17)), [.scr ns, .dat (.int 0), .dat (.int n), .dat (.int m), .no]) :=
        m2_ok (a := .int (m % 2147483629 + 7919 * 0 * 0 + 31 * 0)) (b := .int 17) (m2_ok (a := .int (m % 2147483629 + 7919 * 0 * 0)) (b := .int (31 * 0)) (m2_ok (a := .int (m % 2147483629)) (b := .int (7919 * 0 * 0)) (m2_ok (b := .int 2147483629) (m1_ok (a := .int m) rfl (int_ok m)) rfl (mod_ok (by omega))) (m2_ok (a := .int (7919 * 0)) (b := .int 0) (m2_ok (a := .int 7919) (b := .int 0) rfl rfl (mul_small (by omega))) rfl (mul_small (by omega))) rfl) (m2_ok (a := .int 31) (b := .int 0) rfl rfl (mul_small (by omega))) rfl) rfl rfl
      exact sSet_ok (ρ1 := [.scr ns, .dat (.int 0), .dat (.int n), .dat (.int m), .no]) (m2_ok (b := .int 2147483647) (m1_ok (m2_ok (b := .int 48271) s1 rfl (mul_small (by omega))) (int_ok _)) rfl (mod_ok (by omega)))
    obtain ⟨u, e4⟩ := e4
    have eb : vAnd (m2A dGe (mDat 3) M.pure (m2A dPow (M.pure (.int 10)) M.pure (M.pure (.int 18)))) (m2A dLt (mDat 1) M.pure (mSlen 0)) [.scr ns, .dat (.int 0), .dat (.int n), .dat (.int m), .dat (.int u)] = some (.ok (.bool (decide ((10 : Int) ^ 18 ≤ m) && decide ((0 : Int) < ns.length))), [.scr ns, .dat (.int 0), .dat (.int n), .dat (.int m), .dat (.int u)]) := by
      have hp : dPow (.int 10) (.int 18) = some (.int ((10 : Int) ^ 18)) := by
        show (if (0 : Int) ≤ 18 ∧ (18 : Int) ≤ 1000000 ∧ (10 : Int).natAbs < 2 ^ 64 then some (PyData.int ((10 : Int) ^ (18 : Int).toNat)) else none) = _
        rw [if_pos ⟨by omega, by omega, by decide⟩]
        rfl
      exact vAnd_ok (m2_ok (a := .int m) (b := .int ((10 : Int) ^ 18)) rfl (m2_ok (a := .int 10) (b := .int 18) rfl rfl hp) rfl) fun _ => m2_ok (a := .int 0) (b := .int ns.length) rfl rfl rfl
    have ej : ∃ j : Int, (j = 0 ∨ j = 1) ∧ dInt (.bool (decide ((10 : Int) ^ 18 ≤ m) && decide ((0 : Int) < ns.length))) = some (.int j) := by
      generalize (decide ((10 : Int) ^ 18 ≤ m) && decide ((0 : Int) < ns.length)) = b
      cases b
      · exact ⟨0, .inl rfl, rfl⟩
      · exact ⟨1, .inr rfl, rfl⟩
    obtain ⟨j, hj, ej⟩ := ej
    have el : (mLst (mCons (m2A dMulA (mDat 3) M.pure (m1 dInt (vAnd (m2A dGe (mDat 3) M.pure (m2A dPow (M.pure (.int 10)) M.pure (M.pure (.int 18)))) (m2A dLt (mDat 1) M.pure (mSlen 0))))) (mCons (mDat 4) mNil))) [.scr ns, .dat (.int 0), .dat (.int n), .dat (.int m), .dat (.int u)] = some (.ok (.lst [.int (m * j), .int u]), [.scr ns, .dat (.int 0), .dat (.int n), .dat (.int m), .dat (.int u)]) :=
      mLst_ok (mCons_ok (m2_ok (a := .int m) rfl (m1_ok eb ej) (mul_small (by omega))) (mCons_ok (d := .int u) rfl mNil_ok)) (by show 2 ≤ 1000000; decide)
    exact ⟨m * j, u, _, (sSeq_nx e3).trans ((sSeq_nx e4).trans (sOf_ok el))⟩
  cases ns with
  | nil =>
    obtain ⟨a, b, rest, e⟩ := tail 0
    exact ⟨a, b, rest, fnOf_ret ((sSeq_nx (ρ1 := [Sl.scr [], .dat (.int 0), .dat (.int 0), .no, .no]) rfl).trans ((sSeq_nx (ρ1 := [Sl.scr [], .dat (.int 0), .dat (.int 0), .no, .no]) rfl).trans e))⟩
  | cons n ns =>
    obtain ⟨a, b, rest, e⟩ := tail n
    have h1 : sIf (mTest (m2A dLt (mDat 1) M.pure (mSlen 0))) (sSet 2 (mScr 0 dIx (mDat 1))) (sIf (mTest (mScr 0 dNe (mOfL (mLst mNil)))) (sSet 2 (mScr 0 dIx (M.pure (.int 0)))) sNx) [Sl.scr (n :: ns), .dat (.int 0), .dat (.int 0), .no, .no] = some (.nx, [Sl.scr (n :: ns), .dat (.int 0), .dat (.int n), .no, .no]) := by
      refine (sIf_t (ρ1 := [Sl.scr (n :: ns), .dat (.int 0), .dat (.int 0), .no, .no]) (mTest_ok ((m2_ok (a := .int 0) (b := .int (n :: ns).length) rfl rfl rfl).trans ?_))).trans ?_
      · show some (Rs.ok (PyData.bool (decide ((0 : Int) < (n :: ns).length))), _) = _
        rw [decide_eq_true (by rw [List.length_cons]; omega)]
      · refine sSet_ok (ρ1 := [Sl.scr (n :: ns), .dat (.int 0), .dat (.int 0), .no, .no]) (d := .int n) ?_
        show (M.lift (atI (PyData.int n :: ns.map .int) 0)) _ = _
        rw [show atI (PyData.int n :: ns.map .int) 0 = some (.int n) from atI_nat (PyData.int n :: ns.map .int) 0 (by rw [List.length_cons]; omega)]
        rfl
    exact ⟨a, b, rest, fnOf_ret ((sSeq_nx (ρ1 := [Sl.scr (n :: ns), .dat (.int 0), .dat (.int 0), .no, .no]) rfl).trans ((sSeq_nx h1).trans e))⟩
theorem erase_perm {α : Type} : ∀ (l : List α) (r : Nat) (h : r < l.length), (l[r] :: l.eraseIdx r).Perm l
  | x :: l, 0, _ => List.Perm.refl _
  | x :: l, r + 1, h => by
    rw [List.eraseIdx_cons_succ, List.getElem_cons_succ]
    exact (List.Perm.swap _ _ _).trans ((erase_perm l r (Nat.lt_of_succ_lt_succ h)).cons x)
theorem f_mixed {vs : List PyData} (hl : vs.length < 9000) : Draw F__law_mixed [.list vs] fun d => ∃ l, d = .list l ∧ l.Perm vs := by
  have turn : ∀ x y (l2 l3 : List PyData) a, 0 < l2.length → l2.length < 9000 → l3.length < 9000 → ∃ x' y', ∃ r, ∃ h : r < l2.length, (sEx (mMt1 3 dAppend (mMt1 2 dPopAt (mCallX [0] F__law_take (gaS 0 (gaD (m1 dLen (mVar 2)) gaNil)))))) [pool x y, .dat (.list vs), .own (.lst l2), .own (.lst l3), a] = some (.nx, [pool x' y', .dat (.list vs), .own (.lst (l2.eraseIdx r)), .own (.lst (l3 ++ [l2[r]])), a]) := by
    intro x y l2 l3 a h0 h2 h3
    obtain ⟨d, x', y', ⟨r, rfl, r0, r1⟩, e⟩ := draw_ok (j := 0) (mb := gaD (m1 dLen (mVar 2)) gaNil) (x := x) (y := y) (ρ := [pool x y, .dat (.list vs), .own (.lst l2), .own (.lst l3), a]) (ρ1 := [pool x y, .dat (.list vs), .own (.lst l2), .own (.lst l3), a]) (f_take (n := l2.length) (by omega) (by omega)) rfl (gaD_ok (m1_ok (a := .list l2) rfl rfl) gaNil_ok) ⟨x, y, rfl⟩
    obtain ⟨k, rfl⟩ := Int.eq_ofNat_of_zero_le r0
    have hk : k < l2.length := by omega
    refine ⟨x', y', k, hk, sOf_ok (ρ1 := [pool x' y', .dat (.list vs), .own (.lst (l2.eraseIdx k)), .own (.lst (l3 ++ [l2[k]])), a]) (a := .none) ?_⟩
    have e2 : mMt1 2 dPopAt (mCallX [0] F__law_take (gaS 0 (gaD (m1 dLen (mVar 2)) gaNil))) [pool x y, .dat (.list vs), .own (.lst l2), .own (.lst l3), a] = some (.ok l2[k], [pool x' y', .dat (.list vs), .own (.lst (l2.eraseIdx k)), .own (.lst l3), a]) := by
      unfold mMt1
      show (M.bind _ _) [pool x y, .dat (.list vs), .own (.lst l2), .own (.lst l3), a] = _
      rw [M.bind_ok e]
      have : dPopAt l2 (.int (k : Int)) = some (l2[k], l2.eraseIdx k) := by
        unfold dPopAt
        dsimp only
        rw [if_pos ⟨by omega, by omega⟩, Int.toNat_natCast, List.getElem?_eq_getElem hk]
        rfl
      show (dPopAt l2 (.int (k : Int))).map _ = _
      rw [this]
      rfl
    unfold mMt1
    show (M.bind (mMt1 2 dPopAt _) _) [pool x y, .dat (.list vs), .own (.lst l2), .own (.lst l3), a] = _
    rw [M.bind_ok e2]
    show (dAppend l3 l2[k]).map _ = _
    have : dAppend l3 l2[k] = some (.none, l3 ++ [l2[k]]) := by
      show (if l3.length < lim then _ else _) = _
      rw [if_pos (by unfold lim; omega)]
    rw [this]
    rfl
  have loop : ∀ (ds : List PyData) x y (l2 l3 : List PyData) a, l2.length = ds.length → (l2 ++ l3).Perm vs → ∃ x' y' l a', sFor (gN 4) (sEx (mMt1 3 dAppend (mMt1 2 dPopAt (mCallX [0] F__law_take (gaS 0 (gaD (m1 dLen (mVar 2)) gaNil)))))) ds [pool x y, .dat (.list vs), .own (.lst l2), .own (.lst l3), a] = some (.nx, [pool x' y', .dat (.list vs), .own (.lst []), .own (.lst l), a']) ∧ l.Perm vs := by
    intro ds
    induction ds with
    | nil =>
      intro x y l2 l3 a h p
      have : l2 = [] := List.length_eq_zero_iff.mp h
      subst this
      exact ⟨x, y, l3, a, rfl, p⟩
    | cons d ds ih =>
      intro x y l2 l3 a h p
      have hlen := p.length_eq
      rw [List.length_append] at hlen
      rw [List.length_cons] at h
      obtain ⟨x', y', r, hr, e⟩ := turn x y l2 l3 (.dat d) (by omega) (by omega) (by omega)
      obtain ⟨x2, y2, l, a2, e2, p2⟩ := ih x' y' (l2.eraseIdx r) (l3 ++ [l2[r]]) (.dat d) (by rw [List.length_eraseIdx, if_pos hr]; omega) (by
        refine List.Perm.trans ?_ p
        rw [← List.append_assoc]
        refine List.perm_append_comm.trans ?_
        show (l2[r] :: (l2.eraseIdx r ++ l3)).Perm (l2 ++ l3)
        exact (erase_perm l2 r hr).append_right l3)
      exact ⟨x2, y2, l, a2, (sFor_nx rfl e).trans e2, p2⟩
  intro x y
  obtain ⟨x', y', l, a', e, p⟩ := loop (rngD 0 vs.length) x y vs [] .no (by rw [rngD_len]) (by rw [List.append_nil])
  refine ⟨.list l, x', y', [.dat (.list vs), .own (.lst []), .dat (.list l), a'], ⟨l, rfl, p⟩, fnOf_ret ?_⟩
  refine (sSeq_nx (ρ1 := [pool x y, .dat (.list vs), .own (.lst vs), .own (.lst []), .no]) rfl).trans ?_
  refine (sSeq_nx ((sForS_ok (rng_ok (ρ1 := [pool x y, .dat (.list vs), .own (.lst vs), .own (.lst []), .no]) (m1_ok (a := .list vs) rfl rfl) (by unfold lim; omega))).trans e)).trans rfl
end Ev

set_option Elab.async false
set_option linter.all false
set_option maxRecDepth 100000
set_option maxHeartbeats 4000000
/-! drawn sizes, all amounts. -/
namespace Ev
open PySem PySem.Spec PyProof.Rows L2 Ed
def All2 (R : PyData → PyData → Prop) : List PyData → List PyData → Prop
  | [], [] => True
  | a :: as, b :: bs => R a b ∧ All2 R as bs
  | _, _ => False
theorem All2.len {R : PyData → PyData → Prop} : ∀ {as bs : List PyData}, All2 R as bs → bs.length = as.length
  | [], [], _ => rfl
  | _ :: _, _ :: _, h => congrArg Nat.succ (All2.len h.2)
  | [], _ :: _, h => h.elim
  | _ :: _, [], h => h.elim
theorem All2.all {R : PyData → PyData → Prop} {P : PyData → Prop} (hp : ∀ a b, R a b → P b) : ∀ {as bs : List PyData}, All2 R as bs → ∀ b ∈ bs, P b
  | [], [], _, b, hb => (List.not_mem_nil hb).elim
  | a :: as, b :: bs, h, c, hc => by
    rcases List.mem_cons.mp hc with rfl | hc
    · exact hp _ _ h.1
    · exact All2.all hp h.2 c hc
  | [], _ :: _, h, _, _ => h.elim
  | _ :: _, [], h, _, _ => h.elim
/-- a comprehension that draws -/
theorem lcLoop_run {vs : List Nat} {g : Tf} {t : M Bool} {e : M PyData} {R : PyData → PyData → Prop} (Pv : List Sl → Prop) : ∀ {ds acc : List PyData} {ρ : List Sl}, acc.length + ds.length ≤ lim → Pv ρ →
    (∀ d ∈ ds, ∀ ρ, Pv ρ → ∃ ρ1 x ρ2, g d (wS vs ρ) = some ρ1 ∧ t ρ1 = some (.ok true, ρ1) ∧ e ρ1 = some (.ok x, ρ2) ∧ R d x ∧ Pv ρ2) →
    ∃ xs ρ', lcLoop vs g t e ds acc ρ = some (acc ++ xs, ρ') ∧ All2 R ds xs ∧ Pv ρ'
  | [], acc, ρ, _, h, _ => ⟨[], ρ, by simp [lcLoop], trivial, h⟩
  | d :: ds, acc, ρ, hl, h, st => by
    rw [List.length_cons] at hl
    obtain ⟨ρ1, x, ρ2, h1, h2, h3, h4, h5⟩ := st d List.mem_cons_self ρ h
    obtain ⟨xs, ρ', e1, e2, e3⟩ := lcLoop_run (ds := ds) (acc := acc ++ [x]) (ρ := ρ2) Pv (by rw [List.length_append, List.length_singleton]; omega) h5 fun y hy => st y (List.mem_cons_of_mem _ hy)
    refine ⟨x :: xs, ρ', ?_, ⟨h4, e2⟩, e3⟩
    unfold lcLoop
    rw [h1]
    dsimp only
    rw [h2]
    dsimp only
    rw [h3]
    dsimp only
    rw [if_pos (show acc.length < lim by omega), e1, List.append_assoc]
    rfl
theorem mLc_run {vs : List Nat} {mi : M (List PyData)} {g : Tf} {t : M Bool} {e : M PyData} {R : PyData → PyData → Prop} {ds : List PyData} {ρ ρ1 : List Sl} (Pv : List Sl → Prop) (hi : mi ρ = some (.ok ds, ρ1)) (hl : ds.length ≤ lim) (hp : Pv ρ1)
    (h : ∀ d ∈ ds, ∀ ρ, Pv ρ → ∃ ρ1 x ρ2, g d (wS vs ρ) = some ρ1 ∧ t ρ1 = some (.ok true, ρ1) ∧ e ρ1 = some (.ok x, ρ2) ∧ R d x ∧ Pv ρ2) :
    ∃ xs ρ', mLc vs mi g t e ρ = some (.ok (.lst xs), resto ρ1 vs (wS vs ρ')) ∧ All2 R ds xs ∧ Pv ρ' := by
  obtain ⟨xs, ρ', e1, e2, e3⟩ := lcLoop_run (acc := []) Pv (by simpa using hl) hp h
  refine ⟨xs, ρ', ?_, e2, e3⟩
  unfold mLc
  rw [M.bind_ok hi, e1]
  rfl
theorem ints_of {P : Int → Prop} : ∀ {xs : List PyData}, (∀ x ∈ xs, ∃ z, x = .int z ∧ P z) → ∃ zs : List Int, xs = zs.map .int ∧ ∀ z ∈ zs, P z
  | [], _ => ⟨[], rfl, fun z h => (List.not_mem_nil h).elim⟩
  | x :: xs, h => by
    obtain ⟨z, rfl, hz⟩ := h x List.mem_cons_self
    obtain ⟨zs, rfl, hs⟩ := ints_of fun x hx => h x (List.mem_cons_of_mem _ hx)
    refine ⟨z :: zs, rfl, fun y hy => ?_⟩
    rcases List.mem_cons.mp hy with rfl | hy
    · exact hz
    · exact hs y hy
def SzOk (zs : List Int) : Prop := zs.length ≤ 2 ∧ ∀ z ∈ zs, 2 ≤ z ∧ z ≤ 6
theorem f_v_sizes : Draw F__law_v_sizes [] fun d => ∃ zs, d = tupI zs ∧ SzOk zs := by
  intro x y
  obtain ⟨d, x1, y1, hd, e⟩ := draw_ok (j := 0) (mb := gaD (mOfL (mLst (mCons (M.pure (.int 1)) (mCons (M.pure (.int 2)) (mCons (M.pure (.int 1)) (mCons (M.pure (.int 2)) (mCons (M.pure (.int 0)) mNil))))))) gaNil) (x := x) (y := y) (ρ := [pool x y, .no]) (ρ1 := [pool x y, .no]) (f_one (D := .list [.int 1, .int 2, .int 1, .int 2, .int 0]) rfl (by simp) (by simp)) rfl (gaD_ok (d := .list [.int 1, .int 2, .int 1, .int 2, .int 0]) rfl gaNil_ok) ⟨x, y, rfl⟩
  have hn : ∃ n : Nat, d = .int (n : Nat) ∧ n ≤ 2 := by
    simp only [List.mem_cons, List.not_mem_nil, or_false] at hd
    rcases hd with rfl | rfl | rfl | rfl | rfl
    · exact ⟨1, rfl, by omega⟩
    · exact ⟨2, rfl, by omega⟩
    · exact ⟨1, rfl, by omega⟩
    · exact ⟨2, rfl, by omega⟩
    · exact ⟨0, rfl, by omega⟩
  obtain ⟨n, rfl, hn⟩ := hn
  obtain ⟨xs, ρ', e2, e3, ⟨x', y', a, rfl⟩⟩ := mLc_run (vs := [1]) (mi := mRng (mCons (mCallX [0] F__law_one (gaS 0 (gaD (mOfL (mLst (mCons (M.pure (.int 1)) (mCons (M.pure (.int 2)) (mCons (M.pure (.int 1)) (mCons (M.pure (.int 2)) (mCons (M.pure (.int 0)) mNil))))))) gaNil))) mNil)) (g := gN 1) (t := M.pure true)
    (e := mCallX [0] F__law_one (gaS 0 (gaD (mOfL (mLst (mCons (M.pure (.int 2)) (mCons (M.pure (.int 3)) (mCons (M.pure (.int 2)) (mCons (M.pure (.int 4)) (mCons (M.pure (.int 5)) (mCons (M.pure (.int 6)) mNil)))))))) gaNil))) (R := fun _ x => ∃ z, x = .int z ∧ 2 ≤ z ∧ z ≤ 6) (ds := rngD 0 n) (ρ := [pool x y, .no]) (ρ1 := [pool x1 y1, .no]) (fun ρ => ∃ x y a, ρ = [pool x y, a]) (rng_ok e (by unfold lim; omega)) (by rw [rngD_len]; unfold lim; omega) ⟨_, _, _, rfl⟩ (by
      rintro d _ ρ ⟨x, y, a, rfl⟩
      obtain ⟨v, x2, y2, hv, e⟩ := draw_ok (j := 0) (mb := gaD (mOfL (mLst (mCons (M.pure (.int 2)) (mCons (M.pure (.int 3)) (mCons (M.pure (.int 2)) (mCons (M.pure (.int 4)) (mCons (M.pure (.int 5)) (mCons (M.pure (.int 6)) mNil)))))))) gaNil) (x := x) (y := y) (ρ := [pool x y, .dat d]) (ρ1 := [pool x y, .dat d]) (f_one (D := .list [.int 2, .int 3, .int 2, .int 4, .int 5, .int 6]) rfl (by simp) (by simp)) rfl (gaD_ok (d := .list [.int 2, .int 3, .int 2, .int 4, .int 5, .int 6]) rfl gaNil_ok) ⟨x, y, rfl⟩
      refine ⟨[pool x y, .dat d], v, [pool x2 y2, .dat d], rfl, rfl, e, ?_, ⟨_, _, _, rfl⟩⟩
      simp only [List.mem_cons, List.not_mem_nil, or_false] at hv
      rcases hv with rfl | rfl | rfl | rfl | rfl | rfl <;> exact ⟨_, rfl, by omega, by omega⟩)
  obtain ⟨zs, rfl, hz⟩ := ints_of (P := fun z => 2 ≤ z ∧ z ≤ 6) (e3.all (P := fun x => ∃ z, x = .int z ∧ 2 ≤ z ∧ z ≤ 6) fun _ _ h => h)
  have hl := e3.len
  rw [rngD_len, List.length_map] at hl
  refine ⟨tupI zs, x', y', [.no], ⟨zs, rfl, by omega, hz⟩, fnOf_ret (sRet_ok (m1_ok (a := .list (zs.map .int)) (mOfL_ok e2) rfl))⟩
def allA (zs : List Int) : List (List Int) := zs.foldl (fun as z => as.flatMap fun a => (List.range z.toNat).map fun (i : Nat) => a ++ [(i : Int)]) [[]]
def AllOk (zs : List Int) : Prop := ((F__law_v_all_amounts [.dat (tupI zs)]).map fun q => q.1) = some (.ok (.dat (.list ((allA zs).map tupI))))
def factsB (zs : List Int) : Bool := decide (allA zs).Nodup && decide (1 ≤ (allA zs).length) && decide ((allA zs).length ≤ 36) && (allA zs).all fun k => decide (fitL zs (k.map .int) = some k)
theorem all0 : AllOk [] := by unfold AllOk; kernel_rfl
theorem all1 (a : Int) (h : 2 ≤ a ∧ a ≤ 6) : AllOk [a] := by
  rcases (show a = 2 ∨ a = 3 ∨ a = 4 ∨ a = 5 ∨ a = 6 by omega) with rfl | rfl | rfl | rfl | rfl <;> (unfold AllOk; kernel_rfl)
theorem all2 (a b : Int) (h : 2 ≤ a ∧ a ≤ 6) (h' : 2 ≤ b ∧ b ≤ 6) : AllOk [a, b] := by
  rcases (show a = 2 ∨ a = 3 ∨ a = 4 ∨ a = 5 ∨ a = 6 by omega) with rfl | rfl | rfl | rfl | rfl <;> rcases (show b = 2 ∨ b = 3 ∨ b = 4 ∨ b = 5 ∨ b = 6 by omega) with rfl | rfl | rfl | rfl | rfl <;> (unfold AllOk; kernel_rfl)
theorem fac0 : factsB [] = true := by decide +kernel
theorem fac1 (a : Int) (h : 2 ≤ a ∧ a ≤ 6) : factsB [a] = true := by
  rcases (show a = 2 ∨ a = 3 ∨ a = 4 ∨ a = 5 ∨ a = 6 by omega) with rfl | rfl | rfl | rfl | rfl <;> decide +kernel
theorem fac2 (a b : Int) (h : 2 ≤ a ∧ a ≤ 6) (h' : 2 ≤ b ∧ b ≤ 6) : factsB [a, b] = true := by
  rcases (show a = 2 ∨ a = 3 ∨ a = 4 ∨ a = 5 ∨ a = 6 by omega) with rfl | rfl | rfl | rfl | rfl <;> rcases (show b = 2 ∨ b = 3 ∨ b = 4 ∨ b = 5 ∨ b = 6 by omega) with rfl | rfl | rfl | rfl | rfl <;> decide +kernel
theorem sz_cases {zs : List Int} (h : SzOk zs) (P : List Int → Prop) (h0 : P []) (h1 : ∀ a, 2 ≤ a ∧ a ≤ 6 → P [a]) (h2 : ∀ a b, 2 ≤ a ∧ a ≤ 6 → 2 ≤ b ∧ b ≤ 6 → P [a, b]) : P zs := by
  match zs, h with
  | [], _ => exact h0
  | [a], h => exact h1 a (h.2 a List.mem_cons_self)
  | [a, b], h => exact h2 a b (h.2 a List.mem_cons_self) (h.2 b (List.mem_cons_of_mem _ List.mem_cons_self))
  | _ :: _ :: _ :: _, h =>
    have := h.1
    simp only [List.length_cons] at this
    omega
theorem f_v_all {zs : List Int} (h : SzOk zs) : Tells F__law_v_all_amounts [tupI zs] (.list ((allA zs).map tupI)) := by
  have e : AllOk zs := sz_cases h AllOk all0 all1 all2
  unfold AllOk at e
  obtain ⟨q, h1, h2⟩ := Option.map_eq_some_iff.mp e
  exact ⟨q.2, by rw [← h2]; exact h1⟩
theorem facts {zs : List Int} (h : SzOk zs) : (allA zs).Nodup ∧ 1 ≤ (allA zs).length ∧ (allA zs).length ≤ 36 ∧ ∀ k ∈ allA zs, fitL zs (k.map .int) = some k := by
  have e : factsB zs = true := sz_cases h (fun zs => factsB zs = true) fac0 fac1 fac2
  unfold factsB at e
  simp only [Bool.and_eq_true, decide_eq_true_eq, List.all_eq_true] at e
  exact ⟨e.1.1.1, e.1.1.2, e.1.2, e.2⟩
end Ev

set_option Elab.async false
set_option linter.all false
set_option maxRecDepth 100000
set_option maxHeartbeats 4000000
/-! drawn kinds, fields, records. -/
namespace Ev
open PySem PySem.Spec PyProof.Rows L2 Ed
def unI : PyData → Int
  | .int i => i
  | _ => 0
def unT : PyData → List Int
  | .tuple ds => ds.map unI
  | _ => []
theorem unT_tupI (a : List Int) : unT (tupI a) = a := by
  show (a.map PyData.int).map unI = a
  rw [List.map_map]
  exact List.map_id a
theorem perm_tupI {l : List PyData} {as : List (List Int)} (h : l.Perm (as.map tupI)) : ∃ ks : List (List Int), l = ks.map tupI ∧ ks.Perm as := by
  refine ⟨l.map unT, ?_, ?_⟩
  · rw [List.map_map]
    have e : ∀ x ∈ l, (tupI ∘ unT) x = id x := fun x hx => by
      obtain ⟨a, _, rfl⟩ := List.mem_map.mp ((h.mem_iff).mp hx)
      show tupI (unT (tupI a)) = _
      rw [unT_tupI]
      rfl
    exact ((List.map_congr_left e).trans (List.map_id l)).symm
  · have := h.map unT
    rw [List.map_map] at this
    have e : (unT ∘ tupI) = id := funext unT_tupI
    rwa [e, List.map_id] at this
def Hands (zs : List Int) (ks : List (List Int)) : Prop := ks.Nodup ∧ 1 ≤ ks.length ∧ ks.length ≤ 6 ∧ ∀ k ∈ ks, fitL zs (k.map .int) = some k
def KindN (k : PyData) : Prop := ∃ zs ks, k = .tuple [tupI zs, .tuple (ks.map tupI)] ∧ SzOk zs ∧ Hands zs ks
theorem f_v_kind : Draw F__law_v_kind [.int 6] KindN := by
  intro x y
  obtain ⟨d, x1, y1, ⟨zs, rfl, hz⟩, e1⟩ := draw_ok (j := 0) (mb := gaNil) (x := x) (y := y) (ρ := [pool x y, .dat (.int 6), .no, .no, .no]) (ρ1 := [pool x y, .dat (.int 6), .no, .no, .no]) f_v_sizes rfl rfl ⟨x, y, rfl⟩
  obtain ⟨hnd, hl1, hl2, hfit⟩ := facts hz
  obtain ⟨ρv, ev⟩ := f_v_all hz
  have e2 : mCallX [] F__law_v_all_amounts (gaD (mDat 2) gaNil) [pool x1 y1, .dat (.int 6), .dat (tupI zs), .no, .no] = some (.ok (.list ((allA zs).map tupI)), [pool x1 y1, .dat (.int 6), .dat (tupI zs), .no, .no]) := call_ok (xs := [.dat (tupI zs)]) (gaD_ok (d := tupI zs) rfl gaNil_ok) ev
  have hlm : ((allA zs).map tupI).length < 9000 := by rw [List.length_map]; omega
  -- what is mixed, from these slots
  have mix : ∀ x y a, ∃ (ks : List (List Int)) (x' y' : Int), ks.Perm (allA zs) ∧ mCallX [0] F__law_mixed (gaS 0 (gaD (mDat 3) gaNil)) [pool x y, .dat (.int 6), .dat (tupI zs), .dat (.list ((allA zs).map tupI)), a] = some (.ok (.list (ks.map tupI)), [pool x' y', .dat (.int 6), .dat (tupI zs), .dat (.list ((allA zs).map tupI)), a]) := fun x y a => by
    obtain ⟨d, x', y', ⟨l, rfl, hp⟩, e⟩ := draw_ok (j := 0) (mb := gaD (mDat 3) gaNil) (x := x) (y := y) (ρ := [pool x y, .dat (.int 6), .dat (tupI zs), .dat (.list ((allA zs).map tupI)), a]) (ρ1 := [pool x y, .dat (.int 6), .dat (tupI zs), .dat (.list ((allA zs).map tupI)), a]) (f_mixed hlm) rfl (gaD_ok (d := .list ((allA zs).map tupI)) rfl gaNil_ok) ⟨x, y, rfl⟩
    obtain ⟨ks, rfl, hk⟩ := perm_tupI hp
    exact ⟨ks, x', y', hk, e⟩
  have len3 : ∀ x y a, m1 dLen (mDat 3) [pool x y, .dat (.int 6), .dat (tupI zs), .dat (.list ((allA zs).map tupI)), a] = some (.ok (.int (allA zs).length), [pool x y, .dat (.int 6), .dat (tupI zs), .dat (.list ((allA zs).map tupI)), a]) := fun x y a => m1_ok (a := .list ((allA zs).map tupI)) rfl (by show some (PyData.int ((allA zs).map tupI).length) = _; rw [List.length_map])
  obtain ⟨ks, x2, y2, hk, e3⟩ := mix x1 y1 .no
  have hmin : ∃ c : Int, 1 ≤ c ∧ c ≤ 6 ∧ c ≤ (allA zs).length ∧ mN dMin (mCons (mDat 1) (mCons (m1 dLen (mDat 3)) mNil)) [pool x2 y2, .dat (.int 6), .dat (tupI zs), .dat (.list ((allA zs).map tupI)), .no] = some (.ok (.int c), [pool x2 y2, .dat (.int 6), .dat (tupI zs), .dat (.list ((allA zs).map tupI)), .no]) := by
    refine ⟨if ((allA zs).length : Int) < 6 then (allA zs).length else 6, by split <;> omega, by split <;> omega, by split <;> omega, ?_⟩
    unfold mN
    rw [M.bind_ok (mCons_ok (d := .int 6) rfl (mCons_ok (len3 _ _ _) mNil_ok))]
    rfl
  obtain ⟨c, hc1, hc2, hc3, e4⟩ := hmin
  obtain ⟨d, x3, y3, ⟨r, rfl, r0, r1⟩, e5⟩ := draw_ok (j := 0) (mb := gaD (mN dMin (mCons (mDat 1) (mCons (m1 dLen (mDat 3)) mNil))) gaNil) (x := x2) (y := y2) (ρ := [pool x2 y2, .dat (.int 6), .dat (tupI zs), .dat (.list ((allA zs).map tupI)), .no]) (ρ1 := [pool x2 y2, .dat (.int 6), .dat (tupI zs), .dat (.list ((allA zs).map tupI)), .no]) (f_take (n := c) (by omega) (by omega)) rfl (gaD_ok e4 gaNil_ok) ⟨_, _, rfl⟩
  obtain ⟨m, rfl⟩ := Int.eq_ofNat_of_zero_le r0
  have hkl := hk.length_eq
  have e6 : mSl dCutA (mCallX [0] F__law_mixed (gaS 0 (gaD (mDat 3) gaNil))) M.pure mNoP (mPart (m2A dAddA (M.pure (.int 1)) M.pure (mCallX [0] F__law_take (gaS 0 (gaD (mN dMin (mCons (mDat 1) (mCons (m1 dLen (mDat 3)) mNil))) gaNil))))) [pool x1 y1, .dat (.int 6), .dat (tupI zs), .dat (.list ((allA zs).map tupI)), .no] = some (.ok (.list ((ks.take (1 + m)).map tupI)), [pool x3 y3, .dat (.int 6), .dat (tupI zs), .dat (.list ((allA zs).map tupI)), .no]) := by
    unfold mSl
    rw [M.bind_ok e3, M.bind_ok (m := mNoP) (a := none) (ρ1 := [pool x2 y2, .dat (.int 6), .dat (tupI zs), .dat (.list ((allA zs).map tupI)), .no]) rfl]
    unfold mPart
    rw [M.bind_ok (a := some (((1 + m : Nat)) : Int)) (ρ1 := [pool x3 y3, .dat (.int 6), .dat (tupI zs), .dat (.list ((allA zs).map tupI)), .no]) (by
      rw [M.bind_ok (m2_ok (a := .int 1) (d := .int (((1 + m : Nat)) : Int)) rfl e5 (by
        show some (PyData.int (1 + (m : Int))) = _
        congr 2))]
      rfl)]
    show some (Rs.ok (PyData.list (Ed.cutD (ks.map tupI) none (some (((1 + m : Nat)) : Int)))), _) = _
    by_cases hm : 1 + m ≤ ks.length
    · rw [cut_take _ _ (by rw [List.length_map]; exact hm), List.map_take]
    · omega
  have hh : Hands zs (ks.take (1 + m)) := by
    refine ⟨((hk.nodup_iff).mpr hnd).sublist (List.take_sublist _ _), ?_, ?_, fun k hm => hfit k ((hk.mem_iff).mp (List.mem_of_mem_take hm))⟩
    · rw [List.length_take]
      omega
    · rw [List.length_take]
      omega
  -- the second way
  have e7 : ∃ (ks' : List (List Int)) (x' y' : Int), Hands zs ks' ∧ sIf (mAnd (mTest (m2A dLe (m1 dLen (mDat 3)) M.pure (mDat 1))) (mTest (m2A dEq (mCallX [0] F__law_take (gaS 0 (gaD (M.pure (.int 2)) gaNil))) M.pure (M.pure (.int 0))))) (sSet 4 (mCallX [0] F__law_mixed (gaS 0 (gaD (mDat 3) gaNil)))) sNx [pool x3 y3, .dat (.int 6), .dat (tupI zs), .dat (.list ((allA zs).map tupI)), .dat (.list ((ks.take (1 + m)).map tupI))] = some (.nx, [pool x' y', .dat (.int 6), .dat (tupI zs), .dat (.list ((allA zs).map tupI)), .dat (.list (ks'.map tupI))]) := by
    have t1 : mTest (m2A dLe (m1 dLen (mDat 3)) M.pure (mDat 1)) [pool x3 y3, .dat (.int 6), .dat (tupI zs), .dat (.list ((allA zs).map tupI)), .dat (.list ((ks.take (1 + m)).map tupI))] = some (.ok (decide (((allA zs).length : Int) ≤ 6)), [pool x3 y3, .dat (.int 6), .dat (tupI zs), .dat (.list ((allA zs).map tupI)), .dat (.list ((ks.take (1 + m)).map tupI))]) := mTest_ok (m2_ok (a := .int (allA zs).length) (b := .int 6) (len3 _ _ _) rfl rfl)
    unfold mAnd
    by_cases hl : ((allA zs).length : Int) ≤ 6
    · rw [decide_eq_true hl] at t1
      obtain ⟨d, x4, y4, ⟨r, rfl, r0, r1⟩, e8⟩ := draw_ok (j := 0) (mb := gaD (M.pure (.int 2)) gaNil) (x := x3) (y := y3) (ρ := [pool x3 y3, .dat (.int 6), .dat (tupI zs), .dat (.list ((allA zs).map tupI)), .dat (.list ((ks.take (1 + m)).map tupI))]) (ρ1 := [pool x3 y3, .dat (.int 6), .dat (tupI zs), .dat (.list ((allA zs).map tupI)), .dat (.list ((ks.take (1 + m)).map tupI))]) (f_take (n := 2) (by omega) (by omega)) rfl (gaD_ok (d := .int 2) rfl gaNil_ok) ⟨_, _, rfl⟩
      have t2 : mTest (m2A dEq (mCallX [0] F__law_take (gaS 0 (gaD (M.pure (.int 2)) gaNil))) M.pure (M.pure (.int 0))) [pool x3 y3, .dat (.int 6), .dat (tupI zs), .dat (.list ((allA zs).map tupI)), .dat (.list ((ks.take (1 + m)).map tupI))] = some (.ok (decide (r = 0)), [pool x4 y4, .dat (.int 6), .dat (tupI zs), .dat (.list ((allA zs).map tupI)), .dat (.list ((ks.take (1 + m)).map tupI))]) := mTest_ok (m2_ok (a := .int r) (b := .int 0) e8 rfl (by
        show dEq0 _ _ = _
        unfold dEq0
        rw [gd_sh (gd_int r 0) (by omega), gd_sh (gd_int 0 0) (by omega), PyData.eqv]
        rfl))
      by_cases hr : r = 0
      · obtain ⟨k2, x5, y5, hk2, e9⟩ := mix x4 y4 (.dat (.list ((ks.take (1 + m)).map tupI)))
        have hk2l := hk2.length_eq
        refine ⟨k2, x5, y5, ⟨(hk2.nodup_iff).mpr hnd, by omega, by omega, fun k hm => hfit k ((hk2.mem_iff).mp hm)⟩, ?_⟩
        rw [decide_eq_true hr] at t2
        exact (sIf_t ((M.bind_ok t1).trans t2)).trans (sSet_ok e9)
      · refine ⟨_, x4, y4, hh, ?_⟩
        rw [decide_eq_false hr] at t2
        exact (sIf_f ((M.bind_ok t1).trans t2)).trans rfl
    · rw [decide_eq_false hl] at t1
      exact ⟨_, x3, y3, hh, (sIf_f ((M.bind_ok t1).trans rfl)).trans rfl⟩
  obtain ⟨k2, x4, y4, hh2, e8⟩ := e7
  refine ⟨.tuple [tupI zs, .tuple (k2.map tupI)], x4, y4, [.dat (.int 6), .dat (tupI zs), .dat (.list ((allA zs).map tupI)), .dat (.list (k2.map tupI))], ⟨zs, k2, rfl, hz, hh2⟩, fnOf_ret ?_⟩
  refine (sSeq_nx (sSet_ok e1)).trans ?_
  refine (sSeq_nx (sSet_ok e2)).trans ?_
  refine (sSeq_nx (sSet_ok e6)).trans ?_
  refine (sSeq_nx e8).trans (sRet_ok ?_)
  exact mTup_ok (mCons_ok (d := tupI zs) rfl (mCons_ok (d := .tuple (k2.map tupI)) (m1_ok (a := .list (k2.map tupI)) rfl rfl) mNil_ok)) (by show 2 ≤ 1000000; decide)
end Ev

set_option Elab.async false
set_option linter.all false
set_option maxRecDepth 100000
set_option maxHeartbeats 4000000
/-! drawn fields and records. -/
namespace Ev
open PySem PySem.Spec PyProof.Rows L2 Ed
def FieldsN (fs : List PyData) : Prop := 1 ≤ fs.length ∧ fs.length ≤ 6 ∧ ∀ f ∈ fs, KindN f
theorem f_v_fields : Draw F__law_v_fields [.int 6, .int 6] fun d => ∃ fs, d = .tuple fs ∧ FieldsN fs := by
  intro x y
  obtain ⟨d, x1, y1, ⟨r, rfl, r0, r1⟩, e⟩ := draw_ok (j := 0) (mb := gaD (mDat 1) gaNil) (x := x) (y := y) (ρ := [pool x y, .dat (.int 6), .dat (.int 6), .no]) (ρ1 := [pool x y, .dat (.int 6), .dat (.int 6), .no]) (f_take (n := 6) (by omega) (by omega)) rfl (gaD_ok (d := .int 6) rfl gaNil_ok) ⟨x, y, rfl⟩
  obtain ⟨m, rfl⟩ := Int.eq_ofNat_of_zero_le r0
  have ea : m2A dAddA (M.pure (.int 1)) M.pure (mCallX [0] F__law_take (gaS 0 (gaD (mDat 1) gaNil))) [pool x y, .dat (.int 6), .dat (.int 6), .no] = some (.ok (.int ((1 + m : Nat) : Int)), [pool x1 y1, .dat (.int 6), .dat (.int 6), .no]) := m2_ok (a := .int 1) rfl e (by
    show some (PyData.int (1 + (m : Int))) = _
    congr 2)
  obtain ⟨xs, ρ', e2, e3, ⟨x', y', a, rfl⟩⟩ := mLc_run (vs := [3]) (mi := mRng (mCons (m2A dAddA (M.pure (.int 1)) M.pure (mCallX [0] F__law_take (gaS 0 (gaD (mDat 1) gaNil)))) mNil)) (g := gN 3) (t := M.pure true) (e := mCallX [0] F__law_v_kind (gaS 0 (gaD (mDat 2) gaNil))) (R := fun _ x => KindN x) (ds := rngD 0 (1 + m)) (ρ := [pool x y, .dat (.int 6), .dat (.int 6), .no]) (ρ1 := [pool x1 y1, .dat (.int 6), .dat (.int 6), .no]) (fun ρ => ∃ x y a, ρ = [pool x y, .dat (.int 6), .dat (.int 6), a]) (rng_ok ea (by unfold lim; omega)) (by rw [rngD_len]; unfold lim; omega) ⟨_, _, _, rfl⟩ (by
    rintro d _ ρ ⟨x, y, a, rfl⟩
    obtain ⟨v, x2, y2, hv, e⟩ := draw_ok (j := 0) (mb := gaD (mDat 2) gaNil) (x := x) (y := y) (ρ := [pool x y, .dat (.int 6), .dat (.int 6), .dat d]) (ρ1 := [pool x y, .dat (.int 6), .dat (.int 6), .dat d]) f_v_kind rfl (gaD_ok (d := .int 6) rfl gaNil_ok) ⟨x, y, rfl⟩
    exact ⟨[pool x y, .dat (.int 6), .dat (.int 6), .dat d], v, [pool x2 y2, .dat (.int 6), .dat (.int 6), .dat d], rfl, rfl, e, hv, ⟨_, _, _, rfl⟩⟩)
  have hl := e3.len
  rw [rngD_len] at hl
  exact ⟨.tuple xs, x', y', [.dat (.int 6), .dat (.int 6), .no], ⟨xs, rfl, by omega, by omega, e3.all (P := KindN) fun _ _ h => h⟩, fnOf_ret (sRet_ok (m1_ok (a := .list xs) (mOfL_ok e2) rfl))⟩
def RecN (rs : List PyData) : Prop := ∀ r ∈ rs, ∃ z, r = .int z ∧ 0 ≤ z ∧ z ≤ 6
theorem f_some_record {fs : List PyData} (hf : FieldsN fs) : Draw F__law_v_some_record [.tuple fs] fun d => ∃ rs, d = .tuple rs ∧ rs.length = fs.length ∧ RecN rs := by
  intro x y
  obtain ⟨xs, ρ', e2, e3, ⟨x', y', a, rfl⟩⟩ := mLc_run (vs := [2]) (mi := mSeq (mDat 1)) (g := gN 2) (t := M.pure true) (e := mCallX [0] F__law_take (gaS 0 (gaD (m1 dLen (m2A dIx (mDat 2) M.pure (M.pure (.int 1)))) gaNil))) (R := fun _ x => ∃ z, x = .int z ∧ 0 ≤ z ∧ z ≤ 6) (ds := fs) (ρ := [pool x y, .dat (.tuple fs), .no]) (ρ1 := [pool x y, .dat (.tuple fs), .no]) (fun ρ => ∃ x y a, ρ = [pool x y, .dat (.tuple fs), a]) rfl (by have := hf.2.1; unfold lim; omega) ⟨_, _, _, rfl⟩ (by
    rintro d hd ρ ⟨x, y, a, rfl⟩
    obtain ⟨zs, ks, rfl, hz, hh⟩ := hf.2.2 d hd
    have h1 := hh.2.1
    have h2 := hh.2.2.1
    obtain ⟨v, x2, y2, ⟨r, rfl, r0, r1⟩, e⟩ := draw_ok (j := 0) (mb := gaD (m1 dLen (m2A dIx (mDat 2) M.pure (M.pure (.int 1)))) gaNil) (x := x) (y := y) (ρ := [pool x y, .dat (.tuple fs), .dat (.tuple [tupI zs, .tuple (ks.map tupI)])]) (ρ1 := [pool x y, .dat (.tuple fs), .dat (.tuple [tupI zs, .tuple (ks.map tupI)])]) (f_take (n := ks.length) (by omega) (by omega)) rfl (gaD_ok (d := .int ks.length) (m1_ok (a := .tuple (ks.map tupI)) (m2_ok (a := .tuple [tupI zs, .tuple (ks.map tupI)]) (b := .int 1) rfl rfl rfl) (by show some (PyData.int (ks.map tupI).length) = _; rw [List.length_map])) gaNil_ok) ⟨x, y, rfl⟩
    exact ⟨[pool x y, .dat (.tuple fs), .dat (.tuple [tupI zs, .tuple (ks.map tupI)])], .int r, [pool x2 y2, .dat (.tuple fs), .dat (.tuple [tupI zs, .tuple (ks.map tupI)])], rfl, rfl, e, ⟨r, rfl, r0, by omega⟩, ⟨_, _, _, rfl⟩⟩)
  exact ⟨.tuple xs, x', y', [.dat (.tuple fs), .no], ⟨xs, rfl, e3.len, e3.all (P := fun x => ∃ z, x = .int z ∧ 0 ≤ z ∧ z ≤ 6) fun _ _ h => h⟩, fnOf_ret (sRet_ok (m1_ok (a := .list xs) (mOfL_ok e2) rfl))⟩
/-! ### nice things, put together -/
def Ev1 (m : M PyData) (ρ : List Sl) (P : PyData → Prop) : Prop := ∃ d, m ρ = some (.ok d, ρ) ∧ P d
def EvL (m : M (List PyData)) (ρ : List Sl) (P : PyData → Prop) (n : Nat) : Prop := ∃ ds, m ρ = some (.ok ds, ρ) ∧ ds.length = n ∧ ∀ x ∈ ds, P x
/-- a tuple of at most n such -/
def Tn (n : Nat) (P : PyData → Prop) (d : PyData) : Prop := ∃ ds, d = .tuple ds ∧ ds.length ≤ n ∧ ∀ x ∈ ds, P x
section
variable {ρ : List Sl} {P Q : PyData → Prop} {n m : Nat}
theorem Ev1.mono {a : M PyData} (h : Ev1 a ρ P) (k : ∀ d, P d → Q d) : Ev1 a ρ Q := h.imp fun d z => ⟨z.1, k d z.2⟩
theorem Tn.mono {d : PyData} (h : Tn n P d) (hn : n ≤ m) (k : ∀ d, P d → Q d) : Tn m Q d := h.imp fun ds z => ⟨z.1, Nat.le_trans z.2.1 hn, fun x hx => k x (z.2.2 x hx)⟩
theorem evl_nil : EvL mNil ρ P 0 := ⟨[], rfl, rfl, fun x h => (List.not_mem_nil h).elim⟩
theorem evl_cons {a : M PyData} {b : M (List PyData)} (ha : Ev1 a ρ P) (hb : EvL b ρ P n) : EvL (mCons a b) ρ P (n + 1) := by
  obtain ⟨d, e, p⟩ := ha
  obtain ⟨ds, e2, l, p2⟩ := hb
  refine ⟨d :: ds, mCons_ok e e2, by rw [List.length_cons, l], fun x hx => ?_⟩
  rcases List.mem_cons.mp hx with rfl | hx
  · exact p
  · exact p2 x hx
theorem ev_tup {m : M (List PyData)} (h : EvL m ρ P n) (hn : n ≤ 1000) : Ev1 (mTup m) ρ (Tn n P) := by
  obtain ⟨ds, e, l, p⟩ := h
  exact ⟨.tuple ds, mTup_ok e (by unfold lim; omega), ds, rfl, by omega, p⟩
theorem ev_add {a b : M PyData} (ha : Ev1 a ρ (Tn n P)) (hb : Ev1 b ρ (Tn m P)) (hn : n + m ≤ 1000) : Ev1 (m2A dAddA a M.pure b) ρ (Tn (n + m) P) := by
  obtain ⟨d, e, ds, rfl, l, p⟩ := ha
  obtain ⟨d2, e2, es, rfl, l2, p2⟩ := hb
  refine ⟨.tuple (ds ++ es), m2_ok e e2 ?_, ds ++ es, rfl, by rw [List.length_append]; omega, fun x hx => ?_⟩
  · show (if ds.length + es.length ≤ lim then some (PyData.tuple (ds ++ es)) else none) = _
    rw [if_pos (by unfold lim; omega)]
  · rcases List.mem_append.mp hx with h | h
    · exact p x h
    · exact p2 x h
theorem ev_cut {a : M PyData} {l u : M (Option Int)} {lo hi : Option Int} (ha : Ev1 a ρ (Tn n P)) (hl : l ρ = some (.ok lo, ρ)) (hu : u ρ = some (.ok hi, ρ)) : Ev1 (mSl dCutA a M.pure l u) ρ (Tn n P) := by
  obtain ⟨d, e, ds, rfl, h, p⟩ := ha
  refine ⟨.tuple (Ed.cutD ds lo hi), ?_, Ed.cutD ds lo hi, rfl, ?_, fun x hx => ?_⟩
  · unfold mSl
    rw [M.bind_ok e, M.bind_ok hl, M.bind_ok hu]
    rfl
  · unfold Ed.cutD
    rw [List.length_take, List.length_drop]
    omega
  · exact p x (List.mem_of_mem_drop (List.mem_of_mem_take hx))
theorem ext_ok {i : Nat} {m : M PyData} {ds es : List PyData} (hi : ρ[i]? = some (.own (.lst ds))) (h : m ρ = some (.ok (.list es), ρ)) (hl : ds.length + es.length ≤ 1000) : sEx (mMt1 i dExtend m) ρ = some (.nx, ρ.set i (.own (.lst (ds ++ es)))) := by
  refine sOf_ok (ρ1 := ρ.set i (.own (.lst (ds ++ es)))) (a := .none) ?_
  unfold mMt1 isOL
  rw [hi]
  show (m.bind _) ρ = _
  rw [M.bind_ok h, hi]
  have : dExtend ds (.list es) = some (.none, ds ++ es) := by
    show (if ds.length + es.length ≤ lim then _ else _) = _
    rw [if_pos (by unfold lim; omega)]
  show (dExtend ds (.list es)).map _ = _
  rw [this]
  rfl
end
def NI : PyData → Prop := Nice 0 40
def NA : PyData → Prop := Nice 1 549
def NH : PyData → Prop := Nice 2 7166
def NK : PyData → Prop := Nice 3 21507
def NF : PyData → Prop := Nice 4 150566
theorem na_of {d : PyData} (h : Tn 13 NI d) : NA d := by
  obtain ⟨ds, rfl, l, p⟩ := h
  exact nice_tup p l
theorem nh_of {d : PyData} (h : Tn 13 NA d) : NH d := by
  obtain ⟨ds, rfl, l, p⟩ := h
  exact nice_tup p l
theorem nk_of {d : PyData} (h : Tn 3 NH d) : NK d := by
  obtain ⟨ds, rfl, l, p⟩ := h
  exact nice_tup p l
theorem nf_of {d : PyData} (h : Tn 7 NK d) : NF d := by
  obtain ⟨ds, rfl, l, p⟩ := h
  exact nice_tup p l
theorem NI.na {d : PyData} (h : NI d) : NA d := Nice.mono h (by omega) (by omega)
theorem NA.nh {d : PyData} (h : NA d) : NH d := Nice.mono h (by omega) (by omega)
theorem NH.nk {d : PyData} (h : NH d) : NK d := Nice.mono h (by omega) (by omega)
theorem NK.nf {d : PyData} (h : NK d) : NF d := Nice.mono h (by omega) (by omega)
theorem ni_none : NI .none := nice_none.mono (by omega) (by omega)
theorem ni_small {i : Int} (h0 : -1 ≤ i) (h1 : i ≤ 12) : NI (.int i) := (nice_small h0 h1).mono (by omega) (by omega)
theorem ni_bool (b : Bool) : NI (.bool b) := (nice_bool b).mono (by omega) (by omega)
theorem ni_big : NI (.int (10 ^ 30)) := ⟨⟨by decide +kernel, by decide +kernel⟩, by decide +kernel, by decide +kernel, by decide +kernel, by decide +kernel, by decide +kernel⟩
theorem ni_big1 : NI (.int (10 ^ 30 - 1)) := ⟨⟨by decide +kernel, by decide +kernel⟩, by decide +kernel, by decide +kernel, by decide +kernel, by decide +kernel, by decide +kernel⟩
theorem ni_20 : NI (.int 20) := ⟨⟨by decide +kernel, by decide +kernel⟩, by decide +kernel, by decide +kernel, by decide +kernel, by decide +kernel, by decide +kernel⟩
theorem ni_kind : NI (.str "kind") := ⟨⟨by decide +kernel, by decide +kernel⟩, by decide +kernel, by decide +kernel, by decide +kernel, by decide +kernel, by decide +kernel⟩
theorem ni_fields : NI (.str "fields") := ⟨⟨by decide +kernel, by decide +kernel⟩, by decide +kernel, by decide +kernel, by decide +kernel, by decide +kernel, by decide +kernel⟩
theorem ni_0 : NI (.str "0") := ⟨⟨by decide +kernel, by decide +kernel⟩, by decide +kernel, by decide +kernel, by decide +kernel, by decide +kernel, by decide +kernel⟩
theorem fitL_small {zs : List Int} (hz : ∀ z ∈ zs, z ≤ 6) : ∀ {k : List Int}, fitL zs (k.map .int) = some k → ∀ i ∈ k, 0 ≤ i ∧ i ≤ 6 := by
  induction zs with
  | nil =>
    intro k h i hi
    cases k with
    | nil => exact (List.not_mem_nil hi).elim
    | cons a k => cases h
  | cons z zs ih =>
    intro k h i hi
    cases k with
    | nil => exact (List.not_mem_nil hi).elim
    | cons a k =>
      change (if 0 ≤ a ∧ a < z then (fitL zs (k.map .int)).map (a :: ·) else none) = _ at h
      split at h
      · rename_i ha
        obtain ⟨ms, h1, h2⟩ := Option.map_eq_some_iff.mp h
        cases h2
        have := hz z List.mem_cons_self
        rcases List.mem_cons.mp hi with rfl | hi
        · omega
        · exact ih (fun z h => hz z (List.mem_cons_of_mem _ h)) h1 i hi
      · cases h
theorem KindN.parts {zs : List Int} {ks : List (List Int)} (hz : SzOk zs) (hh : Hands zs ks) : Tn 2 NI (tupI zs) ∧ Tn 6 NA (.tuple (ks.map tupI)) ∧ ∀ k ∈ ks, Tn 2 NI (tupI k) := by
  have hk : ∀ k ∈ ks, Tn 2 NI (tupI k) := fun k hk => by
    have hf := hh.2.2.2 k hk
    refine ⟨k.map .int, rfl, ?_, fun x hx => ?_⟩
    · rw [List.length_map, (fitL_eq hf).2]
      exact hz.1
    · obtain ⟨i, hi, rfl⟩ := List.mem_map.mp hx
      have := fitL_small (fun z h => (hz.2 z h).2) hf i hi
      exact ni_small (by omega) (by omega)
  refine ⟨⟨zs.map .int, rfl, by rw [List.length_map]; exact hz.1, fun x hx => ?_⟩, ⟨ks.map tupI, rfl, by rw [List.length_map]; exact hh.2.2.1, fun x hx => ?_⟩, hk⟩
  · obtain ⟨i, hi, rfl⟩ := List.mem_map.mp hx
    have := hz.2 i hi
    exact ni_small (by omega) (by omega)
  · obtain ⟨k, h, rfl⟩ := List.mem_map.mp hx
    exact na_of ((hk k h).mono (by omega) fun _ z => z)
theorem KindN.nk {k : PyData} (h : KindN k) : NK k := by
  obtain ⟨zs, ks, rfl, hz, hh⟩ := h
  obtain ⟨a, b, _⟩ := KindN.parts hz hh
  refine nk_of ⟨_, rfl, by show 2 ≤ 3; omega, fun x hx => ?_⟩
  rcases List.mem_cons.mp hx with rfl | hx
  · exact (na_of (a.mono (by omega) fun _ z => z)).nh
  · rcases List.mem_cons.mp hx with rfl | hx
    · exact nh_of (b.mono (by omega) fun _ z => z)
    · exact (List.not_mem_nil hx).elim
end Ev

set_option Elab.async false
set_option linter.all false
set_option maxRecDepth 100000
set_option maxHeartbeats 4000000
/-! odd kinds. -/
namespace Ev
open PySem PySem.Spec PyProof.Rows L2 Ed
theorem Ev1.ni {ρ : List Sl} {d : PyData} (h : NI d) : Ev1 (M.pure d) ρ NI := ⟨d, rfl, h⟩
theorem ev_nums {ρ : List Sl} {a k : Int} (h : NI (.int a)) (hk : 0 ≤ k ∧ k ≤ 13) : Ev1 (m2A dMulA (mTup (mCons (M.pure (.int a)) mNil)) M.pure (M.pure (.int k))) ρ (Tn 13 NI) := by
  refine ⟨.tuple (List.replicate k.toNat [PyData.int a]).flatten, m2_ok (a := .tuple [.int a]) (b := .int k) (mTup_ok (mCons_ok (d := .int a) rfl mNil_ok) (by show 1 ≤ 1000000; decide)) rfl ?_, _, rfl, ?_, fun x hx => ?_⟩
  · show (if 0 ≤ k ∧ k ≤ 1000 ∧ 1 ≤ 1000 then _ else _) = _
    rw [if_pos ⟨hk.1, by omega, by omega⟩]
  · rw [List.length_flatten]
    simp
    omega
  · obtain ⟨l, hl, hx⟩ := List.mem_flatten.mp hx
    have := List.eq_of_mem_replicate hl
    subst this
    rw [List.mem_singleton.mp hx]
    exact h
theorem pow_ok {k : Nat} (hk : k ≤ 100) : dPow (.int 10) (.int (k : Nat)) = some (.int ((10 : Int) ^ k)) := by
  show (if (0 : Int) ≤ (k : Int) ∧ (k : Int) ≤ 1000000 ∧ (10 : Int).natAbs < 2 ^ 64 then some (PyData.int ((10 : Int) ^ (k : Int).toNat)) else none) = _
  rw [if_pos ⟨by omega, by omega, by decide⟩]
  rfl
/-- two names at once: the first one's draw comes first -/
theorem par_ok {i j : Nat} {a b : M PyData} {x y : PyData} {ρ ρ1 ρ2 : List Sl} (ha : a ρ = some (.ok x, ρ1)) (hb : b ρ1 = some (.ok y, ρ2)) : sPar2 i j (aD a (aD b aNil)) ρ = some (.nx, (ρ2.set i (.dat x)).set j (.dat y)) := by
  unfold sPar2
  refine (sOf_ok (a := [Ar.d x, Ar.d y]) (ρ1 := ρ2) ?_).trans rfl
  unfold aD
  rw [M.bind_ok ha]
  show ((M.bind b _).bind _) ρ1 = _
  rw [M.bind_ok ((M.bind_ok hb).trans rfl)]
  rfl
theorem f_odd_kind {k : PyData} (hk : KindN k) : Draw F__law_odd_kind [k] NK := by
  obtain ⟨zs, ks, rfl, hz, hh⟩ := hk
  obtain ⟨pz, pk, pe⟩ := KindN.parts hz hh
  have h1 := hh.2.1
  have h2 := hh.2.2.1
  intro x y
  obtain ⟨d, x1, y1, ⟨r, rfl, r0, r1⟩, e⟩ := draw_ok (j := 0) (mb := gaD (m1 dLen (mDat 3)) gaNil) (x := x) (y := y) (ρ := [pool x y, .dat (.tuple [tupI zs, .tuple (ks.map tupI)]), .dat (tupI zs), .dat (.tuple (ks.map tupI)), .no, .no, .no, .no]) (ρ1 := [pool x y, .dat (.tuple [tupI zs, .tuple (ks.map tupI)]), .dat (tupI zs), .dat (.tuple (ks.map tupI)), .no, .no, .no, .no]) (f_take (n := ks.length) (by omega) (by omega)) rfl (gaD_ok (d := .int ks.length) (m1_ok (a := .tuple (ks.map tupI)) rfl (by show some (PyData.int (ks.map tupI).length) = _; rw [List.length_map])) gaNil_ok) ⟨_, _, rfl⟩
  obtain ⟨i, rfl⟩ := Int.eq_ofNat_of_zero_le r0
  have hi : i < ks.length := by omega
  have es : ∃ sh, Tn 2 NI sh ∧ m1 dTup (mSl dCutA (mDat 2) M.pure mNoP (mPart (M.pure (.int 1)))) [pool x1 y1, .dat (.tuple [tupI zs, .tuple (ks.map tupI)]), .dat (tupI zs), .dat (.tuple (ks.map tupI)), .no, .no, .no, .no] = some (.ok sh, [pool x1 y1, .dat (.tuple [tupI zs, .tuple (ks.map tupI)]), .dat (tupI zs), .dat (.tuple (ks.map tupI)), .no, .no, .no, .no]) := by
    obtain ⟨d, e, ds, rfl, l, p⟩ := ev_cut (lo := none) (hi := some 1) (a := mDat 2) (ρ := [pool x1 y1, .dat (.tuple [tupI zs, .tuple (ks.map tupI)]), .dat (tupI zs), .dat (.tuple (ks.map tupI)), .no, .no, .no, .no]) ⟨tupI zs, rfl, pz⟩ (l := mNoP) (u := mPart (M.pure (.int 1))) rfl rfl
    exact ⟨.tuple ds, ⟨ds, rfl, l, p⟩, m1_ok e rfl⟩
  obtain ⟨sh, psh, es⟩ := es
  -- from here on only the slot 6 changes
  have R : ∀ o : Sl, ∃ ρ : List Sl, ρ = [pool x1 y1, .dat (.tuple [tupI zs, .tuple (ks.map tupI)]), .dat (tupI zs), .dat (.tuple (ks.map tupI)), .dat (.int (i : Nat)), .dat sh, o, .no] := fun o => ⟨_, rfl⟩
  have v2 : ∀ o, Ev1 (mDat 2) [pool x1 y1, .dat (.tuple [tupI zs, .tuple (ks.map tupI)]), .dat (tupI zs), .dat (.tuple (ks.map tupI)), .dat (.int (i : Nat)), .dat sh, o, .no] (Tn 2 NI) := fun o => ⟨_, rfl, pz⟩
  have v2h : ∀ o, Ev1 (mDat 2) [pool x1 y1, .dat (.tuple [tupI zs, .tuple (ks.map tupI)]), .dat (tupI zs), .dat (.tuple (ks.map tupI)), .dat (.int (i : Nat)), .dat sh, o, .no] NH := fun o => (v2 o).mono fun d h => (na_of (h.mono (by omega) fun _ z => z)).nh
  have v3 : ∀ o, Ev1 (mDat 3) [pool x1 y1, .dat (.tuple [tupI zs, .tuple (ks.map tupI)]), .dat (tupI zs), .dat (.tuple (ks.map tupI)), .dat (.int (i : Nat)), .dat sh, o, .no] (Tn 6 NA) := fun o => ⟨_, rfl, pk⟩
  have v3h : ∀ o, Ev1 (mDat 3) [pool x1 y1, .dat (.tuple [tupI zs, .tuple (ks.map tupI)]), .dat (tupI zs), .dat (.tuple (ks.map tupI)), .dat (.int (i : Nat)), .dat sh, o, .no] NH := fun o => (v3 o).mono fun d h => nh_of (h.mono (by omega) fun _ z => z)
  have v5 : ∀ o, Ev1 (mDat 5) [pool x1 y1, .dat (.tuple [tupI zs, .tuple (ks.map tupI)]), .dat (tupI zs), .dat (.tuple (ks.map tupI)), .dat (.int (i : Nat)), .dat sh, o, .no] (Tn 2 NI) := fun o => ⟨_, rfl, psh⟩
  have vi : ∀ o, Ev1 (m2A dIx (mDat 3) M.pure (mDat 4)) [pool x1 y1, .dat (.tuple [tupI zs, .tuple (ks.map tupI)]), .dat (tupI zs), .dat (.tuple (ks.map tupI)), .dat (.int (i : Nat)), .dat sh, o, .no] (Tn 2 NI) := fun o => ⟨tupI ks[i], m2_ok (a := .tuple (ks.map tupI)) (b := .int (i : Nat)) rfl rfl (by
    show atI (ks.map tupI) (i : Int) = _
    rw [atI_nat _ i (by rw [List.length_map]; exact hi), List.getElem?_map, List.getElem?_eq_getElem hi]
    rfl), pe _ (List.getElem_mem hi)⟩
  have nn : ∀ {ρ : List Sl}, Ev1 (M.pure .none) ρ NI := Ev1.ni ni_none
  have n3 : ∀ {ρ : List Sl} {a : M PyData} {b : M PyData}, Ev1 a ρ NH → Ev1 b ρ NH → Ev1 (mTup (mCons a (mCons b mNil))) ρ NK := fun ha hb => (ev_tup (evl_cons ha (evl_cons hb evl_nil)) (by omega)).mono fun d h => nk_of (h.mono (by omega) fun _ z => z)
  -- the hands with one of them otherwise
  have bent : ∀ o {b : M PyData}, Ev1 b [pool x1 y1, .dat (.tuple [tupI zs, .tuple (ks.map tupI)]), .dat (tupI zs), .dat (.tuple (ks.map tupI)), .dat (.int (i : Nat)), .dat sh, o, .no] NA → Ev1 (m2A dAddA (m2A dAddA (mSl dCutA (mDat 3) M.pure mNoP (mPart (mDat 4))) M.pure (mTup (mCons b mNil))) M.pure (mSl dCutA (mDat 3) M.pure (mPart (m2A dAddA (mDat 4) M.pure (M.pure (.int 1)))) mNoP)) [pool x1 y1, .dat (.tuple [tupI zs, .tuple (ks.map tupI)]), .dat (tupI zs), .dat (.tuple (ks.map tupI)), .dat (.int (i : Nat)), .dat sh, o, .no] NH := fun o b hb =>
    (ev_add (ev_add (ev_cut (lo := none) (hi := some (i : Int)) (v3 o) rfl rfl) (ev_tup (evl_cons hb evl_nil) (by omega)) (by omega)) (ev_cut (lo := some ((i : Int) + 1)) (hi := none) (v3 o) rfl rfl) (by omega)).mono fun d h => nh_of (h.mono (by omega) fun _ z => z)
  have t1 : ∀ {ρ : List Sl} {d : PyData}, NI d → Ev1 (mTup (mCons (M.pure d) mNil)) ρ (Tn 1 NI) := fun h => ev_tup (evl_cons (Ev1.ni h) evl_nil) (by omega)
  have n1 : ∀ {ρ : List Sl} {d : PyData}, NI d → Ev1 (M.pure d) ρ NH := fun h => (Ev1.ni h).mono fun d h => h.na.nh
  have l1 : ∀ o, EvL (mCons (mTup (mCons (m2A dAddA (mDat 2) M.pure (mTup (mCons (M.pure (.int 1)) mNil))) (mCons (mDat 3) mNil))) (mCons (mTup (mCons (m2A dAddA (mDat 2) M.pure (mTup (mCons (M.pure .none) mNil))) (mCons (mDat 3) mNil))) (mCons (mTup (mCons (M.pure .none) (mCons (mDat 3) mNil))) (mCons (mTup (mCons (mDat 2) (mCons (mTup mNil) mNil))) (mCons (mTup (mCons (mDat 2) (mCons (M.pure .none) mNil))) (mCons (mTup (mCons (mDat 2) mNil)) (mCons (mTup (mCons (mDat 2) (mCons (mDat 3) (mCons (mTup mNil) mNil)))) mNil))))))) [pool x1 y1, .dat (.tuple [tupI zs, .tuple (ks.map tupI)]), .dat (tupI zs), .dat (.tuple (ks.map tupI)), .dat (.int (i : Nat)), .dat sh, o, .no] NK 7 := fun o => by
    have sz : ∀ {d : PyData}, NI d → Ev1 (m2A dAddA (mDat 2) M.pure (mTup (mCons (M.pure d) mNil))) [pool x1 y1, .dat (.tuple [tupI zs, .tuple (ks.map tupI)]), .dat (tupI zs), .dat (.tuple (ks.map tupI)), .dat (.int (i : Nat)), .dat sh, o, .no] NH := fun h => (ev_add (v2 o) (t1 h) (by omega)).mono fun d h => (na_of (h.mono (by omega) fun _ z => z)).nh
    have t0 : Ev1 (mTup mNil) [pool x1 y1, .dat (.tuple [tupI zs, .tuple (ks.map tupI)]), .dat (tupI zs), .dat (.tuple (ks.map tupI)), .dat (.int (i : Nat)), .dat sh, o, .no] NH := (ev_tup (P := NA) evl_nil (by omega)).mono fun d h => nh_of (h.mono (by omega) fun _ z => z)
    refine evl_cons (n3 (sz (ni_small (by omega) (by omega))) (v3h o)) (evl_cons (n3 (sz ni_none) (v3h o)) (evl_cons (n3 (n1 ni_none) (v3h o)) (evl_cons (n3 (v2h o) t0) (evl_cons (n3 (v2h o) (n1 ni_none)) (evl_cons ?_ (evl_cons ?_ evl_nil))))))
    · exact (ev_tup (evl_cons (v2h o) evl_nil) (by omega)).mono fun d h => nk_of (h.mono (by omega) fun _ z => z)
    · exact (ev_tup (evl_cons (v2h o) (evl_cons (v3h o) (evl_cons t0 evl_nil))) (by omega)).mono fun d h => nk_of (h.mono (by omega) fun _ z => z)
  have l2 : ∀ o, EvL (mCons (mTup (mCons (mDat 2) (mCons (m2A dAddA (m2A dAddA (mSl dCutA (mDat 3) M.pure mNoP (mPart (mDat 4))) M.pure (mTup (mCons (m2A dAddA (m2A dIx (mDat 3) M.pure (mDat 4)) M.pure (mTup (mCons (M.pure (.int 0)) mNil))) mNil))) M.pure (mSl dCutA (mDat 3) M.pure (mPart (m2A dAddA (mDat 4) M.pure (M.pure (.int 1)))) mNoP)) mNil))) (mCons (mTup (mCons (mDat 2) (mCons (m2A dAddA (mDat 3) M.pure (mSl dCutA (mDat 3) M.pure mNoP (mPart (M.pure (.int 1))))) mNil))) (mCons (M.pure .none) (mCons (mDat 3) (mCons (M.pure (.str "kind")) mNil))))) [pool x1 y1, .dat (.tuple [tupI zs, .tuple (ks.map tupI)]), .dat (tupI zs), .dat (.tuple (ks.map tupI)), .dat (.int (i : Nat)), .dat sh, o, .no] NK 5 := fun o => by
    refine evl_cons (n3 (v2h o) (bent o ?_)) (evl_cons (n3 (v2h o) ?_) (evl_cons ((n1 ni_none).mono fun _ h => h.nk) (evl_cons ((v3h o).mono fun _ h => h.nk) (evl_cons ((n1 ni_kind).mono fun _ h => h.nk) evl_nil))))
    · exact (ev_add (vi o) (t1 (ni_small (by omega) (by omega))) (by omega)).mono fun d h => na_of (h.mono (by omega) fun _ z => z)
    · exact (ev_add (v3 o) (ev_cut (lo := none) (hi := some 1) (v3 o) rfl rfl) (by omega)).mono fun d h => nh_of (h.mono (by omega) fun _ z => z)
  have l3 : ∀ o, EvL (mCons (mTup (mCons (mDat 2) (mCons (m2A dAddA (m2A dAddA (mSl dCutA (mDat 3) M.pure mNoP (mPart (mDat 4))) M.pure (mTup (mCons (m2A dAddA (mDat 5) M.pure (mSl dCutA (m2A dIx (mDat 3) M.pure (mDat 4)) M.pure (mPart (M.pure (.int 1))) mNoP)) mNil))) M.pure (mSl dCutA (mDat 3) M.pure (mPart (m2A dAddA (mDat 4) M.pure (M.pure (.int 1)))) mNoP)) mNil))) (mCons (mTup (mCons (mDat 2) (mCons (m2A dAddA (m2A dAddA (mSl dCutA (mDat 3) M.pure mNoP (mPart (mDat 4))) M.pure (mTup (mCons (M.pure .none) mNil))) M.pure (mSl dCutA (mDat 3) M.pure (mPart (m2A dAddA (mDat 4) M.pure (M.pure (.int 1)))) mNoP)) mNil))) mNil)) [pool x1 y1, .dat (.tuple [tupI zs, .tuple (ks.map tupI)]), .dat (tupI zs), .dat (.tuple (ks.map tupI)), .dat (.int (i : Nat)), .dat sh, o, .no] NK 2 := fun o => by
    refine evl_cons (n3 (v2h o) (bent o ?_)) (evl_cons (n3 (v2h o) (bent o ((Ev1.ni ni_none).mono fun _ h => h.na))) evl_nil)
    exact (ev_add (v5 o) (ev_cut (lo := some 1) (hi := none) (vi o) rfl rfl) (by omega)).mono fun d h => na_of (h.mono (by omega) fun _ z => z)
  have tt : ∀ {ρ : List Sl} {a : M PyData}, Ev1 a ρ NA → Ev1 (mTup (mCons a mNil)) ρ NH := fun h => (ev_tup (evl_cons h evl_nil) (by omega)).mono fun d h => nh_of (h.mono (by omega) fun _ z => z)
  have ta : ∀ {ρ : List Sl} {a : M PyData}, Ev1 a ρ NI → Ev1 (mTup (mCons a mNil)) ρ NA := fun h => (ev_tup (evl_cons h evl_nil) (by omega)).mono fun d h => na_of (h.mono (by omega) fun _ z => z)
  have l4 : ∀ o, EvL (mCons (mTup (mCons (m2A dMulA (mTup (mCons (M.pure (.int 2)) mNil)) M.pure (M.pure (.int 13))) (mCons (mTup (mCons (m2A dMulA (mTup (mCons (M.pure (.int 0)) mNil)) M.pure (M.pure (.int 13))) mNil)) mNil))) (mCons (mTup (mCons (mTup (mCons (M.pure (.int 2)) (mCons (M.pure (.bool true)) mNil))) (mCons (mTup (mCons (mTup (mCons (M.pure (.int 0)) (mCons (M.pure (.int 0)) mNil))) mNil)) mNil))) (mCons (mTup (mCons (mTup (mCons (m2A dPow (M.pure (.int 10)) M.pure (M.pure (.int 30))) mNil)) (mCons (mTup (mCons (mTup (mCons (m2A dSub (m2A dPow (M.pure (.int 10)) M.pure (M.pure (.int 30))) M.pure (M.pure (.int 1))) mNil)) mNil)) mNil))) (mCons (mTup (mCons (mTup (mCons (M.pure (.int 20)) mNil)) (mCons (m1 dTup (mOfL (mLc [7] (mRng (mCons (M.pure (.int 13)) mNil)) (gN 7) (M.pure true) (mTup (mCons (mDat 7) mNil))))) mNil))) mNil)))) [pool x1 y1, .dat (.tuple [tupI zs, .tuple (ks.map tupI)]), .dat (tupI zs), .dat (.tuple (ks.map tupI)), .dat (.int (i : Nat)), .dat sh, o, .no] NK 4 := fun o => by
    have n2 : NI (.int 2) := ni_small (by omega) (by omega)
    have n0 : NI (.int 0) := ni_small (by omega) (by omega)
    have p30 : Ev1 (m2A dPow (M.pure (.int 10)) M.pure (M.pure (.int 30))) [pool x1 y1, .dat (.tuple [tupI zs, .tuple (ks.map tupI)]), .dat (tupI zs), .dat (.tuple (ks.map tupI)), .dat (.int (i : Nat)), .dat sh, o, .no] (fun d => d = .int (10 ^ 30)) := ⟨_, m2_ok (a := .int 10) (b := .int ((30 : Nat) : Int)) rfl rfl (pow_ok (by omega)), rfl⟩
    have p31 : Ev1 (m2A dSub (m2A dPow (M.pure (.int 10)) M.pure (M.pure (.int 30))) M.pure (M.pure (.int 1))) [pool x1 y1, .dat (.tuple [tupI zs, .tuple (ks.map tupI)]), .dat (tupI zs), .dat (.tuple (ks.map tupI)), .dat (.int (i : Nat)), .dat sh, o, .no] NI := by
      obtain ⟨d, e, rfl⟩ := p30
      exact ⟨.int (10 ^ 30 - 1), m2_ok e (b := .int 1) rfl rfl, ni_big1⟩
    have cc : Ev1 (m1 dTup (mOfL (mLc [7] (mRng (mCons (M.pure (.int 13)) mNil)) (gN 7) (M.pure true) (mTup (mCons (mDat 7) mNil))))) [pool x1 y1, .dat (.tuple [tupI zs, .tuple (ks.map tupI)]), .dat (tupI zs), .dat (.tuple (ks.map tupI)), .dat (.int (i : Nat)), .dat sh, o, .no] NH := by
      have e := mLc_ok (vs := [7]) (mi := mRng (mCons (M.pure (.int ((13 : Nat) : Int))) mNil)) (g := gN 7) (t := M.pure true) (e := mTup (mCons (mDat 7) mNil)) (p := fun _ => true) (f := fun x => .tuple [x]) (ds := rngD 0 13) (ρ := [pool x1 y1, .dat (.tuple [tupI zs, .tuple (ks.map tupI)]), .dat (tupI zs), .dat (.tuple (ks.map tupI)), .dat (.int (i : Nat)), .dat sh, o, .no]) (ρ1 := [pool x1 y1, .dat (.tuple [tupI zs, .tuple (ks.map tupI)]), .dat (tupI zs), .dat (.tuple (ks.map tupI)), .dat (.int (i : Nat)), .dat sh, o, .no]) (rng_ok rfl (by show 13 ≤ 1000000; decide)) (by rw [rngD_len]; show 13 ≤ 1000000; decide) fun x hx ρ' hρ => ⟨_, rfl, by rw [hρ]; rfl, rfl, fun _ => by
          rw [hρ]
          exact mTup_ok (mCons_ok (d := x) rfl mNil_ok) (by show 1 ≤ 1000000; decide)⟩
      rw [List.filter_eq_self.mpr fun _ _ => rfl] at e
      refine ⟨.tuple ((rngD 0 13).map fun x => .tuple [x]), m1_ok (a := .list ((rngD 0 13).map fun x => .tuple [x])) (mOfL_ok e) rfl, nh_of ⟨_, rfl, by rw [List.length_map, rngD_len]; omega, fun x hx => ?_⟩⟩
      obtain ⟨y, hy, rfl⟩ := List.mem_map.mp hx
      obtain ⟨j, hj, rfl⟩ := List.mem_map.mp hy
      have hj := List.mem_range.mp hj
      refine na_of ⟨_, rfl, by show 1 ≤ 13; omega, fun z hz => ?_⟩
      rw [List.mem_singleton.mp hz]
      exact ni_small (by omega) (by omega)
    refine evl_cons (n3 ((ev_nums n2 (by omega)).mono fun d h => (na_of h).nh) (tt ((ev_nums n0 (by omega)).mono fun d h => na_of h))) (evl_cons (n3 ?_ (tt ?_)) (evl_cons (n3 ((ta (p30.mono fun d h => h ▸ ni_big)).mono fun _ h => h.nh) (tt (ta p31))) (evl_cons (n3 ((ta (Ev1.ni ni_20)).mono fun _ h => h.nh) cc) evl_nil)))
    · exact (ev_tup (evl_cons (Ev1.ni n2) (evl_cons (Ev1.ni (ni_bool true)) evl_nil)) (by omega)).mono fun d h => (na_of (h.mono (by omega) fun _ z => z)).nh
    · exact (ev_tup (evl_cons (Ev1.ni n0) (evl_cons (Ev1.ni n0) evl_nil)) (by omega)).mono fun d h => na_of (h.mono (by omega) fun _ z => z)
  obtain ⟨d1, f1, g1, q1⟩ := l1 .no
  obtain ⟨d2, f2, g2, q2⟩ := l2 (.own (.lst d1))
  obtain ⟨d3, f3, g3, q3⟩ := l3 (.own (.lst (d1 ++ d2)))
  obtain ⟨d4, f4, g4, q4⟩ := l4 (.own (.lst (d1 ++ d2 ++ d3)))
  have hlen : (d1 ++ d2 ++ d3 ++ d4).length = 18 := by simp only [List.length_append]; omega
  obtain ⟨v, x2, y2, hv, ev⟩ := draw_ok (j := 0) (mb := gaD (mFrz 6) gaNil) (x := x1) (y := y1) (ρ := [pool x1 y1, .dat (.tuple [tupI zs, .tuple (ks.map tupI)]), .dat (tupI zs), .dat (.tuple (ks.map tupI)), .dat (.int (i : Nat)), .dat sh, .own (.lst (d1 ++ d2 ++ d3 ++ d4)), .no]) (ρ1 := [pool x1 y1, .dat (.tuple [tupI zs, .tuple (ks.map tupI)]), .dat (tupI zs), .dat (.tuple (ks.map tupI)), .dat (.int (i : Nat)), .dat sh, .dat (.list (d1 ++ d2 ++ d3 ++ d4)), .no]) (f_one (D := .list (d1 ++ d2 ++ d3 ++ d4)) rfl (by intro h; rw [h] at hlen; cases hlen) (by omega)) rfl (gaD_ok (d := .list (d1 ++ d2 ++ d3 ++ d4)) rfl gaNil_ok) ⟨_, _, rfl⟩
  have hm : NK v := by
    rcases List.mem_append.mp hv with h | h
    · rcases List.mem_append.mp h with h | h
      · rcases List.mem_append.mp h with h | h
        · exact q1 v h
        · exact q2 v h
      · exact q3 v h
    · exact q4 v h
  refine ⟨v, x2, y2, [.dat (.tuple [tupI zs, .tuple (ks.map tupI)]), .dat (tupI zs), .dat (.tuple (ks.map tupI)), .dat (.int (i : Nat)), .dat sh, .dat (.list (d1 ++ d2 ++ d3 ++ d4)), .no], hm, fnOf_ret ?_⟩
  refine (sSeq_nx (ρ1 := [pool x y, .dat (.tuple [tupI zs, .tuple (ks.map tupI)]), .dat (tupI zs), .dat (.tuple (ks.map tupI)), .no, .no, .no, .no]) rfl).trans ?_
  refine (sSeq_nx (ρ1 := [pool x1 y1, .dat (.tuple [tupI zs, .tuple (ks.map tupI)]), .dat (tupI zs), .dat (.tuple (ks.map tupI)), .dat (.int (i : Nat)), .dat sh, .no, .no]) (par_ok e es)).trans ?_
  refine (sSeq_nx (ρ1 := [pool x1 y1, .dat (.tuple [tupI zs, .tuple (ks.map tupI)]), .dat (tupI zs), .dat (.tuple (ks.map tupI)), .dat (.int (i : Nat)), .dat sh, .own (.lst d1), .no]) (sOf_ok (mLst_ok f1 (by unfold lim; omega)))).trans ?_
  refine (sSeq_nx (ρ1 := [pool x1 y1, .dat (.tuple [tupI zs, .tuple (ks.map tupI)]), .dat (tupI zs), .dat (.tuple (ks.map tupI)), .dat (.int (i : Nat)), .dat sh, .own (.lst (d1 ++ d2)), .no]) (ext_ok rfl (mOfL_ok (mLst_ok f2 (by unfold lim; omega))) (by omega))).trans ?_
  refine (sSeq_nx (ρ1 := [pool x1 y1, .dat (.tuple [tupI zs, .tuple (ks.map tupI)]), .dat (tupI zs), .dat (.tuple (ks.map tupI)), .dat (.int (i : Nat)), .dat sh, .own (.lst (d1 ++ d2 ++ d3)), .no]) (ext_ok rfl (mOfL_ok (mLst_ok f3 (by unfold lim; omega))) (by rw [List.length_append]; omega))).trans ?_
  refine (sSeq_nx (ρ1 := [pool x1 y1, .dat (.tuple [tupI zs, .tuple (ks.map tupI)]), .dat (tupI zs), .dat (.tuple (ks.map tupI)), .dat (.int (i : Nat)), .dat sh, .own (.lst (d1 ++ d2 ++ d3 ++ d4)), .no]) (ext_ok rfl (mOfL_ok (mLst_ok f4 (by unfold lim; omega))) (by simp only [List.length_append]; omega))).trans ?_
  exact sRet_ok ev
end Ev

set_option Elab.async false
set_option linter.all false
set_option maxRecDepth 100000
set_option maxHeartbeats 4000000
/-! the law. -/
namespace Ev
open PySem PySem.Spec PyProof.Rows L2 Ed
def NG : PyData → Prop := Nice 4 280000
theorem ng_of {d : PyData} (h : Tn 13 NK d) : NG d := by
  obtain ⟨ds, rfl, l, p⟩ := h
  exact (nice_tup p l).mono (by omega) (by omega)
theorem NK.ng {d : PyData} (h : NK d) : NG d := Nice.mono h (by omega) (by omega)
theorem right_k {ρ : List Sl} {m : M PyData} {d : PyData} (h : m ρ = some (.ok d, ρ)) (n : NK d) : mNot (mTest (mCallX [] F__law_kind_right (gaD m gaNil))) ρ = some (.ok false, ρ) := by
  obtain ⟨ρ', e⟩ := f_kind_right (d := d) (p := 0) (q := 21507) (by omega) (by omega) n
  exact mNot_ok (b := true) (mTest_ok (call_ok (xs := [.dat d]) (gaD_ok h gaNil_ok) e))
theorem right_f {ρ : List Sl} {m : M PyData} {d : PyData} (h : m ρ = some (.ok d, ρ)) (n : NG d) : mNot (mTest (mCallX [] F__law_fields_right (gaD m gaNil))) ρ = some (.ok false, ρ) := by
  obtain ⟨ρ', e⟩ := f_fields_right (d := d) (p := 0) (q := 280000) (by omega) (by omega) n
  exact mNot_ok (b := true) (mTest_ok (call_ok (xs := [.dat d]) (gaD_ok h gaNil_ok) e))
theorem right_r {ρ : List Sl} {m m' : M PyData} {d d' : PyData} (h : m ρ = some (.ok d, ρ)) (h' : m' ρ = some (.ok d', ρ)) (n : NG d) (n' : NG d') : mNot (mTest (mCallX [] F__law_record_right (gaD m (gaD m' gaNil)))) ρ = some (.ok false, ρ) := by
  obtain ⟨ρ', e⟩ := f_record_right (f := d) (r := d') (p := 0) (q := 280000) (by omega) (by omega) n n'
  exact mNot_ok (b := true) (mTest_ok (call_ok (xs := [.dat d, .dat d']) (gaD_ok h (gaD_ok h' gaNil_ok)) e))
theorem or_ff {a b : M Bool} {ρ : List Sl} (ha : a ρ = some (.ok false, ρ)) (hb : b ρ = some (.ok false, ρ)) : mOr a b ρ = some (.ok false, ρ) := mOr_ok (x := false) (y := false) ha fun _ => hb
theorem if_nx {t : M Bool} {a : SM} {ρ : List Sl} (h : t ρ = some (.ok false, ρ)) : sIf t a sNx ρ = some (.nx, ρ) := (sIf_f h).trans rfl
theorem KindN.kindP {k : PyData} (h : KindN k) : kindP k = true := by
  obtain ⟨zs, ks, rfl, hz, hh⟩ := h
  have e1 : szD (tupI zs) = some zs := by
    show (if (zs.map PyData.int).length ≤ 12 then sizesL (zs.map .int) else none) = _
    rw [if_pos (by rw [List.length_map]; have := hz.1; omega)]
    have : ∀ zs : List Int, (∀ z ∈ zs, 2 ≤ z ∧ z ≤ 6) → sizesL (zs.map .int) = some zs := by
      intro zs
      induction zs with
      | nil => exact fun _ => rfl
      | cons z zs ih =>
        intro h
        show (if 2 ≤ z then (sizesL (zs.map .int)).map (z :: ·) else none) = _
        rw [if_pos (h z List.mem_cons_self).1, ih fun y hy => h y (List.mem_cons_of_mem _ hy)]
        rfl
    exact this zs hz.2
  have e2 : hdD zs (.tuple (ks.map tupI)) = some ks := by
    have hk : handsL zs (ks.map tupI) = some ks := by
      have : ∀ ks : List (List Int), (∀ k ∈ ks, fitL zs (k.map .int) = some k) → handsL zs (ks.map tupI) = some ks := by
        intro ks
        induction ks with
        | nil => exact fun _ => rfl
        | cons k ks ih =>
          intro h
          show (fitL zs (k.map .int)).bind (fun ns => (handsL zs (ks.map tupI)).map (ns :: ·)) = _
          rw [h k List.mem_cons_self, ih fun y hy => h y (List.mem_cons_of_mem _ hy)]
          rfl
      exact this ks hh.2.2.2
    have h1 := hh.2.1
    have h2 := hh.2.2.1
    show (if 1 ≤ (ks.map tupI).length ∧ (ks.map tupI).length ≤ 12 then (handsL zs (ks.map tupI)).bind fun ks => if ks.Nodup then some ks else none else none) = _
    rw [if_pos (by rw [List.length_map]; omega), hk]
    show (if ks.Nodup then some ks else none) = _
    rw [if_pos hh.1]
  unfold Ev.kindP wkD
  dsimp only
  rw [e1]
  dsimp only
  rw [e2]
  rfl
theorem FieldsN.wf {fs : List PyData} (h : FieldsN fs) : wfD (.tuple fs) = .none := by
  show (if 1 ≤ fs.length ∧ fs.length ≤ 6 then wfL 0 fs else .int (-1)) = _
  rw [if_pos ⟨h.1, h.2.1⟩]
  have : ∀ (l : List PyData) (i : Nat), (∀ k ∈ l, KindN k) → wfL i l = .none := by
    intro l
    induction l with
    | nil => exact fun _ _ => rfl
    | cons k l ih =>
      intro i h
      show (if Ev.kindP k = true then wfL (i + 1) l else .int i) = _
      rw [if_pos (h k List.mem_cons_self).kindP, ih (i + 1) fun y hy => h y (List.mem_cons_of_mem _ hy)]
  exact this fs 0 h.2.2
/-- the slots of the law -/
abbrev LS (ns : List Int) (x y : Int) (F R : PyData) (a4 a5 a6 a7 a8 a9 a10 a11 : Sl) : List Sl := [.scr ns, pool x y, .dat F, .dat R, a4, a5, a6, a7, a8, a9, a10, a11]
theorem tail_ok {ns : List Int} {fs rs : List PyData} (hf : FieldsN fs) (nF : NG (.tuple fs)) (nR : NG (.tuple rs)) {x y : Int} {a4 a5 a6 a7 a8 a9 a10 a11 : Sl} :
    ∃ ρ', (sSeq (sForS (mSeq (mOfL (mLst (mCons (M.pure .none) (mCons (mTup mNil) (mCons (m2A dMulA (mTup (mCons (m2A dIx (mDat 2) M.pure (M.pure (.int 0))) mNil)) M.pure (M.pure (.int 7))) (mCons (m2A dIx (mDat 2) M.pure (M.pure (.int 0))) (mCons (M.pure (.str "fields")) (mCons (M.pure (.int 5)) mNil))))))))) (gN 6) (sIf (mOr (mNot (mTest (mCallX [] F__law_fields_right (gaD (mDat 6) gaNil)))) (mNot (mTest (mCallX [] F__law_record_right (gaD (mDat 6) (gaD (mDat 3) gaNil)))))) (sRet (M.pure (.bool false))) sNx))
  (sRet (M.pure (.bool true)))) (LS ns x y (.tuple fs) (.tuple rs) a4 a5 a6 a7 a8 a9 a10 a11) = some (.ret (.dat (.bool true)), ρ') := by
  have h0 : 0 < fs.length := hf.1
  have k0 : KindN fs[0] := hf.2.2 _ (List.getElem_mem h0)
  have e0 : Ev1 (m2A dIx (mDat 2) M.pure (M.pure (.int 0))) (LS ns x y (.tuple fs) (.tuple rs) a4 a5 a6 a7 a8 a9 a10 a11) NK := ⟨fs[0], m2_ok (a := .tuple fs) (b := .int ((0 : Nat) : Int)) rfl rfl (by
    show atI fs ((0 : Nat) : Int) = _
    rw [atI_nat fs 0 h0, List.getElem?_eq_getElem h0]), k0.nk⟩
  have e7 : Ev1 (m2A dMulA (mTup (mCons (m2A dIx (mDat 2) M.pure (M.pure (.int 0))) mNil)) M.pure (M.pure (.int 7))) (LS ns x y (.tuple fs) (.tuple rs) a4 a5 a6 a7 a8 a9 a10 a11) NG := by
    obtain ⟨d, e, n⟩ := e0
    refine ⟨.tuple [d, d, d, d, d, d, d], m2_ok (a := .tuple [d]) (b := .int 7) (mTup_ok (mCons_ok e mNil_ok) (by show 1 ≤ 1000000; decide)) rfl rfl, ng_of ⟨_, rfl, by show 7 ≤ 13; omega, fun z hz => ?_⟩⟩
    simp only [List.mem_cons, List.not_mem_nil, or_false, or_self] at hz
    rw [hz]
    exact n
  have n0 : ∀ {d : PyData}, NI d → NG d := fun h => h.na.nh.nk.ng
  have tl : EvL (mCons (M.pure .none) (mCons (mTup mNil) (mCons (m2A dMulA (mTup (mCons (m2A dIx (mDat 2) M.pure (M.pure (.int 0))) mNil)) M.pure (M.pure (.int 7))) (mCons (m2A dIx (mDat 2) M.pure (M.pure (.int 0))) (mCons (M.pure (.str "fields")) (mCons (M.pure (.int 5)) mNil)))))) (LS ns x y (.tuple fs) (.tuple rs) a4 a5 a6 a7 a8 a9 a10 a11) NG 6 :=
    evl_cons ((Ev1.ni ni_none).mono fun _ => n0) (evl_cons ((ev_tup (P := NK) evl_nil (by omega)).mono fun d h => ng_of (h.mono (by omega) fun _ z => z)) (evl_cons e7 (evl_cons (e0.mono fun _ h => h.ng) (evl_cons ((Ev1.ni ni_fields).mono fun _ => n0) (evl_cons ((Ev1.ni (ni_small (i := 5) (by omega) (by omega))).mono fun _ => n0) evl_nil)))))
  obtain ⟨ds, e1, l1, p1⟩ := tl
  obtain ⟨ρ', ⟨b, rfl⟩, e2⟩ := sFor_all (g := gN 6) (body := sIf (mOr (mNot (mTest (mCallX [] F__law_fields_right (gaD (mDat 6) gaNil)))) (mNot (mTest (mCallX [] F__law_record_right (gaD (mDat 6) (gaD (mDat 3) gaNil)))))) (sRet (M.pure (.bool false))) sNx) (v := .dat .none) (p := fun _ => true) (fun ρ => ∃ b, ρ = LS ns x y (.tuple fs) (.tuple rs) a4 a5 b a7 a8 a9 a10 a11) (ds := ds) (ρ := LS ns x y (.tuple fs) (.tuple rs) a4 a5 a6 a7 a8 a9 a10 a11) ⟨_, rfl⟩ (by
    rintro d hd ρ ⟨b, rfl⟩
    exact ⟨LS ns x y (.tuple fs) (.tuple rs) a4 a5 (.dat d) a7 a8 a9 a10 a11, _, rfl, ⟨_, rfl⟩, if_nx (or_ff (right_f rfl (p1 d hd)) (right_r rfl rfl (p1 d hd) nR))⟩)
  have e3 : ds.all (fun _ => true) = true := by simp
  rw [e3] at e2
  have e4 : mSeq (mOfL (mLst (mCons (M.pure .none) (mCons (mTup mNil) (mCons (m2A dMulA (mTup (mCons (m2A dIx (mDat 2) M.pure (M.pure (.int 0))) mNil)) M.pure (M.pure (.int 7))) (mCons (m2A dIx (mDat 2) M.pure (M.pure (.int 0))) (mCons (M.pure (.str "fields")) (mCons (M.pure (.int 5)) mNil)))))))) (LS ns x y (.tuple fs) (.tuple rs) a4 a5 a6 a7 a8 a9 a10 a11) = some (.ok ds, LS ns x y (.tuple fs) (.tuple rs) a4 a5 a6 a7 a8 a9 a10 a11) := by
    unfold mSeq
    rw [M.bind_ok (mOfL_ok (mLst_ok e1 (by unfold lim; omega)))]
    rfl
  exact ⟨_, (sSeq_nx ((sForS_ok e4).trans e2)).trans rfl⟩
end Ev

set_option Elab.async false
set_option linter.all false
set_option maxRecDepth 100000
set_option maxHeartbeats 4000000
/-! the law's rounds. -/
namespace Ev
open PySem PySem.Spec PyProof.Rows L2 Ed
def NR : PyData → Prop := Tn 13 NA
theorem ng_rec {d : PyData} (h : Tn 30 NA d) : NG d := by
  obtain ⟨ds, rfl, l, p⟩ := h
  exact (nice_tup p l).mono (by omega) (by omega)
theorem ev_nones {ρ : List Sl} {m : M PyData} {k : Int} (h : m ρ = some (.ok (.int k), ρ)) (hk : 0 ≤ k ∧ k ≤ 6) : Ev1 (m2A dMulA (mTup (mCons (M.pure .none) mNil)) M.pure m) ρ (Tn 6 NA) := by
  refine ⟨.tuple (List.replicate k.toNat [PyData.none]).flatten, m2_ok (a := .tuple [.none]) (b := .int k) (mTup_ok (mCons_ok (d := .none) rfl mNil_ok) (by show 1 ≤ 1000000; decide)) h ?_, _, rfl, ?_, fun x hx => ?_⟩
  · show (if 0 ≤ k ∧ k ≤ 1000 ∧ 1 ≤ 1000 then _ else _) = _
    rw [if_pos ⟨hk.1, by omega, by omega⟩]
  · rw [List.length_flatten]
    simp
    omega
  · obtain ⟨l, hl, hx⟩ := List.mem_flatten.mp hx
    have := List.eq_of_mem_replicate hl
    subst this
    rw [List.mem_singleton.mp hx]
    exact ni_none.na
theorem round_ok {ns : List Int} {fs rs : List PyData} (hf : FieldsN fs) (hr : rs.length = fs.length) (pr : RecN rs) (x y : Int) (a4 a5 a6 a7 a8 a9 a10 a11 : Sl) :
    ∃ x' y' b5 b6 b7 b8 b9 b10 b11, (sSeq (sSet 5 (mCallX [0] F__law_take (gaS 1 (gaD (m1 dLen (mDat 2)) gaNil))))
  (sSeq (sSet 6 (mCallX [0] F__law_odd_kind (gaS 1 (gaD (m2A dIx (mDat 2) M.pure (mDat 5)) gaNil))))
  (sSeq (sSet 7 (m2A dAddA (m2A dAddA (mSl dCutA (mDat 2) M.pure mNoP (mPart (mDat 5))) M.pure (mTup (mCons (mDat 6) mNil))) M.pure (mSl dCutA (mDat 2) M.pure (mPart (m2A dAddA (mDat 5) M.pure (M.pure (.int 1)))) mNoP)))
  (sSeq (sIf (mOr (mNot (mTest (mCallX [] F__law_kind_right (gaD (m2A dIx (mDat 2) M.pure (mDat 5)) gaNil)))) (mOr (mNot (mTest (mCallX [] F__law_kind_right (gaD (mDat 6) gaNil)))) (mNot (mTest (mCallX [] F__law_fields_right (gaD (mDat 7) gaNil)))))) (sRet (M.pure (.bool false))) sNx)
  (sSeq (sSet 8 (m1 dLen (m2A dIx (m2A dIx (mDat 2) M.pure (mDat 5)) M.pure (M.pure (.int 1)))))
  (sSeq (sSet 9 (mCallX [0] F__law_one (gaS 1 (gaD (mOfL (mLst (mCons (mDat 8) (mCons (m1 dNeg (M.pure (.int 1))) (mCons (M.pure .none) (mCons (M.pure (.str "0")) (mCons (M.pure (.bool true)) (mCons (mTup (mCons (M.pure (.int 0)) mNil)) (mCons (mCallX [0] F__law_take (gaS 1 (gaD (mDat 8) gaNil))) mNil))))))))) gaNil))))
  (sSeq (sSet 10 (m2A dAddA (m2A dAddA (mSl dCutA (mDat 3) M.pure mNoP (mPart (mDat 5))) M.pure (mTup (mCons (mDat 9) mNil))) M.pure (mSl dCutA (mDat 3) M.pure (mPart (m2A dAddA (mDat 5) M.pure (M.pure (.int 1)))) mNoP)))
  (sForS (mSeq (mOfL (mLst (mCons (mDat 10) (mCons (m2A dAddA (mSl dCutA (mDat 10) M.pure mNoP (mPart (m2A dAddA (mDat 5) M.pure (M.pure (.int 1))))) M.pure (m2A dMulA (mTup (mCons (M.pure .none) mNil)) M.pure (m2A dSub (m2A dSub (m1 dLen (mDat 3)) M.pure (mDat 5)) M.pure (M.pure (.int 1))))) (mCons (mSl dCutA (mDat 3) M.pure (mPart (M.pure (.int 1))) mNoP) (mCons (m2A dAddA (mDat 3) M.pure (mTup (mCons (M.pure (.int 0)) mNil))) (mCons (M.pure .none) (mCons (M.pure (.int 0)) mNil))))))))) (gN 11) (sIf (mOr (mNot (mTest (mCallX [] F__law_record_right (gaD (mDat 2) (gaD (mDat 11) gaNil))))) (mNot (mTest (mCallX [] F__law_record_right (gaD (mDat 7) (gaD (mDat 11) gaNil)))))) (sRet (M.pure (.bool false))) sNx))))))))) (LS ns x y (.tuple fs) (.tuple rs) a4 a5 a6 a7 a8 a9 a10 a11) = some (.nx, LS ns x' y' (.tuple fs) (.tuple rs) a4 b5 b6 b7 b8 b9 b10 b11) := by
  have f1 := hf.1
  have f2 := hf.2.1
  have tF : Tn 6 NK (.tuple fs) := ⟨fs, rfl, f2, fun k h => (hf.2.2 k h).nk⟩
  have nF : NG (.tuple fs) := ng_of (tF.mono (by omega) fun _ z => z)
  have tR : Tn 6 NA (.tuple rs) := ⟨rs, rfl, by omega, fun r h => by
    obtain ⟨z, rfl, z0, z1⟩ := pr r h
    exact (ni_small (by omega) (by omega)).na⟩
  -- the place
  obtain ⟨d, x1, y1, ⟨r, rfl, r0, r1⟩, e5⟩ := draw_ok (j := 1) (mb := gaD (m1 dLen (mDat 2)) gaNil) (x := x) (y := y) (ρ := LS ns x y (.tuple fs) (.tuple rs) a4 a5 a6 a7 a8 a9 a10 a11) (ρ1 := LS ns x y (.tuple fs) (.tuple rs) a4 a5 a6 a7 a8 a9 a10 a11) (f_take (n := fs.length) (by omega) (by omega)) rfl (gaD_ok (d := .int fs.length) (m1_ok (a := .tuple fs) rfl rfl) gaNil_ok) ⟨_, _, rfl⟩
  obtain ⟨i, rfl⟩ := Int.eq_ofNat_of_zero_le r0
  have hi : i < fs.length := by omega
  have kI := hf.2.2 _ (List.getElem_mem hi)
  have gi : ∀ x y b6 b7 b8 b9 b10 b11, m2A dIx (mDat 2) M.pure (mDat 5) (LS ns x y (.tuple fs) (.tuple rs) a4 (.dat (.int (i : Nat))) b6 b7 b8 b9 b10 b11) = some (.ok fs[i], LS ns x y (.tuple fs) (.tuple rs) a4 (.dat (.int (i : Nat))) b6 b7 b8 b9 b10 b11) := fun x y b6 b7 b8 b9 b10 b11 => m2_ok (a := .tuple fs) (b := .int (i : Nat)) rfl rfl (by
    show atI fs (i : Int) = _
    rw [atI_nat fs i hi, List.getElem?_eq_getElem hi])
  -- the odd kind
  obtain ⟨v, x2, y2, hv, e6⟩ := draw_ok (j := 1) (mb := gaD (m2A dIx (mDat 2) M.pure (mDat 5)) gaNil) (x := x1) (y := y1) (ρ := LS ns x1 y1 (.tuple fs) (.tuple rs) a4 (.dat (.int (i : Nat))) a6 a7 a8 a9 a10 a11) (ρ1 := LS ns x1 y1 (.tuple fs) (.tuple rs) a4 (.dat (.int (i : Nat))) a6 a7 a8 a9 a10 a11) (f_odd_kind kI) rfl (gaD_ok (gi _ _ _ _ _ _ _ _) gaNil_ok) ⟨_, _, rfl⟩
  -- the fields with it
  have e7 : Ev1 (m2A dAddA (m2A dAddA (mSl dCutA (mDat 2) M.pure mNoP (mPart (mDat 5))) M.pure (mTup (mCons (mDat 6) mNil))) M.pure (mSl dCutA (mDat 2) M.pure (mPart (m2A dAddA (mDat 5) M.pure (M.pure (.int 1)))) mNoP)) (LS ns x2 y2 (.tuple fs) (.tuple rs) a4 (.dat (.int (i : Nat))) (.dat v) a7 a8 a9 a10 a11) NG :=
    (ev_add (ev_add (ev_cut (lo := none) (hi := some (i : Int)) ⟨_, rfl, tF⟩ rfl rfl) (ev_tup (evl_cons ⟨v, rfl, hv⟩ evl_nil) (by omega)) (by omega)) (ev_cut (lo := some ((i : Int) + 1)) (hi := none) ⟨_, rfl, tF⟩ rfl rfl) (by omega)).mono fun d h => ng_of (h.mono (by omega) fun _ z => z)
  obtain ⟨F7, e7, n7⟩ := e7
  have c1 := if_nx (a := sRet (M.pure (.bool false))) (or_ff (right_k (gi x2 y2 (.dat v) (.dat F7) a8 a9 a10 a11) kI.nk) (or_ff (right_k (m := mDat 6) rfl hv) (right_f (m := mDat 7) rfl n7)))
  -- how many states
  obtain ⟨zs, ks, hk, hz, hh⟩ := kI
  have k1 := hh.2.1
  have k2 := hh.2.2.1
  have e8 : m1 dLen (m2A dIx (m2A dIx (mDat 2) M.pure (mDat 5)) M.pure (M.pure (.int 1))) (LS ns x2 y2 (.tuple fs) (.tuple rs) a4 (.dat (.int (i : Nat))) (.dat v) (.dat F7) a8 a9 a10 a11) = some (.ok (.int ks.length), LS ns x2 y2 (.tuple fs) (.tuple rs) a4 (.dat (.int (i : Nat))) (.dat v) (.dat F7) a8 a9 a10 a11) := m1_ok (a := .tuple (ks.map tupI)) (m2_ok (a := .tuple [tupI zs, .tuple (ks.map tupI)]) (b := .int 1) ((gi _ _ _ _ _ _ _ _).trans (by rw [hk])) rfl rfl) (by show some (PyData.int (ks.map tupI).length) = _; rw [List.length_map])
  -- the odd number
  obtain ⟨d, x3, y3, ⟨r, rfl, q0, q1⟩, e9⟩ := draw_ok (j := 1) (mb := gaD (mDat 8) gaNil) (x := x2) (y := y2) (ρ := LS ns x2 y2 (.tuple fs) (.tuple rs) a4 (.dat (.int (i : Nat))) (.dat v) (.dat F7) (.dat (.int ks.length)) a9 a10 a11) (ρ1 := LS ns x2 y2 (.tuple fs) (.tuple rs) a4 (.dat (.int (i : Nat))) (.dat v) (.dat F7) (.dat (.int ks.length)) a9 a10 a11) (f_take (n := ks.length) (by omega) (by omega)) rfl (gaD_ok (d := .int ks.length) rfl gaNil_ok) ⟨_, _, rfl⟩
  obtain ⟨w, x4, y4, hw, e10⟩ := draw_ok (j := 1) (mb := gaD (mOfL (mLst (mCons (mDat 8) (mCons (m1 dNeg (M.pure (.int 1))) (mCons (M.pure .none) (mCons (M.pure (.str "0")) (mCons (M.pure (.bool true)) (mCons (mTup (mCons (M.pure (.int 0)) mNil)) (mCons (mCallX [0] F__law_take (gaS 1 (gaD (mDat 8) gaNil))) mNil))))))))) gaNil) (x := x2) (y := y2) (ρ := LS ns x2 y2 (.tuple fs) (.tuple rs) a4 (.dat (.int (i : Nat))) (.dat v) (.dat F7) (.dat (.int ks.length)) a9 a10 a11) (ρ1 := LS ns x3 y3 (.tuple fs) (.tuple rs) a4 (.dat (.int (i : Nat))) (.dat v) (.dat F7) (.dat (.int ks.length)) a9 a10 a11)
    (f_one (D := .list [.int ks.length, .int (-1), .none, .str "0", .bool true, .tuple [.int 0], .int r]) rfl (by simp) (by simp)) rfl (gaD_ok (d := .list [.int ks.length, .int (-1), .none, .str "0", .bool true, .tuple [.int 0], .int r]) (mOfL_ok (mLst_ok (mCons_ok (d := .int ks.length) rfl (mCons_ok (d := .int (-1)) rfl (mCons_ok (d := .none) rfl (mCons_ok (d := .str "0") rfl (mCons_ok (d := .bool true) rfl (mCons_ok (d := .tuple [.int 0]) rfl (mCons_ok e9 mNil_ok))))))) (by show 7 ≤ 1000000; decide))) gaNil_ok) ⟨_, _, rfl⟩
  have nw : NA w := by
    simp only [List.mem_cons, List.not_mem_nil, or_false] at hw
    rcases hw with rfl | rfl | rfl | rfl | rfl | rfl | rfl
    · exact (ni_small (by omega) (by omega)).na
    · exact (ni_small (by omega) (by omega)).na
    · exact ni_none.na
    · exact ni_0.na
    · exact (ni_bool true).na
    · refine na_of ⟨_, rfl, by show 1 ≤ 13; omega, fun z hz => ?_⟩
      rw [List.mem_singleton.mp hz]
      exact ni_small (by omega) (by omega)
    · exact (ni_small (by omega) (by omega)).na
  -- the record with it
  have e11 : Ev1 (m2A dAddA (m2A dAddA (mSl dCutA (mDat 3) M.pure mNoP (mPart (mDat 5))) M.pure (mTup (mCons (mDat 9) mNil))) M.pure (mSl dCutA (mDat 3) M.pure (mPart (m2A dAddA (mDat 5) M.pure (M.pure (.int 1)))) mNoP)) (LS ns x4 y4 (.tuple fs) (.tuple rs) a4 (.dat (.int (i : Nat))) (.dat v) (.dat F7) (.dat (.int ks.length)) (.dat w) a10 a11) (Tn 13 NA) :=
    (ev_add (ev_add (ev_cut (lo := none) (hi := some (i : Int)) ⟨_, rfl, tR⟩ rfl rfl) (ev_tup (evl_cons ⟨w, rfl, nw⟩ evl_nil) (by omega)) (by omega)) (ev_cut (lo := some ((i : Int) + 1)) (hi := none) ⟨_, rfl, tR⟩ rfl rfl) (by omega)).mono fun d h => h.mono (by omega) fun _ z => z
  obtain ⟨R10, e11, n10⟩ := e11
  have n0 : ∀ {d : PyData}, NI d → NG d := fun h => h.na.nh.nk.ng
  have tl : EvL (mCons (mDat 10) (mCons (m2A dAddA (mSl dCutA (mDat 10) M.pure mNoP (mPart (m2A dAddA (mDat 5) M.pure (M.pure (.int 1))))) M.pure (m2A dMulA (mTup (mCons (M.pure .none) mNil)) M.pure (m2A dSub (m2A dSub (m1 dLen (mDat 3)) M.pure (mDat 5)) M.pure (M.pure (.int 1))))) (mCons (mSl dCutA (mDat 3) M.pure (mPart (M.pure (.int 1))) mNoP) (mCons (m2A dAddA (mDat 3) M.pure (mTup (mCons (M.pure (.int 0)) mNil))) (mCons (M.pure .none) (mCons (M.pure (.int 0)) mNil)))))) (LS ns x4 y4 (.tuple fs) (.tuple rs) a4 (.dat (.int (i : Nat))) (.dat v) (.dat F7) (.dat (.int ks.length)) (.dat w) (.dat R10) a11) NG 6 := by
    have z3 : Ev1 (mDat 3) (LS ns x4 y4 (.tuple fs) (.tuple rs) a4 (.dat (.int (i : Nat))) (.dat v) (.dat F7) (.dat (.int ks.length)) (.dat w) (.dat R10) a11) (Tn 6 NA) := ⟨_, rfl, tR⟩
    have m1' : m2A dSub (m2A dSub (m1 dLen (mDat 3)) M.pure (mDat 5)) M.pure (M.pure (.int 1)) (LS ns x4 y4 (.tuple fs) (.tuple rs) a4 (.dat (.int (i : Nat))) (.dat v) (.dat F7) (.dat (.int ks.length)) (.dat w) (.dat R10) a11) = some (.ok (.int ((rs.length : Int) - i - 1)), LS ns x4 y4 (.tuple fs) (.tuple rs) a4 (.dat (.int (i : Nat))) (.dat v) (.dat F7) (.dat (.int ks.length)) (.dat w) (.dat R10) a11) := m2_ok (a := .int ((rs.length : Int) - i)) (b := .int 1) (m2_ok (a := .int rs.length) (b := .int (i : Nat)) (m1_ok (a := .tuple rs) rfl rfl) rfl rfl) rfl rfl
    refine evl_cons ⟨R10, rfl, ng_rec (n10.mono (by omega) fun _ z => z)⟩ (evl_cons ?_ (evl_cons ?_ (evl_cons ?_ (evl_cons ((Ev1.ni ni_none).mono fun _ => n0) (evl_cons ((Ev1.ni (ni_small (i := 0) (by omega) (by omega))).mono fun _ => n0) evl_nil)))))
    · exact (ev_add (ev_cut (lo := none) (hi := some ((i : Int) + 1)) ⟨R10, rfl, n10⟩ rfl rfl) (ev_nones m1' (by omega)) (by omega)).mono fun d h => ng_rec (h.mono (by omega) fun _ z => z)
    · exact (ev_cut (lo := some 1) (hi := none) z3 rfl rfl).mono fun d h => ng_rec (h.mono (by omega) fun _ z => z)
    · exact (ev_add z3 (ev_tup (evl_cons ((Ev1.ni (ni_small (i := 0) (by omega) (by omega))).mono fun _ h => h.na) evl_nil) (by omega)) (by omega)).mono fun d h => ng_rec (h.mono (by omega) fun _ z => z)
  obtain ⟨ds, el, ll, pl⟩ := tl
  obtain ⟨ρ', ⟨b, rfl⟩, es⟩ := sFor_all (g := gN 11) (body := sIf (mOr (mNot (mTest (mCallX [] F__law_record_right (gaD (mDat 2) (gaD (mDat 11) gaNil))))) (mNot (mTest (mCallX [] F__law_record_right (gaD (mDat 7) (gaD (mDat 11) gaNil)))))) (sRet (M.pure (.bool false))) sNx) (v := .dat .none) (p := fun _ => true) (fun ρ => ∃ b, ρ = LS ns x4 y4 (.tuple fs) (.tuple rs) a4 (.dat (.int (i : Nat))) (.dat v) (.dat F7) (.dat (.int ks.length)) (.dat w) (.dat R10) b) (ds := ds) (ρ := LS ns x4 y4 (.tuple fs) (.tuple rs) a4 (.dat (.int (i : Nat))) (.dat v) (.dat F7) (.dat (.int ks.length)) (.dat w) (.dat R10) a11) ⟨_, rfl⟩ (by
    rintro d hd ρ ⟨b, rfl⟩
    exact ⟨LS ns x4 y4 (.tuple fs) (.tuple rs) a4 (.dat (.int (i : Nat))) (.dat v) (.dat F7) (.dat (.int ks.length)) (.dat w) (.dat R10) (.dat d), _, rfl, ⟨_, rfl⟩, if_nx (or_ff (right_r rfl rfl nF (pl d hd)) (right_r rfl rfl n7 (pl d hd)))⟩)
  have ea : ds.all (fun _ => true) = true := by simp
  rw [ea] at es
  have eq : mSeq (mOfL (mLst (mCons (mDat 10) (mCons (m2A dAddA (mSl dCutA (mDat 10) M.pure mNoP (mPart (m2A dAddA (mDat 5) M.pure (M.pure (.int 1))))) M.pure (m2A dMulA (mTup (mCons (M.pure .none) mNil)) M.pure (m2A dSub (m2A dSub (m1 dLen (mDat 3)) M.pure (mDat 5)) M.pure (M.pure (.int 1))))) (mCons (mSl dCutA (mDat 3) M.pure (mPart (M.pure (.int 1))) mNoP) (mCons (m2A dAddA (mDat 3) M.pure (mTup (mCons (M.pure (.int 0)) mNil))) (mCons (M.pure .none) (mCons (M.pure (.int 0)) mNil)))))))) (LS ns x4 y4 (.tuple fs) (.tuple rs) a4 (.dat (.int (i : Nat))) (.dat v) (.dat F7) (.dat (.int ks.length)) (.dat w) (.dat R10) a11) = some (.ok ds, LS ns x4 y4 (.tuple fs) (.tuple rs) a4 (.dat (.int (i : Nat))) (.dat v) (.dat F7) (.dat (.int ks.length)) (.dat w) (.dat R10) a11) := by
    unfold mSeq
    rw [M.bind_ok (mOfL_ok (mLst_ok el (by unfold lim; omega)))]
    rfl
  refine ⟨x4, y4, .dat (.int (i : Nat)), .dat v, .dat F7, .dat (.int ks.length), .dat w, .dat R10, b, ?_⟩
  refine (sSeq_nx (sSet_ok e5)).trans ?_
  refine (sSeq_nx (sSet_ok e6)).trans ?_
  refine (sSeq_nx (sSet_ok e7)).trans ?_
  refine (sSeq_nx c1).trans ?_
  refine (sSeq_nx (sSet_ok e8)).trans ?_
  refine (sSeq_nx (sSet_ok e10)).trans ?_
  refine (sSeq_nx (sSet_ok e11)).trans ?_
  exact (sForS_ok eq).trans es
end Ev

set_option Elab.async false
set_option linter.all false
set_option maxRecDepth 100000
set_option maxHeartbeats 4000000
/-! the law is true. -/
namespace Ev
open PySem PySem.Spec PyProof.Rows L2 Ed
theorem law_math (ns : List Int) (hl : ns.length ≤ 63) (hb : ∀ z ∈ ns, PySem.Builtin.Int.intBits z ≤ 1048576) : ∃ ρ', F_law [.scr ns] = some (.ok (.dat (.bool true)), ρ') := by
  obtain ⟨a, b, rest, ep⟩ := f_pool ns
  have e1 : sSetL 1 (mCallL [] F__law_pool (gaC 0 (gaD (M.pure (.int 0)) gaNil))) [.scr ns, .no, .no, .no, .no, .no, .no, .no, .no, .no, .no, .no] = some (.nx, [.scr ns, pool a b, .no, .no, .no, .no, .no, .no, .no, .no, .no, .no]) := by
    have hm : mCall [] F__law_pool (gaC 0 (gaD (M.pure (.int 0)) gaNil)) [.scr ns, .no, .no, .no, .no, .no, .no, .no, .no, .no, .no, .no] = some (.ok (.fr (.lst [.int a, .int b])), [.scr ns, .no, .no, .no, .no, .no, .no, .no, .no, .no, .no, .no]) := mCall_ok (xs := [.scr ns, .dat (.int 0)]) rfl ep
    refine (sOf_ok (a := .lst [.int a, .int b]) (ρ1 := [.scr ns, .no, .no, .no, .no, .no, .no, .no, .no, .no, .no, .no]) ?_).trans rfl
    unfold mCallL
    rw [M.bind_ok hm]
    rfl
  obtain ⟨d, x1, y1, ⟨fs, rfl, hf⟩, e2⟩ := draw_ok (j := 1) (mb := gaD (M.pure (.int 6)) (gaD (M.pure (.int 6)) gaNil)) (x := a) (y := b) (ρ := [.scr ns, pool a b, .no, .no, .no, .no, .no, .no, .no, .no, .no, .no]) (ρ1 := [.scr ns, pool a b, .no, .no, .no, .no, .no, .no, .no, .no, .no, .no]) f_v_fields rfl (gaD_ok (d := .int 6) rfl (gaD_ok (d := .int 6) rfl gaNil_ok)) ⟨_, _, rfl⟩
  obtain ⟨d, x2, y2, ⟨rs, rfl, hr, pr⟩, e3⟩ := draw_ok (j := 1) (mb := gaD (mDat 2) gaNil) (x := x1) (y := y1) (ρ := [.scr ns, pool x1 y1, .dat (.tuple fs), .no, .no, .no, .no, .no, .no, .no, .no, .no]) (ρ1 := [.scr ns, pool x1 y1, .dat (.tuple fs), .no, .no, .no, .no, .no, .no, .no, .no, .no]) (f_some_record hf) rfl (gaD_ok (d := .tuple fs) rfl gaNil_ok) ⟨_, _, rfl⟩
  have f1 := hf.1
  have f2 := hf.2.1
  have nF : NG (.tuple fs) := ng_of ⟨fs, rfl, by omega, fun k h => (hf.2.2 k h).nk⟩
  have nR : NG (.tuple rs) := ng_rec ⟨rs, rfl, by omega, fun r h => by
    obtain ⟨z, rfl, z0, z1⟩ := pr r h
    exact (ni_small (by omega) (by omega)).na⟩
  obtain ⟨ρw, ew⟩ := f_law_wrong_fields (.tuple fs) 0 (by omega) nF.gd
  rw [hf.wf] at ew
  have c0 : mTest (m2A dNotN (mCallX [] F__law_wrong_fields (gaD (mDat 2) gaNil)) M.pure (M.pure .none)) (LS ns x2 y2 (.tuple fs) (.tuple rs) .no .no .no .no .no .no .no .no) = some (.ok false, LS ns x2 y2 (.tuple fs) (.tuple rs) .no .no .no .no .no .no .no .no) := mTest_ok (m2_ok (a := .none) (b := .none) (call_ok (xs := [.dat (.tuple fs)]) (gaD_ok (d := .tuple fs) rfl gaNil_ok) ew) rfl rfl)
  have c1 := if_nx (a := sRet (M.pure (.bool false))) (or_ff c0 (or_ff (right_f (m := mDat 2) rfl nF) (right_r (m := mDat 2) (m' := mDat 3) rfl rfl nF nR)))
  have e5 : mRng (mCons (M.pure (.int ((5 : Nat) : Int))) mNil) (LS ns x2 y2 (.tuple fs) (.tuple rs) .no .no .no .no .no .no .no .no) = some (.ok (rngD 0 5), LS ns x2 y2 (.tuple fs) (.tuple rs) .no .no .no .no .no .no .no .no) := rng_ok rfl (by show 5 ≤ 1000000; decide)
  have loop : ∀ (ds : List PyData) x y a4 a5 a6 a7 a8 a9 a10 a11, ∃ x' y' b4 b5 b6 b7 b8 b9 b10 b11, sFor (gN 4) (sSeq (sSet 5 (mCallX [0] F__law_take (gaS 1 (gaD (m1 dLen (mDat 2)) gaNil))))
  (sSeq (sSet 6 (mCallX [0] F__law_odd_kind (gaS 1 (gaD (m2A dIx (mDat 2) M.pure (mDat 5)) gaNil))))
  (sSeq (sSet 7 (m2A dAddA (m2A dAddA (mSl dCutA (mDat 2) M.pure mNoP (mPart (mDat 5))) M.pure (mTup (mCons (mDat 6) mNil))) M.pure (mSl dCutA (mDat 2) M.pure (mPart (m2A dAddA (mDat 5) M.pure (M.pure (.int 1)))) mNoP)))
  (sSeq (sIf (mOr (mNot (mTest (mCallX [] F__law_kind_right (gaD (m2A dIx (mDat 2) M.pure (mDat 5)) gaNil)))) (mOr (mNot (mTest (mCallX [] F__law_kind_right (gaD (mDat 6) gaNil)))) (mNot (mTest (mCallX [] F__law_fields_right (gaD (mDat 7) gaNil)))))) (sRet (M.pure (.bool false))) sNx)
  (sSeq (sSet 8 (m1 dLen (m2A dIx (m2A dIx (mDat 2) M.pure (mDat 5)) M.pure (M.pure (.int 1)))))
  (sSeq (sSet 9 (mCallX [0] F__law_one (gaS 1 (gaD (mOfL (mLst (mCons (mDat 8) (mCons (m1 dNeg (M.pure (.int 1))) (mCons (M.pure .none) (mCons (M.pure (.str "0")) (mCons (M.pure (.bool true)) (mCons (mTup (mCons (M.pure (.int 0)) mNil)) (mCons (mCallX [0] F__law_take (gaS 1 (gaD (mDat 8) gaNil))) mNil))))))))) gaNil))))
  (sSeq (sSet 10 (m2A dAddA (m2A dAddA (mSl dCutA (mDat 3) M.pure mNoP (mPart (mDat 5))) M.pure (mTup (mCons (mDat 9) mNil))) M.pure (mSl dCutA (mDat 3) M.pure (mPart (m2A dAddA (mDat 5) M.pure (M.pure (.int 1)))) mNoP)))
  (sForS (mSeq (mOfL (mLst (mCons (mDat 10) (mCons (m2A dAddA (mSl dCutA (mDat 10) M.pure mNoP (mPart (m2A dAddA (mDat 5) M.pure (M.pure (.int 1))))) M.pure (m2A dMulA (mTup (mCons (M.pure .none) mNil)) M.pure (m2A dSub (m2A dSub (m1 dLen (mDat 3)) M.pure (mDat 5)) M.pure (M.pure (.int 1))))) (mCons (mSl dCutA (mDat 3) M.pure (mPart (M.pure (.int 1))) mNoP) (mCons (m2A dAddA (mDat 3) M.pure (mTup (mCons (M.pure (.int 0)) mNil))) (mCons (M.pure .none) (mCons (M.pure (.int 0)) mNil))))))))) (gN 11) (sIf (mOr (mNot (mTest (mCallX [] F__law_record_right (gaD (mDat 2) (gaD (mDat 11) gaNil))))) (mNot (mTest (mCallX [] F__law_record_right (gaD (mDat 7) (gaD (mDat 11) gaNil)))))) (sRet (M.pure (.bool false))) sNx))))))))) ds (LS ns x y (.tuple fs) (.tuple rs) a4 a5 a6 a7 a8 a9 a10 a11) = some (.nx, LS ns x' y' (.tuple fs) (.tuple rs) b4 b5 b6 b7 b8 b9 b10 b11) := by
    intro ds
    induction ds with
    | nil => exact fun x y a4 a5 a6 a7 a8 a9 a10 a11 => ⟨x, y, a4, a5, a6, a7, a8, a9, a10, a11, rfl⟩
    | cons d ds ih =>
      intro x y a4 a5 a6 a7 a8 a9 a10 a11
      obtain ⟨x', y', b5, b6, b7, b8, b9, b10, b11, e⟩ := round_ok (ns := ns) hf hr pr x y (.dat d) a5 a6 a7 a8 a9 a10 a11
      obtain ⟨x3, y3, c4, c5, c6, c7, c8, c9, c10, c11, e2⟩ := ih x' y' (.dat d) b5 b6 b7 b8 b9 b10 b11
      exact ⟨x3, y3, c4, c5, c6, c7, c8, c9, c10, c11, (sFor_nx rfl e).trans e2⟩
  obtain ⟨x3, y3, b4, b5, b6, b7, b8, b9, b10, b11, e6⟩ := loop (rngD 0 5) x2 y2 .no .no .no .no .no .no .no .no
  obtain ⟨ρ', e7⟩ := tail_ok (ns := ns) hf nF nR (x := x3) (y := y3) (a4 := b4) (a5 := b5) (a6 := b6) (a7 := b7) (a8 := b8) (a9 := b9) (a10 := b10) (a11 := b11)
  refine ⟨ρ', fnOf_ret ?_⟩
  refine (sSeq_nx e1).trans ?_
  refine (sSeq_nx (sSet_ok e2)).trans ?_
  refine (sSeq_nx (sSet_ok e3)).trans ?_
  refine (sSeq_nx c1).trans ?_
  exact (sSeq_nx ((sForS_ok e5).trans e6)).trans e7
end Ev

set_option Elab.async false
set_option linter.all false
set_option maxRecDepth 100000
set_option maxHeartbeats 0
/-! the head: one run of the top, what it leaves -/
namespace Ed
open PySem PySem.Spec PyProof.Rows L2
abbrev dt_whole : He.DefD := ⟨("whole", none), "whole", "whole", defArgs s_whole, defBody s_whole, defScope s_whole, [], []⟩
abbrev dt_whole_between : He.DefD := ⟨("whole_between", none), "whole_between", "whole_between", defArgs s_whole_between, defBody s_whole_between, defScope s_whole_between, [], []⟩
abbrev dt_tuple_between : He.DefD := ⟨("tuple_between", none), "tuple_between", "tuple_between", defArgs s_tuple_between, defBody s_tuple_between, defScope s_tuple_between, [], []⟩
abbrev dt_made_kind : He.DefD := ⟨("made_kind", none), "made_kind", "made_kind", defArgs s_made_kind, defBody s_made_kind, defScope s_made_kind, [], []⟩
abbrev dt_is_kind : He.DefD := ⟨("is_kind", none), "is_kind", "is_kind", defArgs s_is_kind, defBody s_is_kind, defScope s_is_kind, [], []⟩
abbrev dt_wrong_kind : He.DefD := ⟨("wrong_kind", none), "wrong_kind", "wrong_kind", defArgs s_wrong_kind, defBody s_wrong_kind, defScope s_wrong_kind, [], []⟩
abbrev dt_hands_fit : He.DefD := ⟨("hands_fit", none), "hands_fit", "hands_fit", defArgs s_hands_fit, defBody s_hands_fit, defScope s_hands_fit, [], []⟩
abbrev dt_amount_fits : He.DefD := ⟨("amount_fits", none), "amount_fits", "amount_fits", defArgs s_amount_fits, defBody s_amount_fits, defScope s_amount_fits, [], []⟩
abbrev dt_made_fields : He.DefD := ⟨("made_fields", none), "made_fields", "made_fields", defArgs s_made_fields, defBody s_made_fields, defScope s_made_fields, [], []⟩
abbrev dt_made_record : He.DefD := ⟨("made_record", none), "made_record", "made_record", defArgs s_made_record, defBody s_made_record, defScope s_made_record, [], []⟩
abbrev dt_wrong_fields : He.DefD := ⟨("wrong_fields", none), "wrong_fields", "wrong_fields", defArgs s_wrong_fields, defBody s_wrong_fields, defScope s_wrong_fields, [], []⟩
abbrev dt_check_record : He.DefD := ⟨("check_record", none), "check_record", "check_record", defArgs s_check_record, defBody s_check_record, defScope s_check_record, [], []⟩
abbrev dt__law_pool : He.DefD := ⟨("_law_pool", none), "_law_pool", "_law_pool", defArgs s__law_pool, defBody s__law_pool, defScope s__law_pool, [], []⟩
abbrev dt__law_take : He.DefD := ⟨("_law_take", none), "_law_take", "_law_take", defArgs s__law_take, defBody s__law_take, defScope s__law_take, [], []⟩
abbrev dt__law_one : He.DefD := ⟨("_law_one", none), "_law_one", "_law_one", defArgs s__law_one, defBody s__law_one, defScope s__law_one, [], []⟩
abbrev dt__law_mixed : He.DefD := ⟨("_law_mixed", none), "_law_mixed", "_law_mixed", defArgs s__law_mixed, defBody s__law_mixed, defScope s__law_mixed, [], []⟩
abbrev dt__law_v_all_amounts : He.DefD := ⟨("_law_v_all_amounts", none), "_law_v_all_amounts", "_law_v_all_amounts", defArgs s__law_v_all_amounts, defBody s__law_v_all_amounts, defScope s__law_v_all_amounts, [], []⟩
abbrev dt__law_v_sizes : He.DefD := ⟨("_law_v_sizes", none), "_law_v_sizes", "_law_v_sizes", defArgs s__law_v_sizes, defBody s__law_v_sizes, defScope s__law_v_sizes, [], []⟩
abbrev dt__law_v_kind : He.DefD := ⟨("_law_v_kind", none), "_law_v_kind", "_law_v_kind", defArgs s__law_v_kind, defBody s__law_v_kind, defScope s__law_v_kind, [], []⟩
abbrev dt__law_v_fields : He.DefD := ⟨("_law_v_fields", none), "_law_v_fields", "_law_v_fields", defArgs s__law_v_fields, defBody s__law_v_fields, defScope s__law_v_fields, [], []⟩
abbrev dt__law_v_some_record : He.DefD := ⟨("_law_v_some_record", none), "_law_v_some_record", "_law_v_some_record", defArgs s__law_v_some_record, defBody s__law_v_some_record, defScope s__law_v_some_record, [], []⟩
abbrev dt__law_is_whole : He.DefD := ⟨("_law_is_whole", none), "_law_is_whole", "_law_is_whole", defArgs s__law_is_whole, defBody s__law_is_whole, defScope s__law_is_whole, [], []⟩
abbrev dt__law_is_hand : He.DefD := ⟨("_law_is_hand", none), "_law_is_hand", "_law_is_hand", defArgs s__law_is_hand, defBody s__law_is_hand, defScope s__law_is_hand, [], []⟩
abbrev dt__law_wrong_kind : He.DefD := ⟨("_law_wrong_kind", none), "_law_wrong_kind", "_law_wrong_kind", defArgs s__law_wrong_kind, defBody s__law_wrong_kind, defScope s__law_wrong_kind, [], []⟩
abbrev dt__law_wrong_fields : He.DefD := ⟨("_law_wrong_fields", none), "_law_wrong_fields", "_law_wrong_fields", defArgs s__law_wrong_fields, defBody s__law_wrong_fields, defScope s__law_wrong_fields, [], []⟩
abbrev dt__law_wrong_record : He.DefD := ⟨("_law_wrong_record", none), "_law_wrong_record", "_law_wrong_record", defArgs s__law_wrong_record, defBody s__law_wrong_record, defScope s__law_wrong_record, [], []⟩
abbrev dt__law_odd_kind : He.DefD := ⟨("_law_odd_kind", none), "_law_odd_kind", "_law_odd_kind", defArgs s__law_odd_kind, defBody s__law_odd_kind, defScope s__law_odd_kind, [], []⟩
abbrev dt__law_heard : He.DefD := ⟨("_law_heard", none), "_law_heard", "_law_heard", defArgs s__law_heard, defBody s__law_heard, defScope s__law_heard, [], []⟩
abbrev dt__law_due : He.DefD := ⟨("_law_due", none), "_law_due", "_law_due", defArgs s__law_due, defBody s__law_due, defScope s__law_due, [], []⟩
abbrev dt__law_kind_right : He.DefD := ⟨("_law_kind_right", none), "_law_kind_right", "_law_kind_right", defArgs s__law_kind_right, defBody s__law_kind_right, defScope s__law_kind_right, [], []⟩
abbrev dt__law_fields_right : He.DefD := ⟨("_law_fields_right", none), "_law_fields_right", "_law_fields_right", defArgs s__law_fields_right, defBody s__law_fields_right, defScope s__law_fields_right, [], []⟩
abbrev dt__law_record_right : He.DefD := ⟨("_law_record_right", none), "_law_record_right", "_law_record_right", defArgs s__law_record_right, defBody s__law_record_right, defScope s__law_record_right, [], []⟩
abbrev dt_law : He.DefD := ⟨("law", none), "law", "law", defArgs s_law, defBody s_law, defScope s_law, [], []⟩
abbrev dt_init : He.DefD := ⟨("Refused", some "__init__"), "__init__", "Refused.__init__", defArgs (inClass k_Refused 0), defBody (inClass k_Refused 0), defScope (inClass k_Refused 0), [], []⟩
def fnL0 : List He.DefD := [dt_whole, dt_whole_between, dt_tuple_between, dt_made_kind, dt_is_kind, dt_wrong_kind, dt_hands_fit, dt_amount_fits, dt_made_fields, dt_made_record, dt_wrong_fields, dt_check_record, dt__law_pool, dt__law_take, dt__law_one, dt__law_mixed, dt__law_v_all_amounts, dt__law_v_sizes, dt__law_v_kind, dt__law_v_fields, dt__law_v_some_record, dt__law_is_whole, dt__law_is_hand, dt__law_wrong_kind, dt__law_wrong_fields, dt__law_wrong_record, dt__law_odd_kind, dt__law_heard, dt__law_due, dt__law_kind_right]
def fnL1 : List He.DefD := [dt__law_fields_right, dt__law_record_right, dt_law, dt_init]
def fnL : List He.DefD := fnL0 ++ fnL1
def faL0 : List He.Fa := [.glo "whole", .glo "whole_between", .glo "tuple_between", .glo "made_kind", .glo "is_kind", .glo "wrong_kind", .glo "hands_fit", .glo "amount_fits", .glo "made_fields", .glo "made_record", .glo "wrong_fields", .glo "check_record", .glo "_law_pool", .glo "_law_take", .glo "_law_one", .glo "_law_mixed", .glo "_law_v_all_amounts", .glo "_law_v_sizes", .glo "_law_v_kind", .glo "_law_v_fields", .glo "_law_v_some_record", .glo "_law_is_whole", .glo "_law_is_hand", .glo "_law_wrong_kind", .glo "_law_wrong_fields", .glo "_law_wrong_record", .glo "_law_odd_kind", .glo "_law_heard", .glo "_law_due", .glo "_law_kind_right"]
def faL1 : List He.Fa := [.glo "_law_fields_right", .glo "_law_record_right", .glo "law", .glo "Refused", .glo "BadKind", .glo "BadFields", .glo "BadRecord", .free "all", .free "bool", .free "enumerate", .free "int", .free "isinstance", .free "len", .free "list", .free "max", .free "min", .free "range", .free "repr", .free "set", .free "tuple", .free "zip", .int "MOST_STATES" 12, .int "MOST_SIZES" 12, .int "MOST_FIELDS" 6, .exm "BadKind" "Refused" true, .exm "BadFields" "Refused" true, .exm "BadRecord" "Refused" true]
def faL : List He.Fa := faL0 ++ faL1
def tfL : List He.Defn := [("_law_kind_right", none), ("_law_fields_right", none), ("_law_record_right", none)]
def clsL : List Str := ["Refused", "BadKind", "BadFields", "BadRecord"]
def kitL : List (Str × Str × Bool) := [("BadKind", "BadKind", true), ("BadKind", "BadFields", false), ("BadKind", "BadRecord", false), ("BadFields", "BadKind", false), ("BadFields", "BadFields", true), ("BadFields", "BadRecord", false), ("BadRecord", "BadKind", false), ("BadRecord", "BadFields", false), ("BadRecord", "BadRecord", true)]
def exB (K : PySem.W.Frag) : Bool := (clsL.all fun x => errB K (He.ga K x) (He.ma K (He.ga K "Refused") "__init__")) && (decide (PySem.W.typeIn K (.ref (He.ma K (He.ga K "Refused") "__init__")) = some (.type "function"))) && (kitL.all fun q => decide (PySem.W.kitOne K (.ref (He.ga K q.1)) (.ref (He.ga K q.2.1)) = some q.2.2)) && (decide ((He.cT K ("_law_kind_right", none)).2 ≠ (He.cT K ("_law_fields_right", none)).2)) && (decide ((He.cT K ("_law_kind_right", none)).2 ≠ (He.cT K ("_law_record_right", none)).2)) && (decide ((He.cT K ("_law_fields_right", none)).2 ≠ (He.cT K ("_law_record_right", none)).2))
abbrev RR : PySem.W.OpenRow := PySem.W.OpenLaw.row PySem.Challenge.rw_editlots_k25_fields_and_records
abbrev hk : PySem.W.Hook := Ed.hookS 5 faL fnL tfL exB
def obH (s : PySem.W.SharedT) : He.AlX := Ed.obS 5 faL fnL tfL exB (HandSHeadRun.getT s)
theorem obH_eq (s : PySem.W.SharedT) : obH s = hk.obs s.abs := Ed.obS_eq (HandSHeadRun.getT_eq s)
def lsL0 : List Str := ["whole", "whole_between", "tuple_between", "made_kind", "is_kind", "wrong_kind", "hands_fit", "amount_fits", "made_fields", "made_record", "wrong_fields", "check_record", "_law_pool", "_law_take", "_law_one", "_law_mixed", "_law_v_all_amounts", "_law_v_sizes", "_law_v_kind", "_law_v_fields", "_law_v_some_record", "_law_is_whole", "_law_is_hand", "_law_wrong_kind", "_law_wrong_fields", "_law_wrong_record", "_law_odd_kind", "_law_heard", "_law_due", "_law_kind_right"]
def lsL1 : List Str := ["_law_fields_right", "_law_record_right", "Refused", "BadKind", "BadFields", "BadRecord", "MOST_STATES", "MOST_SIZES", "MOST_FIELDS"]
def lsL : List Str := lsL0 ++ lsL1
theorem runH (w : World) : HandSHeadRun.RunEq RR (PySem.W.view RR.prog [44]) hk obH 6000 lsL w := by
  intro os
  kernel_rfl
end Ed

set_option Elab.async false
set_option linter.all false
set_option maxRecDepth 100000
set_option maxHeartbeats 0
/-! the end -/
namespace Ed
open PySem PySem.Spec PyProof.Rows L2
def CLof (K : PySem.W.Frag) : Cl := ⟨He.ga K "Refused", He.ga K "BadKind", He.ga K "BadFields", He.ga K "BadRecord", He.ma K (He.ga K "Refused") "__init__"⟩
def TTof (K : PySem.W.Frag) : List (Addr × Str) := [((He.cT K ("_law_kind_right", none)).2, ("_law_kind_right.<locals>.<lambda>" : Str)), ((He.cT K ("_law_fields_right", none)).2, ("_law_fields_right.<locals>.<lambda>" : Str)), ((He.cT K ("_law_record_right", none)).2, ("_law_record_right.<locals>.<lambda>" : Str))]
section
variable {w : World} {K : PySem.W.Frag} {h base : Heap} {mg : Str → Option Value}
theorem td_whole (X : K.In h) (G : h.Ns mainGlobals mg) (c : He.SaysD faL fnL K) : ∃ (f : Addr) (cd : Value), DefAt K mg "whole" "whole" s_whole ["thing"] f cd ∧ mg "whole" = some (.ref f) := by
  obtain ⟨fd, F⟩ := c.def_ 0 (d := dt_whole) rfl
  exact ⟨_, fd.code, defAt_of (st := s_whole) F (fun kV doc pm cd an ct us hl => match us, hl with | [_], _ => rfl), He.glo_ok X G (c.fact 0 (f := .glo "whole") rfl)⟩
theorem td_whole_between (X : K.In h) (G : h.Ns mainGlobals mg) (c : He.SaysD faL fnL K) : ∃ (f : Addr) (cd : Value), DefAt K mg "whole_between" "whole_between" s_whole_between ["thing", "low", "high"] f cd ∧ mg "whole_between" = some (.ref f) := by
  obtain ⟨fd, F⟩ := c.def_ 1 (d := dt_whole_between) rfl
  exact ⟨_, fd.code, defAt_of (st := s_whole_between) F (fun kV doc pm cd an ct us hl => match us, hl with | [_, _, _], _ => rfl), He.glo_ok X G (c.fact 1 (f := .glo "whole_between") rfl)⟩
theorem td_tuple_between (X : K.In h) (G : h.Ns mainGlobals mg) (c : He.SaysD faL fnL K) : ∃ (f : Addr) (cd : Value), DefAt K mg "tuple_between" "tuple_between" s_tuple_between ["thing", "least", "most"] f cd ∧ mg "tuple_between" = some (.ref f) := by
  obtain ⟨fd, F⟩ := c.def_ 2 (d := dt_tuple_between) rfl
  exact ⟨_, fd.code, defAt_of (st := s_tuple_between) F (fun kV doc pm cd an ct us hl => match us, hl with | [_, _, _], _ => rfl), He.glo_ok X G (c.fact 2 (f := .glo "tuple_between") rfl)⟩
theorem td_made_kind (X : K.In h) (G : h.Ns mainGlobals mg) (c : He.SaysD faL fnL K) : ∃ (f : Addr) (cd : Value), DefAt K mg "made_kind" "made_kind" s_made_kind ["thing"] f cd ∧ mg "made_kind" = some (.ref f) := by
  obtain ⟨fd, F⟩ := c.def_ 3 (d := dt_made_kind) rfl
  exact ⟨_, fd.code, defAt_of (st := s_made_kind) F (fun kV doc pm cd an ct us hl => match us, hl with | [_], _ => rfl), He.glo_ok X G (c.fact 3 (f := .glo "made_kind") rfl)⟩
theorem td_is_kind (X : K.In h) (G : h.Ns mainGlobals mg) (c : He.SaysD faL fnL K) : ∃ (f : Addr) (cd : Value), DefAt K mg "is_kind" "is_kind" s_is_kind ["thing"] f cd ∧ mg "is_kind" = some (.ref f) := by
  obtain ⟨fd, F⟩ := c.def_ 4 (d := dt_is_kind) rfl
  exact ⟨_, fd.code, defAt_of (st := s_is_kind) F (fun kV doc pm cd an ct us hl => match us, hl with | [_], _ => rfl), He.glo_ok X G (c.fact 4 (f := .glo "is_kind") rfl)⟩
theorem td_wrong_kind (X : K.In h) (G : h.Ns mainGlobals mg) (c : He.SaysD faL fnL K) : ∃ (f : Addr) (cd : Value), DefAt K mg "wrong_kind" "wrong_kind" s_wrong_kind ["thing"] f cd ∧ mg "wrong_kind" = some (.ref f) := by
  obtain ⟨fd, F⟩ := c.def_ 5 (d := dt_wrong_kind) rfl
  exact ⟨_, fd.code, defAt_of (st := s_wrong_kind) F (fun kV doc pm cd an ct us hl => match us, hl with | [_], _ => rfl), He.glo_ok X G (c.fact 5 (f := .glo "wrong_kind") rfl)⟩
theorem td_hands_fit (X : K.In h) (G : h.Ns mainGlobals mg) (c : He.SaysD faL fnL K) : ∃ (f : Addr) (cd : Value), DefAt K mg "hands_fit" "hands_fit" s_hands_fit ["sizes", "hands"] f cd ∧ mg "hands_fit" = some (.ref f) := by
  obtain ⟨fd, F⟩ := c.def_ 6 (d := dt_hands_fit) rfl
  exact ⟨_, fd.code, defAt_of (st := s_hands_fit) F (fun kV doc pm cd an ct us hl => match us, hl with | [_, _], _ => rfl), He.glo_ok X G (c.fact 6 (f := .glo "hands_fit") rfl)⟩
theorem td_amount_fits (X : K.In h) (G : h.Ns mainGlobals mg) (c : He.SaysD faL fnL K) : ∃ (f : Addr) (cd : Value), DefAt K mg "amount_fits" "amount_fits" s_amount_fits ["sizes", "thing"] f cd ∧ mg "amount_fits" = some (.ref f) := by
  obtain ⟨fd, F⟩ := c.def_ 7 (d := dt_amount_fits) rfl
  exact ⟨_, fd.code, defAt_of (st := s_amount_fits) F (fun kV doc pm cd an ct us hl => match us, hl with | [_, _], _ => rfl), He.glo_ok X G (c.fact 7 (f := .glo "amount_fits") rfl)⟩
theorem td_made_fields (X : K.In h) (G : h.Ns mainGlobals mg) (c : He.SaysD faL fnL K) : ∃ (f : Addr) (cd : Value), DefAt K mg "made_fields" "made_fields" s_made_fields ["thing"] f cd ∧ mg "made_fields" = some (.ref f) := by
  obtain ⟨fd, F⟩ := c.def_ 8 (d := dt_made_fields) rfl
  exact ⟨_, fd.code, defAt_of (st := s_made_fields) F (fun kV doc pm cd an ct us hl => match us, hl with | [_], _ => rfl), He.glo_ok X G (c.fact 8 (f := .glo "made_fields") rfl)⟩
theorem td_made_record (X : K.In h) (G : h.Ns mainGlobals mg) (c : He.SaysD faL fnL K) : ∃ (f : Addr) (cd : Value), DefAt K mg "made_record" "made_record" s_made_record ["fields", "thing"] f cd ∧ mg "made_record" = some (.ref f) := by
  obtain ⟨fd, F⟩ := c.def_ 9 (d := dt_made_record) rfl
  exact ⟨_, fd.code, defAt_of (st := s_made_record) F (fun kV doc pm cd an ct us hl => match us, hl with | [_, _], _ => rfl), He.glo_ok X G (c.fact 9 (f := .glo "made_record") rfl)⟩
theorem td_wrong_fields (X : K.In h) (G : h.Ns mainGlobals mg) (c : He.SaysD faL fnL K) : ∃ (f : Addr) (cd : Value), DefAt K mg "wrong_fields" "wrong_fields" s_wrong_fields ["thing"] f cd ∧ mg "wrong_fields" = some (.ref f) := by
  obtain ⟨fd, F⟩ := c.def_ 10 (d := dt_wrong_fields) rfl
  exact ⟨_, fd.code, defAt_of (st := s_wrong_fields) F (fun kV doc pm cd an ct us hl => match us, hl with | [_], _ => rfl), He.glo_ok X G (c.fact 10 (f := .glo "wrong_fields") rfl)⟩
theorem td_check_record (X : K.In h) (G : h.Ns mainGlobals mg) (c : He.SaysD faL fnL K) : ∃ (f : Addr) (cd : Value), DefAt K mg "check_record" "check_record" s_check_record ["fields", "thing"] f cd ∧ mg "check_record" = some (.ref f) := by
  obtain ⟨fd, F⟩ := c.def_ 11 (d := dt_check_record) rfl
  exact ⟨_, fd.code, defAt_of (st := s_check_record) F (fun kV doc pm cd an ct us hl => match us, hl with | [_, _], _ => rfl), He.glo_ok X G (c.fact 11 (f := .glo "check_record") rfl)⟩
theorem td__law_pool (X : K.In h) (G : h.Ns mainGlobals mg) (c : He.SaysD faL fnL K) : ∃ (f : Addr) (cd : Value), DefAt K mg "_law_pool" "_law_pool" s__law_pool ["script", "k"] f cd ∧ mg "_law_pool" = some (.ref f) := by
  obtain ⟨fd, F⟩ := c.def_ 12 (d := dt__law_pool) rfl
  exact ⟨_, fd.code, defAt_of (st := s__law_pool) F (fun kV doc pm cd an ct us hl => match us, hl with | [_, _], _ => rfl), He.glo_ok X G (c.fact 12 (f := .glo "_law_pool") rfl)⟩
theorem td__law_take (X : K.In h) (G : h.Ns mainGlobals mg) (c : He.SaysD faL fnL K) : ∃ (f : Addr) (cd : Value), DefAt K mg "_law_take" "_law_take" s__law_take ["source", "top"] f cd ∧ mg "_law_take" = some (.ref f) := by
  obtain ⟨fd, F⟩ := c.def_ 13 (d := dt__law_take) rfl
  exact ⟨_, fd.code, defAt_of (st := s__law_take) F (fun kV doc pm cd an ct us hl => match us, hl with | [_, _], _ => rfl), He.glo_ok X G (c.fact 13 (f := .glo "_law_take") rfl)⟩
theorem td__law_one (X : K.In h) (G : h.Ns mainGlobals mg) (c : He.SaysD faL fnL K) : ∃ (f : Addr) (cd : Value), DefAt K mg "_law_one" "_law_one" s__law_one ["source", "things"] f cd ∧ mg "_law_one" = some (.ref f) := by
  obtain ⟨fd, F⟩ := c.def_ 14 (d := dt__law_one) rfl
  exact ⟨_, fd.code, defAt_of (st := s__law_one) F (fun kV doc pm cd an ct us hl => match us, hl with | [_, _], _ => rfl), He.glo_ok X G (c.fact 14 (f := .glo "_law_one") rfl)⟩
theorem td__law_mixed (X : K.In h) (G : h.Ns mainGlobals mg) (c : He.SaysD faL fnL K) : ∃ (f : Addr) (cd : Value), DefAt K mg "_law_mixed" "_law_mixed" s__law_mixed ["source", "things"] f cd ∧ mg "_law_mixed" = some (.ref f) := by
  obtain ⟨fd, F⟩ := c.def_ 15 (d := dt__law_mixed) rfl
  exact ⟨_, fd.code, defAt_of (st := s__law_mixed) F (fun kV doc pm cd an ct us hl => match us, hl with | [_, _], _ => rfl), He.glo_ok X G (c.fact 15 (f := .glo "_law_mixed") rfl)⟩
theorem td__law_v_all_amounts (X : K.In h) (G : h.Ns mainGlobals mg) (c : He.SaysD faL fnL K) : ∃ (f : Addr) (cd : Value), DefAt K mg "_law_v_all_amounts" "_law_v_all_amounts" s__law_v_all_amounts ["sizes"] f cd ∧ mg "_law_v_all_amounts" = some (.ref f) := by
  obtain ⟨fd, F⟩ := c.def_ 16 (d := dt__law_v_all_amounts) rfl
  exact ⟨_, fd.code, defAt_of (st := s__law_v_all_amounts) F (fun kV doc pm cd an ct us hl => match us, hl with | [_], _ => rfl), He.glo_ok X G (c.fact 16 (f := .glo "_law_v_all_amounts") rfl)⟩
theorem td__law_v_sizes (X : K.In h) (G : h.Ns mainGlobals mg) (c : He.SaysD faL fnL K) : ∃ (f : Addr) (cd : Value), DefAt K mg "_law_v_sizes" "_law_v_sizes" s__law_v_sizes ["source"] f cd ∧ mg "_law_v_sizes" = some (.ref f) := by
  obtain ⟨fd, F⟩ := c.def_ 17 (d := dt__law_v_sizes) rfl
  exact ⟨_, fd.code, defAt_of (st := s__law_v_sizes) F (fun kV doc pm cd an ct us hl => match us, hl with | [_], _ => rfl), He.glo_ok X G (c.fact 17 (f := .glo "_law_v_sizes") rfl)⟩
theorem td__law_v_kind (X : K.In h) (G : h.Ns mainGlobals mg) (c : He.SaysD faL fnL K) : ∃ (f : Addr) (cd : Value), DefAt K mg "_law_v_kind" "_law_v_kind" s__law_v_kind ["source", "top"] f cd ∧ mg "_law_v_kind" = some (.ref f) := by
  obtain ⟨fd, F⟩ := c.def_ 18 (d := dt__law_v_kind) rfl
  exact ⟨_, fd.code, defAt_of (st := s__law_v_kind) F (fun kV doc pm cd an ct us hl => match us, hl with | [_, _], _ => rfl), He.glo_ok X G (c.fact 18 (f := .glo "_law_v_kind") rfl)⟩
theorem td__law_v_fields (X : K.In h) (G : h.Ns mainGlobals mg) (c : He.SaysD faL fnL K) : ∃ (f : Addr) (cd : Value), DefAt K mg "_law_v_fields" "_law_v_fields" s__law_v_fields ["source", "top", "states_top"] f cd ∧ mg "_law_v_fields" = some (.ref f) := by
  obtain ⟨fd, F⟩ := c.def_ 19 (d := dt__law_v_fields) rfl
  exact ⟨_, fd.code, defAt_of (st := s__law_v_fields) F (fun kV doc pm cd an ct us hl => match us, hl with | [_, _, _], _ => rfl), He.glo_ok X G (c.fact 19 (f := .glo "_law_v_fields") rfl)⟩
theorem td__law_v_some_record (X : K.In h) (G : h.Ns mainGlobals mg) (c : He.SaysD faL fnL K) : ∃ (f : Addr) (cd : Value), DefAt K mg "_law_v_some_record" "_law_v_some_record" s__law_v_some_record ["source", "sorts"] f cd ∧ mg "_law_v_some_record" = some (.ref f) := by
  obtain ⟨fd, F⟩ := c.def_ 20 (d := dt__law_v_some_record) rfl
  exact ⟨_, fd.code, defAt_of (st := s__law_v_some_record) F (fun kV doc pm cd an ct us hl => match us, hl with | [_, _], _ => rfl), He.glo_ok X G (c.fact 20 (f := .glo "_law_v_some_record") rfl)⟩
theorem td__law_is_whole (X : K.In h) (G : h.Ns mainGlobals mg) (c : He.SaysD faL fnL K) : ∃ (f : Addr) (cd : Value), DefAt K mg "_law_is_whole" "_law_is_whole" s__law_is_whole ["thing", "low"] f cd ∧ mg "_law_is_whole" = some (.ref f) := by
  obtain ⟨fd, F⟩ := c.def_ 21 (d := dt__law_is_whole) rfl
  exact ⟨_, fd.code, defAt_of (st := s__law_is_whole) F (fun kV doc pm cd an ct us hl => match us, hl with | [_, _], _ => rfl), He.glo_ok X G (c.fact 21 (f := .glo "_law_is_whole") rfl)⟩
theorem td__law_is_hand (X : K.In h) (G : h.Ns mainGlobals mg) (c : He.SaysD faL fnL K) : ∃ (f : Addr) (cd : Value), DefAt K mg "_law_is_hand" "_law_is_hand" s__law_is_hand ["sizes", "thing"] f cd ∧ mg "_law_is_hand" = some (.ref f) := by
  obtain ⟨fd, F⟩ := c.def_ 22 (d := dt__law_is_hand) rfl
  exact ⟨_, fd.code, defAt_of (st := s__law_is_hand) F (fun kV doc pm cd an ct us hl => match us, hl with | [_, _], _ => rfl), He.glo_ok X G (c.fact 22 (f := .glo "_law_is_hand") rfl)⟩
theorem td__law_wrong_kind (X : K.In h) (G : h.Ns mainGlobals mg) (c : He.SaysD faL fnL K) : ∃ (f : Addr) (cd : Value), DefAt K mg "_law_wrong_kind" "_law_wrong_kind" s__law_wrong_kind ["thing"] f cd ∧ mg "_law_wrong_kind" = some (.ref f) := by
  obtain ⟨fd, F⟩ := c.def_ 23 (d := dt__law_wrong_kind) rfl
  exact ⟨_, fd.code, defAt_of (st := s__law_wrong_kind) F (fun kV doc pm cd an ct us hl => match us, hl with | [_], _ => rfl), He.glo_ok X G (c.fact 23 (f := .glo "_law_wrong_kind") rfl)⟩
theorem td__law_wrong_fields (X : K.In h) (G : h.Ns mainGlobals mg) (c : He.SaysD faL fnL K) : ∃ (f : Addr) (cd : Value), DefAt K mg "_law_wrong_fields" "_law_wrong_fields" s__law_wrong_fields ["thing"] f cd ∧ mg "_law_wrong_fields" = some (.ref f) := by
  obtain ⟨fd, F⟩ := c.def_ 24 (d := dt__law_wrong_fields) rfl
  exact ⟨_, fd.code, defAt_of (st := s__law_wrong_fields) F (fun kV doc pm cd an ct us hl => match us, hl with | [_], _ => rfl), He.glo_ok X G (c.fact 24 (f := .glo "_law_wrong_fields") rfl)⟩
theorem td__law_wrong_record (X : K.In h) (G : h.Ns mainGlobals mg) (c : He.SaysD faL fnL K) : ∃ (f : Addr) (cd : Value), DefAt K mg "_law_wrong_record" "_law_wrong_record" s__law_wrong_record ["sorts", "thing"] f cd ∧ mg "_law_wrong_record" = some (.ref f) := by
  obtain ⟨fd, F⟩ := c.def_ 25 (d := dt__law_wrong_record) rfl
  exact ⟨_, fd.code, defAt_of (st := s__law_wrong_record) F (fun kV doc pm cd an ct us hl => match us, hl with | [_, _], _ => rfl), He.glo_ok X G (c.fact 25 (f := .glo "_law_wrong_record") rfl)⟩
theorem td__law_odd_kind (X : K.In h) (G : h.Ns mainGlobals mg) (c : He.SaysD faL fnL K) : ∃ (f : Addr) (cd : Value), DefAt K mg "_law_odd_kind" "_law_odd_kind" s__law_odd_kind ["source", "kind"] f cd ∧ mg "_law_odd_kind" = some (.ref f) := by
  obtain ⟨fd, F⟩ := c.def_ 26 (d := dt__law_odd_kind) rfl
  exact ⟨_, fd.code, defAt_of (st := s__law_odd_kind) F (fun kV doc pm cd an ct us hl => match us, hl with | [_, _], _ => rfl), He.glo_ok X G (c.fact 26 (f := .glo "_law_odd_kind") rfl)⟩
theorem td__law_heard (X : K.In h) (G : h.Ns mainGlobals mg) (c : He.SaysD faL fnL K) : ∃ (f : Addr) (cd : Value), DefAt K mg "_law_heard" "_law_heard" s__law_heard ["call"] f cd ∧ mg "_law_heard" = some (.ref f) := by
  obtain ⟨fd, F⟩ := c.def_ 27 (d := dt__law_heard) rfl
  exact ⟨_, fd.code, defAt_of (st := s__law_heard) F (fun kV doc pm cd an ct us hl => match us, hl with | [_], _ => rfl), He.glo_ok X G (c.fact 27 (f := .glo "_law_heard") rfl)⟩
theorem td__law_due (X : K.In h) (G : h.Ns mainGlobals mg) (c : He.SaysD faL fnL K) : ∃ (f : Addr) (cd : Value), DefAt K mg "_law_due" "_law_due" s__law_due ["word", "wrong", "thing"] f cd ∧ mg "_law_due" = some (.ref f) := by
  obtain ⟨fd, F⟩ := c.def_ 28 (d := dt__law_due) rfl
  exact ⟨_, fd.code, defAt_of (st := s__law_due) F (fun kV doc pm cd an ct us hl => match us, hl with | [_, _, _], _ => rfl), He.glo_ok X G (c.fact 28 (f := .glo "_law_due") rfl)⟩
theorem td__law_kind_right (X : K.In h) (G : h.Ns mainGlobals mg) (c : He.SaysD faL fnL K) : DefAt K mg "_law_kind_right" "_law_kind_right" s__law_kind_right ["thing"] (He.ga K "_law_kind_right") (.ref (He.cT K ("_law_kind_right", none)).1) ∧ mg "_law_kind_right" = some (.ref (He.ga K "_law_kind_right")) := by
  obtain ⟨fd, F⟩ := c.def_ 29 (d := dt__law_kind_right) rfl
  rw [← code_ref (st := s__law_kind_right) (ps := ["thing"]) F rfl]
  exact ⟨defAt_of (st := s__law_kind_right) F (fun kV doc pm cd an ct us hl => match us, hl with | [_], _ => rfl), He.glo_ok X G (c.fact 29 (f := .glo "_law_kind_right") rfl)⟩
theorem td__law_fields_right (X : K.In h) (G : h.Ns mainGlobals mg) (c : He.SaysD faL fnL K) : DefAt K mg "_law_fields_right" "_law_fields_right" s__law_fields_right ["thing"] (He.ga K "_law_fields_right") (.ref (He.cT K ("_law_fields_right", none)).1) ∧ mg "_law_fields_right" = some (.ref (He.ga K "_law_fields_right")) := by
  obtain ⟨fd, F⟩ := c.def_ 30 (d := dt__law_fields_right) rfl
  rw [← code_ref (st := s__law_fields_right) (ps := ["thing"]) F rfl]
  exact ⟨defAt_of (st := s__law_fields_right) F (fun kV doc pm cd an ct us hl => match us, hl with | [_], _ => rfl), He.glo_ok X G (c.fact 30 (f := .glo "_law_fields_right") rfl)⟩
theorem td__law_record_right (X : K.In h) (G : h.Ns mainGlobals mg) (c : He.SaysD faL fnL K) : DefAt K mg "_law_record_right" "_law_record_right" s__law_record_right ["sorts", "thing"] (He.ga K "_law_record_right") (.ref (He.cT K ("_law_record_right", none)).1) ∧ mg "_law_record_right" = some (.ref (He.ga K "_law_record_right")) := by
  obtain ⟨fd, F⟩ := c.def_ 31 (d := dt__law_record_right) rfl
  rw [← code_ref (st := s__law_record_right) (ps := ["sorts", "thing"]) F rfl]
  exact ⟨defAt_of (st := s__law_record_right) F (fun kV doc pm cd an ct us hl => match us, hl with | [_, _], _ => rfl), He.glo_ok X G (c.fact 31 (f := .glo "_law_record_right") rfl)⟩
theorem td_law (X : K.In h) (G : h.Ns mainGlobals mg) (c : He.SaysD faL fnL K) : ∃ (f : Addr) (cd : Value), DefAt K mg "law" "law" s_law ["script"] f cd ∧ mg "law" = some (.ref f) := by
  obtain ⟨fd, F⟩ := c.def_ 32 (d := dt_law) rfl
  exact ⟨_, fd.code, defAt_of (st := s_law) F (fun kV doc pm cd an ct us hl => match us, hl with | [_], _ => rfl), He.glo_ok X G (c.fact 32 (f := .glo "law") rfl)⟩
theorem txt_of (X : K.In h) (G : h.Ns mainGlobals mg) (c : He.SaysX faL fnL [] tfL exB w h K) (TB : ∀ p ∈ tfL.map (He.cT K), LamX.TabB base mg p.1 p.2) : Txt K mg base (TTof K) (CLof K) := by
  have d := c.t.d
  have m := c.more
  simp only [exB, Bool.and_eq_true, decide_eq_true_eq] at m
  obtain ⟨⟨⟨⟨⟨mE, mT⟩, mK⟩, n0⟩, n1⟩, n2⟩ := m
  have hE : ∀ x ∈ clsL, errB K (He.ga K x) (He.ma K (He.ga K "Refused") "__init__") = true := fun x hx => List.all_eq_true.mp mE x hx
  have hK : ∀ q ∈ kitL, PySem.W.kitOne K (.ref (He.ga K q.1)) (.ref (He.ga K q.2.1)) = some q.2.2 := fun q hq => of_decide_eq_true (List.all_eq_true.mp mK q hq)
  exact {
    d_whole := td_whole X G d,
    d_whole_between := td_whole_between X G d,
    d_tuple_between := td_tuple_between X G d,
    d_made_kind := td_made_kind X G d,
    d_is_kind := td_is_kind X G d,
    d_wrong_kind := td_wrong_kind X G d,
    d_hands_fit := td_hands_fit X G d,
    d_amount_fits := td_amount_fits X G d,
    d_made_fields := td_made_fields X G d,
    d_made_record := td_made_record X G d,
    d_wrong_fields := td_wrong_fields X G d,
    d_check_record := td_check_record X G d,
    d__law_pool := td__law_pool X G d,
    d__law_take := td__law_take X G d,
    d__law_one := td__law_one X G d,
    d__law_mixed := td__law_mixed X G d,
    d__law_v_all_amounts := td__law_v_all_amounts X G d,
    d__law_v_sizes := td__law_v_sizes X G d,
    d__law_v_kind := td__law_v_kind X G d,
    d__law_v_fields := td__law_v_fields X G d,
    d__law_v_some_record := td__law_v_some_record X G d,
    d__law_is_whole := td__law_is_whole X G d,
    d__law_is_hand := td__law_is_hand X G d,
    d__law_wrong_kind := td__law_wrong_kind X G d,
    d__law_wrong_fields := td__law_wrong_fields X G d,
    d__law_wrong_record := td__law_wrong_record X G d,
    d__law_odd_kind := td__law_odd_kind X G d,
    d__law_heard := td__law_heard X G d,
    d__law_due := td__law_due X G d,
    d__law_kind_right := ⟨_, _, _, (td__law_kind_right X G d).1, (td__law_kind_right X G d).2, TB (He.cT K ("_law_kind_right", none)) (List.mem_map.mpr ⟨_, by simp [tfL], rfl⟩), by simp [TTof], (by
    intro p hp e
    simp only [TTof, List.mem_cons, List.mem_nil_iff, or_false] at hp
    rcases hp with rfl | rfl | rfl
    · rfl
    · exact (n0 e.symm).elim
    · exact (n1 e.symm).elim)⟩,
    d__law_fields_right := ⟨_, _, _, (td__law_fields_right X G d).1, (td__law_fields_right X G d).2, TB (He.cT K ("_law_fields_right", none)) (List.mem_map.mpr ⟨_, by simp [tfL], rfl⟩), by simp [TTof], (by
    intro p hp e
    simp only [TTof, List.mem_cons, List.mem_nil_iff, or_false] at hp
    rcases hp with rfl | rfl | rfl
    · exact (n0 e).elim
    · rfl
    · exact (n2 e.symm).elim)⟩,
    d__law_record_right := ⟨_, _, _, (td__law_record_right X G d).1, (td__law_record_right X G d).2, TB (He.cT K ("_law_record_right", none)) (List.mem_map.mpr ⟨_, by simp [tfL], rfl⟩), by simp [TTof], (by
    intro p hp e
    simp only [TTof, List.mem_cons, List.mem_nil_iff, or_false] at hp
    rcases hp with rfl | rfl | rfl
    · exact (n1 e).elim
    · exact (n2 e).elim
    · rfl)⟩,
    d_law := td_law X G d,
    n_all := He.free_ok X G (d.fact 37 (f := .free "all") rfl),
    n_bool := He.free_ok X G (d.fact 38 (f := .free "bool") rfl),
    n_enumerate := He.free_ok X G (d.fact 39 (f := .free "enumerate") rfl),
    n_int := He.free_ok X G (d.fact 40 (f := .free "int") rfl),
    n_isinstance := He.free_ok X G (d.fact 41 (f := .free "isinstance") rfl),
    n_len := He.free_ok X G (d.fact 42 (f := .free "len") rfl),
    n_list := He.free_ok X G (d.fact 43 (f := .free "list") rfl),
    n_max := He.free_ok X G (d.fact 44 (f := .free "max") rfl),
    n_min := He.free_ok X G (d.fact 45 (f := .free "min") rfl),
    n_range := He.free_ok X G (d.fact 46 (f := .free "range") rfl),
    n_repr := He.free_ok X G (d.fact 47 (f := .free "repr") rfl),
    n_set := He.free_ok X G (d.fact 48 (f := .free "set") rfl),
    n_tuple := He.free_ok X G (d.fact 49 (f := .free "tuple") rfl),
    n_zip := He.free_ok X G (d.fact 50 (f := .free "zip") rfl),
    g_MOST_STATES := He.int_ok X G (d.fact 51 (f := .int "MOST_STATES" 12) rfl),
    g_MOST_SIZES := He.int_ok X G (d.fact 52 (f := .int "MOST_SIZES" 12) rfl),
    g_MOST_FIELDS := He.int_ok X G (d.fact 53 (f := .int "MOST_FIELDS" 6) rfl),
    i_ty := mT,
    i_fun := by
      obtain ⟨fd, F⟩ := d.def_ 33 (d := dt_init) rfl
      obtain ⟨oc, od, dV, kV, doc, pm, an, cdv, ct, osl, rfl, lk, cd, dfl, _⟩ := F.ex
      have e : dV = .none := by
        rcases dfl with ⟨_, z⟩ | ⟨z, _⟩
        · exact z
        · exact (z rfl).elim
      subst e
      exact ⟨_, ⟨⟨oc, od, kV, doc, pm, an, cdv, ct, osl, rfl, lk, cd⟩, F.kp⟩, L2.Binds.all fun us hl => match us, hl with | [_, _], _ => rfl⟩,
    e_Refused := errB_ok (hE "Refused" (by decide +kernel)) (He.glo_ok X G (d.fact 33 (f := .glo "Refused") rfl)),
    e_BadKind := errB_ok (hE "BadKind" (by decide +kernel)) (He.glo_ok X G (d.fact 34 (f := .glo "BadKind") rfl)),
    e_BadFields := errB_ok (hE "BadFields" (by decide +kernel)) (He.glo_ok X G (d.fact 35 (f := .glo "BadFields") rfl)),
    e_BadRecord := errB_ok (hE "BadRecord" (by decide +kernel)) (He.glo_ok X G (d.fact 36 (f := .glo "BadRecord") rfl)),
    x_BadKind := He.exm_ok (d.fact 54 (f := .exm "BadKind" "Refused" true) rfl),
    k_BadKind_BadKind := hK ("BadKind", "BadKind", true) (by decide +kernel),
    k_BadKind_BadFields := hK ("BadKind", "BadFields", false) (by decide +kernel),
    k_BadKind_BadRecord := hK ("BadKind", "BadRecord", false) (by decide +kernel),
    x_BadFields := He.exm_ok (d.fact 55 (f := .exm "BadFields" "Refused" true) rfl),
    k_BadFields_BadKind := hK ("BadFields", "BadKind", false) (by decide +kernel),
    k_BadFields_BadFields := hK ("BadFields", "BadFields", true) (by decide +kernel),
    k_BadFields_BadRecord := hK ("BadFields", "BadRecord", false) (by decide +kernel),
    x_BadRecord := He.exm_ok (d.fact 56 (f := .exm "BadRecord" "Refused" true) rfl),
    k_BadRecord_BadKind := hK ("BadRecord", "BadKind", false) (by decide +kernel),
    k_BadRecord_BadFields := hK ("BadRecord", "BadFields", false) (by decide +kernel),
    k_BadRecord_BadRecord := hK ("BadRecord", "BadRecord", true) (by decide +kernel) }
variable {P : Program} {TT : List (Addr × Str)} {CL : Cl}
theorem all_v (T : Txt K mg base TT CL) : CalV P w K mg base 12 "law" (Ev.spD ((Ev.cf P w K mg base TT CL).at []) 1 Ev.F_law) := by
  have c_whole := Ev.v_whole (P := P) (w := w) T
  have c_whole_between := Ev.v_whole_between (P := P) (w := w) T c_whole
  have c_tuple_between := Ev.v_tuple_between (P := P) (w := w) T
  have c_amount_fits := Ev.v_amount_fits (P := P) (w := w) T c_tuple_between
  have c_hands_fit := Ev.v_hands_fit (P := P) (w := w) T c_tuple_between c_amount_fits
  have c_wrong_kind := Ev.v_wrong_kind (P := P) (w := w) T c_tuple_between c_hands_fit c_whole
  have c_made_kind := Ev.v_made_kind (P := P) (w := w) T c_wrong_kind
  have c_is_kind := Ev.v_is_kind (P := P) (w := w) T c_wrong_kind
  have c_wrong_fields := Ev.v_wrong_fields (P := P) (w := w) T c_tuple_between c_is_kind
  have c_made_fields := Ev.v_made_fields (P := P) (w := w) T c_wrong_fields
  have c_check_record := Ev.v_check_record (P := P) (w := w) T c_tuple_between c_whole_between
  have c_made_record := Ev.v_made_record (P := P) (w := w) T c_made_fields c_check_record
  have c__law_pool := Ev.v__law_pool (P := P) (w := w) T
  have c__law_take := Ev.v__law_take (P := P) (w := w) T
  have c__law_one := Ev.v__law_one (P := P) (w := w) T c__law_take
  have c__law_mixed := Ev.v__law_mixed (P := P) (w := w) T c__law_take
  have c__law_v_all_amounts := Ev.v__law_v_all_amounts (P := P) (w := w) T
  have c__law_v_sizes := Ev.v__law_v_sizes (P := P) (w := w) T c__law_one
  have c__law_v_kind := Ev.v__law_v_kind (P := P) (w := w) T c__law_v_sizes c__law_v_all_amounts c__law_mixed c__law_take
  have c__law_v_fields := Ev.v__law_v_fields (P := P) (w := w) T c__law_v_kind c__law_take
  have c__law_v_some_record := Ev.v__law_v_some_record (P := P) (w := w) T c__law_take
  have c__law_is_whole := Ev.v__law_is_whole (P := P) (w := w) T
  have c__law_is_hand := Ev.v__law_is_hand (P := P) (w := w) T c__law_is_whole
  have c__law_wrong_kind := Ev.v__law_wrong_kind (P := P) (w := w) T c__law_is_hand c__law_is_whole
  have c__law_wrong_fields := Ev.v__law_wrong_fields (P := P) (w := w) T c__law_wrong_kind
  have c__law_wrong_record := Ev.v__law_wrong_record (P := P) (w := w) T c__law_is_whole
  have c__law_odd_kind := Ev.v__law_odd_kind (P := P) (w := w) T c__law_one c__law_take
  have c__law_heard := Ev.v__law_heard (P := P) (w := w) T
  have c__law_due := Ev.v__law_due (P := P) (w := w) T
  have c__law_kind_right := Ev.v__law_kind_right (P := P) (w := w) T c__law_wrong_kind c__law_due c_is_kind c__law_heard c_made_kind
  have c__law_fields_right := Ev.v__law_fields_right (P := P) (w := w) T c__law_due c__law_heard c__law_wrong_fields c_made_fields
  have c__law_record_right := Ev.v__law_record_right (P := P) (w := w) T c__law_wrong_fields c__law_due c__law_wrong_record c__law_heard c_made_record
  exact Ev.v_law (P := P) (w := w) T c__law_pool c__law_v_fields c__law_v_some_record c__law_take c__law_odd_kind c__law_one c__law_wrong_fields c__law_fields_right c__law_record_right c__law_kind_right
end
theorem tabs_start {T : List (Addr × Str)} {H : Hp} (h : ∀ p ∈ T, H p.1 = some (.tbl #[])) : LamX.Tabs T H := fun p hp => ⟨#[], h p hp, by trivial, fun pos cv e => by cases e⟩
theorem law_of {w : World} {mg : Str → Option Value} {fa : Addr} {h : Heap} (Y : hk.says w h) (G : h.Ns mainGlobals mg) (hmg : mg ("law" : Str) = some (.ref fa)) : ∃ K : PySem.W.Frag, K.In h ∧ LawV PySem.Challenge.rw_editlots_k25_fields_and_records w K 12 63 mg fa h := by
  obtain ⟨K, X, c⟩ := Y
  refine ⟨K, X, tfL.map (He.cT K), (fun vs H Q E => ∀ base, Ev.spD ((Ev.cf PySem.Challenge.rw_editlots_k25_fields_and_records.prog w K mg base (TTof K) (CLof K)).at []) 1 Ev.F_law vs H Q E), fun p hp => ?_, fun p hp => ?_, fun p hp => ?_, fun H a ns hl hb hH hS base => Ev.law_start (c := Ev.cf PySem.Challenge.rw_editlots_k25_fields_and_records.prog w K mg base (TTof K) (CLof K)) rfl rfl rfl rfl hS (tabs_start fun p hp => ?_) (Ev.law_math ns hl hb), fun base KB NB TB => ?_⟩
  · obtain ⟨q, hq, rfl⟩ := List.mem_map.mp hp
    exact c.empty q hq
  · obtain ⟨q, hq, rfl⟩ := List.mem_map.mp hp
    exact c.out q hq
  · obtain ⟨q, hq, rfl⟩ := List.mem_map.mp hp
    exact PySem.W.codeHd_of_K X (c.hd q hq)
  · have e : ∀ p ∈ TTof K, p.1 ∈ (tfL.map (He.cT K)).map (·.2) := fun p hp => by
      simp only [TTof, List.mem_cons, List.mem_nil_iff, or_false] at hp
      simp only [tfL, List.map_cons, List.map_nil, List.mem_cons, List.mem_nil_iff, or_false]
      rcases hp with rfl | rfl | rfl <;> simp
    obtain ⟨q, hq, e2⟩ := List.mem_map.mp (e p hp)
    rw [← e2]
    exact hH q hq
  · obtain ⟨f, F, hm, _⟩ := (all_v (P := PySem.Challenge.rw_editlots_k25_fields_and_records.prog) (w := w) (txt_of X G c TB)).ex
    have e := hm.symm.trans hmg
    cases e
    exact F.imp fun vs H Q E h => h base
end Ed
open PySem PySem.W PySem.Calls PyProof.Rows
theorem PySem.Challenge.cw_editlots_k25_fields_and_records_holds : PySem.Challenge.rw_editlots_k25_fields_and_records.Holds := by
  w_on; o_law
  refine HandSHeadRun.head_any (r := OpenLaw.row PySem.Challenge.rw_editlots_k25_fields_and_records) (q := view (OpenLaw.row PySem.Challenge.rw_editlots_k25_fields_and_records).prog [44]) (H := Ed.hk) (ob := Ed.obH) (M := 6000) (loose := Ed.lsL) (d := HandSHeadRun.topDef (OpenLaw.row PySem.Challenge.rw_editlots_k25_fields_and_records).prog 44) (kwd := []) Ed.obH_eq
    (by kernel_rfl) (fun s => by kernel_rfl) Ed.runH (by kernel_rfl) (by kernel_rfl) (by kernel_rfl) (by rfl) (by first | assumption | decide +kernel) (by decide +kernel) ⟨rfl, rfl, rfl, rfl, rfl, by decide +kernel⟩ ?hw ?hc
  case hw => w_witness2
  case hc =>
    refine Ed.walk_v (l := PySem.Challenge.rw_editlots_k25_fields_and_records) (n := 63) (k := 12) rfl (by decide) (by kernel_rfl) ⟨⟨rfl, by decide, by decide⟩, rfl⟩ ?F
    intro w mg fa h Y G hmg0
    have hmg : mg ("law" : PySem.Str) = some (.ref fa) := by
      have e : (HandSHeadRun.topDef (OpenLaw.row PySem.Challenge.rw_editlots_k25_fields_and_records).prog 44).name = ("law" : PySem.Str) := by kernel_rfl
      rw [← e]
      exact hmg0
    exact Ed.law_of Y G hmg

