import PyProof.Rows.All
import Wide.All
import OpenK.AllK
import Wide.FinOn
import HandS.ForMost
import HandS.Nested
import HandS.EndTab
import HandS.IsInst
import HandS.Style
import HandS.TupAny
import HandS.TupMul
import HandS.Conv
import HandS.Defaults
import HandS.Wide
import HandS.Codes
import HandS.Zip
import HandS.RaiseMore
import HandS.Dict
import HandS.Strs
import HandS.SetFor
import PySem.Challenge.RW_parlourday_k19_setups_and_seat_rules_jud
set_option Elab.async false
set_option linter.all false
set_option maxRecDepth 100000
set_option maxHeartbeats 1000000
/-! a lambda with parameters, handed to a def that calls it -/
namespace Clo
open PySem PySem.Spec PyProof.Rows L2 LamX NdefX
section
variable {cl : List (Str × Addr)} {fr : List Str} {ws : List (Option V)} {Z : Cx} {pins : List (Addr × Obj)} {σ : L2.St} {H : Hp} {s : Shared}
theorem cells_later (C : CellsAt cl fr ws Z.s_0.heap Z.H_0) (hx : Z.ex = []) (I : Inv Z pins σ H s) : CellsAt cl fr ws s.heap H := by
  have nx : ∀ b : Addr, b ∉ Z.ex := fun b q => by
    rw [hx] at q
    cases q
  have cell : ∀ y c, cl.lookup y = some c → ∀ v, Z.s_0.heap.IsCell c v → s.heap.IsCell c v := fun y c e v w => by
    obtain ⟨o, ho, hd⟩ := w
    obtain ⟨sl, q⟩ := I.base.any ho (C.all y c e).1 (nx c)
    exact ⟨_, q, hd⟩
  constructor
  · exact C.len
  · intro y c e
    obtain ⟨n, v, z⟩ := C.all y c e
    obtain ⟨o, ho, hd⟩ := id z
    exact ⟨I.base.free c o ho n (nx c), v, cell y c e v z⟩
  · exact C.inj
  · intro i y e
    obtain ⟨c, hc, hv⟩ := C.has i y e
    exact ⟨c, hc, fun v q => by
      obtain ⟨u, r, z⟩ := hv v q
      exact ⟨u, r, cell y c hc _ z⟩⟩
end
/-- the object at f is the lambda F with this body -/
def LamO (f : Addr) (F : NF) (body : Expr) : HO := .ext fun h => ∃ pm ctv, h.get? f = some (PySem.W.kla_obj F.name F.qual F.params body F.scope F.cl pm F.c ctv)
theorem lamO_at {P : Program} {w : World} {H : Hp} {h : Heap} {f : Addr} {F : NF} {body : Expr} (hok : HOk P w H h) (e : H f = some (LamO f F body)) : ∃ pm ctv, h.get? f = some (PySem.W.kla_obj F.name F.qual F.params body F.scope F.cl pm F.c ctv) := (hok f _ e).1
/-- what it promises; ws: what its captured cells hold -/
structure LOk (P : Program) (w : World) (K : PySem.W.Frag) (mg : Str → Option Value) (base : Heap) (CX : CXT) (k : Nat) (f : Addr) (F : NF) (body : Expr) (ps fr : List Str) (sp : List (Option V) → Sp) : Prop where
  len : ∀ ws vs H Q E, sp ws vs H Q E → vs.length = ps.length
  run : ∀ (A : Around) (outer : List Env) (s : Shared) (H : Hp) (us : List Value) (vs : List V) (ws : List (Option V)) (Q : VK) (E : XK), Room k A → Env0 P w K mg base A outer s H → H f = some (LamO f F body) →
    H F.c = some (CodeO F.c F.qual) → CellsAt F.cl fr ws s.heap H → Vals vs us → sp ws vs H Q E → codeAny (model P w) A (.call (.ref f) ⟨us, []⟩) (CR CX outer P w H s Q E) s
section
variable {CX : CXT} {P : Program} {w : World} {K : PySem.W.Frag} {mg : Str → Option Value} {base : Heap} {N ps fr : List Str} {F : NF} {f : Addr} {k : Nat} {sp : List (Option V) → Sp} {body : Expr}
theorem lok_of (S : NScope N ps fr F.scope) (hb : ∀ (pm ctv : Value) (us : List Value), us.length = ps.length → bindArgs (PySem.W.kla_fn F.name F.qual F.params body F.scope F.cl pm (.ref F.c) ctv) ⟨us, []⟩ = pure (ps.zip us))
    (len : ∀ ws vs H Q E, sp ws vs H Q E → vs.length = ps.length)
    (hbody : ∀ (A : Around) (outer : List Env) (s : Shared) (H : Hp) (vs : List V) (ws : List (Option V)) (Q : VK) (E : XK), Room k (A.deeper (envF F f s.heap.objs.size)) → ws.length = fr.length → sp ws vs H Q E →
      ∃ t, PE (ncx CX P w K mg base N F f A outer s H E) body t ∧ t (startF N vs ws) H Q) : LOk P w K mg base CX (k + 1) f F body ps fr sp := by
  constructor
  · exact len
  intro A outer s H us vs ws Q E hr e0 hf hc C r hsp
  have hl := len _ _ _ _ _ hsp
  have lim : s.heap.NoLimit := e0.mod.nolimit.keeps fun b o e => (e0.bs b o e).1
  obtain ⟨pm, ctv, ho⟩ := lamO_at e0.hok hf
  obtain ⟨⟨oc, vc, t, hoc, hdc, hvc⟩, _, _⟩ := e0.hok F.c _ hc
  refine PySem.W.kla_callFunE hr.depth ho rfl S.co S.gen rfl ⟨F.c, oc, vc, t, rfl, hoc, hdc, hvc⟩ ?_
  rw [hb pm ctv us (by rw [← r.length]; exact hl)]
  refine wpAny_pure (wpAny_newFunctionEnv S.nocell (fun y hy => S.par y.1 (List.of_mem_zip hy).1) (fun h₁ hns hsb => ⟨lim.fresh _ hsb, ?_⟩) S.kind)
  show codeAny _ _ (.expr body (envF F f s.heap.objs.size)) _ _
  obtain ⟨t2, ht, hq⟩ := hbody A outer s H vs ws Q E (hr.deeper _) C.len hsp
  have J := inv_startN (CX := CX) (N := N) (w := w) (E := E) (F := F) (f := f) (tk := s.toks + (ps.zip us).length) S hr.hd e0 hl r C hns (fun b o e => hsb.extBut b o (Nat.ne_of_lt (Heap.lt_size e)) (Heap.get?_push_of_some _ e))
  refine PySem.W.kla_codeExpr (wpAny_mono (ht.run [] _ (startF N vs ws) H Q J hq) (fun v s' z => ?_) fun e s' z => z)
  obtain ⟨u, H', J', rv, qv⟩ := z
  exact ⟨u, H', J'.os, J'.bare, J'.base, J'.hok, rv, qv⟩
end
/-- a def that is given a closure: its promise, the captured cells known at the call -/
structure FnC (P : Program) (w : World) (K : PySem.W.Frag) (mg : Str → Option Value) (base : Heap) (CX : CXT) (k : Nat) (g : Addr) (gd : FuncData) (ps : List Str) (cl : List (Str × Addr)) (fr : List Str) (sp : List (Option V) → Sp) : Prop where
  run : ∀ (A : Around) (outer : List Env) (s : Shared) (H : Hp) (args : Args) (us : List Value) (vs : List V) (ws : List (Option V)) (Q : VK) (E : XK), Room k A → Env0 P w K mg base A outer s H → BindsTo s gd args (ps.zip us) → Vals vs us →
    CellsAt cl fr ws s.heap H → sp ws vs H Q E → vs.length = ps.length → codeAny (model P w) A (.call (.ref g) args) (CR CX outer P w H s Q E) s
section
variable {CX : CXT} {P : Program} {w : World} {K : PySem.W.Frag} {mg : Str → Option Value} {base : Heap} {k : Nat} {g : Addr} {gd : FuncData} {x qual : Str} {st : Stmt} {N ps : List Str} {cl : List (Str × Addr)} {fr : List Str} {sp : List (Option V) → Sp}
theorem fnc_of (F : L2.Fun K x qual st g gd) (S : FnScope N ps (defScope st))
    (hbody : ∀ (cdv : Value) (A : Around) (outer : List Env) (s : Shared) (H : Hp) (vs : List V) (ws : List (Option V)) (Q : VK) (E : XK), Room k (A.deeper (envOfC qual (defScope st) s.heap.objs.size g cdv)) → CellsAt cl fr ws s.heap H → sp ws vs H Q E →
      ∃ t, PSs (cxOf CX0 P w K mg base N qual (defScope st) g cdv A outer s H E).nox (defBody st) t ∧ t { nx := fun _ H' => Q .non H', rt := Q } (start N vs) H) : FnC P w K mg base CX0 (k + 1) g gd ps cl fr sp := by
  obtain ⟨oc, od, kV, doc, pm, an, cdv, ct, osl, rfl, lk, hcd⟩ := F.ex
  constructor
  intro A outer s H args us vs ws Q E hr e0 hb r C hsp hl
  refine run_ofS lk hcd S hr e0 hb r hl fun hr' => ?_
  obtain ⟨t, ht, hq⟩ := hbody cdv A outer s H vs ws Q E hr' C hsp
  exact ⟨t, ht.nox, hq⟩
end
/-! ### the calls -/
def tHeld (i : Nat) (f : Addr) (F : NF) (body : Expr) (ws : List (Option V)) (sp : List (Option V) → Sp) (E : XK) (t : TA) : TE := fun σ H Q => σ[i]? = some (some (.ref f)) ∧ H f = some (LamO f F body) ∧
  t σ H fun vs H1 => H1 f = some (LamO f F body) ∧ H1 F.c = some (CodeO F.c F.qual) ∧ sp ws vs H1 Q E
theorem lam_fnAt {X : Cx} {pins : List (Addr × Obj)} {σ : L2.St} {H : Hp} {s : Shared} {f : Addr} {F : NF} {body : Expr} (I : Inv X pins σ H s) (e : H f = some (LamO f F body)) : PySem.W.FnAt f s.heap := by
  obtain ⟨pm, ctv, ho⟩ := lamO_at I.hok e
  exact ⟨_, _, _, _, ho⟩
section
variable {X : Cx} {CX : CXT} {i j k : Nat} {x : Str} {f : Addr} {F : NF} {body : Expr} {ps fr : List Str} {ws : List (Option V)} {sp : List (Option V) → Sp} {E : XK} {t : TA} {e : Expr} {es : List Expr} {p pos : Pos}
theorem pe_held (L : LOk X.prog X.w X.K X.mg X.base CX k f F body ps fr sp) (C : CellsAt F.cl fr ws X.s_0.heap X.H_0) (hex : X.ex = []) (hr : Room j X.A) (hk : k ≤ j) (hx : Passes CX X E) (hN : X.N[i]? = some x) (hv : Vis X.env.scope x)
    (ha : PA X (e :: es) t) (hd : (x == ("__debug__" : Str)) = false := by decide) (hcd : (x == ("__classdict__" : Str)) = false := by decide)
    (he : starEach (e :: es) X.env = (false, eval e X.env) :: starEach es X.env := by rfl) (hpl : (backTo pos (starEach es X.env)).any (·.1) = false := by rfl) :
    PE X (.Call (.Name x p) (e :: es) [] pos) (tHeld i f F body ws sp E t) := by
  constructor
  intro pins s σ H Q I h
  obtain ⟨hs, hf, ht⟩ := h
  refine wpAny_Call_Name_kw (thn ((pe_var (pos := p) hN hv hd hcd).run pins s σ H (fun v H1 => v = .ref f ∧ H1 = H) I ⟨.ref f, hs, rfl, rfl⟩) fun u s1 z => ?_)
  obtain ⟨v, H1, I1, r1, rfl, eH⟩ := z
  rw [eH] at I1
  cases (show u = Value.ref f from r1)
  refine PySem.W.callWith_F (first := []) (lam_fnAt I1 hf) (thn (ha.run pos pins s1 σ H _ I1 ht) fun us s2 z => ?_) he hpl
  obtain ⟨vs, H2, I2, r, h1, h2, q⟩ := z
  refine ⟨lam_fnAt I2 h1, ?_⟩
  refine wpAny_call (codeAny_mono (L.run X.A X.stack s2 H2 us vs ws Q E (hr.mono hk) I2.env0 h1 h2 (cells_later C hex I2) r q) fun r s' hq => ?_)
  cases r with
  | error e => exact hx pins σ H2 s2 e s' I2 hq
  | ok fl =>
    cases fl with
    | ret u => exact I2.after hq
    | next => exact hq.elim
    | brk => exact hq.elim
    | cont => exact hq.elim
/-- g(e, ..): a def of the text that is given a function which the running frame has made; js: where the captured names stand -/
def tCallC (js : List Nat) (sp : Addr → Addr → List (Option V) → Sp) (E : XK) (t : TA) : TE := fun σ H Q => t σ H fun vs H1 => ∃ f c', sp f c' (js.map (slotAt σ)) vs H1 Q E
theorem pe_callC {cl : List (Str × Addr)} {js : List Nat} {g : Addr} {gd : FuncData} {sp : Addr → Addr → List (Option V) → Sp} (G : ∀ f c', FnC X.prog X.w X.K X.mg X.base CX k g gd ps cl fr (sp f c')) (len : ∀ f c' ws vs H Q E, sp f c' ws vs H Q E → vs.length = ps.length) (cp : X.Ok → Caps X cl fr js) (hr : Room j X.A) (hk : k ≤ j)
    (hg : Gl X x) (hm : X.mg x = some (.ref g)) (hkp : PySem.W.keepIn X.K (.ref g) = true) (hb : Binds X.K gd ps []) (hx : Passes CX X E) (ha : PA X (e :: es) t) (hdb : (x == ("__debug__" : Str)) = false := by decide)
    (he : starEach (e :: es) X.env = (false, eval e X.env) :: starEach es X.env := by rfl) (hpl : (backTo pos (starEach es X.env)).any (·.1) = false := by rfl) :
    PE X (.Call (.Name x p) (e :: es) [] pos) (tCallC js sp E t) := by
  constructor
  intro pins s σ H Q I h
  refine wpAny_Call_Name_kw (ld_glob I hg hm ?_ hdb)
  refine PySem.W.callWith_K (h₀ := X.base) I.ok.mod.kin hkp (thn (ha.run pos pins s σ H _ I h) fun us s2 z => ?_) he hpl
  obtain ⟨vs, H2, I2, r, f0, c0, q⟩ := z
  refine ⟨I2.kIn, ?_⟩
  have hl := len _ _ _ _ _ _ _ q
  have bt : BindsTo s2 gd ⟨us, []⟩ (ps.zip us) := by
    have b := hb s2 us I2.kIn (by rw [List.append_nil, ← r.length]; exact hl)
    rw [List.append_nil] at b
    exact b
  refine wpAny_call (codeAny_mono ((G f0 c0).run X.A X.stack s2 H2 ⟨us, []⟩ us vs _ Q E (hr.mono hk) I2.env0 bt r (cells_of I2 (cp I2.ok)) q hl) fun r s' hq => ?_)
  cases r with
  | error e => exact hx pins σ H2 s2 e s' I2 hq
  | ok fl =>
    cases fl with
    | ret u => exact I2.after hq
    | next => exact hq.elim
    | brk => exact hq.elim
    | cont => exact hq.elim
end
/-! ### the lambda itself -/
def tLamE (T : List (Addr × Str)) (q : Str) (mk : Addr → NF) (body : Expr) : TE := fun _ H Q => Tabs T H ∧ ∀ (f c' : Addr) (H1 : Hp), ExtN H H1 → (∀ b, H1 b = none → H b = none) → Tabs T H1 → H f = none → H1 f = some (LamO f (mk c') body) → H1 c' = some (CodeO c' q) → Q (.ref f) H1
section
variable {X : Cx} {pins : List (Addr × Obj)} {σ : L2.St} {H : Hp} {s : Shared}
theorem lam_laid {F : NF} {body : Expr} {pm ctv : Value} {t' : Nat} (I : Inv X pins σ H s) :
    Inv X pins σ (upd H s.heap.objs.size (LamO s.heap.objs.size F body)) { s with heap := s.heap.push (PySem.W.kla_obj F.name F.qual F.params body F.scope F.cl pm F.c ctv), toks := t' } := by
  have e : (s.heap.push (PySem.W.kla_obj F.name F.qual F.params body F.scope F.cl pm F.c ctv)).get? s.heap.objs.size = some (PySem.W.kla_obj F.name F.qual F.params body F.scope F.cl pm F.c ctv) := Heap.get?_push_size _ rfl
  exact I.laid (a := s.heap.objs.size) (o := LamO s.heap.objs.size F body) (fun b u q => Heap.get?_push_of_some _ q) (Nat.le_refl _) ⟨⟨pm, ctv, e⟩, ⟨_, e⟩, fun h1 h2 ⟨a, b, z⟩ st => ⟨a, b, st _ z⟩⟩
theorem pe_lambda {T : List (Addr × Str)} {c P : Addr} {params : Arguments} {body : Expr} {scope : Scope} {pos : Pos} (TB : TabB X.base X.mg c P) (hcode : X.env.code = .ref c) (hm : (P, X.env.qual ++ "<lambda>") ∈ T)
    (hu : ∀ p ∈ T, p.1 = P → p.2 = X.env.qual ++ "<lambda>") (hdef : defaultsOf params X.env = ([], [])) (hfree : X.Ok → ∀ y ∈ scope.names, y.2 = .free → ∃ c, X.env.cells.lookup y.1 = some c) :
    PE X (.Lambda params body scope pos) (tLamE T (X.env.qual ++ "<lambda>") (fun c' => ⟨"<lambda>", X.env.qual ++ "<lambda>", params, [], scope, cloFrom X.env.cells scope.names [], c'⟩) body) := by
  constructor
  intro pins s σ H Q I hq
  obtain ⟨hT, h⟩ := hq
  obtain ⟨ps, hP, ht, ha⟩ := hT _ hm
  have bP : s.heap.BuiltinsAt X.mg P := TB.bm.keeps I.bk
  have hP' : s.heap.get? P = some { cls := .none, data := .fields ps } := I.hok P _ hP
  refine PySem.W.kla_eval hdef ?_
  rcases hc : codeAmong pos ps.toList with _ | cv
  · -- a new code object
    refine PySem.W.kla_makeFunction (mg := X.mg) (c := c) (P := P) (ps := ps) (closure_ok (hfree I.ok)) I.ok.glob (I.mod.glob.keeps I.bk) hcode (TB.code.keeps I.bk) hP' ht hc TB.gP bP fun c' ctv h' tk hx hge hlt hrec htb => ?_
    obtain ⟨c2, oc, vs, t, e2, hoc, hd, hv⟩ := hrec
    cases e2
    have nC : H c' = none := I.hok.fresh hge
    have nPC : P ≠ c' := ne_of_none hP nC
    have I1 : Inv X pins σ (upd (upd H P (.tbl (ps ++ #[rawInt pos.line, rawInt pos.col, .ref c']))) c' (CodeO c' (X.env.qual ++ "<lambda>"))) { s with heap := h', toks := tk } :=
      inv_table I hP (fun b o hb e => hx b o hb e) htb hge ⟨oc, vs, t, hoc, hd, hv⟩
    have nF : upd (upd H P (.tbl (ps ++ #[rawInt pos.line, rawInt pos.col, .ref c']))) c' (CodeO c' (X.env.qual ++ "<lambda>")) h'.objs.size = none := I1.hok.fresh (Nat.le_refl _)
    have I2 := lam_laid (F := ⟨"<lambda>", X.env.qual ++ "<lambda>", params, [], scope, cloFrom X.env.cells scope.names [], c'⟩) (body := body) (pm := (X.mg "__name__").getD .none) (ctv := ctv) (t' := tk) I1
    have nF0 : H h'.objs.size = none := upd_none (upd_none nF)
    have old : ∀ b o, H b = some o → (∀ q, o ≠ .tbl q) → upd (upd (upd H P (.tbl (ps ++ #[rawInt pos.line, rawInt pos.col, .ref c']))) c' (CodeO c' (X.env.qual ++ "<lambda>"))) h'.objs.size (LamO h'.objs.size ⟨"<lambda>", X.env.qual ++ "<lambda>", params, [], scope, cloFrom X.env.cells scope.names [], c'⟩ body) b = some o := fun b o e n => by
      rw [upd_ne (ne_of_none e nF0), upd_ne (ne_of_none e nC), upd_ne (fun z => n ps (Option.some.inj (e.symm.trans (by rw [z]; exact hP))))]
      exact e
    have atC : upd (upd (upd H P (.tbl (ps ++ #[rawInt pos.line, rawInt pos.col, .ref c']))) c' (CodeO c' (X.env.qual ++ "<lambda>"))) h'.objs.size (LamO h'.objs.size ⟨"<lambda>", X.env.qual ++ "<lambda>", params, [], scope, cloFrom X.env.cells scope.names [], c'⟩ body) c' = some (CodeO c' (X.env.qual ++ "<lambda>")) := by
      rw [upd_ne (ne_of_none upd_same nF), upd_same]
    refine ⟨.ref h'.objs.size, _, I2, rfl, h h'.objs.size c' _ old (fun b e => upd_none (upd_none (upd_none e))) (fun p hp => ?_) nF0 upd_same atC⟩
    by_cases hb : p.1 = P
    · rw [hu p hp hb, hb]
      have eL : (ps ++ #[rawInt pos.line, rawInt pos.col, .ref c']).toList = ps.toList ++ [rawInt pos.line, rawInt pos.col, .ref c'] := by simp
      refine ⟨ps ++ #[rawInt pos.line, rawInt pos.col, .ref c'], ?_, by rw [eL]; exact PySem.TriplesOk_snoc _ _ _ _ ht, fun p' cv q => ?_⟩
      · have atP : upd (upd H P (.tbl (ps ++ #[rawInt pos.line, rawInt pos.col, .ref c']))) c' (CodeO c' (X.env.qual ++ "<lambda>")) P = some (.tbl (ps ++ #[rawInt pos.line, rawInt pos.col, .ref c'])) := by rw [upd_ne nPC, upd_same]
        exact (upd_ne (ne_of_none atP nF)).trans atP
      · rw [eL] at q
        rcases among_app _ ht q with q | q
        · obtain ⟨c0, e1, e3⟩ := ha p' cv q
          exact ⟨c0, e1, old _ _ e3 codeO_ne⟩
        · exact ⟨c', q, atC⟩
    · obtain ⟨ps', a1, a2, a3⟩ := hT p hp
      refine ⟨ps', ?_, a2, fun p' cv q => ?_⟩
      · rw [upd_ne (ne_of_none a1 nF0), upd_ne (ne_of_none a1 nC), upd_ne hb]
        exact a1
      · obtain ⟨c0, e1, e3⟩ := a3 p' cv q
        exact ⟨c0, e1, old _ _ e3 codeO_ne⟩
  · -- the code object stands in the table
    obtain ⟨c', e, hco⟩ := ha pos cv hc
    subst e
    refine PySem.W.kla_makeFunctionHit (mg := X.mg) (c := c) (P := P) (ps := ps) (closure_ok (hfree I.ok)) I.ok.glob (I.mod.glob.keeps I.bk) hcode (TB.code.keeps I.bk) hP' ht hc bP fun ctv h' tk hx hsz => ?_
    have I1 : Inv X pins σ H { s with heap := h', toks := tk } := I.kept hx
    have nF : H h'.objs.size = none := I1.hok.fresh (Nat.le_refl _)
    have I2 := lam_laid (F := ⟨"<lambda>", X.env.qual ++ "<lambda>", params, [], scope, cloFrom X.env.cells scope.names [], c'⟩) (body := body) (pm := (X.mg "__name__").getD .none) (ctv := ctv) (t' := tk) I1
    have sm : ∀ b o, H b = some o → upd H h'.objs.size (LamO h'.objs.size ⟨"<lambda>", X.env.qual ++ "<lambda>", params, [], scope, cloFrom X.env.cells scope.names [], c'⟩ body) b = some o := fun b o q => by
      rw [upd_ne (ne_of_none q nF)]
      exact q
    exact ⟨.ref h'.objs.size, _, I2, rfl, h h'.objs.size c' _ (ExtN.of sm) (fun b q => upd_none q) (hT.ext sm) nF upd_same (sm _ _ hco)⟩
end
end Clo

set_option Elab.async false
set_option linter.all false
set_option maxRecDepth 100000
set_option maxHeartbeats 1000000
/-! defs that show data as texts: what stands around them shows nothing; the end of a law that does so -/
namespace Grd
open PySem PySem.Spec PyProof.Rows L2 LamX NdefX Clo
section
variable {X : Cx}
theorem call_repr (hg : X.A.guards = some []) (hu : X.A.units + 100 < cLine) : CallR X (.builtin "repr") (fun xs H Q => ∃ (a : Addr) (d : PyData), xs = [.ref a] ∧ Dp X.K H (.ref a) d ∧ d.showable = true ∧ d.hasDict = false ∧ d.depth ≤ 64 ∧ d.shown.length ≤ sizeLine ∧ Q (.str d.shown) H) := by
  intro pins s σ H xs us Q I r h
  obtain ⟨a, d, rfl, hd, h1, h2, h3, h4, q⟩ := h
  obtain ⟨u, rfl, rx⟩ := vals1 r
  cases (show u = Value.ref a from rx)
  obtain ⟨as, rd⟩ := Dp.reads I d (.ref a) (.ref a) hd rfl
  exact repr_of_reads' rd h1 (PyData.noDict_hsm h2) hg (by omega) (fun _ _ e => e) (fun h' u tk hk => ⟨.str d.shown, H, I.kept (t' := tk) hk, ⟨u, rfl⟩, q⟩) h4
end
structure FnG (P : Program) (w : World) (K : PySem.W.Frag) (mg : Str → Option Value) (base : Heap) (CX : CXT) (k : Nat) (f : Addr) (fd : FuncData) (ps : List Str) (sp : Sp) : Prop where
  len : ∀ vs H Q E, sp vs H Q E → vs.length = ps.length
  run : ∀ (A : Around) (outer : List Env) (s : Shared) (H : Hp) (args : Args) (us : List Value) (vs : List V) (Q : VK) (E : XK), Room k A → A.guards = some [] → Env0 P w K mg base A outer s H → BindsTo s fd args (ps.zip us) → Vals vs us → sp vs H Q E →
    codeAny (model P w) A (.call (.ref f) args) (CR CX outer P w H s Q E) s
section
variable {P : Program} {w : World} {K : PySem.W.Frag} {mg : Str → Option Value} {base : Heap} {k : Nat} {g : Addr} {gd : FuncData} {x qual : Str} {st : Stmt} {N ps : List Str} {sp : Sp}
theorem fng_of (F : L2.Fun K x qual st g gd) (S : FnScope N ps (defScope st)) (len : ∀ vs H Q E, sp vs H Q E → vs.length = ps.length)
    (hbody : ∀ (cdv : Value) (A : Around) (outer : List Env) (s : Shared) (H : Hp) (vs : List V) (Q : VK) (E : XK), Room k (A.deeper (envOfC qual (defScope st) s.heap.objs.size g cdv)) → (A.deeper (envOfC qual (defScope st) s.heap.objs.size g cdv)).guards = some [] → sp vs H Q E →
      ∃ t, PSs (cxOf CX0 P w K mg base N qual (defScope st) g cdv A outer s H E).nox (defBody st) t ∧ t { nx := fun _ H' => Q .non H', rt := Q } (start N vs) H) : FnG P w K mg base CX0 (k + 1) g gd ps sp := by
  obtain ⟨oc, od, kV, doc, pm, an, cdv, ct, osl, rfl, lk, hcd⟩ := F.ex
  constructor
  · exact len
  intro A outer s H args us vs Q E hr hg e0 hb r hsp
  refine run_ofS lk hcd S hr e0 hb r (len _ _ _ _ hsp) fun hr' => ?_
  obtain ⟨t, ht, hq⟩ := hbody cdv A outer s H vs Q E hr' hg hsp
  exact ⟨t, ht.nox, hq⟩
end
section
variable {X : Cx} {CX : CXT} {j k : Nat} {x : Str} {ps : List Str} {sp : Sp} {E : XK} {t : TA} {e : Expr} {es : List Expr} {p pos : Pos} {g : Addr} {gd : FuncData}
theorem pe_callG (G : FnG X.prog X.w X.K X.mg X.base CX k g gd ps sp) (hr : Room j X.A) (hk : k ≤ j) (hgd : X.A.guards = some [])
    (hg : Gl X x) (hm : X.mg x = some (.ref g)) (hkp : PySem.W.keepIn X.K (.ref g) = true) (hb : Binds X.K gd ps []) (hx : Passes CX X E) (ha : PA X (e :: es) t) (hdb : (x == ("__debug__" : Str)) = false := by decide)
    (he : starEach (e :: es) X.env = (false, eval e X.env) :: starEach es X.env := by rfl) (hpl : (backTo pos (starEach es X.env)).any (·.1) = false := by rfl) :
    PE X (.Call (.Name x p) (e :: es) [] pos) (tCall sp [] E t) := by
  constructor
  intro pins s σ H Q I h
  refine wpAny_Call_Name_kw (ld_glob I hg hm ?_ hdb)
  refine PySem.W.callWith_K (h₀ := X.base) I.ok.mod.kin hkp (thn (ha.run pos pins s σ H _ I h) fun us s2 z => ?_) he hpl
  obtain ⟨vs, H2, I2, r, q⟩ := z
  have q : sp vs H2 Q E := by
    have q' : sp (vs ++ []) H2 Q E := q
    rw [List.append_nil] at q'
    exact q'
  refine ⟨I2.kIn, ?_⟩
  have hl := G.len _ _ _ _ q
  have bt : BindsTo s2 gd ⟨us, []⟩ (ps.zip us) := by
    have b := hb s2 us I2.kIn (by rw [List.append_nil, ← r.length]; exact hl)
    rw [List.append_nil] at b
    exact b
  refine wpAny_call (codeAny_mono (G.run X.A X.stack s2 H2 ⟨us, []⟩ us vs Q E (hr.mono hk) hgd I2.env0 bt r q) fun r s' hq => ?_)
  cases r with
  | error e => exact hx pins σ H2 s2 e s' I2 hq
  | ok fl =>
    cases fl with
    | ret u => exact I2.after hq
    | next => exact hq.elim
    | brk => exact hq.elim
    | cont => exact hq.elim
end
end Grd

set_option Elab.async false
set_option linter.all false
set_option maxRecDepth 100000
set_option maxHeartbeats 1000000
/-! an abstract machine over data: values that never change (PyData), lists that do (by their places) -/
namespace Dat
open PySem PySem.Spec PyProof.Rows L2
mutual
inductive Dq (K : PySem.W.Frag) (H : Hp) : V → PyData → Prop
  | non : Dq K H .non .none
  | bl (b : Bool) : Dq K H (.bl b) (.bool b)
  | int (i : Int) : Dq K H (.int i) (.int i)
  | str (x : Str) : Dq K H (.str x) (.str x)
  | lst {a : Addr} {xs : List V} {ds : List PyData} (h : H a = some (.lst xs)) (g : DqAll K H xs ds) : Dq K H (.ref a) (.list ds)
  | tup {a : Addr} {xs : List V} {ds : List PyData} (h : SqT K H a xs) (g : DqAll K H xs ds) : Dq K H (.ref a) (.tuple ds)
  | dct {a : Addr} (h : H a = some (.dK [])) : Dq K H (.ref a) (.dict [])
inductive DqAll (K : PySem.W.Frag) (H : Hp) : List V → List PyData → Prop
  | nil : DqAll K H [] []
  | cons {v : V} {vs : List V} {d : PyData} {ds : List PyData} (h : Dq K H v d) (g : DqAll K H vs ds) : DqAll K H (v :: vs) (d :: ds)
end
theorem sqT_same {K : PySem.W.Frag} {H H' : Hp} {a : Addr} {xs : List V} (s : Same H H') (h : SqT K H a xs) : SqT K H' a xs := by
  rcases h with (h | ⟨o, h⟩) | h
  · exact .inl (.inl (s _ _ h))
  · exact .inl (.inr ⟨o, s _ _ h⟩)
  · exact .inr h
section
variable {K : PySem.W.Frag} {H H' : Hp}
mutual
theorem Dq.same (s : Same H H') : ∀ {v : V} {d : PyData}, Dq K H v d → Dq K H' v d
  | _, _, .non => .non
  | _, _, .bl b => .bl b
  | _, _, .int i => .int i
  | _, _, .str x => .str x
  | _, _, .lst h g => .lst (s _ _ h) (DqAll.same s g)
  | _, _, .tup h g => .tup (sqT_same s h) (DqAll.same s g)
  | _, _, .dct h => .dct (s _ _ h)
theorem DqAll.same (s : Same H H') : ∀ {vs : List V} {ds : List PyData}, DqAll K H vs ds → DqAll K H' vs ds
  | _, _, .nil => .nil
  | _, _, .cons h g => .cons (Dq.same s h) (DqAll.same s g)
end
theorem DqAll.length : ∀ {vs : List V} {ds : List PyData}, DqAll K H vs ds → vs.length = ds.length
  | _, _, .nil => rfl
  | _, _, .cons _ g => by rw [List.length_cons, List.length_cons, DqAll.length g]
theorem DqAll.get : ∀ {vs : List V} {ds : List PyData} {i : Nat} {d : PyData}, DqAll K H vs ds → ds[i]? = some d → ∃ v, vs[i]? = some v ∧ Dq K H v d
  | _, _, _, _, .nil, e => by simp at e
  | _, _, 0, _, .cons h _, e => by
    rw [List.getElem?_cons_zero] at e
    cases e
    exact ⟨_, rfl, h⟩
  | _, _, i + 1, _, .cons _ g, e => by
    rw [List.getElem?_cons_succ] at e
    obtain ⟨v, e2, h⟩ := DqAll.get g e
    exact ⟨v, by rw [List.getElem?_cons_succ]; exact e2, h⟩
theorem DqAll.getV : ∀ {vs : List V} {ds : List PyData} {i : Nat} {v : V}, DqAll K H vs ds → vs[i]? = some v → ∃ d, ds[i]? = some d ∧ Dq K H v d
  | _, _, _, _, .nil, e => by simp at e
  | _, _, 0, _, .cons h _, e => by
    rw [List.getElem?_cons_zero] at e
    cases e
    exact ⟨_, rfl, h⟩
  | _, _, i + 1, _, .cons _ g, e => by
    rw [List.getElem?_cons_succ] at e
    obtain ⟨v, e2, h⟩ := DqAll.getV g e
    exact ⟨v, by rw [List.getElem?_cons_succ]; exact e2, h⟩
theorem DqAll.app : ∀ {vs us : List V} {ds es : List PyData}, DqAll K H vs ds → DqAll K H us es → DqAll K H (vs ++ us) (ds ++ es)
  | _, _, _, _, .nil, q => q
  | _, _, _, _, .cons h g, q => .cons h (DqAll.app g q)
theorem DqAll.take : ∀ {vs : List V} {ds : List PyData} (n : Nat), DqAll K H vs ds → DqAll K H (vs.take n) (ds.take n)
  | _, _, 0, _ => by rw [List.take_zero, List.take_zero]; exact .nil
  | _, _, n + 1, .nil => by rw [List.take_nil, List.take_nil]; exact .nil
  | _, _, n + 1, .cons h g => by rw [List.take_succ_cons, List.take_succ_cons]; exact .cons h (DqAll.take n g)
theorem DqAll.drop : ∀ {vs : List V} {ds : List PyData} (n : Nat), DqAll K H vs ds → DqAll K H (vs.drop n) (ds.drop n)
  | _, _, 0, h => by rw [List.drop_zero, List.drop_zero]; exact h
  | _, _, n + 1, .nil => by rw [List.drop_nil, List.drop_nil]; exact .nil
  | _, _, n + 1, .cons h g => by rw [List.drop_succ_cons, List.drop_succ_cons]; exact DqAll.drop n g
theorem DqAll.rev : ∀ {vs : List V} {ds : List PyData}, DqAll K H vs ds → DqAll K H vs.reverse ds.reverse
  | _, _, .nil => .nil
  | _, _, .cons h g => by
    rw [List.reverse_cons, List.reverse_cons]
    exact DqAll.app (DqAll.rev g) (.cons h .nil)
theorem DqAll.ints : ∀ {ns : List Int} {vs : List V}, DqAll K H vs (ns.map PyData.int) → vs = ns.map V.int
  | [], _, h => by cases h; rfl
  | n :: r, _, h => by
    rw [List.map_cons] at h
    cases h with
    | cons h g =>
      cases h
      rw [DqAll.ints g, List.map_cons]
theorem DqAll.ofInts : ∀ {ns : List Int}, DqAll K H (ns.map V.int) (ns.map PyData.int)
  | [] => .nil
  | n :: r => .cons (.int n) DqAll.ofInts
end
/-! ### abstract values, the store of lists that change -/
inductive Av
  | dat (d : PyData)
  | ptr (p : Addr)
  | tup (as : List Av)
  | scr (ns : List Int)
  | fn (f : Addr)
  | ty (T : String)
mutual
inductive VOk (K : PySem.W.Frag) (F : Hp) : Av → V → Prop
  | dat {d : PyData} {v : V} (h : Dq K F v d) : VOk K F (.dat d) v
  | ptr (p : Addr) : VOk K F (.ptr p) (.ref p)
  | tup {a : Addr} {as : List Av} {xs : List V} (h : F a = some (.tup xs)) (g : VAll K F as xs) : VOk K F (.tup as) (.ref a)
  | scr {a : Addr} {ns : List Int} (h : SqL K F a (ns.map V.int)) : VOk K F (.scr ns) (.ref a)
  | fn (f : Addr) : VOk K F (.fn f) (.ref f)
  | ty (T : String) : VOk K F (.ty T) (.ty T)
inductive VAll (K : PySem.W.Frag) (F : Hp) : List Av → List V → Prop
  | nil : VAll K F [] []
  | cons {a : Av} {as : List Av} {v : V} {vs : List V} (h : VOk K F a v) (g : VAll K F as vs) : VAll K F (a :: as) (v :: vs)
end
abbrev AH := Addr → Option (List Av)
def put (Ω : AH) (p : Addr) (as : List Av) : AH := fun a => if a = p then some as else Ω a
def del (Ω : AH) (p : Addr) : AH := fun a => if a = p then none else Ω a
theorem put_same {Ω : AH} {p : Addr} {as : List Av} : put Ω p as p = some as := if_pos rfl
theorem put_ne {Ω : AH} {p q : Addr} {as : List Av} (h : q ≠ p) : put Ω p as q = Ω q := if_neg h
theorem put_put {Ω : AH} {p : Addr} {as bs : List Av} : put (put Ω p as) p bs = put Ω p bs := by
  funext a
  unfold put
  split <;> rfl
theorem del_put {Ω : AH} {p : Addr} {as : List Av} (h : Ω p = none) : del (put Ω p as) p = Ω := by
  funext a
  unfold del put
  split
  · next e => rw [e, h]
  · rfl
theorem put_id {Ω : AH} {p : Addr} {as : List Av} (h : Ω p = some as) : put Ω p as = Ω := by
  funext a
  unfold put
  split
  · next e => rw [e, h]
  · rfl
theorem ne_of_Ω {Ω : AH} {p q : Addr} {as : List Av} (h : Ω p = some as) (n : Ω q = none) : p ≠ q := fun e => by
  rw [e, n] at h
  cases h
/-- what is seen of the heap besides the lists that change -/
def Fz (Ω : AH) (H : Hp) : Hp := fun a => match Ω a with
  | some _ => none
  | none => H a
theorem Fz_none {Ω : AH} {H : Hp} {a : Addr} (h : Ω a = none) : Fz Ω H a = H a := by
  unfold Fz
  rw [h]
theorem Fz_some {Ω : AH} {H : Hp} {a : Addr} {as : List Av} (h : Ω a = some as) : Fz Ω H a = none := by
  unfold Fz
  rw [h]
theorem Fz_le {Ω : AH} {H : Hp} : Same (Fz Ω H) H := fun a o e => by
  unfold Fz at e
  split at e
  · cases e
  · exact e
theorem Fz_of {Ω : AH} {H : Hp} {a : Addr} {o : HO} (e : Fz Ω H a = some o) : Ω a = none := by
  unfold Fz at e
  split at e
  · cases e
  · assumption
theorem Fz_same {Ω : AH} {H H' : Hp} (s : Same H H') : Same (Fz Ω H) (Fz Ω H') := fun a o e => by
  have n := Fz_of e
  rw [Fz_none n] at e ⊢
  exact s a o e
theorem Fz_new {Ω : AH} {H : Hp} {p : Addr} {o : HO} {as : List Av} (n : H p = none) : Fz (put Ω p as) (upd H p o) = Fz Ω H := by
  funext a
  by_cases e : a = p
  · subst e
    rw [Fz_some put_same]
    unfold Fz
    split
    · rfl
    · exact n.symm
  · unfold Fz
    rw [put_ne e, upd_ne e]
theorem Fz_put {Ω : AH} {H : Hp} {p : Addr} {o : HO} {as bs : List Av} (n : Ω p = some bs) : Fz (put Ω p as) (upd H p o) = Fz Ω H := by
  funext a
  by_cases e : a = p
  · subst e
    rw [Fz_some put_same, Fz_some n]
  · unfold Fz
    rw [put_ne e, upd_ne e]
theorem Fz_del {Ω : AH} {H : Hp} {p : Addr} : Same (Fz Ω H) (Fz (del Ω p) H) := fun a o e => by
  have n := Fz_of e
  rw [Fz_none n] at e
  have m : del Ω p a = none := by
    unfold del
    split
    · rfl
    · exact n
  rw [Fz_none m]
  exact e
section
variable {K : PySem.W.Frag} {F F' : Hp}
mutual
theorem VOk.same (s : Same F F') : ∀ {a : Av} {v : V}, VOk K F a v → VOk K F' a v
  | _, _, .dat h => .dat (h.same s)
  | _, _, .ptr p => .ptr p
  | _, _, .tup h g => .tup (s _ _ h) (VAll.same s g)
  | _, _, .scr h => .scr (s.seq h)
  | _, _, .fn f => .fn f
  | _, _, .ty T => .ty T
theorem VAll.same (s : Same F F') : ∀ {as : List Av} {vs : List V}, VAll K F as vs → VAll K F' as vs
  | _, _, .nil => .nil
  | _, _, .cons h g => .cons (VOk.same s h) (VAll.same s g)
end
theorem VAll.length : ∀ {as : List Av} {vs : List V}, VAll K F as vs → vs.length = as.length
  | _, _, .nil => rfl
  | _, _, .cons _ g => by rw [List.length_cons, List.length_cons, VAll.length g]
theorem VAll.get : ∀ {as : List Av} {vs : List V} {i : Nat} {a : Av}, VAll K F as vs → as[i]? = some a → ∃ v, vs[i]? = some v ∧ VOk K F a v
  | _, _, _, _, .nil, e => by simp at e
  | _, _, 0, _, .cons h _, e => by
    rw [List.getElem?_cons_zero] at e
    cases e
    exact ⟨_, rfl, h⟩
  | _, _, i + 1, _, .cons _ g, e => by
    rw [List.getElem?_cons_succ] at e
    obtain ⟨v, e2, h⟩ := VAll.get g e
    exact ⟨v, by rw [List.getElem?_cons_succ]; exact e2, h⟩
theorem VAll.app : ∀ {as bs : List Av} {vs us : List V}, VAll K F as vs → VAll K F bs us → VAll K F (as ++ bs) (vs ++ us)
  | _, _, _, _, .nil, q => q
  | _, _, _, _, .cons h g, q => .cons h (VAll.app g q)
theorem VAll.set : ∀ {as : List Av} {vs : List V} {a : Av} {v : V} (i : Nat), VAll K F as vs → VOk K F a v → VAll K F (as.set i a) (vs.set i v)
  | _, _, _, _, _, .nil, _ => .nil
  | _, _, _, _, 0, .cons _ g, k => .cons k g
  | _, _, _, _, i + 1, .cons h g, k => .cons h (VAll.set i g k)
theorem VAll.dats : ∀ {ds : List PyData} {vs : List V}, VAll K F (ds.map .dat) vs → DqAll K F vs ds
  | [], _, h => by cases h; exact .nil
  | d :: r, _, h => by
    rw [List.map_cons] at h
    cases h with
    | cons h g =>
      cases h with
      | dat h => exact .cons h (VAll.dats g)
theorem VAll.ofDats : ∀ {ds : List PyData} {vs : List V}, DqAll K F vs ds → VAll K F (ds.map .dat) vs
  | _, _, .nil => .nil
  | _, _, .cons h g => .cons (.dat h) (VAll.ofDats g)
end
inductive Slots (K : PySem.W.Frag) (F : Hp) : List (Option Av) → List (Option V) → Prop
  | nil : Slots K F [] []
  | no {x : Option V} {Γ : List (Option Av)} {σ : List (Option V)} (g : Slots K F Γ σ) : Slots K F (none :: Γ) (x :: σ)
  | yes {a : Av} {v : V} {Γ : List (Option Av)} {σ : List (Option V)} (h : VOk K F a v) (g : Slots K F Γ σ) : Slots K F (some a :: Γ) (some v :: σ)
section
variable {K : PySem.W.Frag} {F F' : Hp}
theorem Slots.same (s : Same F F') : ∀ {Γ : List (Option Av)} {σ : List (Option V)}, Slots K F Γ σ → Slots K F' Γ σ
  | _, _, .nil => .nil
  | _, _, .no g => .no (Slots.same s g)
  | _, _, .yes h g => .yes (h.same s) (Slots.same s g)
theorem Slots.get : ∀ {Γ : List (Option Av)} {σ : List (Option V)} {i : Nat} {a : Av}, Slots K F Γ σ → Γ[i]? = some (some a) → ∃ v, σ[i]? = some (some v) ∧ VOk K F a v
  | _, _, _, _, .nil, e => by simp at e
  | _, _, 0, _, .no _, e => by simp at e
  | _, _, 0, _, .yes h _, e => by
    rw [List.getElem?_cons_zero] at e
    cases e
    exact ⟨_, rfl, h⟩
  | _, _, i + 1, _, .no g, e => by
    rw [List.getElem?_cons_succ] at e
    obtain ⟨v, e2, h⟩ := Slots.get g e
    exact ⟨v, by rw [List.getElem?_cons_succ]; exact e2, h⟩
  | _, _, i + 1, _, .yes _ g, e => by
    rw [List.getElem?_cons_succ] at e
    obtain ⟨v, e2, h⟩ := Slots.get g e
    exact ⟨v, by rw [List.getElem?_cons_succ]; exact e2, h⟩
theorem Slots.set : ∀ {Γ : List (Option Av)} {σ : List (Option V)} {a : Av} {v : V} (i : Nat), Slots K F Γ σ → VOk K F a v → Slots K F (Γ.set i (some a)) (σ.set i (some v))
  | _, _, _, _, _, .nil, _ => .nil
  | _, _, _, _, 0, .no g, k => .yes k g
  | _, _, _, _, 0, .yes _ g, k => .yes k g
  | _, _, _, _, i + 1, .no g, k => .no (Slots.set i g k)
  | _, _, _, _, i + 1, .yes h g, k => .yes h (Slots.set i g k)
theorem Slots.clear : ∀ {Γ : List (Option Av)} {σ : List (Option V)} (i : Nat), Slots K F Γ σ → Slots K F (Γ.set i none) (σ.set i none)
  | _, _, _, .nil => .nil
  | _, _, 0, .no g => .no g
  | _, _, 0, .yes _ g => .no g
  | _, _, i + 1, .no g => .no (Slots.clear i g)
  | _, _, i + 1, .yes h g => .yes h (Slots.clear i g)
theorem Slots.start {N : List Str} : ∀ {as : List Av} {vs : List V}, VAll K F as vs → ∀ n, Slots K F (as.map some ++ List.replicate n none) (vs.map some ++ List.replicate n none)
  | _, _, .nil, 0 => .nil
  | _, _, .nil, n + 1 => .no (Slots.start (N := N) .nil n)
  | _, _, .cons h g, n => .yes h (Slots.start (N := N) g n)
end
def wipeA (Γ : List (Option Av)) : List Nat → List (Option Av)
  | [] => Γ
  | v :: vs => (wipeA Γ vs).set v none
theorem Slots.wipe {K : PySem.W.Frag} {F : Hp} {Γ : List (Option Av)} {σ : List (Option V)} (h : Slots K F Γ σ) : ∀ vs : List Nat, Slots K F (wipeA Γ vs) (L2.wipe σ vs)
  | [] => h
  | v :: vs => Slots.clear v (Slots.wipe h vs)
structure Ok (K : PySem.W.Frag) (F : Hp) (Ω : AH) (Γ : List (Option Av)) (σ : L2.St) (H : Hp) : Prop where
  fr : Same F (Fz Ω H)
  st : ∀ p as, Ω p = some as → ∃ xs, H p = some (.lst xs) ∧ VAll K (Fz Ω H) as xs
  sl : Slots K (Fz Ω H) Γ σ
section
variable {K : PySem.W.Frag} {F F1 : Hp} {Ω : AH} {Γ : List (Option Av)} {σ : L2.St} {H H' : Hp} {p : Addr} {as : List Av} {xs : List V} {a : Av} {v : V} {i : Nat}
theorem Ok.same (k : Ok K F Ω Γ σ H) (s : Same H H') : Ok K F Ω Γ σ H' := by
  have s' := Fz_same (Ω := Ω) s
  refine ⟨k.fr.trans s', fun p as e => ?_, k.sl.same s'⟩
  obtain ⟨xs, h1, h2⟩ := k.st p as e
  exact ⟨xs, s _ _ h1, h2.same s'⟩
theorem Ok.re (k : Ok K F Ω Γ σ H) : Ok K (Fz Ω H) Ω Γ σ H := ⟨Same.refl _, k.st, k.sl⟩
theorem Ok.anchor (k : Ok K F1 Ω Γ σ H) (s : Same F F1) : Ok K F Ω Γ σ H := ⟨s.trans k.fr, k.st, k.sl⟩
theorem Ok.bare (k : Ok K F Ω Γ σ H) : Ok K F Ω [] [] H := ⟨k.fr, k.st, .nil⟩
theorem Ok.back {Ω' : AH} (k : Ok K F Ω Γ σ H) (j : Ok K (Fz Ω H) Ω' [] [] H') : Ok K F Ω' Γ σ H' := ⟨k.fr.trans j.fr, j.st, k.sl.same j.fr⟩
theorem Ok.val (k : Ok K F Ω Γ σ H) (e : Γ[i]? = some (some a)) : ∃ v, σ[i]? = some (some v) ∧ VOk K (Fz Ω H) a v := k.sl.get e
theorem Ok.set (k : Ok K F Ω Γ σ H) (h : VOk K (Fz Ω H) a v) (i : Nat) : Ok K F Ω (Γ.set i (some a)) (σ.set i (some v)) H := ⟨k.fr, k.st, k.sl.set i h⟩
theorem Ok.wipe (k : Ok K F Ω Γ σ H) (vs : List Nat) : Ok K F Ω (wipeA Γ vs) (L2.wipe σ vs) H := ⟨k.fr, k.st, k.sl.wipe vs⟩
theorem Ok.free (k : Ok K F Ω Γ σ H) (n : H p = none) : Ω p = none := by
  cases e : Ω p with
  | none => rfl
  | some as =>
    obtain ⟨xs, h1, _⟩ := k.st p as e
    rw [n] at h1
    cases h1
theorem Ok.new (k : Ok K F Ω Γ σ H) (n : H p = none) (h : VAll K (Fz Ω H) as xs) : Ok K F (put Ω p as) Γ σ (upd H p (.lst xs)) := by
  have e := Fz_new (Ω := Ω) (o := .lst xs) (as := as) n
  refine ⟨by rw [e]; exact k.fr, fun q bs hq => ?_, by rw [e]; exact k.sl⟩
  rw [e]
  by_cases z : q = p
  · subst z
    rw [put_same] at hq
    cases hq
    exact ⟨xs, upd_same, h⟩
  · rw [put_ne z] at hq
    rw [upd_ne z]
    exact k.st q bs hq
theorem Ok.put {bs : List Av} (k : Ok K F Ω Γ σ H) (n : Ω p = some bs) (h : VAll K (Fz Ω H) as xs) : Ok K F (Dat.put Ω p as) Γ σ (upd H p (.lst xs)) := by
  have e := Fz_put (Ω := Ω) (H := H) (o := .lst xs) (as := as) n
  refine ⟨by rw [e]; exact k.fr, fun q bs hq => ?_, by rw [e]; exact k.sl⟩
  rw [e]
  by_cases z : q = p
  · subst z
    rw [put_same] at hq
    cases hq
    exact ⟨xs, upd_same, h⟩
  · rw [put_ne z] at hq
    rw [upd_ne z]
    exact k.st q bs hq
theorem same_new {o : HO} (n : H p = none) : Same H (upd H p o) := fun b x e => by
  rw [upd_ne (ne_of_none e n)]
  exact e
theorem Fz_at {Ω : AH} {o : HO} (n : Ω p = none) : Fz Ω (upd H p o) p = some o := by
  rw [Fz_none n, upd_same]
theorem Ok.frz {ds : List PyData} (k : Ok K F Ω Γ σ H) (e : Ω p = some (ds.map .dat)) : Ok K F (del Ω p) Γ σ H ∧ Dq K (Fz (del Ω p) H) (.ref p) (.list ds) := by
  have s : Same (Fz Ω H) (Fz (del Ω p) H) := Fz_del
  obtain ⟨xs, h1, h2⟩ := k.st p _ e
  refine ⟨⟨k.fr.trans s, fun q bs hq => ?_, k.sl.same s⟩, .lst ?_ (h2.same s).dats⟩
  · have hq' : Ω q = some bs := by
      unfold del at hq
      split at hq
      · cases hq
      · exact hq
    obtain ⟨ys, g1, g2⟩ := k.st q bs hq'
    exact ⟨ys, g1, g2.same s⟩
  · rw [Fz_none (if_pos rfl)]
    exact h1
end
/-! ### what is wanted behind an expression, a test, arguments -/
def EW (K : PySem.W.Frag) (te : TE) (Γ : List (Option Av)) (Ω : AH) (P : Av → AH → Prop) : Prop :=
  ∀ (F : Hp) (σ : L2.St) (H : Hp) (Q : VK), Ok K F Ω Γ σ H → (∀ a v Ω' H', P a Ω' → Ok K F Ω' Γ σ H' → VOk K (Fz Ω' H') a v → Q v H') → te σ H Q
def TW (K : PySem.W.Frag) (tt : TT) (Γ : List (Option Av)) (Ω : AH) (P : Bool → AH → Prop) : Prop :=
  ∀ (F : Hp) (σ : L2.St) (H : Hp) (Q : Bool → Hp → Prop), Ok K F Ω Γ σ H → (∀ b Ω' H', P b Ω' → Ok K F Ω' Γ σ H' → Q b H') → tt σ H Q
def AW (K : PySem.W.Frag) (ta : TA) (Γ : List (Option Av)) (Ω : AH) (P : List Av → AH → Prop) : Prop :=
  ∀ (F : Hp) (σ : L2.St) (H : Hp) (Q : List V → Hp → Prop), Ok K F Ω Γ σ H → (∀ as vs Ω' H', P as Ω' → Ok K F Ω' Γ σ H' → VAll K (Fz Ω' H') as vs → Q vs H') → ta σ H Q
def OW (K : PySem.W.Frag) (to : TO) (Γ : List (Option Av)) (Ω : AH) (P : Option Int → AH → Prop) : Prop :=
  ∀ (F : Hp) (σ : L2.St) (H : Hp) (Q : Option Int → Hp → Prop), Ok K F Ω Γ σ H → (∀ o Ω' H', P o Ω' → Ok K F Ω' Γ σ H' → Q o H') → to σ H Q
/-- operations on values -/
def R2W (K : PySem.W.Frag) (r : R2) (a b : Av) (Ω : AH) (P : Av → AH → Prop) : Prop :=
  ∀ (F : Hp) (H : Hp) (x y : V) (Q : VK), Ok K F Ω [] [] H → VOk K (Fz Ω H) a x → VOk K (Fz Ω H) b y → (∀ c v Ω' H', P c Ω' → Ok K F Ω' [] [] H' → VOk K (Fz Ω' H') c v → Q v H') → r x y H Q
def R1W (K : PySem.W.Frag) (r : V → Hp → VK → Prop) (a : Av) (Ω : AH) (P : Av → AH → Prop) : Prop :=
  ∀ (F : Hp) (H : Hp) (x : V) (Q : VK), Ok K F Ω [] [] H → VOk K (Fz Ω H) a x → (∀ c v Ω' H', P c Ω' → Ok K F Ω' [] [] H' → VOk K (Fz Ω' H') c v → Q v H') → r x H Q
def RCW (K : PySem.W.Frag) (r : List V → Hp → VK → Prop) (as : List Av) (Ω : AH) (P : Av → AH → Prop) : Prop :=
  ∀ (F : Hp) (H : Hp) (xs : List V) (Q : VK), Ok K F Ω [] [] H → VAll K (Fz Ω H) as xs → (∀ c v Ω' H', P c Ω' → Ok K F Ω' [] [] H' → VOk K (Fz Ω' H') c v → Q v H') → r xs H Q
section
variable {K : PySem.W.Frag} {Γ : List (Option Av)} {Ω : AH} {P P' : Av → AH → Prop} {ta tb tc te : TE} {tt tu : TT} {tl : TA} {r r' : R2}
theorem EW.mono (h : EW K te Γ Ω P) (f : ∀ a Ω', P a Ω' → P' a Ω') : EW K te Γ Ω P' := fun F σ H Q k q => h F σ H Q k fun a v Ω' H' p => q a v Ω' H' (f a Ω' p)
/-- a list just made (or held alone) that is to change no more -/
theorem EW.frz (h : EW K te Γ Ω fun a Ω' => ∃ p ds, a = .ptr p ∧ Ω' p = some (ds.map .dat) ∧ P (.dat (.list ds)) (del Ω' p)) : EW K te Γ Ω P := fun F σ H Q k q =>
  h F σ H Q k fun a v Ω' H' ⟨p, ds, ea, e, hp⟩ k' hv => by
    subst ea
    cases hv
    obtain ⟨k2, d2⟩ := k'.frz e
    exact q _ _ _ _ hp k2 (.dat d2)
theorem e_var {i : Nat} {a : Av} (e : Γ[i]? = some (some a)) (h : P a Ω) : EW K (tVar i) Γ Ω P := fun F σ H Q k q => by
  obtain ⟨v, ev, hv⟩ := k.val e
  exact ⟨v, ev, q a v Ω H h k hv⟩
theorem e_int {i : Int} (h : P (.dat (.int i)) Ω) : EW K (tC (.int i)) Γ Ω P := fun F σ H Q k q => q _ _ Ω H h k (.dat (.int i))
theorem e_str {x : Str} (h : P (.dat (.str x)) Ω) : EW K (tC (.str x)) Γ Ω P := fun F σ H Q k q => q _ _ Ω H h k (.dat (.str x))
theorem e_bl {b : Bool} (h : P (.dat (.bool b)) Ω) : EW K (tC (.bl b)) Γ Ω P := fun F σ H Q k q => q _ _ Ω H h k (.dat (.bl b))
theorem e_non (h : P (.dat .none) Ω) : EW K (tC .non) Γ Ω P := fun F σ H Q k q => q _ _ Ω H h k (.dat .non)
/-- a constant of the written part -/
theorem e_K {v : V} {d : PyData} (hd : ∀ H, Dq K H v d) (h : P (.dat d) Ω) : EW K (tC v) Γ Ω P := fun F σ H Q k q => q _ _ Ω H h k (.dat (hd _))
theorem e_op (h : EW K ta Γ Ω fun a Ω1 => EW K tb Γ Ω1 fun b Ω2 => R2W K r a b Ω2 P) : EW K (tOp r ta tb) Γ Ω P := fun F σ H Q k q =>
  h F σ H _ k fun a v Ω1 H1 h1 k1 v1 => h1 (Fz Ω1 H1) σ H1 _ k1.re fun b w Ω2 H2 h2 k2 v2 =>
    h2 (Fz Ω2 H2) H2 v w Q k2.bare.re (v1.same k2.fr) v2 fun c u Ω3 H3 hp k3 v3 => q c u Ω3 H3 hp ((k2.anchor k1.fr).back k3) v3
theorem e_un {r1 : V → Hp → VK → Prop} (h : EW K ta Γ Ω fun a Ω1 => R1W K r1 a Ω1 P) : EW K (tUn r1 ta) Γ Ω P := fun F σ H Q k q =>
  h F σ H _ k fun a v Ω1 H1 h1 k1 v1 => h1 (Fz Ω1 H1) H1 v Q k1.bare.re v1 fun c u Ω3 H3 hp k3 v3 => q c u Ω3 H3 hp (k1.back k3) v3
theorem e_then {r1 : V → Hp → VK → Prop} (h : EW K ta Γ Ω fun a Ω1 => R1W K r1 a Ω1 P) : EW K (tThen ta r1) Γ Ω P := e_un h
theorem a_nil {P : List Av → AH → Prop} (h : P [] Ω) : AW K tNil Γ Ω P := fun F σ H Q k q => q [] [] Ω H h k .nil
theorem a_cons {P : List Av → AH → Prop} (h : EW K ta Γ Ω fun a Ω1 => AW K tl Γ Ω1 fun as Ω2 => P (a :: as) Ω2) : AW K (tCons ta tl) Γ Ω P := fun F σ H Q k q =>
  h F σ H _ k fun a v Ω1 H1 h1 k1 v1 => h1 (Fz Ω1 H1) σ H1 _ k1.re fun as vs Ω2 H2 h2 k2 v2 => q (a :: as) (v :: vs) Ω2 H2 h2 (k2.anchor k1.fr) (.cons (v1.same k2.fr) v2)
theorem e_cb {rc : List V → Hp → VK → Prop} (h : AW K tl Γ Ω fun as Ω1 => RCW K rc as Ω1 P) : EW K (tCB rc tl) Γ Ω P := fun F σ H Q k q =>
  h F σ H _ k fun as vs Ω1 H1 h1 k1 v1 => h1 (Fz Ω1 H1) H1 vs Q k1.bare.re v1 fun c u Ω3 H3 hp k3 v3 => q c u Ω3 H3 hp (k1.back k3) v3
theorem sz_of {n : Nat} (h : n ≤ 100000) : n ≤ sizeLine := Nat.le_trans h (by decide)
theorem sz_lt {n : Nat} (h : n < 100000) : n < sizeLine := Nat.lt_of_lt_of_le h (by decide)
/-- a tuple of data; a tuple that holds lists that change -/
theorem e_tup (h : AW K tl Γ Ω fun as Ω1 => ∃ ds, as = ds.map .dat ∧ ds.length ≤ 100000 ∧ P (.dat (.tuple ds)) Ω1) : EW K (tTup tl) Γ Ω P := fun F σ H Q k q =>
  h F σ H _ k fun as vs Ω1 H1 ⟨ds, e, hl, hp⟩ k1 v1 => by
    subst e
    have l1 := v1.length
    rw [List.length_map] at l1
    refine ⟨sz_of (by omega), fun p np => ?_⟩
    have s := same_new (o := .tup vs) np
    exact q _ _ Ω1 _ hp (k1.same s) (.dat (.tup (.inl (.inl (Fz_at (k1.free np)))) (v1.dats.same (Fz_same s))))
theorem e_tupA (h : AW K tl Γ Ω fun as Ω1 => as.length ≤ 100000 ∧ P (.tup as) Ω1) : EW K (tTup tl) Γ Ω P := fun F σ H Q k q =>
  h F σ H _ k fun as vs Ω1 H1 ⟨hl, hp⟩ k1 v1 => by
    have l1 := v1.length
    refine ⟨sz_of (by omega), fun p np => ?_⟩
    have s := same_new (o := .tup vs) np
    exact q _ _ Ω1 _ hp (k1.same s) (.tup (Fz_at (k1.free np)) (v1.same (Fz_same s)))
/-- a list of data that is to change no more; a list that may -/
theorem e_lst (h : AW K tl Γ Ω fun as Ω1 => ∃ ds, as = ds.map .dat ∧ ds.length ≤ 100000 ∧ P (.dat (.list ds)) Ω1) : EW K (tLst tl) Γ Ω P := fun F σ H Q k q =>
  h F σ H _ k fun as vs Ω1 H1 ⟨ds, e, hl, hp⟩ k1 v1 => by
    subst e
    have l1 := v1.length
    rw [List.length_map] at l1
    refine ⟨sz_of (by omega), fun p np => ?_⟩
    have s := same_new (o := .lst vs) np
    exact q _ _ Ω1 _ hp (k1.same s) (.dat (.lst (Fz_at (k1.free np)) (v1.dats.same (Fz_same s))))
theorem e_lstP (h : AW K tl Γ Ω fun as Ω1 => as.length ≤ 100000 ∧ ∀ p, Ω1 p = none → P (.ptr p) (put Ω1 p as)) : EW K (tLst tl) Γ Ω P := fun F σ H Q k q =>
  h F σ H _ k fun as vs Ω1 H1 ⟨hl, hp⟩ k1 v1 => by
    have l1 := v1.length
    exact ⟨sz_of (by omega), fun p np => q _ _ _ _ (hp p (k1.free np)) (k1.new np v1) (.ptr p)⟩
/-! tests -/
theorem t_test {P : Bool → AH → Prop} (h : EW K te Γ Ω fun a Ω' => ∃ b, a = .dat (.bool b) ∧ P b Ω') : TW K (tTest te) Γ Ω P := fun F σ H Q k q =>
  h F σ H _ k fun a v Ω' H' ⟨b, e, hp⟩ k' hv => by
    subst e
    cases hv with
    | dat hv =>
      cases hv
      exact ⟨b, rfl, q b Ω' H' hp k'⟩
theorem t_B {P : Bool → AH → Prop} (h : EW K te Γ Ω fun a Ω' => ∃ b, a = .dat (.bool b) ∧ P b Ω') : TW K (tB te) Γ Ω P := t_test h
theorem t_yes {P : Bool → AH → Prop} (h : P true Ω) : TW K tYes Γ Ω P := fun F σ H Q k q => q true Ω H h k
theorem t_not {P : Bool → AH → Prop} (h : TW K tt Γ Ω fun b Ω' => P (!b) Ω') : TW K (tNot tt) Γ Ω P := fun F σ H Q k q => h F σ H _ k fun b Ω' H' hp k' => q _ _ _ hp k'
theorem t_and {P : Bool → AH → Prop} (h : TW K tt Γ Ω fun b Ω1 => (b = true → TW K tu Γ Ω1 P) ∧ (b = false → P false Ω1)) : TW K (tAnd tt tu) Γ Ω P := fun F σ H Q k q =>
  h F σ H _ k fun b Ω1 H1 hp k1 => by
    cases b with
    | true => exact hp.1 rfl F σ H1 Q k1 q
    | false => exact q _ _ _ (hp.2 rfl) k1
theorem t_or {P : Bool → AH → Prop} (h : TW K tt Γ Ω fun b Ω1 => (b = true → P true Ω1) ∧ (b = false → TW K tu Γ Ω1 P)) : TW K (tOr tt tu) Γ Ω P := fun F σ H Q k q =>
  h F σ H _ k fun b Ω1 H1 hp k1 => by
    cases b with
    | true => exact q _ _ _ (hp.1 rfl) k1
    | false => exact hp.2 rfl F σ H1 Q k1 q
theorem e_andV (h : EW K ta Γ Ω fun a Ω1 => ∃ b, a = .dat (.bool b) ∧ (b = true → EW K tb Γ Ω1 P) ∧ (b = false → P (.dat (.bool false)) Ω1)) : EW K (tAndV ta tb) Γ Ω P := fun F σ H Q k q =>
  h F σ H _ k fun a v Ω1 H1 ⟨b, e, h1, h2⟩ k1 v1 => by
    subst e
    cases v1 with
    | dat v1 =>
      cases v1
      refine ⟨b, rfl, ?_⟩
      cases b with
      | true => exact h1 rfl F σ H1 Q k1 q
      | false => exact q _ _ _ _ (h2 rfl) k1 (.dat (.bl false))
theorem e_orV (h : EW K ta Γ Ω fun a Ω1 => ∃ b, a = .dat (.bool b) ∧ (b = true → P (.dat (.bool true)) Ω1) ∧ (b = false → EW K tb Γ Ω1 P)) : EW K (tOrV ta tb) Γ Ω P := fun F σ H Q k q =>
  h F σ H _ k fun a v Ω1 H1 ⟨b, e, h1, h2⟩ k1 v1 => by
    subst e
    cases v1 with
    | dat v1 =>
      cases v1
      refine ⟨b, rfl, ?_⟩
      cases b with
      | true => exact q _ _ _ _ (h1 rfl) k1 (.dat (.bl true))
      | false => exact h2 rfl F σ H1 Q k1 q
theorem e_notV (h : EW K ta Γ Ω fun a Ω1 => ∃ b, a = .dat (.bool b) ∧ P (.dat (.bool (!b))) Ω1) : EW K (tNotV ta) Γ Ω P := fun F σ H Q k q =>
  h F σ H _ k fun a v Ω1 H1 ⟨b, e, h1⟩ k1 v1 => by
    subst e
    cases v1 with
    | dat v1 =>
      cases v1
      exact ⟨b, rfl, q _ _ _ _ h1 k1 (.dat (.bl _))⟩
theorem e_if (h : TW K tt Γ Ω fun b Ω1 => (b = true → EW K ta Γ Ω1 P) ∧ (b = false → EW K tb Γ Ω1 P)) : EW K (tIf tt ta tb) Γ Ω P := fun F σ H Q k q =>
  h F σ H _ k fun b Ω1 H1 hp k1 => by
    cases b with
    | true => exact hp.1 rfl F σ H1 Q k1 q
    | false => exact hp.2 rfl F σ H1 Q k1 q
/-- a chain of two comparisons -/
theorem e_chain (h : EW K ta Γ Ω fun a Ω1 => EW K tb Γ Ω1 fun b Ω2 => R2W K r a b Ω2 fun c Ω3 => ∃ z, c = .dat (.bool z) ∧ (z = true → EW K tc Γ Ω3 fun d Ω4 => R2W K r' b d Ω4 P) ∧ (z = false → P (.dat (.bool false)) Ω3)) : EW K (tChain r r' ta tb tc) Γ Ω P := fun F σ H Q k q =>
  h F σ H _ k fun a v Ω1 H1 h1 k1 v1 => h1 (Fz Ω1 H1) σ H1 _ k1.re fun b w Ω2 H2 h2 k2 v2 =>
    h2 (Fz Ω2 H2) H2 v w _ k2.bare.re (v1.same k2.fr) v2 fun c u Ω3 H3 ⟨z, ec, g1, g2⟩ k3 v3 => by
      subst ec
      have k3' := (k2.anchor k1.fr).back k3
      cases v3 with
      | dat v3 =>
        cases v3
        refine ⟨z, rfl, ?_⟩
        cases z with
        | true =>
          exact g1 rfl (Fz Ω3 H3) σ H3 _ k3'.re fun d x Ω4 H4 h4 k4 v4 =>
            h4 (Fz Ω4 H4) H4 w x Q k4.bare.re ((v2.same k3.fr).same k4.fr) v4 fun e y Ω5 H5 hp k5 v5 => q e y Ω5 H5 hp ((k4.anchor k3'.fr).back k5) v5
        | false => exact q _ _ _ _ (g2 rfl) k3' (.dat (.bl false))
end
end Dat

set_option Elab.async false
set_option linter.all false
set_option maxRecDepth 100000
set_option maxHeartbeats 1000000
namespace Dat
open PySem PySem.Spec PyProof.Rows L2
/-! ### operations on data -/
def canFlat : PyData → Bool
  | .none => true
  | .bool _ => true
  | .int _ => true
  | .str _ => true
  | _ => false
/-- == of two flat data as the rules for single values tell it -/
def scalD : PyData → PyData → Bool
  | .none, .none => true | .none, .int _ => true | .int _, .none => true | .none, .bool _ => true | .bool _, .none => true | .none, .str _ => true | .str _, .none => true
  | .int _, .int _ => true | .bool _, .bool _ => true | .str _, .str _ => true
  | .int _, .str _ => true | .str _, .int _ => true | .bool _, .str _ => true | .str _, .bool _ => true
  | _, _ => false
def eqD : PyData → PyData → Bool
  | .none, .none => true
  | .int i, .int j => decide (i = j)
  | .bool a, .bool b => decide (a = b)
  | .str x, .str y => decide (x = y)
  | _, _ => false
section
variable {K : PySem.W.Frag} {H : Hp}
theorem dq_eq {x y : V} {d e : PyData} (hx : Dq K H x d) (hy : Dq K H y e) (h : scalD d e = true) : scal x y = true ∧ decide (x = y) = eqD d e := by
  cases hx <;> cases hy <;> first | (cases h; done) | (refine ⟨rfl, ?_⟩; simp [eqD])
mutual
theorem Dq.dp : ∀ {v : V} {d : PyData}, Dq K H v d → d.canLay0 = true → Dp K H v d
  | _, _, .non, _ => .non
  | _, _, .bl b, _ => .bl b
  | _, _, .int i, _ => .int i
  | _, _, .str x, _ => .str x
  | _, _, .lst h g, e => .lst (SqL.of h) (DqAll.dp g (by simpa [PyData.canLay0] using e))
  | _, _, .tup h g, e => .tup h (DqAll.dp g (by simpa [PyData.canLay0] using e))
  | _, _, .dct h, e => by simp [PyData.canLay0] at e
theorem DqAll.dp : ∀ {vs : List V} {ds : List PyData}, DqAll K H vs ds → PyData.canLayAll0 ds = true → DpAll K H vs ds
  | _, _, .nil, _ => .nil
  | _, _, .cons h g, e => by
    rw [PyData.canLayAll0, Bool.and_eq_true] at e
    exact .cons (Dq.dp h e.1) (DqAll.dp g e.2)
end
theorem dq_flat {v : V} {d : PyData} (h : Dq K H v d) (f : canFlat d = true) : flatV v = true := by
  cases h <;> first | rfl | cases f
theorem dqAll_flat : ∀ {vs : List V} {ds : List PyData}, DqAll K H vs ds → ds.all canFlat = true → vs.all flatV = true
  | _, _, .nil, _ => rfl
  | _, _, .cons h g, f => by
    rw [List.all_cons, Bool.and_eq_true] at f
    rw [List.all_cons, dq_flat h f.1, dqAll_flat g f.2]
    rfl
theorem dq_eqv {x y : V} {d e : PyData} (hx : Dq K H x d) (hy : Dq K H y e) (fd : canFlat d = true) (fe : canFlat e = true) : eqV x y = PyData.eqv d e := by
  cases hx <;> cases hy <;> first | (cases fd; done) | (cases fe; done) | (simp [eqV, PyData.eqv])
theorem dq_in {x : V} {d : PyData} (hx : Dq K H x d) (fd : canFlat d = true) : ∀ {ys : List V} {es : List PyData}, DqAll K H ys es → es.all canFlat = true → inV x ys = es.any fun e => PyData.eqv e d
  | _, _, .nil, _ => rfl
  | y :: ys, e :: es, .cons h g, f => by
    rw [List.all_cons, Bool.and_eq_true] at f
    have ih := dq_in hx fd g f.2
    show (eqV y x || inV x ys) = (PyData.eqv e d || es.any fun e => PyData.eqv e d)
    rw [ih, dq_eqv h hx f.1 fd]
end
def cutD {α : Type} (xs : List α) (lo hi : Option Int) : List α := (xs.drop (HT.sIx xs.length 0 lo)).take (HT.sIx xs.length xs.length hi - HT.sIx xs.length 0 lo)
section
variable {K : PySem.W.Frag} {F : Hp} {Γ : List (Option Av)} {Ω : AH} {P : Av → AH → Prop} {ta tb te : TE} {i j : Int} {d e : PyData} {ds es : List PyData} {p : Addr} {as : List Av}
theorem DqAll.cut {H : Hp} {vs : List V} (h : DqAll K H vs ds) (lo hi : Option Int) : DqAll K H (cutV vs lo hi) (cutD ds lo hi) := by
  unfold cutV cutD
  rw [h.length]
  exact (h.drop _).take _
theorem atI_dq {H : Hp} {vs : List V} (h : DqAll K H vs ds) (e : atI ds i = some d) : ∃ v, atI vs i = some v ∧ Dq K H v d := by
  unfold atI at e ⊢
  rw [h.length]
  cases q : ixN ds.length i with
  | none => rw [q] at e; cases e
  | some j =>
    rw [q] at e
    exact h.get e
theorem atI_va {H : Hp} {vs : List V} {a : Av} (h : VAll K H as vs) (e : atI as i = some a) : ∃ v, atI vs i = some v ∧ VOk K H a v := by
  unfold atI at e ⊢
  rw [h.length]
  cases q : ixN as.length i with
  | none => rw [q] at e; cases e
  | some j =>
    rw [q] at e
    exact h.get e
theorem r_I0i {f : Int → Int → Int} (h : P (.dat (.int (f i j))) Ω) : R2W K (rI0 fun i j => .int (f i j)) (.dat (.int i)) (.dat (.int j)) Ω P := fun F H x y Q k hx hy q => by
  cases hx with | dat hx => cases hy with | dat hy =>
    cases hx
    cases hy
    exact ⟨_, _, rfl, rfl, q _ _ _ _ h k (.dat (.int _))⟩
theorem r_I0b {f : Int → Int → Bool} (h : P (.dat (.bool (f i j))) Ω) : R2W K (rI0 fun i j => .bl (f i j)) (.dat (.int i)) (.dat (.int j)) Ω P := fun F H x y Q k hx hy q => by
  cases hx with | dat hx => cases hy with | dat hy =>
    cases hx
    cases hy
    exact ⟨_, _, rfl, rfl, q _ _ _ _ h k (.dat (.bl _))⟩
theorem r_Ii {C : Int → Int → Prop} {f : Int → Int → Int} (c : C i j) (h : P (.dat (.int (f i j))) Ω) : R2W K (rI C fun i j => .int (f i j)) (.dat (.int i)) (.dat (.int j)) Ω P := fun F H x y Q k hx hy q => by
  cases hx with | dat hx => cases hy with | dat hy =>
    cases hx
    cases hy
    exact ⟨_, _, rfl, rfl, c, q _ _ _ _ h k (.dat (.int _))⟩
theorem r_neg (h : P (.dat (.int (-i))) Ω) : R1W K (rU fun i => .int (-i)) (.dat (.int i)) Ω P := fun F H x Q k hx q => by
  cases hx with | dat hx =>
    cases hx
    exact ⟨_, rfl, q _ _ _ _ h k (.dat (.int _))⟩
theorem r_eq (s : scalD d e = true) (h : P (.dat (.bool (eqD d e))) Ω) : R2W K rEq (.dat d) (.dat e) Ω P := fun F H x y Q k hx hy q => by
  cases hx with | dat hx => cases hy with | dat hy =>
    obtain ⟨h1, h2⟩ := dq_eq hx hy s
    refine ⟨h1, ?_⟩
    rw [h2]
    exact q _ _ _ _ h k (.dat (.bl _))
theorem r_ne (s : scalD d e = true) (h : P (.dat (.bool (!eqD d e))) Ω) : R2W K rNe (.dat d) (.dat e) Ω P := fun F H x y Q k hx hy q => by
  cases hx with | dat hx => cases hy with | dat hy =>
    obtain ⟨h1, h2⟩ := dq_eq hx hy s
    refine ⟨h1, ?_⟩
    rw [h2]
    exact q _ _ _ _ h k (.dat (.bl _))
theorem shaped_lay (h : SeqAt.shaped d = true) : d.canLay0 = true := SeqAt.canLay_of_shaped h
theorem r_eqD (s1 : SeqAt.shaped d = true) (s2 : SeqAt.shaped e = true) (h : P (.dat (.bool (PyData.eqv d e))) Ω) : R2W K (rEqD K) (.dat d) (.dat e) Ω P := fun F H x y Q k hx hy q => by
  cases hx with | dat hx => cases hy with | dat hy =>
    exact ⟨d, e, (hx.same Fz_le).dp (shaped_lay s1), (hy.same Fz_le).dp (shaped_lay s2), s1, s2, q _ _ _ _ h k (.dat (.bl _))⟩
theorem r_neD (s1 : SeqAt.shaped d = true) (s2 : SeqAt.shaped e = true) (h : P (.dat (.bool (!PyData.eqv d e))) Ω) : R2W K (rNeD K) (.dat d) (.dat e) Ω P := fun F H x y Q k hx hy q => by
  cases hx with | dat hx => cases hy with | dat hy =>
    exact ⟨d, e, (hx.same Fz_le).dp (shaped_lay s1), (hy.same Fz_le).dp (shaped_lay s2), s1, s2, q _ _ _ _ h k (.dat (.bl _))⟩
def rIsNo : R2 := fun x y H Q => y = .non ∧ Q (.bl (decide (x = .non))) H
def rNotNo : R2 := fun x y H Q => y = .non ∧ Q (.bl (!decide (x = .non))) H
theorem op_isNo {X : Cx} : OpR X (compareOp .Is) rIsNo := op_isN
theorem op_notNo {X : Cx} : OpR X (compareOp .IsNot) rNotNo := op_notN
def isNone : PyData → Bool
  | .none => true
  | _ => false
theorem dq_none {H : Hp} {v : V} (h : Dq K H v d) : decide (v = .non) = isNone d := by
  cases h <;> simp [isNone]
theorem r_isN (h : P (.dat (.bool (isNone d))) Ω) : R2W K rIsNo (.dat d) (.dat .none) Ω P := fun F H x y Q k hx hy q => by
  cases hx with | dat hx => cases hy with | dat hy =>
    cases hy
    refine ⟨rfl, ?_⟩
    rw [dq_none hx]
    exact q _ _ _ _ h k (.dat (.bl _))
theorem r_notN (h : P (.dat (.bool (!isNone d))) Ω) : R2W K rNotNo (.dat d) (.dat .none) Ω P := fun F H x y Q k hx hy q => by
  cases hx with | dat hx => cases hy with | dat hy =>
    cases hy
    refine ⟨rfl, ?_⟩
    rw [dq_none hx]
    exact q _ _ _ _ h k (.dat (.bl _))
/-! items -/
theorem r_ixT (a : atI ds i = some d) (h : P (.dat d) Ω) : R2W K (rIxT K) (.dat (.tuple ds)) (.dat (.int i)) Ω P := fun F H x y Q k hx hy q => by
  cases hx with | dat hx => cases hy with | dat hy =>
    cases hy
    cases hx with | tup hs g =>
      obtain ⟨v, e, hv⟩ := atI_dq g a
      exact ⟨_, _, _, v, rfl, rfl, sqT_same Fz_le hs, e, q _ _ _ _ h k (.dat hv)⟩
theorem r_ixL (a : atI ds i = some d) (h : P (.dat d) Ω) : R2W K (rIxL K) (.dat (.list ds)) (.dat (.int i)) Ω P := fun F H x y Q k hx hy q => by
  cases hx with | dat hx => cases hy with | dat hy =>
    cases hy
    cases hx with | lst hs g =>
      obtain ⟨v, e, hv⟩ := atI_dq g a
      exact ⟨_, _, _, v, rfl, rfl, SqL.of (Fz_le _ _ hs), e, q _ _ _ _ h k (.dat hv)⟩
theorem r_ixP {a : Av} (o : Ω p = some as) (a' : atI as i = some a) (h : P a Ω) : R2W K (rIxL K) (.ptr p) (.dat (.int i)) Ω P := fun F H x y Q k hx hy q => by
  cases hx
  cases hy with | dat hy =>
    cases hy
    obtain ⟨xs, h1, h2⟩ := k.st p as o
    obtain ⟨v, e, hv⟩ := atI_va h2 a'
    exact ⟨p, xs, i, v, rfl, rfl, SqL.of h1, e, q _ _ _ _ h k hv⟩
theorem r_ixS {ns : List Int} {n : Int} (a : atI ns i = some n) (h : P (.dat (.int n)) Ω) : R2W K (rIxL K) (.scr ns) (.dat (.int i)) Ω P := fun F H x y Q k hx hy q => by
  cases hx with | scr hs => cases hy with | dat hy =>
    cases hy
    refine ⟨_, _, _, .int n, rfl, rfl, Same.seq Fz_le hs, ?_, q _ _ _ _ h k (.dat (.int n))⟩
    unfold atI at a ⊢
    rw [List.length_map]
    cases e : ixN ns.length i with
    | none => rw [e] at a; cases a
    | some j =>
      rw [e] at a
      show (ns.map V.int)[j]? = _
      rw [List.getElem?_map, show ns[j]? = some n from a]
      rfl
theorem r_inT {neg : Bool} (fd : canFlat d = true) (fe : ds.all canFlat = true) (h : P (.dat (.bool (if neg then !(ds.any fun e => PyData.eqv e d) else ds.any fun e => PyData.eqv e d))) Ω) : R2W K (rIn K neg) (.dat d) (.dat (.tuple ds)) Ω P := fun F H x y Q k hx hy q => by
  cases hx with | dat hx => cases hy with | dat hy => cases hy with | tup hs g =>
    refine ⟨_, _, rfl, .inr (sqT_same Fz_le hs), dq_flat hx fd, dqAll_flat g fe, ?_⟩
    rw [dq_in hx fd g fe]
    exact q _ _ _ _ h k (.dat (.bl _))
theorem r_inL {neg : Bool} (fd : canFlat d = true) (fe : ds.all canFlat = true) (h : P (.dat (.bool (if neg then !(ds.any fun e => PyData.eqv e d) else ds.any fun e => PyData.eqv e d))) Ω) : R2W K (rIn K neg) (.dat d) (.dat (.list ds)) Ω P := fun F H x y Q k hx hy q => by
  cases hx with | dat hx => cases hy with | dat hy => cases hy with | lst hs g =>
    refine ⟨_, _, rfl, .inl (SqL.of (Fz_le _ _ hs)), dq_flat hx fd, dqAll_flat g fe, ?_⟩
    rw [dq_in hx fd g fe]
    exact q _ _ _ _ h k (.dat (.bl _))
/-! sums of tuples and lists, parts -/
theorem tup_new {F : Hp} {H : Hp} {xs : List V} {Γ : List (Option Av)} {σ : L2.St} (k : Ok K F Ω Γ σ H) (np : H p = none) (g : DqAll K (Fz Ω H) xs ds) : Dq K (Fz Ω (upd H p (.tup xs))) (.ref p) (.tuple ds) :=
  .tup (.inl (.inl (Fz_at (k.free np)))) (g.same (Fz_same (same_new np)))
theorem lst_new {F : Hp} {H : Hp} {xs : List V} {Γ : List (Option Av)} {σ : L2.St} (k : Ok K F Ω Γ σ H) (np : H p = none) (g : DqAll K (Fz Ω H) xs ds) : Dq K (Fz Ω (upd H p (.lst xs))) (.ref p) (.list ds) :=
  .lst (Fz_at (k.free np)) (g.same (Fz_same (same_new np)))
theorem r_catT (hl : ds.length + es.length ≤ 100000) (h : P (.dat (.tuple (ds ++ es))) Ω) : R2W K (rCatA K) (.dat (.tuple ds)) (.dat (.tuple es)) Ω P := fun F H x y Q k hx hy q => by
  cases hx with | dat hx => cases hy with | dat hy => cases hx with | tup h1 g1 => cases hy with | tup h2 g2 =>
    have l1 := g1.length
    have l2 := g2.length
    refine ⟨_, _, _, _, rfl, rfl, sqT_same Fz_le h1, sqT_same Fz_le h2, sz_of (by omega), fun e => ?_, fun _ e => ?_, fun _ _ p np => ?_⟩
    · subst e
      cases g1
      exact q _ _ _ _ h k (.dat (.tup h2 g2))
    · subst e
      cases g2
      rw [List.append_nil] at h
      exact q _ _ _ _ h k (.dat (.tup h1 g1))
    · exact q _ _ _ _ h (k.same (same_new np)) (.dat (tup_new k np (g1.app g2)))
theorem r_catL (hl : ds.length + es.length ≤ 100000) (h : P (.dat (.list (ds ++ es))) Ω) : R2W K rCat (.dat (.list ds)) (.dat (.list es)) Ω P := fun F H x y Q k hx hy q => by
  cases hx with | dat hx => cases hy with | dat hy => cases hx with | lst h1 g1 => cases hy with | lst h2 g2 =>
    have l1 := g1.length
    have l2 := g2.length
    exact ⟨_, _, _, _, rfl, rfl, Fz_le _ _ h1, Fz_le _ _ h2, sz_of (by omega), fun p np => q _ _ _ _ h (k.same (same_new np)) (.dat (lst_new k np (g1.app g2)))⟩
/-- the first a list that may change, the sum one that may change too -/
theorem r_catPP {bs : List Av} {p2 : Addr} (o1 : Ω p = some as) (o2 : Ω p2 = some bs) (hl : as.length + bs.length ≤ 100000) (h : ∀ q, Ω q = none → P (.ptr q) (put Ω q (as ++ bs))) : R2W K rCat (.ptr p) (.ptr p2) Ω P := fun F H x y Q k hx hy q => by
  cases hx
  cases hy
  obtain ⟨xs, h1, g1⟩ := k.st p as o1
  obtain ⟨ys, h2, g2⟩ := k.st p2 bs o2
  have l1 := g1.length
  have l2 := g2.length
  exact ⟨_, _, _, _, rfl, rfl, h1, h2, sz_of (by omega), fun z nz => q _ _ _ _ (h z (k.free nz)) (k.new nz (g1.app g2)) (.ptr z)⟩
theorem VAll.ofL {H : Hp} {a : Addr} (h : Dq K H (.ref a) (.list ds)) : ∃ xs, H a = some (.lst xs) ∧ VAll K H (ds.map .dat) xs := by
  cases h with | lst h g => exact ⟨_, h, .ofDats g⟩
theorem r_catPL (o1 : Ω p = some as) (hl : as.length + ds.length ≤ 100000) (h : ∀ q, Ω q = none → P (.ptr q) (put Ω q (as ++ ds.map .dat))) : R2W K rCat (.ptr p) (.dat (.list ds)) Ω P := fun F H x y Q k hx hy q => by
  cases hx
  cases hy with | dat hy => cases hy with | lst h2 g2 =>
    obtain ⟨xs, h1, g1⟩ := k.st p as o1
    have l1 := g1.length
    have l2 := g2.length
    exact ⟨_, _, _, _, rfl, rfl, h1, Fz_le _ _ h2, sz_of (by omega), fun z nz => q _ _ _ _ (h z (k.free nz)) (k.new nz (g1.app (.ofDats g2))) (.ptr z)⟩
/-! slices -/
theorem o_no {P : Option Int → AH → Prop} (h : P none Ω) : OW K tNoPart Γ Ω P := fun F σ H Q k q => q _ _ _ h k
theorem o_some {P : Option Int → AH → Prop} (h : EW K te Γ Ω fun a Ω1 => ∃ i, a = .dat (.int i) ∧ P (some i) Ω1) : OW K (tPart te) Γ Ω P := fun F σ H Q k q =>
  h F σ H _ k fun a v Ω1 H1 ⟨i, e, hp⟩ k1 v1 => by
    subst e
    cases v1 with | dat v1 =>
      cases v1
      exact ⟨i, rfl, q _ _ _ hp k1⟩
theorem e_slT {tl th : TO} (h : EW K te Γ Ω fun a Ω1 => ∃ ds, a = .dat (.tuple ds) ∧ OW K tl Γ Ω1 fun lo Ω2 => OW K th Γ Ω2 fun hi Ω3 => P (.dat (.tuple (cutD ds lo hi))) Ω3) : EW K (tSl (rSlA K) te tl th) Γ Ω P := fun F σ H Q k q =>
  h F σ H _ k fun a v Ω1 H1 ⟨ds, e, h1⟩ k1 v1 => by
    subst e
    cases v1 with | dat v1 =>
      refine h1 (Fz Ω1 H1) σ H1 _ k1.re fun lo Ω2 H2 h2 k2 => h2 (Fz Ω2 H2) σ H2 _ k2.re fun hi Ω3 H3 h3 k3 => ?_
      have k3' := k3.anchor (k1.fr.trans k2.fr)
      have v3 := (v1.same k2.fr).same k3.fr
      cases v3 with | tup hs g =>
        have l := g.length
        refine ⟨_, _, rfl, sqT_same Fz_le hs, fun w => ?_, fun _ p np => ?_⟩
        · have e2 : cutD ds lo hi = ds := by
            unfold cutD
            rw [← l, w.1, w.2]
            rw [List.drop_zero, l]
            exact List.take_of_length_le (by omega)
          have h4 : P (.dat (.tuple (cutD ds lo hi))) Ω3 := h3
          rw [e2] at h4
          exact q _ _ _ _ h4 k3' (.dat (.tup hs g))
        · exact q _ _ _ _ h3 (k3'.same (same_new np)) (.dat (tup_new k3' np (g.cut lo hi)))
theorem e_slL {tl th : TO} (h : EW K te Γ Ω fun a Ω1 => ∃ ds, a = .dat (.list ds) ∧ OW K tl Γ Ω1 fun lo Ω2 => OW K th Γ Ω2 fun hi Ω3 => P (.dat (.list (cutD ds lo hi))) Ω3) : EW K (tSl (rSlL K) te tl th) Γ Ω P := fun F σ H Q k q =>
  h F σ H _ k fun a v Ω1 H1 ⟨ds, e, h1⟩ k1 v1 => by
    subst e
    cases v1 with | dat v1 =>
      refine h1 (Fz Ω1 H1) σ H1 _ k1.re fun lo Ω2 H2 h2 k2 => h2 (Fz Ω2 H2) σ H2 _ k2.re fun hi Ω3 H3 h3 k3 => ?_
      have k3' := k3.anchor (k1.fr.trans k2.fr)
      have v3 := (v1.same k2.fr).same k3.fr
      cases v3 with | lst hs g =>
        exact ⟨_, _, rfl, SqL.of (Fz_le _ _ hs), fun p np => q _ _ _ _ h3 (k3'.same (same_new np)) (.dat (lst_new k3' np (g.cut lo hi)))⟩
/-! ### calls of built-ins -/
def rLenQ (K : PySem.W.Frag) : List V → Hp → VK → Prop := fun xs H Q => ∃ p ys, xs = [.ref p] ∧ (SqL K H p ys ∨ SqT K H p ys) ∧ Q (.int ys.length) H
theorem cl_len {X : Cx} : CallR X (.builtin "len") (rLenQ X.K) := call_len_seq
theorem c_lenT (h : P (.dat (.int ds.length)) Ω) : RCW K (rLenQ K) [.dat (.tuple ds)] Ω P := fun F H xs Q k hx q => by
  cases hx with | cons hx g => cases g; cases hx with | dat hx => cases hx with | tup hs g =>
    refine ⟨_, _, rfl, .inr (sqT_same Fz_le hs), ?_⟩
    rw [g.length]
    exact q _ _ _ _ h k (.dat (.int _))
theorem c_lenL (h : P (.dat (.int ds.length)) Ω) : RCW K (rLenQ K) [.dat (.list ds)] Ω P := fun F H xs Q k hx q => by
  cases hx with | cons hx g => cases g; cases hx with | dat hx => cases hx with | lst hs g =>
    refine ⟨_, _, rfl, .inl (SqL.of (Fz_le _ _ hs)), ?_⟩
    rw [g.length]
    exact q _ _ _ _ h k (.dat (.int _))
theorem c_lenP (o : Ω p = some as) (h : P (.dat (.int as.length)) Ω) : RCW K (rLenQ K) [.ptr p] Ω P := fun F H xs Q k hx q => by
  cases hx with | cons hx g =>
    cases g
    cases hx
    obtain ⟨ys, h1, h2⟩ := k.st p as o
    refine ⟨p, ys, rfl, .inl (SqL.of h1), ?_⟩
    rw [h2.length]
    exact q _ _ _ _ h k (.dat (.int _))
theorem c_lenS {ns : List Int} (h : P (.dat (.int ns.length)) Ω) : RCW K (rLenQ K) [.scr ns] Ω P := fun F H xs Q k hx q => by
  cases hx with | cons hx g => cases g; cases hx with | scr hs =>
    refine ⟨_, _, rfl, .inl (Same.seq Fz_le hs), ?_⟩
    rw [List.length_map]
    exact q _ _ _ _ h k (.dat (.int _))
def rAbsQ : List V → Hp → VK → Prop := fun xs H Q => ∃ i, xs = [.int i] ∧ Q (.int (if i < 0 then -i else i)) H
theorem cl_abs {X : Cx} : CallR X (.builtin "abs") rAbsQ := call_abs
theorem c_abs (h : P (.dat (.int (if i < 0 then -i else i))) Ω) : RCW K rAbsQ [.dat (.int i)] Ω P := fun F H xs Q k hx q => by
  cases hx with | cons hx g => cases g; cases hx with | dat hx =>
    cases hx
    exact ⟨i, rfl, q _ _ _ _ h k (.dat (.int _))⟩
def rMax2Q : List V → Hp → VK → Prop := fun xs H Q => ∃ i j, xs = [.int i, .int j] ∧ Q (.int (if j > i then j else i)) H
def rMin2Q : List V → Hp → VK → Prop := fun xs H Q => ∃ i j, xs = [.int i, .int j] ∧ Q (.int (if j < i then j else i)) H
theorem cl_max2 {X : Cx} (hc : X.calm = true) : CallR X (.builtin "max") rMax2Q := call_max2 hc
theorem cl_min2 {X : Cx} (hc : X.calm = true) : CallR X (.builtin "min") rMin2Q := call_min2 hc
theorem c_max2 (h : P (.dat (.int (if j > i then j else i))) Ω) : RCW K rMax2Q [.dat (.int i), .dat (.int j)] Ω P := fun F H xs Q k hx q => by
  cases hx with | cons hx g => cases g with | cons hy g => cases g; cases hx with | dat hx => cases hy with | dat hy =>
    cases hx
    cases hy
    exact ⟨i, j, rfl, q _ _ _ _ h k (.dat (.int _))⟩
theorem c_min2 (h : P (.dat (.int (if j < i then j else i))) Ω) : RCW K rMin2Q [.dat (.int i), .dat (.int j)] Ω P := fun F H xs Q k hx q => by
  cases hx with | cons hx g => cases g with | cons hy g => cases g; cases hx with | dat hx => cases hy with | dat hy =>
    cases hx
    cases hy
    exact ⟨i, j, rfl, q _ _ _ _ h k (.dat (.int _))⟩
def rIntQ : List V → Hp → VK → Prop := fun xs H Q => (∃ i, xs = [.int i] ∧ Q (.int i) H) ∨ ∃ k, xs = [.bl k] ∧ Q (.int (if k then 1 else 0)) H
theorem cl_int {X : Cx} : CallR X (.type "int") rIntQ := call_int1
theorem c_intI (h : P (.dat (.int i)) Ω) : RCW K rIntQ [.dat (.int i)] Ω P := fun F H xs Q k hx q => by
  cases hx with | cons hx g => cases g; cases hx with | dat hx =>
    cases hx
    exact .inl ⟨i, rfl, q _ _ _ _ h k (.dat (.int _))⟩
theorem c_intB {b : Bool} (h : P (.dat (.int (if b then 1 else 0))) Ω) : RCW K rIntQ [.dat (.bool b)] Ω P := fun F H xs Q k hx q => by
  cases hx with | cons hx g => cases g; cases hx with | dat hx =>
    cases hx
    exact .inr ⟨b, rfl, q _ _ _ _ h k (.dat (.int _))⟩
theorem dq_intsL {H : Hp} {v : V} {ns : List Int} (h : Dq K H v (.list (ns.map PyData.int))) : ∃ a, v = .ref a ∧ H a = some (.lst (ns.map V.int)) := by
  cases h with | lst h g =>
    rw [g.ints] at h
    exact ⟨_, rfl, h⟩
theorem c_sum {ns : List Int} (h : P (.dat (.int ns.sum)) Ω) : RCW K (rSum K) [.dat (.list (ns.map PyData.int))] Ω P := fun F H xs Q k hx q => by
  cases hx with | cons hx g => cases g; cases hx with | dat hx =>
    obtain ⟨a, rfl, ha⟩ := dq_intsL hx
    exact ⟨a, ns, rfl, SqL.of (Fz_le _ _ ha), q _ _ _ _ h k (.dat (.int _))⟩
theorem c_max {ns : List Int} (ne : 0 < ns.length) (h : ∀ m, m ∈ ns → (∀ y, y ∈ ns → y ≤ m) → P (.dat (.int m)) Ω) : RCW K (rMax K) [.dat (.list (ns.map PyData.int))] Ω P := fun F H xs Q k hx q => by
  cases hx with | cons hx g => cases g; cases hx with | dat hx =>
    obtain ⟨a, rfl, ha⟩ := dq_intsL hx
    exact ⟨a, ns, rfl, SqL.of (Fz_le _ _ ha), ne, fun m h1 h2 => q _ _ _ _ (h m h1 h2) k (.dat (.int _))⟩
theorem c_min {ns : List Int} (ne : 0 < ns.length) (h : ∀ m, m ∈ ns → (∀ y, y ∈ ns → m ≤ y) → P (.dat (.int m)) Ω) : RCW K (rMin K) [.dat (.list (ns.map PyData.int))] Ω P := fun F H xs Q k hx q => by
  cases hx with | cons hx g => cases g; cases hx with | dat hx =>
    obtain ⟨a, rfl, ha⟩ := dq_intsL hx
    exact ⟨a, ns, rfl, SqL.of (Fz_le _ _ ha), ne, fun m h1 h2 => q _ _ _ _ (h m h1 h2) k (.dat (.int _))⟩
theorem c_sorted {ns : List Int} (l : ns.length < 64) (h : ∀ ns' : List Int, ns'.Perm ns → ns'.Pairwise (· ≤ ·) → P (.dat (.list (ns'.map PyData.int))) Ω) : RCW K (rSorted K) [.dat (.list (ns.map PyData.int))] Ω P := fun F H xs Q k hx q => by
  cases hx with | cons hx g => cases g; cases hx with | dat hx =>
    obtain ⟨a, rfl, ha⟩ := dq_intsL hx
    exact ⟨a, ns, rfl, SqL.of (Fz_le _ _ ha), l, fun ns' p h1 h2 np => q _ _ _ _ (h ns' h1 h2) (k.same (same_new np)) (.dat (lst_new k np .ofInts))⟩
theorem dq_bools : ∀ {H : Hp} {bs : List Bool} {vs : List V}, DqAll K H vs (bs.map PyData.bool) → vs = bs.map V.bl
  | _, [], _, h => by cases h; rfl
  | _, b :: r, _, h => by
    rw [List.map_cons] at h
    cases h with | cons h g =>
      cases h
      rw [dq_bools g, List.map_cons]
theorem c_all {bs : List Bool} (h : P (.dat (.bool (bs.all id))) Ω) : RCW K (rAll K) [.dat (.list (bs.map PyData.bool))] Ω P := fun F H xs Q k hx q => by
  cases hx with | cons hx g => cases g; cases hx with | dat hx => cases hx with | lst hs g =>
    rw [dq_bools g] at hs
    exact ⟨_, bs, rfl, SqL.of (Fz_le _ _ hs), q _ _ _ _ h k (.dat (.bl _))⟩
theorem c_any {bs : List Bool} (h : P (.dat (.bool (bs.any id))) Ω) : RCW K (rAny K) [.dat (.list (bs.map PyData.bool))] Ω P := fun F H xs Q k hx q => by
  cases hx with | cons hx g => cases g; cases hx with | dat hx => cases hx with | lst hs g =>
    rw [dq_bools g] at hs
    exact ⟨_, bs, rfl, SqL.of (Fz_le _ _ hs), q _ _ _ _ h k (.dat (.bl _))⟩
/-! isinstance -/
def kindD : PyData → String
  | .none => "NoneType"
  | .bool _ => "bool"
  | .int _ => "int"
  | .str _ => "str"
  | .list _ => "list"
  | .tuple _ => "tuple"
  | .dict _ => "dict"
theorem dq_ty {H : Hp} {v : V} (h : Dq K H v d) : TyX K H v (.type (kindD d)) := by
  cases h with
  | non => exact .base .non
  | bl b => exact .base (.bl b)
  | int i => exact .base (.int i)
  | str x => exact .base (.str x)
  | lst h _ => exact .base (.lst h)
  | tup h _ =>
    rcases h with (h | ⟨o, h⟩) | ⟨o, its, n, h, hc, _⟩
    · exact .base (.tup h)
    · exact .fTuple h
    · exact .kTuple h hc
  | dct h => exact .base (.dK h)
def isIntD : PyData → Bool
  | .int _ => true
  | .bool _ => true
  | _ => false
def isBoolD : PyData → Bool
  | .bool _ => true
  | _ => false
def isStrD : PyData → Bool
  | .str _ => true
  | _ => false
def isTupD : PyData → Bool
  | .tuple _ => true
  | _ => false
def isLstD : PyData → Bool
  | .list _ => true
  | _ => false
theorem kit_int : kitB (kindD d) "int" = some (isIntD d) := by cases d <;> (simp only [kindD, isIntD]; decide +kernel)
theorem kit_bool : kitB (kindD d) "bool" = some (isBoolD d) := by cases d <;> (simp only [kindD, isBoolD]; decide +kernel)
theorem kit_str : kitB (kindD d) "str" = some (isStrD d) := by cases d <;> (simp only [kindD, isStrD]; decide +kernel)
theorem kit_tuple : kitB (kindD d) "tuple" = some (isTupD d) := by cases d <;> (simp only [kindD, isTupD]; decide +kernel)
theorem kit_list : kitB (kindD d) "list" = some (isLstD d) := by cases d <;> (simp only [kindD, isLstD]; decide +kernel)
theorem e_ty {T : String} (h : P (.ty T) Ω) : EW K (tC (.ty T)) Γ Ω P := fun F σ H Q k q => q _ _ Ω H h k (.ty T)
theorem c_isi {T : String} {b : Bool} (e : kitB (kindD d) T = some b) (h : P (.dat (.bool b)) Ω) : RCW K (rIsi K) [.dat d, .ty T] Ω P := fun F H xs Q k hx q => by
  cases hx with | cons hx g => cases g with | cons hy g => cases g; cases hx with | dat hx => cases hy with | ty T =>
    exact ⟨_, _, _, _, b, rfl, .ty T, dq_ty (hx.same Fz_le), kit_ty e, q _ _ _ _ h k (.dat (.bl _))⟩
theorem c_isiP {T : String} {b : Bool} (o : Ω p = some as) (e : kitB "list" T = some b) (h : P (.dat (.bool b)) Ω) : RCW K (rIsi K) [.ptr p, .ty T] Ω P := fun F H xs Q k hx q => by
  cases hx with | cons hx g => cases g with | cons hy g =>
    cases g
    cases hx
    cases hy with | ty T =>
      obtain ⟨ys, h1, h2⟩ := k.st p as o
      exact ⟨_, _, _, _, b, rfl, .ty T, .base (.lst h1), kit_ty e, q _ _ _ _ h k (.dat (.bl _))⟩
/-! tuple(x), list(x) -/
theorem r_tupL (h : P (.dat (.tuple ds)) Ω) : R1W K (kTup K) (.dat (.list ds)) Ω P := fun F H x Q k hx q => by
  cases hx with | dat hx => cases hx with | lst hs g =>
    exact .inl ⟨_, _, rfl, SqL.of (Fz_le _ _ hs), fun p np => q _ _ _ _ h (k.same (same_new np)) (.dat (tup_new k np g))⟩
theorem r_tupT (h : P (.dat (.tuple ds)) Ω) : R1W K (kTup K) (.dat (.tuple ds)) Ω P := fun F H x Q k hx q => by
  cases hx with | dat hx => cases hx with | tup hs g =>
    exact .inr ⟨_, _, rfl, sqT_same Fz_le hs, q _ _ _ _ h k (.dat (.tup hs g))⟩
theorem r_tupP (o : Ω p = some (ds.map .dat)) (h : P (.dat (.tuple ds)) (del Ω p)) : R1W K (kTup K) (.ptr p) Ω P := fun F H x Q k hx q => by
  cases hx
  obtain ⟨k2, d2⟩ := k.frz o
  cases d2 with | lst hs g =>
    exact .inl ⟨_, _, rfl, SqL.of (Fz_le _ _ hs), fun u nu => q _ _ _ _ h (k2.same (same_new nu)) (.dat (tup_new k2 nu g))⟩
def rListQ (K : PySem.W.Frag) : List V → Hp → VK → Prop := fun xs H Q => ∃ p ys, xs = [.ref p] ∧ (SqL K H p ys ∨ SqT K H p ys) ∧ ∀ l, H l = none → Q (.ref l) (upd H l (.lst ys))
theorem cl_list {X : Cx} : CallR X (.type "list") (rListQ X.K) := call_list_of
theorem c_listT (h : P (.dat (.list ds)) Ω) : RCW K (rListQ K) [.dat (.tuple ds)] Ω P := fun F H xs Q k hx q => by
  cases hx with | cons hx g => cases g; cases hx with | dat hx => cases hx with | tup hs g =>
    exact ⟨_, _, rfl, .inr (sqT_same Fz_le hs), fun l nl => q _ _ _ _ h (k.same (same_new nl)) (.dat (lst_new k nl g))⟩
theorem c_listL (h : P (.dat (.list ds)) Ω) : RCW K (rListQ K) [.dat (.list ds)] Ω P := fun F H xs Q k hx q => by
  cases hx with | cons hx g => cases g; cases hx with | dat hx => cases hx with | lst hs g =>
    exact ⟨_, _, rfl, .inl (SqL.of (Fz_le _ _ hs)), fun l nl => q _ _ _ _ h (k.same (same_new nl)) (.dat (lst_new k nl g))⟩
theorem c_listTP (h : ∀ l, Ω l = none → P (.ptr l) (put Ω l (ds.map .dat))) : RCW K (rListQ K) [.dat (.tuple ds)] Ω P := fun F H xs Q k hx q => by
  cases hx with | cons hx g => cases g; cases hx with | dat hx => cases hx with | tup hs g =>
    exact ⟨_, _, rfl, .inr (sqT_same Fz_le hs), fun l nl => q _ _ _ _ (h l (k.free nl)) (k.new nl (.ofDats g)) (.ptr l)⟩
theorem c_listLP (h : ∀ l, Ω l = none → P (.ptr l) (put Ω l (ds.map .dat))) : RCW K (rListQ K) [.dat (.list ds)] Ω P := fun F H xs Q k hx q => by
  cases hx with | cons hx g => cases g; cases hx with | dat hx => cases hx with | lst hs g =>
    exact ⟨_, _, rfl, .inl (SqL.of (Fz_le _ _ hs)), fun l nl => q _ _ _ _ (h l (k.free nl)) (k.new nl (.ofDats g)) (.ptr l)⟩
end
end Dat

set_option Elab.async false
set_option linter.all false
set_option maxRecDepth 100000
set_option maxHeartbeats 1000000
namespace Dat
open PySem PySem.Spec PyProof.Rows L2
/-! ### targets -/
def GW (K : PySem.W.Frag) (g : TG) (a : Av) (Γ : List (Option Av)) (Ω : AH) (P : List (Option Av) → AH → Prop) : Prop :=
  ∀ (F : Hp) (σ : L2.St) (H : Hp) (v : V) (Q : L2.St → Hp → Prop), Ok K F Ω Γ σ H → VOk K (Fz Ω H) a v → (∀ Γ' σ' Ω' H', P Γ' Ω' → Ok K F Ω' Γ' σ' H' → Q σ' H') → g v σ H Q
def GsW (K : PySem.W.Frag) (g : TGs) (as : List Av) (Γ : List (Option Av)) (Ω : AH) (P : List (Option Av) → AH → Prop) : Prop :=
  ∀ (F : Hp) (σ : L2.St) (H : Hp) (vs : List V) (Q : L2.St → Hp → Prop), Ok K F Ω Γ σ H → VAll K (Fz Ω H) as vs → (∀ Γ' σ' Ω' H', P Γ' Ω' → Ok K F Ω' Γ' σ' H' → Q σ' H') → g vs σ H Q
structure EndA where
  nx : List (Option Av) → AH → Prop
  rt : Av → AH → Prop
  bk : List (Option Av) → AH → Prop := fun _ _ => False
  ct : List (Option Av) → AH → Prop := fun _ _ => False
structure EndOk (K : PySem.W.Frag) (F : Hp) (E : EndA) (D : Ends) : Prop where
  nx : ∀ Γ σ Ω H, E.nx Γ Ω → Ok K F Ω Γ σ H → D.nx σ H
  rt : ∀ a v Ω H, E.rt a Ω → Ok K F Ω [] [] H → VOk K (Fz Ω H) a v → D.rt v H
  bk : ∀ Γ σ Ω H, E.bk Γ Ω → Ok K F Ω Γ σ H → D.bk σ H
  ct : ∀ Γ σ Ω H, E.ct Γ Ω → Ok K F Ω Γ σ H → D.ct σ H
def SW (K : PySem.W.Frag) (ts : TS) (Γ : List (Option Av)) (Ω : AH) (E : EndA) : Prop :=
  ∀ (F : Hp) (σ : L2.St) (H : Hp) (D : Ends), Ok K F Ω Γ σ H → EndOk K F E D → ts D σ H
theorem EndOk.anchor {K : PySem.W.Frag} {F F1 : Hp} {E : EndA} {D : Ends} (e : EndOk K F E D) (s : Same F F1) : EndOk K F1 E D :=
  ⟨fun Γ σ Ω H h k => e.nx Γ σ Ω H h (k.anchor s), fun a v Ω H h k => e.rt a v Ω H h (k.anchor s), fun Γ σ Ω H h k => e.bk Γ σ Ω H h (k.anchor s), fun Γ σ Ω H h k => e.ct Γ σ Ω H h (k.anchor s)⟩
section
variable {K : PySem.W.Frag} {Γ : List (Option Av)} {Ω : AH} {E : EndA} {te ta tb : TE} {t u w : TS} {tt : TT} {g : TG} {gs : TGs} {tl : TA} {i j : Nat} {a : Av} {as : List Av} {ds : List PyData}
theorem g_name {P : List (Option Av) → AH → Prop} (h : P (Γ.set i (some a)) Ω) : GW K (gName i) a Γ Ω P := fun F σ H v Q k hv q => q _ _ _ _ h (k.set hv i)
theorem g_tup {n : Nat} {P : List (Option Av) → AH → Prop} (l : ds.length = n) (h : GsW K gs (ds.map .dat) Γ Ω P) : GW K (gTup K n gs) (.dat (.tuple ds)) Γ Ω P := fun F σ H v Q k hv q => by
  cases hv with | dat hv => cases hv with | tup hs g =>
    exact ⟨_, _, rfl, sqT_same Fz_le hs, by rw [g.length, l], h F σ H _ Q k (.ofDats g) q⟩
theorem g_tupA {n : Nat} {P : List (Option Av) → AH → Prop} (l : as.length = n) (h : GsW K gs as Γ Ω P) : GW K (gTup K n gs) (.tup as) Γ Ω P := fun F σ H v Q k hv q => by
  cases hv with | tup hs g =>
    exact ⟨_, _, rfl, SqT.of (Fz_le _ _ hs), by rw [g.length, l], h F σ H _ Q k g q⟩
theorem gs_nil {P : List (Option Av) → AH → Prop} (h : P Γ Ω) : GsW K gNil [] Γ Ω P := fun F σ H vs Q k hv q => by
  cases hv
  exact ⟨rfl, q _ _ _ _ h k⟩
theorem gs_cons {P : List (Option Av) → AH → Prop} (h : GW K g a Γ Ω fun Γ1 Ω1 => Ω1 = Ω ∧ GsW K gs as Γ1 Ω1 P) : GsW K (gCons g gs) (a :: as) Γ Ω P := fun F σ H vs Q k hv q => by
  cases hv with | cons hv hr =>
    exact ⟨_, _, rfl, h (Fz Ω H) σ H _ _ k.re hv fun Γ1 σ1 Ω1 H1 ⟨e, h1⟩ k1 => h1 F σ1 H1 _ Q (k1.anchor k.fr) (hr.same k1.fr) q⟩
/-! ### statements -/
theorem s_next (h : E.nx Γ Ω) : SW K tNext Γ Ω E := fun F σ H D k e => e.nx _ _ _ _ h k
theorem s_seq (h : SW K t Γ Ω { E with nx := fun Γ' Ω' => SW K u Γ' Ω' E }) : SW K (tSeq t u) Γ Ω E := fun F σ H D k e =>
  h F σ H { D with nx := u D } k ⟨fun Γ' σ' Ω' H' h' k' => h' F σ' H' D k' e, e.rt, e.bk, e.ct⟩
theorem s_cut (M : List (Option Av) → AH → Prop) (h : SW K t Γ Ω { E with nx := M }) (h2 : ∀ Γ' Ω', M Γ' Ω' → SW K u Γ' Ω' E) : SW K (C8.tCut t u) Γ Ω E := fun F σ H D k e =>
  ⟨fun σ' H' => ∃ Γ' Ω', M Γ' Ω' ∧ Ok K F Ω' Γ' σ' H', h F σ H _ k ⟨fun Γ' σ' Ω' H' hm k' => ⟨Γ', Ω', hm, k'⟩, e.rt, e.bk, e.ct⟩, fun σ' H' ⟨Γ', Ω', hm, k'⟩ => h2 Γ' Ω' hm F σ' H' D k' e⟩
theorem s_seqM (M : List (Option Av) → AH → Prop) (h : SW K t Γ Ω { E with nx := M }) (h2 : ∀ Γ' Ω', M Γ' Ω' → SW K u Γ' Ω' E) : SW K (tSeq t u) Γ Ω E := fun F σ H D k e =>
  h F σ H { D with nx := u D } k ⟨fun Γ' σ' Ω' H' hm k' => h2 Γ' Ω' hm F σ' H' D k' e, e.rt, e.bk, e.ct⟩
theorem SW.mono {E' : EndA} (h : SW K t Γ Ω E) (n : ∀ Γ' Ω', E.nx Γ' Ω' → E'.nx Γ' Ω') (r : ∀ a Ω', E.rt a Ω' → E'.rt a Ω') (b : ∀ Γ' Ω', E.bk Γ' Ω' → E'.bk Γ' Ω') (c : ∀ Γ' Ω', E.ct Γ' Ω' → E'.ct Γ' Ω') : SW K t Γ Ω E' := fun F σ H D k e =>
  h F σ H D k ⟨fun Γ' σ' Ω' H' z => e.nx _ _ _ _ (n _ _ z), fun a v Ω' H' z => e.rt _ _ _ _ (r _ _ z), fun Γ' σ' Ω' H' z => e.bk _ _ _ _ (b _ _ z), fun Γ' σ' Ω' H' z => e.ct _ _ _ _ (c _ _ z)⟩
theorem s_asgG (h : EW K te Γ Ω fun a Ω1 => GW K g a Γ Ω1 E.nx) : SW K (tAsg te g) Γ Ω E := fun F σ H D k e =>
  h F σ H _ k fun a v Ω1 H1 h1 k1 v1 => h1 F σ H1 v D.nx k1 v1 fun Γ' σ' Ω' H' h' k' => e.nx _ _ _ _ h' k'
theorem s_asg (h : EW K te Γ Ω fun a Ω1 => E.nx (Γ.set i (some a)) Ω1) : SW K (tAsg te (gName i)) Γ Ω E := fun F σ H D k e =>
  h F σ H _ k fun a v Ω1 H1 h1 k1 v1 => e.nx _ _ _ _ h1 (k1.set v1 i)
theorem s_par (h : AW K tl Γ Ω fun as Ω1 => ∃ a b, as = [a, b] ∧ E.nx ((Γ.set i (some a)).set j (some b)) Ω1) : SW K (tPar i j tl) Γ Ω E := fun F σ H D k e =>
  h F σ H _ k fun as vs Ω1 H1 ⟨a, b, ea, h1⟩ k1 v1 => by
    subst ea
    cases v1 with | cons va v1 => cases v1 with | cons vb v1 =>
      cases v1
      exact ⟨_, _, rfl, e.nx _ _ _ _ h1 ((k1.set va i).set vb j)⟩
theorem s_aug {f : Int → Int → Int} {x : Int} (hx : Γ[i]? = some (some (.dat (.int x)))) (h : EW K te Γ Ω fun a Ω1 => ∃ y, a = .dat (.int y) ∧ E.nx (Γ.set i (some (.dat (.int (f x y))))) Ω1) : SW K (tAug i te (ipI f)) Γ Ω E := fun F σ H D k e => by
  obtain ⟨v, ev, hv⟩ := k.val hx
  cases hv with | dat hv =>
    cases hv
    refine ⟨_, ev, h F σ H _ k fun a v Ω1 H1 ⟨y, ea, h1⟩ k1 v1 => ?_⟩
    subst ea
    cases v1 with | dat v1 =>
      cases v1
      exact ⟨x, y, rfl, rfl, e.nx _ _ _ _ h1 (k1.set (.dat (.int _)) i)⟩
theorem s_drop (h : EW K te Γ Ω fun _ Ω1 => E.nx Γ Ω1) : SW K (tDrop te) Γ Ω E := fun F σ H D k e => h F σ H _ k fun a v Ω1 H1 h1 k1 v1 => e.nx _ _ _ _ h1 k1
theorem s_ret (h : EW K te Γ Ω E.rt) : SW K (tRet te) Γ Ω E := fun F σ H D k e => h F σ H _ k fun a v Ω1 H1 h1 k1 v1 => e.rt _ _ _ _ h1 k1.bare v1
theorem s_retN (h : E.rt (.dat .none) Ω) : SW K tRetN Γ Ω E := fun F σ H D k e => e.rt _ _ _ _ h k.bare (.dat .non)
theorem s_brk (h : E.bk Γ Ω) : SW K tBreak Γ Ω E := fun F σ H D k e => e.bk _ _ _ _ h k
theorem s_cont (h : E.ct Γ Ω) : SW K tCont Γ Ω E := fun F σ H D k e => e.ct _ _ _ _ h k
theorem s_if (h : TW K tt Γ Ω fun b Ω1 => (b = true → SW K t Γ Ω1 E) ∧ (b = false → SW K u Γ Ω1 E)) : SW K (tIfS tt t u) Γ Ω E := fun F σ H D k e =>
  h F σ H _ k fun b Ω1 H1 hp k1 => by
    cases b with
    | true => exact hp.1 rfl F σ H1 D k1 e
    | false => exact hp.2 rfl F σ H1 D k1 e
/-- xs.append(e) -/
theorem e_app {P : Av → AH → Prop} (h : EW K ta Γ Ω fun a Ω1 => ∃ p, a = .ptr p ∧ (∃ bs, Ω1 p = some bs) ∧ AW K tl Γ Ω1 fun cs Ω2 => ∃ b as, cs = [b] ∧ Ω2 p = some as ∧ as.length < 100000 ∧ P (.dat .none) (put Ω2 p (as ++ [b]))) : EW K (tBM K "list" rAppend ta tl) Γ Ω P := fun F σ H Q k q =>
  h F σ H _ k fun a v Ω1 H1 ⟨p, ea, ⟨bs, eb⟩, h1⟩ k1 v1 => by
    subst ea
    cases v1
    obtain ⟨zs, hz, _⟩ := k1.st p bs eb
    refine ⟨.inl ⟨rfl, _, SqL.of hz⟩, h1 F σ H1 _ k1 fun cs vs Ω2 H2 ⟨b, as, ec, e2, l, hp⟩ k2 v2 => ?_⟩
    subst ec
    cases v2 with | cons vb v2 =>
      cases v2
      obtain ⟨xs, hx, g⟩ := k2.st p as e2
      have lx := g.length
      exact ⟨p, xs, _, rfl, rfl, hx, sz_lt (by omega), q _ _ _ _ hp (k2.put e2 (g.app (.cons vb .nil))) (.dat .non)⟩
/-- xs[i] = e -/
theorem s_setL (h : EW K te Γ Ω fun a Ω1 => EW K ta Γ Ω1 fun o Ω2 => ∃ p, o = .ptr p ∧ EW K tb Γ Ω2 fun c Ω3 => ∃ (z : Int) (as : List Av) (j : Nat), c = .dat (.int z) ∧ Ω3 p = some as ∧ ixN as.length z = some j ∧ E.nx Γ (put Ω3 p (as.set j a))) : SW K (tAsg te (gSub ta tb rSetL)) Γ Ω E := fun F σ H D k e =>
  h F σ H _ k fun a v Ω1 H1 h1 k1 v1 => h1 (Fz Ω1 H1) σ H1 _ k1.re fun o x Ω2 H2 ⟨p, eo, h2⟩ k2 v2 => by
    subst eo
    cases v2
    refine h2 (Fz Ω2 H2) σ H2 _ k2.re fun c y Ω3 H3 ⟨z, as, jj, ec, ep, ej, hn⟩ k3 v3 => ?_
    subst ec
    cases v3 with | dat v3 =>
      cases v3
      obtain ⟨xs, hx, g⟩ := k3.st p as ep
      refine ⟨p, xs, z, jj, rfl, rfl, hx, ?_, e.nx _ _ _ _ hn ((k3.anchor (k1.fr.trans k2.fr)).put ep (g.set jj ((v1.same k2.fr).same k3.fr)))⟩
      rw [g.length]
      exact ej
/-! ### walks -/
structure WalkA (K : PySem.W.Frag) (F : Hp) (J : It) (as : List Av) : Prop where
  go : ∀ (Ω : AH) (H : Hp), Ok K F Ω [] [] H → ∀ i a, as[i]? = some a → J.go i H ∧ ∀ x H', J.yld i H x H' → Same H H' ∧ VOk K (Fz Ω H') a x
  stop : ∀ (Ω : AH) (H : Hp), Ok K F Ω [] [] H → ∀ i, as.length ≤ i → J.stop i H
def IW (K : PySem.W.Frag) (wi : TI) (Γ : List (Option Av)) (Ω : AH) (P : List Av → AH → Prop) : Prop :=
  ∀ (F : Hp) (σ : L2.St) (H : Hp) (R : It → Hp → Prop), Ok K F Ω Γ σ H → (∀ as Ω' H' J, P as Ω' → Ok K F Ω' Γ σ H' → WalkA K (Fz Ω' H') J as → R J H') → wi σ H R
theorem walk_t {F : Hp} {a : Addr} {xs : List V} (h : SqT K F a xs) (g : DqAll K F xs ds) : WalkA K F (Itt K a) (ds.map .dat) := by
  constructor
  · intro Ω H k i b e
    rw [List.getElem?_map] at e
    cases ed : ds[i]? with
    | none => rw [ed] at e; cases e
    | some d =>
      rw [ed] at e
      cases e
      obtain ⟨v, ev, hv⟩ := g.get ed
      have hs : SqT K H a xs := sqT_same (k.fr.trans Fz_le) h
      refine ⟨⟨xs, v, hs, ev⟩, fun x H' hy => ?_⟩
      obtain ⟨rfl, f⟩ := hy
      have := f xs hs
      rw [ev] at this
      cases this
      exact ⟨Same.refl _, .dat (hv.same k.fr)⟩
  · intro Ω H k i hi
    rw [List.length_map] at hi
    exact ⟨xs, sqT_same (k.fr.trans Fz_le) h, by rw [g.length]; exact hi⟩
theorem walk_l {F : Hp} {a : Addr} {xs : List V} (h : F a = some (.lst xs)) (g : DqAll K F xs ds) : WalkA K F (Itl K a) (ds.map .dat) := by
  constructor
  · intro Ω H k i b e
    rw [List.getElem?_map] at e
    cases ed : ds[i]? with
    | none => rw [ed] at e; cases e
    | some d =>
      rw [ed] at e
      cases e
      obtain ⟨v, ev, hv⟩ := g.get ed
      have hs : SqL K H a xs := SqL.of ((k.fr.trans Fz_le) _ _ h)
      refine ⟨⟨xs, v, hs, ev⟩, fun x H' hy => ?_⟩
      obtain ⟨rfl, f⟩ := hy
      have := f xs hs
      rw [ev] at this
      cases this
      exact ⟨Same.refl _, .dat (hv.same k.fr)⟩
  · intro Ω H k i hi
    rw [List.length_map] at hi
    exact ⟨xs, SqL.of ((k.fr.trans Fz_le) _ _ h), by rw [g.length]; exact hi⟩
def rngA (lo : Int) (n : Nat) : List Av := (List.range n).map fun k => .dat (.int (lo + (k : Nat)))
theorem walk_r {F : Hp} (lo : Int) (n : Nat) : WalkA K F (Itr lo n) (rngA lo n) := by
  constructor
  · intro Ω H k i b e
    unfold rngA at e
    rw [List.getElem?_map] at e
    by_cases hi : i < n
    · rw [List.getElem?_range hi] at e
      cases e
      exact ⟨hi, fun x H' hy => by
        obtain ⟨rfl, rfl⟩ := hy
        exact ⟨Same.refl _, .dat (.int _)⟩⟩
    · rw [List.getElem?_eq_none (by rw [List.length_range]; omega)] at e
      cases e
  · intro Ω H k i hi
    unfold rngA at hi
    rw [List.length_map, List.length_range] at hi
    exact hi
theorem i_tup {P : List Av → AH → Prop} (h : EW K te Γ Ω fun a Ω1 => ∃ ds, a = .dat (.tuple ds) ∧ P (ds.map .dat) Ω1) : IW K (iTup K te) Γ Ω P := fun F σ H R k q =>
  h F σ H _ k fun a v Ω1 H1 ⟨ds, e, hp⟩ k1 v1 => by
    subst e
    cases v1 with | dat v1 => cases v1 with | tup hs g =>
      exact ⟨_, rfl, ⟨_, sqT_same Fz_le hs⟩, q _ _ _ _ hp k1 (walk_t hs g)⟩
theorem i_list {P : List Av → AH → Prop} (h : EW K te Γ Ω fun a Ω1 => ∃ ds, a = .dat (.list ds) ∧ P (ds.map .dat) Ω1) : IW K (iList K te) Γ Ω P := fun F σ H R k q =>
  h F σ H _ k fun a v Ω1 H1 ⟨ds, e, hp⟩ k1 v1 => by
    subst e
    cases v1 with | dat v1 => cases v1 with | lst hs g =>
      exact ⟨_, rfl, ⟨_, SqL.of (Fz_le _ _ hs)⟩, q _ _ _ _ hp k1 (walk_l hs g)⟩
theorem i_rng1 {P : List Av → AH → Prop} (h : AW K tl Γ Ω fun as Ω1 => ∃ n : Int, as = [.dat (.int n)] ∧ (-(2 ^ 62) ≤ n ∧ n < 2 ^ 62) ∧ P (rngA 0 n.toNat) Ω1) : IW K (iRng1 tl) Γ Ω P := fun F σ H R k q =>
  h F σ H _ k fun as vs Ω1 H1 ⟨n, e, b, hp⟩ k1 v1 => by
    subst e
    cases v1 with | cons va v1 => cases v1; cases va with | dat va =>
      cases va
      exact ⟨n, rfl, b.1, b.2, q _ _ _ _ hp k1 (walk_r 0 n.toNat)⟩
theorem i_rng2 {P : List Av → AH → Prop} (h : AW K tl Γ Ω fun as Ω1 => ∃ lo n : Int, as = [.dat (.int lo), .dat (.int n)] ∧ (-(2 ^ 62) ≤ lo ∧ lo < 2 ^ 62 ∧ -(2 ^ 62) ≤ n ∧ n < 2 ^ 62) ∧ P (rngA lo (n - lo).toNat) Ω1) : IW K (iRng2 tl) Γ Ω P := fun F σ H R k q =>
  h F σ H _ k fun as vs Ω1 H1 ⟨lo, n, e, b, hp⟩ k1 v1 => by
    subst e
    cases v1 with | cons va v1 => cases v1 with | cons vb v1 => cases v1; cases va with | dat va => cases vb with | dat vb =>
      cases va
      cases vb
      exact ⟨lo, n, rfl, b, q _ _ _ _ hp k1 (walk_r lo _)⟩
/-- for: a word of the turn over the abstract state -/
theorem s_for {wi : TI} (M : List Av → Nat → List (Option Av) → AH → Prop) (h : IW K wi Γ Ω fun as Ω1 => M as 0 Γ Ω1 ∧
      (∀ i a Γ' Ω', as[i]? = some a → M as i Γ' Ω' → GW K g a Γ' Ω' fun Γ2 Ω2 => SW K t Γ2 Ω2 { E with nx := M as (i + 1), ct := M as (i + 1), bk := E.nx }) ∧ ∀ Γ' Ω', M as as.length Γ' Ω' → E.nx Γ' Ω') : SW K (tFor wi g t) Γ Ω E := fun F σ H D k e =>
  h F σ H _ k fun as Ω1 H1 J ⟨h0, hs, hd⟩ k1 wk => by
    have e1 := e.anchor k1.fr
    refine ⟨fun i m σ' H' => m = as.length - i ∧ i ≤ as.length ∧ ∃ Γ' Ω', M as i Γ' Ω' ∧ Ok K (Fz Ω1 H1) Ω' Γ' σ' H', ⟨_, rfl, Nat.zero_le _, Γ, Ω1, h0, k1.re⟩, ?_⟩
    rintro i m σ' H' ⟨rfl, hi, Γ', Ω', hm, k'⟩
    by_cases hlt : i < as.length
    · obtain ⟨hg, hy⟩ := wk.go Ω' H' k'.bare i _ (List.getElem?_eq_getElem hlt)
      refine .inr ⟨hg, fun σ2 H2 => ∃ Γ2 Ω2, M as (i + 1) Γ2 Ω2 ∧ Ok K (Fz Ω1 H1) Ω2 Γ2 σ2 H2, fun σ2 H2 ⟨Γ2, Ω2, hm2, k2⟩ => ⟨_, by omega, rfl, by omega, Γ2, Ω2, hm2, k2⟩, fun x H2 hyx => ?_⟩
      obtain ⟨s2, v2⟩ := hy x H2 hyx
      exact hs i _ Γ' Ω' (List.getElem?_eq_getElem hlt) hm (Fz Ω1 H1) σ' H2 x _ (k'.same s2) v2 fun Γ3 σ3 Ω3 H3 h3 k3 =>
        h3 (Fz Ω1 H1) σ3 H3 _ k3 ⟨fun Γ4 σ4 Ω4 H4 h4 k4 => ⟨Γ4, Ω4, h4, k4⟩, e1.rt, e1.nx, fun Γ4 σ4 Ω4 H4 h4 k4 => ⟨Γ4, Ω4, h4, k4⟩⟩
    · have ei : i = as.length := by omega
      subst ei
      exact .inl ⟨wk.stop Ω' H' k'.bare _ (Nat.le_refl _), e1.nx _ _ _ _ (hd Γ' Ω' hm) k'⟩
/-- while -/
theorem s_while (M : Nat → List (Option Av) → AH → Prop) (m0 : Nat) (h0 : M m0 Γ Ω)
    (hs : ∀ m Γ' Ω', M m Γ' Ω' → TW K tt Γ' Ω' fun b Ω1 => (b = true → SW K t Γ' Ω1 { E with nx := fun Γ2 Ω2 => ∃ m', m' < m ∧ M m' Γ2 Ω2, ct := fun Γ2 Ω2 => ∃ m', m' < m ∧ M m' Γ2 Ω2, bk := E.nx }) ∧ (b = false → E.nx Γ' Ω1)) : SW K (tWhile tt t) Γ Ω E := fun F σ H D k e => by
  refine ⟨fun m σ' H' => ∃ Γ' Ω', M m Γ' Ω' ∧ Ok K F Ω' Γ' σ' H', ⟨m0, Γ, Ω, h0, k⟩, ?_⟩
  rintro m σ' H' ⟨Γ', Ω', hm, k'⟩
  refine hs m Γ' Ω' hm F σ' H' _ k' fun b Ω1 H1 hb k1 => ?_
  cases b with
  | true =>
    show ∃ N : L2.St → Hp → Prop, (∀ σ' H', N σ' H' → ∃ m', m' < m ∧ ∃ Γ' Ω', M m' Γ' Ω' ∧ Ok K F Ω' Γ' σ' H') ∧ t { D with nx := N, ct := N, bk := D.nx } σ' H1
    exact ⟨fun σ2 H2 => ∃ Γ2 Ω2, (∃ m', m' < m ∧ M m' Γ2 Ω2) ∧ Ok K F Ω2 Γ2 σ2 H2, fun σ2 H2 ⟨Γ2, Ω2, ⟨m', lt, h2⟩, k2⟩ => ⟨m', lt, Γ2, Ω2, h2, k2⟩,
      hb.1 rfl F σ' H1 _ k1 ⟨fun Γ2 σ2 Ω2 H2 h2 k2 => ⟨Γ2, Ω2, h2, k2⟩, e.rt, e.nx, fun Γ2 σ2 Ω2 H2 h2 k2 => ⟨Γ2, Ω2, h2, k2⟩⟩⟩
  | false => exact e.nx _ _ _ _ (hb.2 rfl) k1
/-! ### comprehensions -/
/-- a target that stores into these slots alone -/
def GN (g : TG) (js : List Nat) : Prop := ∀ (v : V) (σ : L2.St) (H : Hp) (Q Q' : L2.St → Hp → Prop), (∀ σ' H', σ'.length = σ.length → (∀ i, i ∉ js → σ'[i]? = σ[i]?) → Q σ' H' → Q' σ' H') → g v σ H Q → g v σ H Q'
def GNs (g : TGs) (js : List Nat) : Prop := ∀ (vs : List V) (σ : L2.St) (H : Hp) (Q Q' : L2.St → Hp → Prop), (∀ σ' H', σ'.length = σ.length → (∀ i, i ∉ js → σ'[i]? = σ[i]?) → Q σ' H' → Q' σ' H') → g vs σ H Q → g vs σ H Q'
theorem gn_name {js : List Nat} (h : i ∈ js) : GN (gName i) js := fun v σ H Q Q' f q => f _ _ (List.length_set ..) (fun j hj => List.getElem?_set_ne (fun e => hj (by rw [← e]; exact h))) q
theorem gns_nil {js : List Nat} : GNs gNil js := fun vs σ H Q Q' f ⟨e, q⟩ => ⟨e, f _ _ rfl (fun _ _ => rfl) q⟩
theorem gns_cons {js : List Nat} (h1 : GN g js) (h2 : GNs gs js) : GNs (gCons g gs) js := fun vs σ H Q Q' f ⟨v, r, e, q⟩ => ⟨v, r, e, h1 v σ H _ _ (fun σ1 H1 l1 a1 q1 => h2 r σ1 H1 Q Q' (fun σ2 H2 l2 a2 q2 => f σ2 H2 (l2.trans l1) (fun i hi => (a2 i hi).trans (a1 i hi)) q2) q1) q⟩
theorem gn_tup {n : Nat} {js : List Nat} (h : GNs gs js) : GN (gTup K n gs) js := fun v σ H Q Q' f ⟨a, xs, e, hs, l, q⟩ => ⟨a, xs, e, hs, l, h xs σ H Q Q' f q⟩
theorem wipe_get {σ : L2.St} {i : Nat} : ∀ {vs : List Nat}, (L2.wipe σ vs)[i]? = if i ∈ vs ∧ i < σ.length then some none else σ[i]?
  | [] => by simp [L2.wipe]
  | v :: vs => by
    unfold L2.wipe
    by_cases e : v = i
    · subst e
      by_cases hl : v < σ.length
      · rw [List.getElem?_set_self (by rw [wipe_length]; exact hl), if_pos ⟨List.mem_cons_self, hl⟩]
      · rw [List.getElem?_eq_none (by rw [List.length_set, wipe_length]; omega), if_neg (fun h => hl h.2), List.getElem?_eq_none (by omega)]
    · rw [List.getElem?_set_ne e, wipe_get]
      have e' : ¬ i = v := fun q => e q.symm
      simp only [List.mem_cons, e', false_or]
theorem wipe_agree {σ σ2 : L2.St} {vs : List Nat} (l : σ2.length = (L2.wipe σ vs).length) (h : ∀ i, i ∉ vs → σ2[i]? = (L2.wipe σ vs)[i]?) : L2.wipe σ2 vs = L2.wipe σ vs := by
  rw [wipe_length] at l
  apply List.ext_getElem?
  intro i
  rw [wipe_get, wipe_get]
  by_cases hi : i ∈ vs
  · by_cases hl : i < σ.length
    · rw [if_pos ⟨hi, by omega⟩, if_pos ⟨hi, hl⟩]
    · rw [if_neg (fun z => hl (by omega)), if_neg (fun z => hl z.2), List.getElem?_eq_none (by omega), List.getElem?_eq_none (by omega)]
  · rw [if_neg (fun z => hi z.1), if_neg (fun z => hi z.1), h i hi, wipe_get, if_neg (fun z => hi z.1)]
/-- D: where the list grows; M: a word of the turn and what is made so far -/
theorem e_lc {wi : TI} {vs : List Nat} {P : Av → AH → Prop} (hg : GN g vs) (M : Addr → List Av → Nat → List Av → AH → Prop)
    (h : IW K wi Γ Ω fun as Ω1 => as.length ≤ 50000 ∧ ∀ D, Ω1 D = none → M D as 0 [] (put Ω1 D []) ∧
      (∀ i a acc Ω', as[i]? = some a → M D as i acc Ω' → Ω' D = some acc ∧ acc.length ≤ i ∧ GW K g a (wipeA Γ vs) Ω' fun Γ2 Ω2 => TW K tt Γ2 Ω2 fun b Ω3 =>
        (b = true → EW K te Γ2 Ω3 fun y Ω4 => Ω4 D = some acc ∧ M D as (i + 1) (acc ++ [y]) (put Ω4 D (acc ++ [y]))) ∧ (b = false → M D as (i + 1) acc Ω3)) ∧
      ∀ acc Ω', M D as as.length acc Ω' → P (.ptr D) Ω') : EW K (tLc wi g tt te vs) Γ Ω P := fun F σ H Q k q =>
  h F σ H _ k fun as Ω1 H1 J ⟨hz, hM⟩ k1 wk D nD => by
    obtain ⟨h0, hs, hd⟩ := hM D (k1.free nD)
    refine ⟨fun i m H' => m = as.length - i ∧ i ≤ as.length ∧ ∃ acc Ω', M D as i acc Ω' ∧ Ok K (Fz Ω1 H1) Ω' Γ σ H', ⟨_, rfl, Nat.zero_le _, [], put Ω1 D [], h0, k1.re.new nD .nil⟩, ?_⟩
    rintro i m H' ⟨rfl, hi, acc, Ω', hm, k'⟩
    by_cases hlt : i < as.length
    · obtain ⟨hgo, hy⟩ := wk.go Ω' H' k'.bare i _ (List.getElem?_eq_getElem hlt)
      refine .inr ⟨hgo, fun H2 => ∃ acc Ω2, M D as (i + 1) acc Ω2 ∧ Ok K (Fz Ω1 H1) Ω2 Γ σ H2, fun H2 ⟨acc2, Ω2, hm2, k2⟩ => ⟨_, by omega, rfl, by omega, acc2, Ω2, hm2, k2⟩, fun x H2 hyx => ?_⟩
      obtain ⟨s2, v2⟩ := hy x H2 hyx
      obtain ⟨eD, la, hb⟩ := hs i _ acc Ω' (List.getElem?_eq_getElem hlt) hm
      have k2 := k'.same s2
      refine hg x (L2.wipe σ vs) H2 _ _ (fun σ3 H3 l3 a3 q3 => ⟨wipe_agree l3 a3, q3⟩) ?_
      refine hb (Fz Ω' H2) (L2.wipe σ vs) H2 x _ (k2.re.wipe vs) v2 fun Γ3 σ3 Ω3 H3 h3 k3 => ?_
      refine h3 (Fz Ω3 H3) σ3 H3 _ k3.re fun b Ω4 H4 h4 k4 => ?_
      have k4' : Ok K (Fz Ω1 H1) Ω4 Γ σ H4 := k2.back ((k4.anchor k3.fr).bare)
      cases b with
      | true =>
        refine h4.1 rfl (Fz Ω4 H4) σ3 H4 _ k4.re fun y v Ω5 H5 ⟨e5, h5⟩ k5 v5 => ?_
        have k5' : Ok K (Fz Ω1 H1) Ω5 Γ σ H5 := k4'.back k5.bare
        obtain ⟨xs, hx, g5⟩ := k5.st D acc e5
        have l5 := g5.length
        exact ⟨xs, hx, sz_lt (by omega), _, _, h5, k5'.put e5 (g5.app (.cons v5 .nil))⟩
      | false => exact ⟨acc, Ω4, h4.2 rfl, k4'⟩
    · have ei : i = as.length := by omega
      subst ei
      exact .inl ⟨wk.stop Ω' H' k'.bare _ (Nat.le_refl _), q _ _ _ _ (hd acc Ω' hm) (k'.anchor k1.fr) (.ptr D)⟩
/-- the same, nothing changed by a turn: what is made of each item, and which items are taken -/
theorem e_lcF {α : Type} {wi : TI} {vs : List Nat} {P : Av → AH → Prop} (xs : List α) (enc : α → Av) (p : α → Bool) (out : α → PyData) (hg : GN g vs) (hz : xs.length ≤ 50000)
    (h : IW K wi Γ Ω fun as Ω1 => as = xs.map enc ∧ (∀ x Ω', x ∈ xs → (∀ q bs, Ω1 q = some bs → Ω' q = some bs) → GW K g (enc x) (wipeA Γ vs) Ω' fun Γ2 Ω2 => Ω2 = Ω' ∧ TW K tt Γ2 Ω2 fun b Ω3 => Ω3 = Ω' ∧ b = p x ∧ (p x = true → EW K te Γ2 Ω3 fun y Ω4 => Ω4 = Ω' ∧ y = .dat (out x))) ∧
      P (.dat (.list ((xs.filter p).map out))) Ω1) : EW K (tLc wi g tt te vs) Γ Ω P := by
  refine EW.frz ?_
  refine e_lc hg (fun D as i acc Ω' => ∃ Ω1 : AH, Ω1 D = none ∧ as = xs.map enc ∧ acc = (((xs.take i).filter p).map out).map .dat ∧ Ω' = put Ω1 D acc ∧ (∀ x Ω', x ∈ xs → (∀ q bs, Ω1 q = some bs → Ω' q = some bs) → GW K g (enc x) (wipeA Γ vs) Ω' fun Γ2 Ω2 => Ω2 = Ω' ∧ TW K tt Γ2 Ω2 fun b Ω3 => Ω3 = Ω' ∧ b = p x ∧ (p x = true → EW K te Γ2 Ω3 fun y Ω4 => Ω4 = Ω' ∧ y = .dat (out x))) ∧
      P (.dat (.list ((xs.filter p).map out))) Ω1) fun F σ H R k q => h F σ H R k fun as Ω1 H1 J ⟨e, hb, hp⟩ k1 wk => q as Ω1 H1 J ⟨by rw [e, List.length_map]; exact hz, fun D nD => ⟨⟨Ω1, nD, e, by simp, rfl, hb, hp⟩, fun i a acc Ω' ea hm => ?_, fun acc Ω' hm => ?_⟩⟩ k1 wk
  · obtain ⟨Ω0, n0, e0, rfl, rfl, hb0, hp0⟩ := hm
    subst e0
    rw [List.getElem?_map] at ea
    cases ex : xs[i]? with
    | none => rw [ex] at ea; cases ea
    | some x =>
      rw [ex] at ea
      cases ea
      have mx : x ∈ xs := List.mem_of_getElem? ex
      have tk : (xs.take (i + 1)).filter p = (xs.take i).filter p ++ (if p x = true then [x] else []) := by
        rw [List.take_add_one, ex, List.filter_append]
        show _ ++ (List.filter p [x]) = _
        rw [List.filter_cons, List.filter_nil]
      refine ⟨put_same, ?_, ?_⟩
      · rw [List.length_map, List.length_map]
        exact Nat.le_trans (List.length_filter_le ..) (by rw [List.length_take]; omega)
      refine fun F' σ' H' v Q' k' v' q' => hb0 x _ mx (fun q bs hq => by
        rw [put_ne (ne_of_Ω hq n0)]
        exact hq) F' σ' H' v Q' k' v' fun Γ2 σ2 Ω2 H2 ⟨e2, h2⟩ k2 => q' Γ2 σ2 Ω2 H2 ?_ k2
      subst e2
      refine fun F' σ' H' Q' k' q' => h2 F' σ' H' Q' k' fun b Ω3 H3 ⟨e3, eb, h3⟩ k3 => q' b Ω3 H3 ⟨fun hb => ?_, fun hb => ?_⟩ k3
      · subst e3
        refine (h3 (eb.symm.trans hb)).mono fun y Ω4 ⟨e4, ey⟩ => ?_
        subst e4 ey
        refine ⟨put_same, Ω0, n0, rfl, ?_, by rw [put_put], hb0, hp0⟩
        rw [tk, if_pos (eb.symm.trans hb), List.map_append, List.map_append]
        rfl
      · subst e3
        refine ⟨Ω0, n0, rfl, ?_, rfl, hb0, hp0⟩
        rw [tk, if_neg (by rw [← eb, hb]; decide), List.append_nil]
  · obtain ⟨Ω0, n0, e0, rfl, rfl, hb0, hp0⟩ := hm
    refine ⟨D, _, rfl, put_same, ?_⟩
    rw [del_put n0, e0, List.length_map, List.take_length]
    exact hp0
theorem e_lcM {α : Type} {wi : TI} {vs : List Nat} {P : Av → AH → Prop} (xs : List α) (enc : α → Av) (out : α → PyData) (hg : GN g vs) (hz : xs.length ≤ 50000)
    (h : IW K wi Γ Ω fun as Ω1 => as = xs.map enc ∧ (∀ x Ω', x ∈ xs → (∀ q bs, Ω1 q = some bs → Ω' q = some bs) → GW K g (enc x) (wipeA Γ vs) Ω' fun Γ2 Ω2 => Ω2 = Ω' ∧ EW K te Γ2 Ω2 fun y Ω4 => Ω4 = Ω' ∧ y = .dat (out x)) ∧
      P (.dat (.list (xs.map out))) Ω1) : EW K (tLc wi g tYes te vs) Γ Ω P :=
  e_lcF xs enc (fun _ => true) out hg hz fun F σ H R k q => h F σ H R k fun as Ω1 H1 J ⟨e, hb, hp⟩ k1 wk => q as Ω1 H1 J ⟨e, fun x Ω' mx hq F' σ' H' v Q' k' v' q' => hb x Ω' mx hq F' σ' H' v Q' k' v' fun Γ2 σ2 Ω2 H2 ⟨e2, h2⟩ k2 => q' Γ2 σ2 Ω2 H2 ⟨e2, t_yes ⟨e2, rfl, fun _ => h2⟩⟩ k2, by
    rw [List.filter_eq_self.mpr (fun _ _ => rfl)]
    exact hp⟩ k1 wk
/-! ### calls of defs -/
abbrev ASp := List Av → AH → (Av → AH → Prop) → Prop
def spA (K : PySem.W.Frag) (sp : ASp) : Sp := fun vs H Q _ => ∃ (F : Hp) (Ω : AH) (as : List Av) (P : Av → AH → Prop), Ok K F Ω [] [] H ∧ VAll K (Fz Ω H) as vs ∧ sp as Ω P ∧ ∀ a v Ω' H', P a Ω' → Ok K F Ω' [] [] H' → VOk K (Fz Ω' H') a v → Q v H'
theorem e_call {sp : ASp} {X : XK} {P : Av → AH → Prop} (h : AW K tl Γ Ω fun as Ω1 => sp as Ω1 P) : EW K (tCall (spA K sp) [] X tl) Γ Ω P := fun F σ H Q k q =>
  h F σ H _ k fun as vs Ω1 H1 h1 k1 v1 => by
    show spA K sp (vs ++ []) H1 Q X
    rw [List.append_nil]
    exact ⟨Fz Ω1 H1, Ω1, as, P, k1.bare.re, v1, h1, fun a v Ω' H' hp k' hv => q a v Ω' H' hp (k1.back k') hv⟩
theorem e_callD {sp : ASp} {X : XK} {P : Av → AH → Prop} {dvs : List V} {das : List Av} (hd : ∀ F, VAll K F das dvs) (h : AW K tl Γ Ω fun as Ω1 => sp (as ++ das) Ω1 P) : EW K (tCall (spA K sp) dvs X tl) Γ Ω P := fun F σ H Q k q =>
  h F σ H _ k fun as vs Ω1 H1 h1 k1 v1 => ⟨Fz Ω1 H1, Ω1, as ++ das, P, k1.bare.re, v1.app (hd _), h1, fun a v Ω' H' hp k' hv => q a v Ω' H' hp (k1.back k') hv⟩
theorem e_callN {sp : ASp} {X : XK} {P : Av → AH → Prop} {n m : Nat} {gV : List V → List V → List V} {tk : TA} (gA : List Av → List Av → List Av) (hg : ∀ F as bs vs us, VAll K F as vs → VAll K F bs us → VAll K F (gA as bs) (gV vs us))
    (h : AW K tl Γ Ω fun as Ω1 => AW K tk Γ Ω1 fun bs Ω2 => as.length = n ∧ bs.length = m ∧ sp (gA as bs) Ω2 P) : EW K (tCallN n m (spA K sp) gV X tl tk) Γ Ω P := fun F σ H Q k q =>
  h F σ H _ k fun as vs Ω1 H1 h1 k1 v1 => h1 (Fz Ω1 H1) σ H1 _ k1.re fun bs us Ω2 H2 ⟨l1, l2, h2⟩ k2 v2 => ⟨v1.length.trans l1, v2.length.trans l2, Fz Ω2 H2, Ω2, gA as bs, P, k2.bare.re, hg _ _ _ _ _ (v1.same k2.fr) v2, h2, fun a v Ω' H' hp k' hv => q a v Ω' H' hp ((k2.anchor k1.fr).back k') hv⟩
/-- keywords in another order -/
def kwV (π : List Nat) (zs : List V) : List V := π.map fun i => zs.getD i .non
def kwA (π : List Nat) (zs : List Av) : List Av := π.map fun i => zs.getD i (.dat .none)
def kwU (π : List Nat) (zs : List Value) : List Value := π.map fun i => zs.getD i .none
theorem kw_va {F : Hp} {bs : List Av} {us : List V} (h : VAll K F bs us) : ∀ π : List Nat, VAll K F (kwA π bs) (kwV π us)
  | [] => .nil
  | i :: r => .cons (by
      show VOk K F (bs.getD i (.dat .none)) (us.getD i .non)
      rw [List.getD_eq_getElem?_getD, List.getD_eq_getElem?_getD]
      cases e : bs[i]? with
      | none =>
        have : us[i]? = none := by
          rw [List.getElem?_eq_none_iff] at e ⊢
          rw [h.length]
          exact e
        rw [this]
        exact .dat .non
      | some b =>
        obtain ⟨v, ev, hv⟩ := h.get e
        rw [ev]
        exact hv) (kw_va h r)
theorem kw_vals {zs : List V} {ws : List Value} (h : Vals zs ws) : ∀ π : List Nat, Vals (kwV π zs) (kwU π ws)
  | [] => .nil
  | i :: r => .cons (by
      show L2.RelV (zs.getD i .non) (ws.getD i .none)
      rw [List.getD_eq_getElem?_getD, List.getD_eq_getElem?_getD]
      cases e : zs[i]? with
      | none =>
        have : ws[i]? = none := by
          rw [List.getElem?_eq_none_iff] at e ⊢
          rw [← h.length]
          exact e
        rw [this]
        rfl
      | some b =>
        obtain ⟨v, ev, hv⟩ := h.get e
        rw [ev]
        exact hv) (kw_vals h r)
end
section
variable {P : Program} {w : World} {K : PySem.W.Frag} {mg : Str → Option Value} {base : Heap}
theorem spA_len {sp : ASp} {n : Nat} (len : ∀ as Ω P, sp as Ω P → as.length = n) : ∀ vs H Q E, spA K sp vs H Q E → vs.length = n := fun vs H Q E ⟨F, Ω, as, P, k, va, h, _⟩ => va.length.trans (len as Ω P h)
/-- a def of the text keeps its promise -/
theorem fnA_ok {x qual : Str} {st : Stmt} {f : Addr} {fd : FuncData} {N ps : List Str} {k : Nat} {sp : ASp} (F : L2.Fun K x qual st f fd) (S : FnScope N ps (defScope st)) (len : ∀ as Ω P, sp as Ω P → as.length = ps.length)
    (hbody : ∀ (cdv : Value) (A : Around) (outer : List Env) (s : Shared) (H : Hp) (E : XK), Room k (A.deeper (envOfC qual (defScope st) s.heap.objs.size f cdv)) →
      ∃ t, PSs (cxOf CX0 P w K mg base N qual (defScope st) f cdv A outer s H E).nox (defBody st) t ∧ ∀ as Ω P, sp as Ω P → SW K t (as.map some ++ List.replicate (N.length - as.length) none) Ω { nx := fun _ Ω' => P (.dat .none) Ω', rt := P }) :
    FnOk P w K mg base CX0 (k + 1) f fd ps (spA K sp) := by
  refine F.ok S (spA_len len) fun cdv A outer s H vs Q E hr h => ?_
  obtain ⟨t, ht, hs⟩ := hbody cdv A outer s H E hr
  obtain ⟨F0, Ω, as, P, k0, va, h, hq⟩ := h
  refine ⟨t, ht, hs as Ω P h F0 (L2.start N vs) H _ ⟨k0.fr, k0.st, ?_⟩ ⟨fun Γ' σ' Ω' H' hp k' => hq _ _ _ _ hp k'.bare (.dat .non), fun a v Ω' H' hp k' hv => hq _ _ _ _ hp k' hv, fun _ _ _ _ z => z.elim, fun _ _ _ _ z => z.elim⟩⟩
  unfold L2.start
  rw [va.length]
  exact Slots.start (N := N) va _
end
end Dat

set_option Elab.async false
set_option linter.all false
set_option maxRecDepth 100000
set_option maxHeartbeats 1000000
namespace Dat
open PySem PySem.Spec PyProof.Rows L2
/-! ### rules of my own for the derivations -/
section
variable {X : Cx} {CX : CXT} {k : Nat} {f : Addr} {fd : FuncData} {ps ks : List Str} {sp : Sp} {E : XK} {x : Str} {p pos : Pos} {kws : List Keyword} {tk : TA} {g : List Value → List Value → List Value} {gV : List V → List V → List V}
/-- a call with keywords alone -/
theorem pe_callN0 (F : FnOk X.prog X.w X.K X.mg X.base CX k f fd ps sp) (hr : Room k X.A) (hg : Gl X x) (hm : X.mg x = some (.ref f)) (hk : PySem.W.keepIn X.K (.ref f) = true) (hb : KBn X.K fd ps 0 ks g gV) (hx : Passes CX X E)
    (hkw : PK X kws tk) (hall : (backToKw pos (keywordEach kws X.env)).all (·.1.isSome) = true := by rfl) (hks : (backToKw pos (keywordEach kws X.env)).filterMap (·.1) = ks := by rfl)
    (hdb : (x == ("__debug__" : Str)) = false := by decide)
    (hpl : ((backTo pos (starEach [] X.env)).any (·.1) || (backToKw pos (keywordEach kws X.env)).any (·.1.isNone)) = false := by rfl) :
    PE X (.Call (.Name x p) [] kws pos) (tCallN 0 ks.length sp gV E tNil tk) := by
  refine ⟨fun pins s σ H Q I h => ?_⟩
  refine wpAny_Call_Name_kw (ld_glob I hg hm ?_ hdb)
  refine PySem.W.callWith_KW0 (h₀ := X.base) I.ok.mod.kin hk hall ?_ hpl
  refine thn (hkw.run pos pins s σ H _ I h) fun ws s2 ⟨zs, H2, I2, rz, l1, l2, q2⟩ => ⟨I2.kIn, ?_⟩
  rw [hks]
  exact run_fnN F hr hb hx I2 .nil rz rfl l2 q2
end
theorem pe_tupleK {X : Cx} {K : PySem.W.Frag} {a : Expr} {ta : TE} {p pos : Pos} (hK : X.K = K) (hg : Gl X "tuple") (hm : X.mg "tuple" = none) (ha : PE X a ta) (na : starEach [a] X.env = (false, eval a X.env) :: starEach [] X.env := by rfl) :
    PE X (.Call (.Name "tuple" p) [a] [] pos) (tThen ta (kTup K)) := by
  subst hK
  exact pe_tupleOf hg hm ha na
/-- a statement that is never reached -/
theorem ps_dead {X : Cx} {st : Stmt} : PS X st (fun _ _ _ => False) := ⟨fun _ _ _ _ _ _ h => h.elim⟩
structure DefAt (K : PySem.W.Frag) (mg : Str → Option Value) (x : Str) (st : Stmt) (ps : List Str) (ds : List Value) (f : Addr) (fd : FuncData) : Prop where
  F : L2.Fun K x x st f fd
  g : mg x = some (.ref f)
  b : Binds K fd ps ds
theorem hu64 {A : Around} {k : Nat} (hr : Room k A) : A.units + 64 < cLine := by
  have := hr.un
  omega
theorem hu100 {A : Around} {k : Nat} (hr : Room k A) : A.units + 100 < cLine := by
  have := hr.un
  omega
theorem bt_len : bootBuiltins "len" = some (.builtin "len") := by decide +kernel
theorem bt_isinstance : bootBuiltins "isinstance" = some (.builtin "isinstance") := by decide +kernel
theorem bt_abs : bootBuiltins "abs" = some (.builtin "abs") := by decide +kernel
theorem bt_all : bootBuiltins "all" = some (.builtin "all") := by decide +kernel
theorem bt_any : bootBuiltins "any" = some (.builtin "any") := by decide +kernel
theorem bt_sum : bootBuiltins "sum" = some (.builtin "sum") := by decide +kernel
theorem bt_max : bootBuiltins "max" = some (.builtin "max") := by decide +kernel
theorem bt_min : bootBuiltins "min" = some (.builtin "min") := by decide +kernel
theorem bt_sorted : bootBuiltins "sorted" = some (.builtin "sorted") := by decide +kernel
theorem bt_repr : bootBuiltins "repr" = some (.builtin "repr") := by decide +kernel
theorem bt_int : bootBuiltins "int" = some (.type "int") := by decide +kernel
theorem bt_bool : bootBuiltins "bool" = some (.type "bool") := by decide +kernel
theorem bt_tuple : bootBuiltins "tuple" = some (.type "tuple") := by decide +kernel
theorem bt_list : bootBuiltins "list" = some (.type "list") := by decide +kernel
theorem bt_str : bootBuiltins "str" = some (.type "str") := by decide +kernel
theorem bt_set : bootBuiltins "set" = some (.type "set") := by decide +kernel
theorem bt_range : bootBuiltins "range" = some (.type "range") := by decide +kernel
theorem bt_enumerate : bootBuiltins "enumerate" = some (.type "enumerate") := by decide +kernel
theorem bt_zip : bootBuiltins "zip" = some (.type "zip") := by decide +kernel
/-! ### defs that show data as texts -/
section
variable {P : Program} {w : World} {K : PySem.W.Frag} {mg : Str → Option Value} {base : Heap}
theorem fngA_ok {x qual : Str} {st : Stmt} {f : Addr} {fd : FuncData} {N ps : List Str} {k : Nat} {sp : ASp} (F : L2.Fun K x qual st f fd) (S : FnScope N ps (defScope st)) (len : ∀ as Ω P, sp as Ω P → as.length = ps.length)
    (hbody : ∀ (cdv : Value) (A : Around) (outer : List Env) (s : Shared) (H : Hp) (E : XK), Room k (A.deeper (envOfC qual (defScope st) s.heap.objs.size f cdv)) → (A.deeper (envOfC qual (defScope st) s.heap.objs.size f cdv)).guards = some [] →
      ∃ t, PSs (cxOf CX0 P w K mg base N qual (defScope st) f cdv A outer s H E).nox (defBody st) t ∧ ∀ as Ω P, sp as Ω P → SW K t (as.map some ++ List.replicate (N.length - as.length) none) Ω { nx := fun _ Ω' => P (.dat .none) Ω', rt := P }) :
    Grd.FnG P w K mg base CX0 (k + 1) f fd ps (spA K sp) := by
  refine Grd.fng_of F S (spA_len len) fun cdv A outer s H vs Q E hr hg h => ?_
  obtain ⟨t, ht, hs⟩ := hbody cdv A outer s H E hr hg
  obtain ⟨F0, Ω, as, P, k0, va, h, hq⟩ := h
  refine ⟨t, ht, hs as Ω P h F0 (L2.start N vs) H _ ⟨k0.fr, k0.st, ?_⟩ ⟨fun Γ' σ' Ω' H' hp k' => hq _ _ _ _ hp k'.bare (.dat .non), fun a v Ω' H' hp k' hv => hq _ _ _ _ hp k' hv, fun _ _ _ _ z => z.elim, fun _ _ _ _ z => z.elim⟩⟩
  unfold L2.start
  rw [va.length]
  exact Slots.start (N := N) va _
end
end Dat

set_option Elab.async false
set_option linter.all false
set_option maxRecDepth 100000
set_option maxHeartbeats 1000000
namespace PySem.SeqAt
open AutoSeq1 (wpAny_loadPart')
open MeetsSeq
theorem str_eq_declines_dict (b : Str) (u : Tok) (l : Addr) (es : Array DictEntry) (n : Nat) (dd : Option Addr) (sl : Array (Option Value)) :
    Meets (Builtin.«str.__eq__» ⟨[.str b u, .ref l], []⟩) (fun _ R s => s.heap.get? l = some { cls := .type "dict", dict := dd, data := .dict es n, slots := sl } ∧ R (.ok (.ret .notImplemented)) s) :=
  .of_wp fun prog w A R s h => by obtain ⟨hp, g, d, tk, os⟩ := s; obtain ⟨hl, h⟩ := h; wp_walk using wpAny_loadPart' hl, wpAny_load hl; exact ⟨_, rfl, h⟩
theorem dict_eq_declines_str (l : Addr) (es : Array DictEntry) (n : Nat) (dd : Option Addr) (sl : Array (Option Value)) (b : Str) (u : Tok) :
    Meets (Builtin.«dict.__eq__» ⟨[.ref l, .str b u], []⟩) (fun _ R s => s.heap.get? l = some { cls := .type "dict", dict := dd, data := .dict es n, slots := sl } ∧ R (.ok (.ret .notImplemented)) s) :=
  .of_wp fun prog w A R s h => by obtain ⟨hp, g, d, tk, os⟩ := s; obtain ⟨hl, h⟩ := h; have f1 := F.sub_str_dict; wp_walk using wpAny_loadPart' hl, wpAny_load hl; exact ⟨_, rfl, h⟩
section
variable {A : Around} {s : Shared}
theorem EqAt.str_dict {l : Addr} {o : Obj} {es : Array DictEntry} {n : Nat} (b : Str) (u : Tok) (h0 : s.heap.get? l = some o) (hc : o.cls = .type "dict") (hd : o.data = .dict es n) (hu : A.units < cLine) : EqAt A s (.str b u) (.ref l) false := fun prog w E Q h => by
  obtain ⟨cls, dd, data, sl⟩ := o
  simp only at hc hd
  subst hc hd
  unfold eqBool
  refine wpAny_holding ?_
  refine wpAny_ite_split (fun hab => absurd (eq_of_beq hab) nofun) (fun _ => ?_)
  refine wpAny_bind (rc_eq_decline_or (k := false) (typeIs_str s b u) ⟨_, h0, rfl⟩ (by decide) F.sub_dict_str F.slot_str_eq F.slot_dict_eq_refl
    (fun _ hq => call_meets F.slot_str_eq (typeIs_str s b u) F.entry_str_eq (F.args_str_eq_2 _ _) (str_eq_declines_dict b u l es n dd sl) ⟨h0, hq⟩)
    (fun _ hq => call_meets F.slot_dict_eq_refl ⟨_, h0, rfl⟩ F.entry_dict_eq (F.args_dict_eq_2 _ _) (dict_eq_declines_str l es n dd sl b u) ⟨h0, hq⟩)
    (fun _ hq => wpAny_of_eq (rfl : isSame (.str b u) (.ref l) = pure false) hq) (.inr hu) (wpAny_truthy_bool h))
end
end PySem.SeqAt
namespace Dat
open PySem PySem.Spec PyProof.Rows L2
def isStr (w : Str) : PyData → Bool
  | .str x => w == x
  | _ => false
section
variable {X : Cx} {pins : List (Addr × Obj)} {σ : L2.St} {H : Hp} {s : Shared}
theorem dict_at (I : Inv X pins σ H s) {a : Addr} (h : H a = some (.dK [])) : (a == sysModules) = false ∧ ∃ o n, s.heap.get? a = some o ∧ o.cls = .type "dict" ∧ o.data = .dict #[] n := by
  obtain ⟨_, h1, vs, kv, o, es, ep, e1, e2, e3, e4⟩ := dk_of I.hok h
  have hv : vs = [] := by
    cases kv
    rfl
  subst hv
  refine ⟨h1, o, ep, e1, e2.1, ?_⟩
  rw [e3]
  have : es.size = 0 := by
    have := e4.2.1.length
    simpa using this
  rw [Array.eq_empty_of_size_eq_zero this]
theorem str_at (I : Inv X pins σ H s) {A : Around} (hu : A.units < cLine) {v : V} {u : Value} {d : PyData} (h : Dq X.K H v d) (r : RelV v u) (w : Str) (t : Tok) : SeqAt.EqAt A s (.str w t) u (isStr w d) := by
  cases h with
  | non => cases r; exact SeqAt.EqAt.str_none w t
  | bl b => cases r; exact SeqAt.EqAt.str_bool w t b
  | int i => obtain ⟨t', rfl⟩ := r; exact SeqAt.EqAt.str_int w t i t'
  | str x => obtain ⟨t', rfl⟩ := r; exact SeqAt.EqAt.str_str w t x t'
  | lst h _ =>
    cases r
    obtain ⟨its, rv, p, _⟩ := I.list (SqL.of h)
    exact SeqAt.EqAt.str_list w t p.isList hu
  | tup h _ =>
    cases r
    obtain ⟨its, rv, p, _⟩ := I.tuple h
    exact SeqAt.EqAt.str_tuple w t p hu
  | dct h =>
    cases r
    obtain ⟨_, o, n, e1, e2, e3⟩ := dict_at I h
    exact SeqAt.EqAt.str_dict w t e1 e2 e3 hu
def isStrU (d : PyData) (u : Value) : Bool := match u with
  | .str w _ => isStr w d
  | _ => false
theorem any_str {d : PyData} : ∀ {ws : List Str} {us : List Value}, Vals (ws.map V.str) us → us.any (isStrU d) = ws.any fun w => isStr w d
  | [], _, h => by cases h; rfl
  | w :: r, _, h => by
    rw [List.map_cons] at h
    cases h with | cons r1 r2 =>
      obtain ⟨t, rfl⟩ := r1
      rw [List.any_cons, List.any_cons, any_str r2]
      rfl
theorem mem_str (I : Inv X pins σ H s) {A : Around} (hu : A.units < cLine) {v : V} {u : Value} {d : PyData} (h : Dq X.K H v d) (r : RelV v u) : ∀ {ws : List Str} {us : List Value}, Vals (ws.map V.str) us → ∀ y ∈ us, SeqAt.EqAt A s y u (isStrU d y)
  | [], _, g, y, hy => by cases g; cases hy
  | w :: ws, _, g, y, hy => by
    rw [List.map_cons] at g
    cases g with | cons r1 r2 =>
      obtain ⟨t, rfl⟩ := r1
      rcases List.mem_cons.mp hy with rfl | hy
      · exact str_at I hu h r w t
      · exact mem_str I hu h r r2 y hy
/-- any datum in a tuple of texts -/
def rInStr (K : PySem.W.Frag) : R2 := fun x y H Q => ∃ (p : Addr) (ws : List Str) (d : PyData), y = .ref p ∧ SqT K H p (ws.map V.str) ∧ Dq K H x d ∧ Q (.bl (ws.any fun w => isStr w d)) H
theorem op_inStr {X : Cx} (hu : X.A.units + 64 < cLine) : OpR X (compareOp .In) (rInStr X.K) := by
  intro pins s σ H x y v u Q I rx ry h
  obtain ⟨p, ws, d, rfl, hq, hd, q⟩ := h
  cases ry
  obtain ⟨its, r, tp, hz⟩ := I.tuple hq
  refine SeqAt.in_tupleAt (isStrU d) (show s.heap.IsTuple p its.toArray from tp) (fun z hz' => mem_str I (by show X.A.units + 1 < cLine; omega) hd rx r z (by simpa using hz')) ⟨.bl _, H, I, rfl, ?_⟩
  rw [show its.toArray.any (isStrU d) = its.any (isStrU d) by simp, any_str r]
  exact q
theorem r_inStr {K : PySem.W.Frag} {Ω : AH} {P : Av → AH → Prop} {d : PyData} {ws : List Str} (h : P (.dat (.bool (ws.any fun w => isStr w d))) Ω) : R2W K (rInStr K) (.dat d) (.dat (.tuple (ws.map PyData.str))) Ω P := fun F H x y Q k hx hy q => by
  cases hx with | dat hx => cases hy with | dat hy => cases hy with | tup hs g =>
    have e : ∀ {ws : List Str} {vs : List V}, DqAll K (Fz Ω H) vs (ws.map PyData.str) → vs = ws.map V.str := by
      intro ws
      induction ws with
      | nil => intro vs g; cases g; rfl
      | cons w r ih =>
        intro vs g
        rw [List.map_cons] at g
        cases g with | cons h g =>
          cases h
          rw [ih g, List.map_cons]
    rw [e g] at hs
    exact ⟨_, ws, d, rfl, sqT_same Fz_le hs, hx.same Fz_le, q _ _ _ _ h k (.dat (.bl _))⟩
/-! ### repr -/
mutual
def noList : PyData → Bool
  | .list _ => false
  | .tuple ds => noListAll ds
  | _ => true
def noListAll : List PyData → Bool
  | [] => true
  | d :: r => noList d && noListAll r
end
mutual
theorem Dq.reads (I : Inv X pins σ H s) : ∀ (d : PyData) (v : V) (u : Value), Dq X.K H v d → RelV v u → ∃ as, Reads s.heap u d as ∧ (noList d = true → sysModules ∉ as)
  | .none, _, _, h, r => by
    cases h
    cases r
    exact ⟨_, Reads.none, fun _ => nofun⟩
  | .bool b, _, _, h, r => by
    cases h
    cases r
    exact ⟨_, Reads.bool b, fun _ => nofun⟩
  | .int i, _, _, h, r => by
    cases h
    obtain ⟨t, rfl⟩ := r
    exact ⟨_, Reads.int i t, fun _ => nofun⟩
  | .str x, _, _, h, r => by
    cases h
    obtain ⟨t, rfl⟩ := r
    exact ⟨_, Reads.str x t, fun _ => nofun⟩
  | .list ds, _, _, h, r => by
    cases h with
    | lst hs ha =>
      cases r
      obtain ⟨its, rv, ⟨o, n, ho, hc, _, hd⟩, _⟩ := I.list (SqL.of hs)
      obtain ⟨as, hr, _⟩ := Dq.readsAll I ds _ its ha rv
      exact ⟨_, Reads.list ho hc hd hr, fun z => by simp [noList] at z⟩
  | .tuple ds, _, _, h, r => by
    cases h with
    | tup hs ha =>
      cases r
      obtain ⟨its, rv, ⟨o, ho, hc, n, hd⟩, _⟩ := I.tuple hs
      obtain ⟨as, hr, hn⟩ := Dq.readsAll I ds _ its ha rv
      exact ⟨_, Reads.tuple ho hc hd hr, fun z => hn (by simpa [noList] using z)⟩
  | .dict kvs, _, _, h, r => by
    cases h with
    | dct h =>
      cases r
      obtain ⟨h1, o, n, e1, e2, e3⟩ := dict_at I h
      refine ⟨_, Reads.dict (kvs := []) (as := []) (bs := []) e1 e2 e3 (by exact ReadsAll.nil) (by exact ReadsAll.nil), fun _ m => ?_⟩
      simp at m
      rw [m] at h1
      simp at h1
theorem Dq.readsAll (I : Inv X pins σ H s) : ∀ (ds : List PyData) (vs : List V) (us : List Value), DqAll X.K H vs ds → Vals vs us → ∃ as, ReadsAll s.heap us ds as ∧ (noListAll ds = true → sysModules ∉ as)
  | [], _, _, h, r => by
    cases h
    cases r
    exact ⟨_, ReadsAll.nil, fun _ => nofun⟩
  | d :: ds, _, _, h, r => by
    cases h with
    | cons h1 h2 =>
      cases r with
      | cons r1 r2 =>
        obtain ⟨as, q1, n1⟩ := Dq.reads I d _ _ h1 r1
        obtain ⟨bs, q2, n2⟩ := Dq.readsAll I ds _ _ h2 r2
        refine ⟨_, ReadsAll.cons q1 q2, fun z => ?_⟩
        rw [noListAll, Bool.and_eq_true] at z
        intro m
        rcases List.mem_append.mp m with m | m
        · exact n1 z.1 m
        · exact n2 z.2 m
end
end
def Shown (d : PyData) : Prop := d.showable = true ∧ (d.hasDict = true → noList d = true) ∧ d.depth ≤ 64 ∧ d.shown.length ≤ sizeLine
def rReprQ (K : PySem.W.Frag) : List V → Hp → VK → Prop := fun xs H Q => ∃ (v : V) (d : PyData), xs = [v] ∧ Dq K H v d ∧ Shown d ∧ Q (.str d.shown) H
theorem cl_repr {X : Cx} (hg : X.A.guards = some []) (hu : X.A.units + 100 < cLine) : CallR X (.builtin "repr") (rReprQ X.K) := by
  intro pins s σ H xs us Q I r h
  obtain ⟨v, d, rfl, hd, ⟨h1, h2, h3, h4⟩, q⟩ := h
  obtain ⟨u, rfl, rx⟩ := vals1 r
  have ref : ∀ a, v = .ref a → u = .ref a → wpAny (model X.prog X.w) X.A (call (.builtin "repr") [u]) (EP X pins σ Q) X.xe s := fun a ev eu => by
    subst ev eu
    obtain ⟨as, rd, hn⟩ := Dq.reads I d (.ref a) (.ref a) hd rfl
    exact repr_of_reads' rd h1 (fun z => hn (h2 z)) hg (by omega) (fun _ _ e => e) (fun h' u tk hk => ⟨.str d.shown, H, I.kept (t' := tk) hk, ⟨u, rfl⟩, q⟩) h4
  cases hd with
  | non =>
    cases rx
    exact PySem.P.repr_of_none ⟨.str "None", H, I.tok _, ⟨_, rfl⟩, by simpa [PyData.shown] using q⟩
  | bl b =>
    cases rx
    exact PySem.P.repr_of_bool ⟨.str (if b then "True" else "False"), H, I.tok _, ⟨_, rfl⟩, by simpa [PyData.shown] using q⟩
  | int i =>
    obtain ⟨t, rfl⟩ := rx
    exact PySem.P.repr_of_int (by simpa [PyData.showable] using h1) ⟨.str (toString i), H, I.tok _, ⟨_, rfl⟩, by simpa [PyData.shown] using q⟩
  | str x =>
    obtain ⟨t, rfl⟩ := rx
    exact PySem.P.repr_of_str ⟨.str (reprText x), H, I.tok _, ⟨_, rfl⟩, by simpa [PyData.shown] using q⟩ (by simpa [PyData.shown] using h4)
  | lst h g => exact ref _ rfl rx
  | tup h g => exact ref _ rfl rx
  | dct h => exact ref _ rfl rx
theorem c_repr {K : PySem.W.Frag} {Ω : AH} {P : Av → AH → Prop} {d : PyData} (s : Shown d) (h : P (.dat (.str d.shown)) Ω) : RCW K (rReprQ K) [.dat d] Ω P := fun F H xs Q k hx q => by
  cases hx with | cons hx g => cases g; cases hx with | dat hx =>
    exact ⟨_, d, rfl, hx.same Fz_le, s, q _ _ _ _ h k (.dat (.str _))⟩
/-! ### short words -/
inductive Dats : List Av → List PyData → Prop
  | nil : Dats [] []
  | cons {d : PyData} {as : List Av} {ds : List PyData} (h : Dats as ds) : Dats (.dat d :: as) (d :: ds)
theorem Dats.eq {as : List Av} {ds : List PyData} (h : Dats as ds) : as = ds.map .dat := by
  induction h with
  | nil => rfl
  | cons h ih => rw [ih, List.map_cons]
theorem dats_map {α : Type} {f : α → PyData} : ∀ {xs : List α}, Dats (xs.map fun x => .dat (f x)) (xs.map f)
  | [] => .nil
  | _ :: _ => .cons dats_map
section
variable {K : PySem.W.Frag} {Γ : List (Option Av)} {Ω : AH} {P : Av → AH → Prop} {te : TE} {tl : TA}
theorem e_tupD (h : AW K tl Γ Ω fun as Ω1 => ∃ ds, Dats as ds ∧ Nat.ble ds.length 100000 = true ∧ P (.dat (.tuple ds)) Ω1) : EW K (tTup tl) Γ Ω P :=
  e_tup fun F σ H Q k q => h F σ H Q k fun as vs Ω1 H1 ⟨ds, e, l, hp⟩ => q as vs Ω1 H1 ⟨ds, e.eq, Nat.le_of_ble_eq_true l, hp⟩
theorem e_lstD (h : AW K tl Γ Ω fun as Ω1 => ∃ ds, Dats as ds ∧ Nat.ble ds.length 100000 = true ∧ P (.dat (.list ds)) Ω1) : EW K (tLst tl) Γ Ω P :=
  e_lst fun F σ H Q k q => h F σ H Q k fun as vs Ω1 H1 ⟨ds, e, l, hp⟩ => q as vs Ω1 H1 ⟨ds, e.eq, Nat.le_of_ble_eq_true l, hp⟩
theorem c_allM {α : Type} {xs : List α} {p : α → Bool} (h : P (.dat (.bool (xs.all p))) Ω) : RCW K (rAll K) [.dat (.list (xs.map fun x => .bool (p x)))] Ω P := by
  have e : xs.map (fun x => PyData.bool (p x)) = (xs.map p).map PyData.bool := by
    rw [List.map_map]
    rfl
  rw [e]
  refine c_all ?_
  rw [List.all_map]
  exact h
theorem c_anyM {α : Type} {xs : List α} {p : α → Bool} (h : P (.dat (.bool (xs.any p))) Ω) : RCW K (rAny K) [.dat (.list (xs.map fun x => .bool (p x)))] Ω P := by
  have e : xs.map (fun x => PyData.bool (p x)) = (xs.map p).map PyData.bool := by
    rw [List.map_map]
    rfl
  rw [e]
  refine c_any ?_
  rw [List.any_map]
  exact h
theorem atI_nat' {α : Type} {xs : List α} {i : Nat} {a : α} (h : xs[i]? = some a) : atI xs (i : Int) = some a := atI_nat h
/-- a def of one datum, answered by a truth -/
abbrev spB (f : PyData → Bool) : ASp := fun as Ω P => ∃ d, as = [.dat d] ∧ P (.dat (.bool (f d))) Ω
end
end Dat

set_option Elab.async false
set_option linter.all false
set_option maxRecDepth 100000
set_option maxHeartbeats 1000000
namespace Dat
open PySem PySem.Spec PyProof.Rows L2
/-! ### the rules with the written part given outright -/
section
variable {X : Cx} {K : PySem.W.Frag}
theorem ixT (hK : X.K = K) : IxR X (rIxT K) := by subst hK; exact ix_tup
theorem ixL (hK : X.K = K) : IxR X (rIxL K) := by subst hK; exact ix_list
theorem slT (hK : X.K = K) : SlR X (rSlA K) := by subst hK; exact sl_tupA
theorem slL (hK : X.K = K) : SlR X (rSlL K) := by subst hK; exact sl_list
theorem catT (hK : X.K = K) : OpR X (binaryOp .Add) (rCatA K) := by subst hK; exact op_catA
theorem inQ (hK : X.K = K) : OpR X (compareOp .In) (rIn K false) := by subst hK; exact op_in_seq
theorem niQ (hK : X.K = K) : OpR X (compareOp .NotIn) (rIn K true) := by subst hK; exact op_notIn_seq
theorem inStrQ (hK : X.K = K) (hu : X.A.units + 64 < cLine) : OpR X (compareOp .In) (rInStr K) := by subst hK; exact op_inStr hu
theorem eqDQ (hK : X.K = K) (hu : X.A.units + 64 < cLine) : OpR X (compareOp .Eq) (rEqD K) := by subst hK; exact op_eqD hu
theorem neDQ (hK : X.K = K) (hu : X.A.units + 64 < cLine) : OpR X (compareOp .NotEq) (rNeD K) := by subst hK; exact op_neD hu
theorem isiQ (hK : X.K = K) : CallR X (.builtin "isinstance") (rIsi K) := by subst hK; exact call_isi
theorem lenQ (hK : X.K = K) : CallR X (.builtin "len") (rLenQ K) := by subst hK; exact cl_len
theorem listQ (hK : X.K = K) : CallR X (.type "list") (rListQ K) := by subst hK; exact cl_list
theorem allQ (hK : X.K = K) (hc : X.calm = true) : CallR X (.builtin "all") (rAll K) := by subst hK; exact cr_all hc
theorem anyQ (hK : X.K = K) (hc : X.calm = true) : CallR X (.builtin "any") (rAny K) := by subst hK; exact cr_any hc
theorem sumQ (hK : X.K = K) (hc : X.calm = true) : CallR X (.builtin "sum") (rSum K) := by subst hK; exact cr_sum hc
theorem maxQ (hK : X.K = K) (hc : X.calm = true) : CallR X (.builtin "max") (rMax K) := by subst hK; exact cr_max hc
theorem minQ (hK : X.K = K) (hc : X.calm = true) : CallR X (.builtin "min") (rMin K) := by subst hK; exact cr_min hc
theorem sortedQ (hK : X.K = K) : CallR X (.builtin "sorted") (rSorted K) := by subst hK; exact cr_sorted
theorem reprQ (hK : X.K = K) (hg : X.A.guards = some []) (hu : X.A.units + 100 < cLine) : CallR X (.builtin "repr") (rReprQ K) := by subst hK; exact cl_repr hg hu
theorem piT {tg l : Expr} {tl : TE} (hK : X.K = K) (hl : PE X l tl) : PI X tg l (iTup K tl) := by subst hK; exact pi_tup hl
theorem piL {tg l : Expr} {tl : TE} (hK : X.K = K) (hl : PE X l tl) : PI X tg l (iList K tl) := by subst hK; exact pi_list hl
theorem pgT {es : List Expr} {k : Nat} {t : TGs} {n : Nat} {pos : Pos} (hK : X.K = K) (hc : X.calm = true) (h : PGs X es t)
    (hn : (assignEach es X.env).length = n := by rfl) (hst : (assignEach es X.env).findIdx? (·.1) = none := by rfl) : PG X (.Tuple es k pos) (gTup K n t) := by subst hK; exact pg_tup hc h hn hst
theorem appQ {o e : Expr} {to : TE} {t : TA} {apos cpos : Pos} (hK : X.K = K) (ho : PE X o to) (ha : PA X [e] t)
    (hbase : attributeBase o "append" X.env (eval o X.env) = eval o X.env := by rfl)
    (hfew : ((backTo cpos (starEach [e] X.env)).all (fun x => !x.1) && (backToKw cpos (keywordEach [] X.env)).all (fun x => x.1.isSome)
      && decide ([e].length + ([] : List Keyword).length + (if ([] : List Keyword).isEmpty then 0 else 1) < 30)) = true := by rfl)
    (hline : (apos.endLine == cpos.line) = true := by rfl) (hs : starEach [e] X.env = (false, eval e X.env) :: starEach [] X.env := by rfl) (hplain : (backTo cpos (starEach [] X.env)).any (·.1) = false := by rfl) :
    PE X (.Call (.Attribute o "append" apos) [e] [] cpos) (tBM K "list" rAppend to t) := by
  subst hK
  exact pe_bm PySem.F.plainAttrs_list PySem.F.slot_list_append PySem.F.type_list_append mt_append ho ha hbase hfew hline hs hplain
theorem zipQ {e e2 : Expr} {ta : TA} {p pos tpos : Pos} {elts : List Expr} {kk : Nat} (hK : X.K = K) (hg : Gl X "zip") (hm : X.mg "zip" = none) (ha : PA X [e, e2] ta)
    (hs : starEach [e, e2] X.env = (false, eval e X.env) :: starEach [e2] X.env := by rfl) (hpl : (backTo pos (starEach [e2] X.env)).any (·.1) = false := by rfl) :
    PI X (.Tuple elts kk tpos) (.Call (.Name "zip" p) [e, e2] [] pos) (RZ.iZipA K ta) := by
  subst hK
  exact RZ.pi_zipA hg hm ha hs hpl
theorem enumQ {e : Expr} {ta : TA} {p pos tpos : Pos} {elts : List Expr} {kk : Nat} (hK : X.K = K) (hg : Gl X "enumerate") (hm : X.mg "enumerate" = none) (ha : PA X [e] ta) (hs : starEach [e] X.env = [(false, eval e X.env)] := by rfl) :
    PI X (.Tuple elts kk tpos) (.Call (.Name "enumerate" p) [e] [] pos) (iEnum K ta) := by
  subst hK
  exact pi_enum hg hm ha hs
end
/-! ### truths, one after another -/
abbrev IsB (b : Bool) (Ω : AH) : Av → AH → Prop := fun a Ω' => a = .dat (.bool b) ∧ Ω' = Ω
abbrev IsT (b : Bool) (Ω : AH) : Bool → AH → Prop := fun a Ω' => a = b ∧ Ω' = Ω
section
variable {K : PySem.W.Frag} {Γ : List (Option Av)} {Ω : AH} {P : Av → AH → Prop} {ta tb : TE} {tt tu : TT} {b1 b2 b : Bool}
theorem e_andB (h1 : EW K ta Γ Ω (IsB b1 Ω)) (h2 : b1 = true → EW K tb Γ Ω (IsB b2 Ω)) : EW K (tAndV ta tb) Γ Ω (IsB (b1 && b2) Ω) :=
  e_andV (h1.mono fun a Ω' ⟨e, eo⟩ => ⟨b1, e, fun z => by subst eo; rw [z, Bool.true_and]; exact h2 z, fun z => by rw [z, Bool.false_and]; exact ⟨rfl, eo⟩⟩)
theorem e_orB (h1 : EW K ta Γ Ω (IsB b1 Ω)) (h2 : b1 = false → EW K tb Γ Ω (IsB b2 Ω)) : EW K (tOrV ta tb) Γ Ω (IsB (b1 || b2) Ω) :=
  e_orV (h1.mono fun a Ω' ⟨e, eo⟩ => ⟨b1, e, fun z => by rw [z, Bool.true_or]; exact ⟨rfl, eo⟩, fun z => by subst eo; rw [z, Bool.false_or]; exact h2 z⟩)
theorem e_notB (h1 : EW K ta Γ Ω (IsB b1 Ω)) : EW K (tNotV ta) Γ Ω (IsB (!b1) Ω) := e_notV (h1.mono fun a Ω' ⟨e, eo⟩ => ⟨b1, e, rfl, eo⟩)
theorem TW.mono {P P' : Bool → AH → Prop} (h : TW K tt Γ Ω P) (f : ∀ b Ω', P b Ω' → P' b Ω') : TW K tt Γ Ω P' := fun F σ H Q k q => h F σ H Q k fun b Ω' H' p => q b Ω' H' (f b Ω' p)
theorem t_andB (h1 : TW K tt Γ Ω (IsT b1 Ω)) (h2 : b1 = true → TW K tu Γ Ω (IsT b2 Ω)) : TW K (tAnd tt tu) Γ Ω (IsT (b1 && b2) Ω) :=
  t_and (h1.mono fun a Ω' ⟨e, eo⟩ => ⟨fun z => by subst eo; rw [← e, z, Bool.true_and]; exact h2 (e.symm.trans z), fun z => ⟨by rw [← e, z, Bool.false_and], eo⟩⟩)
theorem t_orB (h1 : TW K tt Γ Ω (IsT b1 Ω)) (h2 : b1 = false → TW K tu Γ Ω (IsT b2 Ω)) : TW K (tOr tt tu) Γ Ω (IsT (b1 || b2) Ω) :=
  t_or (h1.mono fun a Ω' ⟨e, eo⟩ => ⟨fun z => ⟨by rw [← e, z, Bool.true_or], eo⟩, fun z => by subst eo; rw [← e, z, Bool.false_or]; exact h2 (e.symm.trans z)⟩)
theorem t_notB (h1 : TW K tt Γ Ω (IsT b1 Ω)) : TW K (tNot tt) Γ Ω (IsT (!b1) Ω) := t_not (h1.mono fun a Ω' ⟨e, eo⟩ => ⟨by rw [e], eo⟩)
theorem t_ofB (h : EW K ta Γ Ω (IsB b Ω)) : TW K (tB ta) Γ Ω (IsT b Ω) := t_B (h.mono fun a Ω' ⟨e, eo⟩ => ⟨b, e, rfl, eo⟩)
theorem t_ofC (h : EW K ta Γ Ω (IsB b Ω)) : TW K (tTest ta) Γ Ω (IsT b Ω) := t_test (h.mono fun a Ω' ⟨e, eo⟩ => ⟨b, e, rfl, eo⟩)
theorem s_retB {E : EndA} (h : EW K ta Γ Ω (IsB b Ω)) (q : E.rt (.dat (.bool b)) Ω) : SW K (tRet ta) Γ Ω E := s_ret (h.mono fun a Ω' ⟨e, eo⟩ => by rw [e, eo]; exact q)
theorem s_ifB {E : EndA} {t u : TS} (h : TW K tt Γ Ω (IsT b Ω)) (h1 : b = true → SW K t Γ Ω E) (h2 : b = false → SW K u Γ Ω E) : SW K (tIfS tt t u) Γ Ω E :=
  s_if (h.mono fun a Ω' ⟨e, eo⟩ => by subst e eo; exact ⟨h1, h2⟩)
end
end Dat

set_option Elab.async false
set_option linter.all false
set_option maxRecDepth 100000
set_option maxHeartbeats 3200000
/-! set of a list of ints, sorted(set(list)) -/
namespace SetL
open PySem PySem.Spec PyProof.Rows L2
/-- what a set holds that was just made -/
abbrev mtS (w : World) : Obj := { cls := .type "set", dict := none, data := .set #[] 0 (.fresh 0 0 (!w.params.followText "set-order")) }
section
variable {P : Program} {w : World} {A : Around} {E : Value → Shared → Prop} {s : Shared}
theorem set_of_list {l : Addr} {vs : Array Value} (ks : List Int) {Q : Value → Shared → Prop} (nh : A.handled = none) (pl : s.heap.IsList l vs) (ia : IntsAre vs.toList ks) (bd : ks.length + 1 < scanBound)
    (fin : ∀ (hp2 : Heap) (tk2 c : Nat), SetR w hp2 s.heap.objs.size (fun j => decide (j ∈ ks)) c → c ≤ ks.length → (∀ b o, s.heap.get? b = some o → hp2.get? b = some o) → Q (.ref s.heap.objs.size) { s with heap := hp2, toks := tk2 }) :
    wpAny (model P w) A (call (.type "set") [.ref l]) Q E s := by
  have sz : vs.size = ks.length := by have := IntsAre.length ia; rwa [Array.length_toList] at this
  obtain ⟨mc, mtl, mro⟩ := F.called_set.mro; have mde := F.called_set.made; have sbc := F.called_set.sub
  refine wpAny_call (codeAny_of_tree ?_); show wpAny _ _ (callAny (.type "set") _) _ _ _
  refine wpAny_pure ⟨Code.quiet_builtin _ (by decide +kernel), codeAny_builtin F.entry_type_call ?_⟩; rw [Around.under_plain (weight_type_call_type "set" [.ref l] []) rfl]
  have nt := F.called_set.notType; have cc := F.called_set.canCreate; have tc := F.typeCall_set_1 (.ref l)
  repeat (any_goals (first | assumption | wp_step))
  refine codeAny_mono (code_set_led1 (.ref l) (E := E) (Q₁ := fun x sx => x = .ref s.heap.objs.size ∧ sx = { s with heap := s.heap.push (mtS w) }) ⟨rfl, rfl⟩) fun r1 sr hr1 => ?_
  cases r1 with
  | error z => exact hr1
  | ok fl1 =>
    cases fl1 with
    | ret x =>
      obtain ⟨rfl, rfl⟩ := hr1
      have gS : (s.heap.push (mtS w)).get? s.heap.objs.size = some (mtS w) := Heap.get?_push_size _ rfl
      have tyS : Shared.TypeIs { s with heap := s.heap.push (mtS w) } (.ref s.heap.objs.size) "set" := ⟨_, gS, rfl⟩
      have il := F.called_set.init.lookup; have ib := F.called_set.init.bind (.ref s.heap.objs.size)
      repeat (any_goals (first | assumption | wp_step))
      refine codeAny_mono (codeAny_call_builtin (R := wants (fun x sx => x = .none ∧ ∃ hp2 tk2 c, sx = { s with heap := hp2, toks := tk2 } ∧ SetR w hp2 s.heap.objs.size (fun j => decide (j ∈ ks)) c ∧ c ≤ ks.length ∧
          (∀ b o, s.heap.get? b = some o → hp2.get? b = some o)) E) F.called_set.init.plain F.entry_set_init (check_set_init_1 tyS ?_)) fun r2 sr2 hr2 => ?_
      · obtain ⟨⟨c0, d0, dt0, sl0⟩, ho, hc0, n0, hd0⟩ := pl
        simp only at hc0 hd0; subst hc0; subst hd0
        have ho2 : (s.heap.push (mtS w)).get? l = some { cls := .type "list", dict := d0, data := .seq vs n0, slots := sl0 } := Heap.get?_push_of_some _ ho
        have f1 := F.sub_list_set; have f2 := F.sub_list_frozenset; have f3 : (Value.type "list" == Value.type "dict") = false := by decide
        have pl2 : (s.heap.push (mtS w)).IsList l vs := ⟨_, ho2, rfl, n0, rfl⟩
        unfold Builtin.«set.__init__» noKeywords Builtin.Frozenset.updateFrom; generalize hIt : pyIter = It
        wp_walk
        subst hIt
        refine wpAny_pyIter_list pl2 (wpAny_bind (wpAny_runValue ?_))
        have lS : l < s.heap.objs.size := Heap.lt_size ho
        have nh3 : A.in1.in1.in1.handled = none := by simp [nh]
        have psz : (s.heap.push (mtS w)).objs.size = s.heap.objs.size + 1 := Heap.size_push ..
        have ne1 : l ≠ (s.heap.push (mtS w)).objs.size := by rw [psz]; exact Nat.ne_of_lt (Nat.lt_succ_of_lt lS)
        have ne2 : s.heap.objs.size ∉ [(s.heap.push (mtS w)).objs.size, l] := by rw [psz]; simp only [List.mem_cons, List.not_mem_nil, or_false, not_or]; exact ⟨Nat.ne_of_lt (Nat.lt_succ_self _), Nat.ne_of_gt lS⟩
        have val : ∀ (i : Nat) (v : Value), vs[i]? = some v → ∃ k t, ks[i]? = some k ∧ v = .int k t := fun i v hv => by
          have hi : i < ks.length := by rw [← sz]; exact (Array.getElem?_eq_some_iff.mp hv).1
          obtain ⟨t, e⟩ := PyProof.Rows.IntsAre.int_at ia i v (by rwa [Array.getElem?_toList])
          exact ⟨ks[i], t, List.getElem?_eq_getElem hi, by rw [e, List.getD_eq_getElem?_getD, List.getElem?_eq_getElem hi]; rfl⟩
        refine set_update_ints ((Walks.list nh3 _ l ne1 vs).toS) s.heap.objs.size ne2 ks sz bd val (vs.size - 0) 0 _ (by omega) (Nat.zero_le _) ⟨⟨_, Heap.get?_push_size _ rfl, rfl, rfl⟩, (pl2.push _)⟩
          ⟨0, Nat.le_refl 0, setR_new_at (Heap.get?_push_of_some _ gS)⟩ fun s3 c3 mv lc hS3 => ?_
        obtain ⟨hp2, g3, d3, tk3, os3⟩ := s3
        have e1 : g3 = s.gens := mv.gens; have e2 : d3 = s.drawn := mv.drawn; have e3 : os3 = s.os := mv.os
        subst e1; subst e2; subst e3
        show wpAny _ _ _ _ _ _; refine wpAny_pure ?_; show wpAny _ _ (ret Value.none) _ _ _
        refine wpAny_pure ⟨rfl, hp2, tk3, c3, rfl, hS3, by rw [sz] at lc; exact lc, fun b o e => ?_⟩
        have hb0 : b < s.heap.objs.size := Heap.lt_size e
        exact mv.heap b o (by rw [psz]; simp only [List.mem_cons, List.not_mem_nil, or_false, not_or]; exact ⟨Nat.ne_of_lt hb0, Nat.ne_of_lt (Nat.lt_succ_of_lt hb0)⟩) (Heap.get?_push_of_some _ (Heap.get?_push_of_some _ e))
      · cases r2 with
        | error z => exact hr2
        | ok fl2 =>
          cases fl2 with
          | ret x =>
            obtain ⟨rfl, hp2, tk2, c, rfl, g1, g2, g3⟩ := hr2
            repeat (any_goals (first | assumption | wp_step))
            exact fin _ _ _ g1 g2 g3
          | _ => exact hr2.elim
    | _ => exact hr1.elim
end
/-- set(list of ints) -/
def rSetL (w : World) : List V → Hp → VK → Prop := fun xs H Q => ∃ (p : Addr) (ks : List Int), xs = [.ref p] ∧ H p = some (.lst (ks.map V.int)) ∧ ks.length ≤ 1000 ∧
  ∀ (a : Addr) (c : Nat), H a = none → c ≤ ks.length → Q (.ref a) (upd H a (SetO w a (fun j => decide (j ∈ ks)) c))
theorem cr_setL {X : Cx} (hc : X.calm = true) : CallR X (.type "set") (rSetL X.w) := by
  intro pins s σ H xs us Q I r h
  obtain ⟨p, ks, rfl, hp, hl, q⟩ := h
  rw [Vals.ref1 r]
  obtain ⟨its, rv, pl, _⟩ := I.list (SqL.of (K := X.K) hp)
  refine set_of_list ks (I.ok.hd hc) pl.isList (by simpa using RZ.intsAre_vals rv) (by unfold scanBound; omega) fun h' tk c R lc k => ?_
  have nf : H s.heap.objs.size = none := I.hok.fresh (Nat.le_refl _)
  refine ⟨.ref s.heap.objs.size, _, ?_, rfl, q _ c nf lc⟩
  exact I.laid (t' := tk) k (Nat.le_refl _) (setO_new R)
end SetL
namespace Dat
open PySem PySem.Spec PyProof.Rows L2
theorem setLQ {X : Cx} {w : World} (hw : X.w = w) (hc : X.calm = true) : CallR X (.type "set") (SetL.rSetL w) := by subst hw; exact SetL.cr_setL hc
theorem sortSetQ {X : Cx} {w : World} (hw : X.w = w) (hc : X.calm = true) : CallR X (.builtin "sorted") (rSortedSet w) := by subst hw; exact cr_sortedSet hc
section
variable {K : PySem.W.Frag} {Γ : List (Option Av)} {Ω : AH} {P : Av → AH → Prop} {tl : TA} {w : World}
theorem e_sortSet (h : AW K tl Γ Ω fun as Ω1 => ∃ ks : List Int, Dats as [.list (ks.map PyData.int)] ∧ ks.length ≤ 40 ∧ ∀ ns : List Int, ns.Pairwise (· < ·) → (∀ k, k ∈ ns ↔ k ∈ ks) → P (.dat (.list (ns.map PyData.int))) Ω1) :
    EW K (tCB (rSortedSet w) (tCons (tCB (SetL.rSetL w) tl) tNil)) Γ Ω P := fun F σ H Q k q =>
  h F σ H _ k fun as vs Ω1 H1 ⟨ks, ea, hl, hp⟩ k1 v1 => by
    rw [ea.eq] at v1
    cases v1 with | cons va v1 => cases v1; cases va with | dat va =>
      obtain ⟨a, rfl, ha⟩ := dq_intsL va
      refine ⟨a, ks, rfl, Fz_le _ _ ha, by omega, fun b c nb lc => ⟨b, _, c, rfl, upd_same, by omega, fun ns p hs hm _ np => ?_⟩⟩
      have k2 := k1.same (same_new (o := SetO w b (fun j => decide (j ∈ ks)) c) nb)
      exact q _ _ _ _ (hp ns hs fun k => by rw [hm k]; simp) (k2.same (same_new np)) (.dat (lst_new k2 np .ofInts))
end
end Dat

set_option Elab.async false
set_option linter.all false
set_option maxRecDepth 100000
set_option maxHeartbeats 1000000
namespace Dat
open PySem PySem.Spec PyProof.Rows L2
section
variable {K : PySem.W.Frag} {Γ : List (Option Av)} {Ω : AH} {g g1 : TG} {te : TE}
/-- a comprehension of two walks that changes nothing -/
theorem e_lc2P {α β : Type} {wi wi1 : TI} {vs vs1 : List Nat} {P : Av → AH → Prop} (xs : List α) (enc : α → Av) (ys : α → List β) (enc1 : β → Av) (out : α → β → PyData) (hg : GN g vs) (hg1 : GN g1 vs1) (hz : xs.length ≤ 200) (hz1 : ∀ x ∈ xs, (ys x).length ≤ 200)
    (h : IW K wi Γ Ω fun as Ω1 => as = xs.map enc ∧ (∀ x Ω', x ∈ xs → (∀ q bs, Ω1 q = some bs → Ω' q = some bs) → GW K g (enc x) (wipeA Γ vs) Ω' fun Γ2 Ω2 => Ω2 = Ω' ∧ IW K wi1 Γ2 Ω2 fun bs Ω3 => Ω3 = Ω' ∧ bs = (ys x).map enc1 ∧
        ∀ y Ω4, y ∈ ys x → (∀ q bs, Ω1 q = some bs → Ω4 q = some bs) → GW K g1 (enc1 y) (wipeA Γ2 vs1) Ω4 fun Γ5 Ω5 => Ω5 = Ω4 ∧ EW K te Γ5 Ω5 fun z Ω6 => Ω6 = Ω4 ∧ z = .dat (out x y)) ∧
      ∀ D, Ω1 D = none → P (.ptr D) (put Ω1 D ((xs.flatMap fun x => (ys x).map (out x)).map .dat))) : EW K (tLc2 wi g tYes wi1 g1 tYes te vs vs1) Γ Ω P := by
  refine fun F σ H Q k q => h F σ H _ k fun as Ω1 H1 J ⟨ea, hb, hp⟩ k1 wk D nD => ?_
  have fD := k1.free nD
  have ext : ∀ acc q bs, Ω1 q = some bs → put Ω1 D acc q = some bs := fun acc q bs hq => by
    rw [put_ne (ne_of_Ω hq fD)]
    exact hq
  refine ⟨fun i m H' => m = as.length - i ∧ i ≤ as.length ∧ ((xs.take i).flatMap fun x => (ys x).map (out x)).length ≤ 200 * i ∧ Ok K (Fz Ω1 H1) (put Ω1 D (((xs.take i).flatMap fun x => (ys x).map (out x)).map .dat)) Γ σ H', ⟨_, rfl, Nat.zero_le _, Nat.zero_le _, k1.re.new nD .nil⟩, ?_⟩
  rintro i m H' ⟨rfl, hi, hl, k'⟩
  by_cases hlt : i < as.length
  · have hlt' : i < xs.length := by rw [ea, List.length_map] at hlt; exact hlt
    have ex : xs[i]? = some xs[i] := List.getElem?_eq_getElem hlt'
    generalize hx : xs[i] = x at ex
    have mx : x ∈ xs := List.mem_of_getElem? ex
    have eas : as[i]? = some (enc x) := by rw [ea, List.getElem?_map, ex]; rfl
    obtain ⟨hgo, hy⟩ := wk.go _ H' k'.bare i _ eas
    have tk : (xs.take (i + 1)).flatMap (fun x => (ys x).map (out x)) = (xs.take i).flatMap (fun x => (ys x).map (out x)) ++ (ys x).map (out x) := by
      rw [List.take_add_one, ex, List.flatMap_append]
      simp
    refine .inr ⟨hgo, fun H2 => ((xs.take (i + 1)).flatMap fun x => (ys x).map (out x)).length ≤ 200 * (i + 1) ∧ Ok K (Fz Ω1 H1) (put Ω1 D (((xs.take (i + 1)).flatMap fun x => (ys x).map (out x)).map .dat)) Γ σ H2, fun H2 k2 => ⟨_, by omega, rfl, by omega, k2⟩, fun x' H2 hyx => ?_⟩
    obtain ⟨s2, v2⟩ := hy x' H2 hyx
    have k2 := k'.same s2
    refine hg x' (L2.wipe σ vs) H2 _ _ (fun σ3 H3 l3 a3 q3 => ⟨wipe_agree l3 a3, q3⟩) ?_
    refine hb x _ mx (ext _) _ (L2.wipe σ vs) H2 x' _ (k2.re.wipe vs) v2 fun Γ3 σ3 Ω3 H3 ⟨e3, h3⟩ k3 => ?_
    subst e3
    refine h3 _ σ3 H3 _ k3.re fun bs Ω4 H4 J1 ⟨e4, eb, hin⟩ k4 wk1 => ?_
    subst e4
    generalize hA : (xs.take i).flatMap (fun x => (ys x).map (out x)) = A at *
    refine ⟨fun j kk H5 => kk = bs.length - j ∧ j ≤ bs.length ∧ Ok K (Fz (put Ω1 D (A.map .dat)) H4) (put Ω1 D ((A ++ ((ys x).take j).map (out x)).map .dat)) Γ3 σ3 H5, ⟨_, rfl, Nat.zero_le _, ?_⟩, ?_⟩
    · rw [List.take_zero, List.map_nil, List.append_nil]
      exact k4.re
    rintro j kk H5 ⟨rfl, hj, k5⟩
    have hly := hz1 x mx
    by_cases hlj : j < bs.length
    · have hlj' : j < (ys x).length := by rw [eb, List.length_map] at hlj; exact hlj
      have ey : (ys x)[j]? = some (ys x)[j] := List.getElem?_eq_getElem hlj'
      generalize hyy : (ys x)[j] = y at ey
      have my : y ∈ ys x := List.mem_of_getElem? ey
      have ebs : bs[j]? = some (enc1 y) := by rw [eb, List.getElem?_map, ey]; rfl
      obtain ⟨hgo1, hy1⟩ := wk1.go _ H5 k5.bare j _ ebs
      have tj : ((ys x).take (j + 1)).map (out x) = ((ys x).take j).map (out x) ++ [out x y] := by
        rw [List.take_add_one, ey, List.map_append]
        rfl
      refine .inr ⟨hgo1, fun H6 => Ok K (Fz (put Ω1 D (A.map .dat)) H4) (put Ω1 D ((A ++ ((ys x).take (j + 1)).map (out x)).map .dat)) Γ3 σ3 H6, fun H6 k6 => ⟨_, by omega, rfl, by omega, k6⟩, fun y' H6 hyz => ?_⟩
      obtain ⟨s6, v6⟩ := hy1 y' H6 hyz
      have k6 := k5.same s6
      refine hg1 y' (L2.wipe σ3 vs1) H6 _ _ (fun σ7 H7 l7 a7 q7 => ⟨wipe_agree l7 a7, q7⟩) ?_
      refine hin y _ my (ext _) _ (L2.wipe σ3 vs1) H6 y' _ (k6.re.wipe vs1) v6 fun Γ7 σ7 Ω7 H7 ⟨e7, h7⟩ k7 => ?_
      subst e7
      refine h7 _ σ7 H7 _ k7.re fun z v Ω8 H8 ⟨e8, ez⟩ k8 v8 => ?_
      subst e8 ez
      have k8' : Ok K (Fz (put Ω1 D (A.map .dat)) H4) _ Γ3 σ3 H8 := k6.back ((k8.anchor k7.fr).bare)
      obtain ⟨zs, hz8, g8⟩ := k8.st D _ put_same
      have l8 := g8.length
      rw [List.length_map, List.length_append, List.length_map, List.length_take] at l8
      refine ⟨zs, hz8, sz_lt (by omega), ?_⟩
      have := k8'.put put_same (g8.app (.cons v8 .nil))
      rw [put_put] at this
      rw [tj, ← List.append_assoc, List.map_append]
      exact this
    · have ej : j = (ys x).length := by rw [eb, List.length_map] at hj hlj; omega
      refine .inl ⟨wk1.stop _ H5 k5.bare _ (by rw [eb, List.length_map]; omega), ?_, ?_⟩
      · rw [tk, List.length_append, List.length_map]
        omega
      · rw [tk]
        subst ej
        rw [List.take_length] at k5
        exact k2.back ((k5.anchor (k3.fr.trans k4.fr)).bare)
  · have ei : i = xs.length := by rw [ea, List.length_map] at hi hlt; omega
    subst ei
    refine .inl ⟨wk.stop _ H' k'.bare _ (by rw [ea, List.length_map]; exact Nat.le_refl _), q _ _ _ _ (hp D fD) ?_ (.ptr D)⟩
    rw [List.take_length] at k'
    exact k'.anchor k1.fr
theorem e_lc2M {α β : Type} {wi wi1 : TI} {vs vs1 : List Nat} {P : Av → AH → Prop} (xs : List α) (enc : α → Av) (ys : α → List β) (enc1 : β → Av) (out : α → β → PyData) (hg : GN g vs) (hg1 : GN g1 vs1) (hz : xs.length ≤ 200) (hz1 : ∀ x ∈ xs, (ys x).length ≤ 200)
    (h : IW K wi Γ Ω fun as Ω1 => as = xs.map enc ∧ (∀ x Ω', x ∈ xs → (∀ q bs, Ω1 q = some bs → Ω' q = some bs) → GW K g (enc x) (wipeA Γ vs) Ω' fun Γ2 Ω2 => Ω2 = Ω' ∧ IW K wi1 Γ2 Ω2 fun bs Ω3 => Ω3 = Ω' ∧ bs = (ys x).map enc1 ∧
        ∀ y Ω4, y ∈ ys x → (∀ q bs, Ω1 q = some bs → Ω4 q = some bs) → GW K g1 (enc1 y) (wipeA Γ2 vs1) Ω4 fun Γ5 Ω5 => Ω5 = Ω4 ∧ EW K te Γ5 Ω5 fun z Ω6 => Ω6 = Ω4 ∧ z = .dat (out x y)) ∧
      P (.dat (.list (xs.flatMap fun x => (ys x).map (out x)))) Ω1) : EW K (tLc2 wi g tYes wi1 g1 tYes te vs vs1) Γ Ω P := by
  refine EW.frz (e_lc2P xs enc ys enc1 out hg hg1 hz hz1 fun F σ H R k q => h F σ H R k fun as Ω1 H1 J ⟨ea, hb, hp⟩ k1 wk => q as Ω1 H1 J ⟨ea, hb, fun D nD => ⟨D, _, rfl, put_same, ?_⟩⟩ k1 wk)
  rw [del_put nD]
  exact hp
/-! comparisons with a list that may change -/
variable {p : Addr} {ds : List PyData} {e : PyData} {P : Av → AH → Prop}
theorem Ok.listAt {F H : Hp} (k : Ok K F Ω [] [] H) (o : Ω p = some (ds.map .dat)) : Dq K H (.ref p) (.list ds) := by
  obtain ⟨xs, h1, h2⟩ := k.st p _ o
  exact .lst h1 (h2.dats.same Fz_le)
theorem r_eqP (o : Ω p = some (ds.map .dat)) (s1 : SeqAt.shaped (.list ds) = true) (s2 : SeqAt.shaped e = true) (h : P (.dat (.bool (PyData.eqv (.list ds) e))) Ω) : R2W K (rEqD K) (.ptr p) (.dat e) Ω P := fun F H x y Q k hx hy q => by
  cases hx
  cases hy with | dat hy =>
    exact ⟨_, e, (k.listAt o).dp (shaped_lay s1), (hy.same Fz_le).dp (shaped_lay s2), s1, s2, q _ _ _ _ h k (.dat (.bl _))⟩
theorem r_neP (o : Ω p = some (ds.map .dat)) (s1 : SeqAt.shaped (.list ds) = true) (s2 : SeqAt.shaped e = true) (h : P (.dat (.bool (!PyData.eqv (.list ds) e))) Ω) : R2W K (rNeD K) (.ptr p) (.dat e) Ω P := fun F H x y Q k hx hy q => by
  cases hx
  cases hy with | dat hy =>
    exact ⟨_, e, (k.listAt o).dp (shaped_lay s1), (hy.same Fz_le).dp (shaped_lay s2), s1, s2, q _ _ _ _ h k (.dat (.bl _))⟩
end
end Dat

set_option Elab.async false
set_option linter.all false
set_option maxRecDepth 100000
set_option maxHeartbeats 1000000
namespace Dat
open PySem PySem.Spec PyProof.Rows L2
/-! ### a list beside the empty one -/
def rEqNil (K : PySem.W.Frag) : R2 := fun x y H Q => ∃ a b xs, x = .ref a ∧ y = .ref b ∧ SqL K H a xs ∧ SqL K H b [] ∧ Q (.bl xs.isEmpty) H
theorem op_eqNil {X : Cx} (hu : X.A.units + 64 < cLine) : OpR X (compareOp .Eq) (rEqNil X.K) := by
  intro pins s σ H x y v u Q I rx ry h
  obtain ⟨a, b, xs, rfl, rfl, h1, h2, q⟩ := h
  cases rx
  cases ry
  obtain ⟨its, r1, p1, _⟩ := I.list h1
  obtain ⟨jts, r2, p2, _⟩ := I.list h2
  cases r2
  cases r1 with
  | nil => exact SeqAt.eq_listAt (e := fun _ => true) p1.isList p2.isList rfl (by omega) (fun j h1 _ => by simp at h1) ⟨.bl _, H, I, rfl, q⟩
  | cons _ _ => exact SeqAt.eq_list_lengthsAt p1.isList p2.isList (by simp) (by omega) ⟨.bl _, H, I, rfl, q⟩
theorem eqNilQ {X : Cx} {K : PySem.W.Frag} (hK : X.K = K) (hu : X.A.units + 64 < cLine) : OpR X (compareOp .Eq) (rEqNil K) := by subst hK; exact op_eqNil hu
section
variable {K : PySem.W.Frag} {F : Hp} {Γ : List (Option Av)} {Ω : AH} {P : Av → AH → Prop} {ta tb te : TE} {g : TG} {gs : TGs} {a : Av} {as : List Av} {ds : List PyData}
theorem r_eqNil (h : P (.dat (.bool ds.isEmpty)) Ω) : R2W K (rEqNil K) (.dat (.list ds)) (.dat (.list [])) Ω P := fun F H x y Q k hx hy q => by
  cases hx with | dat hx => cases hy with | dat hy => cases hx with | lst h1 g1 => cases hy with | lst h2 g2 =>
    cases g2
    refine ⟨_, _, _, rfl, rfl, SqL.of (Fz_le _ _ h1), SqL.of (Fz_le _ _ h2), ?_⟩
    have e : ∀ {vs : List V}, DqAll K (Fz Ω H) vs ds → vs.isEmpty = ds.isEmpty := fun g => by cases g <;> rfl
    rw [e g1]
    exact q _ _ _ _ h k (.dat (.bl _))
/-- {} -/
theorem e_dnew (h : P (.dat (.dict [])) Ω) : EW K tDNewK Γ Ω P := fun F σ H Q k q p np =>
  q _ _ _ _ h (k.same (same_new np)) (.dat (.dct (Fz_at (k.free np))))
/-- a list's place as a target -/
theorem g_sub {P : List (Option Av) → AH → Prop} (h : EW K ta Γ Ω fun o Ω2 => ∃ p, o = .ptr p ∧ EW K tb Γ Ω2 fun c Ω3 => ∃ (z : Int) (as : List Av) (j : Nat), c = .dat (.int z) ∧ Ω3 p = some as ∧ ixN as.length z = some j ∧ P Γ (put Ω3 p (as.set j a))) : GW K (gSub ta tb rSetL) a Γ Ω P := fun F σ H v Q k1 v1 q => by
  refine h (Fz Ω H) σ H _ k1.re fun o x Ω2 H2 ⟨p, eo, h2⟩ k2 v2 => ?_
  subst eo
  cases v2
  refine h2 (Fz Ω2 H2) σ H2 _ k2.re fun c y Ω3 H3 ⟨z, as, jj, ec, ep, ej, hn⟩ k3 v3 => ?_
  subst ec
  cases v3 with | dat v3 =>
    cases v3
    obtain ⟨xs, hx, g⟩ := k3.st p as ep
    refine ⟨p, xs, z, jj, rfl, rfl, hx, ?_, q _ _ _ _ hn ((k3.anchor (k1.fr.trans k2.fr)).put ep (g.set jj ((v1.same k2.fr).same k3.fr)))⟩
    rw [g.length]
    exact ej
theorem gs_consO {P : List (Option Av) → AH → Prop} (h : GW K g a Γ Ω fun Γ1 Ω1 => GsW K gs as Γ1 Ω1 P) : GsW K (gCons g gs) (a :: as) Γ Ω P := fun F σ H vs Q k hv q => by
  cases hv with | cons hv hr =>
    exact ⟨_, _, rfl, h (Fz Ω H) σ H _ _ k.re hv fun Γ1 σ1 Ω1 H1 h1 k1 => h1 F σ1 H1 _ Q (k1.anchor k.fr) (hr.same k1.fr) q⟩
/-- (x,) * n, n at least 2 -/
theorem dqAll_flat' {H : Hp} {xs : List V} (g : DqAll K H xs ds) : ∀ n : Nat, DqAll K H (List.replicate n xs).flatten (List.replicate n ds).flatten
  | 0 => .nil
  | n + 1 => by
    rw [List.replicate_succ, List.replicate_succ, List.flatten_cons, List.flatten_cons]
    exact g.app (dqAll_flat' g n)
theorem r_repT {k : Int} (ne : ds ≠ []) (h1 : 2 ≤ k) (h2 : k ≤ 1000) (hl : ds.length ≤ 1000) (h : P (.dat (.tuple (List.replicate k.toNat ds).flatten)) Ω) : R2W K (rRepT K) (.dat (.tuple ds)) (.dat (.int k)) Ω P := fun F H x y Q kk hx hy q => by
  cases hx with | dat hx => cases hy with | dat hy =>
    cases hy
    cases hx with | tup hs g =>
      have l := g.length
      refine ⟨_, k, _, rfl, rfl, sqT_same Fz_le hs, fun e => ?_, h1, h2, by omega, fun p np => q _ _ _ _ h (kk.same (same_new np)) (.dat (tup_new kk np (dqAll_flat' g _)))⟩
      subst e
      cases g
      exact ne rfl
theorem repTQ {X : Cx} (hK : X.K = K) : OpR X (binaryOp .Mult) (rRepT K) := by subst hK; exact op_repT
end
theorem dats_pack {as : List Av} {ds : List PyData} {Q : List PyData → Prop} (h1 : Dats as ds) (h2 : Nat.ble ds.length 100000 = true) (h3 : Q ds) : ∃ ds, Dats as ds ∧ Nat.ble ds.length 100000 = true ∧ Q ds := ⟨ds, h1, h2, h3⟩
theorem cutD_mem {α : Type} {xs : List α} {lo hi : Option Int} {x : α} (h : x ∈ cutD xs lo hi) : x ∈ xs := List.mem_of_mem_drop (List.mem_of_mem_take h)
theorem cutD_len {α : Type} {xs : List α} {lo hi : Option Int} : (cutD xs lo hi).length ≤ xs.length := by
  unfold cutD
  rw [List.length_take, List.length_drop]
  omega
end Dat

set_option Elab.async false
set_option linter.all false
set_option maxRecDepth 100000
set_option maxHeartbeats 1000000
/-! nested data of small integers: shown within bounds -/
namespace Shw
open PySem PySem.Spec PyProof.Rows L2
structure Sh (d : PyData) (k w : Nat) : Prop where
  s : d.showable = true
  n : d.hasDict = false
  k : d.depth ≤ k
  l : d.leavesShort 13 = true
  w : d.weight ≤ w
theorem Sh.mono {d : PyData} {k w k' w' : Nat} (h : Sh d k w) (hk : k ≤ k') (hw : w ≤ w') : Sh d k' w' := ⟨h.s, h.n, Nat.le_trans h.k hk, h.l, Nat.le_trans h.w hw⟩
theorem log_lt {n k : Nat} (h : n < 2 ^ k) : n = 0 ∨ n.log2 < k := by
  by_cases z : n = 0
  · exact .inl z
  · exact .inr ((Nat.log2_lt z).mpr h)
theorem Sh.int {i : Int} (h : i.natAbs < 10 ^ 12) : Sh (.int i) 0 40 := by
  have e : (10 : Nat) ^ 12 < 2 ^ 40 := by decide
  have hl := log_lt (k := 40) (Nat.lt_trans h e)
  refine ⟨?_, by simp [PyData.hasDict], by simp [PyData.depth], ?_, ?_⟩
  · show decide (i.natAbs.log2 < 1920) = true
    refine decide_eq_true ?_
    rcases hl with z | z
    · rw [z]
      decide
    · omega
  · simp only [PyData.leavesShort, decide_eq_true_eq]
    exact PyData.shown_int_le h
  · simp only [PyData.weight]
    split
    · omega
    · rcases hl with z | z
      · rw [z]
        decide
      · omega
theorem sh_all {k w : Nat} : ∀ {ds : List PyData}, (∀ d ∈ ds, Sh d k w) → PyData.showableAll ds = true ∧ PyData.hasDictAll ds = false ∧ PyData.depthAll ds ≤ k ∧ PyData.leavesShortAll 13 ds = true ∧ PyData.weightAll ds ≤ ds.length * (w + 1)
  | [], _ => ⟨by simp [PyData.showableAll], by simp [PyData.hasDictAll], by simp [PyData.depthAll], by simp [PyData.leavesShortAll], by simp [PyData.weightAll]⟩
  | d :: r, h => by
    obtain ⟨a, b, c, e, f⟩ := sh_all (ds := r) fun y m => h y (List.mem_cons_of_mem _ m)
    have g := h d List.mem_cons_self
    refine ⟨by simp [PyData.showableAll, g.s, a], by simp [PyData.hasDictAll, g.n, b], ?_, by simp [PyData.leavesShortAll, g.l, e], ?_⟩
    · simp only [PyData.depthAll]
      exact Nat.max_le.mpr ⟨g.k, c⟩
    · simp only [PyData.weightAll, List.length_cons]
      have := g.w
      have e2 : (r.length + 1) * (w + 1) = r.length * (w + 1) + (w + 1) := Nat.succ_mul _ _
      omega
theorem Sh.tup {ds : List PyData} {k w n : Nat} (h : ∀ d ∈ ds, Sh d k w) (hn : ds.length ≤ n) : Sh (.tuple ds) (k + 1) (n * (w + 1)) := by
  obtain ⟨a, b, c, e, f⟩ := sh_all h
  have m := Nat.mul_le_mul_right (w + 1) hn
  exact ⟨by simp only [PyData.showable, a], by simp only [PyData.hasDict, b], by simp only [PyData.depth]; omega, by simp only [PyData.leavesShort, e], by simp only [PyData.weight]; omega⟩
theorem Sh.lst {ds : List PyData} {k w n : Nat} (h : ∀ d ∈ ds, Sh d k w) (hn : ds.length ≤ n) : Sh (.list ds) (k + 1) (n * (w + 1)) := by
  obtain ⟨a, b, c, e, f⟩ := sh_all h
  have m := Nat.mul_le_mul_right (w + 1) hn
  exact ⟨by simp only [PyData.showable, a], by simp only [PyData.hasDict, b], by simp only [PyData.depth]; omega, by simp only [PyData.leavesShort, e], by simp only [PyData.weight]; omega⟩
theorem Sh.fits {d : PyData} {k w : Nat} (h : Sh d k w) (hw : w ≤ 2 ^ 20) : d.shown.length ≤ sizeLine := PyData.shown_fits (B := 13) (by decide) (by decide) h.l (Nat.le_trans h.w hw)
end Shw

set_option Elab.async false
set_option linter.all false
set_option maxRecDepth 100000
set_option maxHeartbeats 1000000
namespace Dat
open PySem PySem.Spec PyProof.Rows L2
section
variable {K : PySem.W.Frag} {Γ : List (Option Av)} {Ω : AH} {P : Av → AH → Prop} {ds es : List PyData} {p p2 : Addr} {tl tk : TA} {sp : ASp} {X : XK}
/-- two lists that stay, the sum one that may change -/
theorem r_catLLP (hl : ds.length + es.length ≤ 100000) (h : ∀ q, Ω q = none → P (.ptr q) (put Ω q ((ds ++ es).map .dat))) : R2W K rCat (.dat (.list ds)) (.dat (.list es)) Ω P := fun F H x y Q k hx hy q => by
  cases hx with | dat hx => cases hy with | dat hy => cases hx with | lst h1 g1 => cases hy with | lst h2 g2 =>
    have l1 := g1.length
    have l2 := g2.length
    exact ⟨_, _, _, _, rfl, rfl, Fz_le _ _ h1, Fz_le _ _ h2, sz_of (by omega), fun z nz => q _ _ _ _ (h z (k.free nz)) (k.new nz (.ofDats (g1.app g2))) (.ptr z)⟩
/-- two lists that may change, the sum one that stays -/
theorem r_catPPd (o1 : Ω p = some (ds.map .dat)) (o2 : Ω p2 = some (es.map .dat)) (hl : ds.length + es.length ≤ 100000) (h : P (.dat (.list (ds ++ es))) Ω) : R2W K rCat (.ptr p) (.ptr p2) Ω P := fun F H x y Q k hx hy q => by
  cases hx
  cases hy
  obtain ⟨xs, h1, g1⟩ := k.st p _ o1
  obtain ⟨ys, h2, g2⟩ := k.st p2 _ o2
  have l1 := g1.dats.length
  have l2 := g2.dats.length
  exact ⟨_, _, _, _, rfl, rfl, h1, h2, sz_of (by omega), fun z nz => q _ _ _ _ h (k.same (same_new nz)) (.dat (lst_new k nz (g1.dats.app g2.dats)))⟩
/-- a call with keywords alone -/
theorem e_callK {π : List Nat} {m : Nat} (h : AW K tk Γ Ω fun bs Ω2 => bs.length = m ∧ sp (kwA π bs) Ω2 P) : EW K (tCallN 0 m (spA K sp) (fun _ zs => kwV π zs) X tNil tk) Γ Ω P :=
  e_callN (n := 0) (m := m) (fun _ bs => kwA π bs) (fun F as bs vs us _ h => kw_va h π) (a_nil (fun F σ H Q k q => h F σ H Q k fun bs vs Ω1 H1 ⟨e, hs⟩ => q bs vs Ω1 H1 ⟨rfl, e, hs⟩))
end
end Dat

set_option Elab.async false
set_option linter.all false
set_option maxRecDepth 100000
set_option maxHeartbeats 2000000
/-! the end of a law that shows data as texts and has no code table -/
namespace Grd
open PySem PySem.Spec PyProof.Rows L2
theorem law_callG0 {P : Program} {w : World} {K : PySem.W.Frag} {mg mb : Str → Option Value} {k : Nat} {fa a : Addr} {fd : FuncData} {x : Str} {sp : Sp} {s₁ : Shared} {vs : List Value} {ns : List Int}
    (KX : K.In s₁.heap) (hns : s₁.heap.Ns mainGlobals mg) (hb : s₁.heap.Ns builtinsNs mb) (hbb : ∀ x : Str, x ≠ "__name__" → mb x = bootBuiltins x) (hlim : s₁.heap.NoLimit) (hg : s₁.gens = #[])
    (ha : s₁.heap.get? a = some { cls := .type "list", data := .seq vs.toArray }) (hi : IntsAre vs ns) (hl : ns.length ≤ sizeLine) (hr : Room k callerA)
    (F : ∀ base : Heap, K.In base → base.Ns mainGlobals mg → FnG P w K mg base CX0 k fa fd [x] sp) (hbind : ∀ (s : Shared) (u : Value), BindsTo s fd ⟨[u], []⟩ [(x, u)])
    (hsp : ∀ H : Hp, SqL K H a (ns.map V.int) → sp [.ref a] H (fun v _ => v = .bl true) fun _ _ _ => False) :
    codeAny (model P w) callerA (.call (.ref fa) ⟨[.ref a], []⟩) (fun r s' => r = .ok (.ret (.bool true)) ∧ OldK s₁.heap s'.heap ∧ s'.os = s₁.os ∧ AllBare s'.gens) s₁ := by
  have rv := vals_ints hi
  have lenV := hi.length
  obtain ⟨scr, hscr⟩ : ∃ scr : Option HO, scr = (match K.lookup a with | some _ => none | none => some (HO.frz { cls := .type "list", data := .seq vs.toArray } (.lst (ns.map V.int)))) := ⟨_, rfl⟩
  obtain ⟨H, hH⟩ : ∃ H : Hp, H = fun b => if b = a then scr else none := ⟨_, rfl⟩
  have Ha : H a = scr := by
    rw [hH]
    exact if_pos rfl
  have Hn : ∀ b, b ≠ a → H b = none := fun b h2 => by
    rw [hH]
    exact if_neg h2
  have scrC : scr = none ∨ scr = some (HO.frz { cls := .type "list", data := .seq vs.toArray } (.lst (ns.map V.int))) := by
    rw [hscr]
    cases K.lookup a with
    | some o => exact .inl rfl
    | none => exact .inr rfl
  have free : ∀ {b : Addr} {o : Obj}, s₁.heap.get? b = some o → (∀ v n, o.data ≠ .seq v n) → H b = none := fun {b o} e h1 => by
    refine Hn b fun z => ?_
    rw [z, ha] at e
    cases e
    exact h1 _ _ rfl
  have freeD : ∀ {b : Addr} {o : Obj} {es : Array DictEntry} {n : Nat}, s₁.heap.get? b = some o → o.data = .dict es n → H b = none := fun {b o es n} e d =>
    free e (fun v m z => by rw [d] at z; cases z)
  have ns_ : ∀ {b : Addr} {m : Str → Option Value}, s₁.heap.Ns b m → (hidT s₁.heap H).Ns b m := fun {b m} h => by
    obtain ⟨o, es, ep, e, d, r⟩ := h
    exact ⟨o, es, ep, hidT_get e (freeD e d), d, r⟩
  have kb : K.In (hidT s₁.heap H) := fun b o e => by
    refine hidT_get (KX b o e) ?_
    by_cases h2 : b = a
    · rw [h2, Ha, hscr]
      rw [h2] at e
      rw [e]
    · exact Hn b h2
  have hok : HOk P w H s₁.heap := fun b u e => by
    by_cases h2 : b = a
    · rw [h2, Ha] at e
      rcases scrC with z | z
      · rw [z] at e
        cases e
      · rw [z] at e
        cases e
        rw [h2]
        exact ⟨ha, by rw [List.length_map]; exact hl, vs, _, rv, ha⟩
    · rw [Hn b h2] at e
      cases e
  have md : L2.Mod K mg (hidT s₁.heap H) := by
    obtain ⟨mc, h1, h2⟩ := hlim
    exact ⟨kb, ns_ hns, ⟨mb, ns_ hb, hbb⟩, mc, ns_ h1, h2⟩
  have e0 : Env0 P w K mg (hidT s₁.heap H) callerA [] s₁ H := by
    refine ⟨rfl, md, fun b o e => of_hidT e, Nat.le_of_eq (hidT_size _ _), trivial, fun b hb => ?_, hok, .of_eq hg⟩
    cases (show b ∈ ([] : List Addr) from hb)
  have sq : SqL K H a (ns.map V.int) := by
    cases hk : K.lookup a with
    | some o =>
      have e := KX a o hk
      rw [ha] at e
      cases e
      exact .inr ⟨_, vs.toArray, _, hk, rfl, rfl, rfl, by rw [List.size_toArray, lenV]; exact hl, by simpa using rv⟩
    | none =>
      refine .inl (.inr ⟨{ cls := .type "list", data := .seq vs.toArray }, ?_⟩)
      rw [Ha, hscr, hk]
  refine codeAny_mono ((F _ kb (ns_ hns)).run callerA [] s₁ H ⟨[.ref a], []⟩ [.ref a] [.ref a] _ _ hr rfl e0 (hbind s₁ (.ref a)) (.cons rfl .nil) (hsp H sq)) fun r s' h => ?_
  cases r with
  | error e => exact (show False from h).elim
  | ok fl =>
    cases fl with
    | next => exact (show False from h).elim
    | brk => exact (show False from h).elim
    | cont => exact (show False from h).elim
    | ret u =>
      obtain ⟨v, H', os, bare, un, hok', r', q⟩ := h
      cases (show v = .bl true from q)
      cases (show u = Value.bool true from r')
      have key : ∀ b o, s₁.heap.get? b = some o → s'.heap.get? b = some o := fun b o e => by
        by_cases h2 : b = a
        · rcases scrC with z | z
          · exact un.keep b o e (by rw [h2, Ha, z]) (fun q => by cases (show b ∈ ([] : List Addr) from q)) (fun q => by cases q)
          · have z1 : H b = some (HO.frz { cls := .type "list", data := .seq vs.toArray } (.lst (ns.map V.int))) := by rw [h2, Ha, z]
            obtain ⟨e1, _⟩ := hok b _ z1
            obtain ⟨e2, _⟩ := hok' b _ (un.frzs b _ _ z1)
            rw [e] at e1
            cases e1
            exact e2
        · exact un.keep b o e (Hn b h2) (fun q => by cases (show b ∈ ([] : List Addr) from q)) (fun q => by cases q)
      exact ⟨rfl, ⟨fun b o e => .inl (key b o e), fun b o e => ⟨o, key b o e⟩⟩, os, bare⟩
/-- the end of a law's row, no table -/
theorem walk_ofG0 {l : PySem.W.OpenLaw} {n k : Nat} {q : Program} {loose : List Str} {XP : (Str → Option Value) → Heap → Prop} {YP : World → Heap → Prop} {d : DefRec} {K : Params → PySem.W.Frag} {x : Str}
    (hn : l.most = some n) (hn2 : n ≤ sizeLine) (hdf : d.params.defaults = []) (hr : Room k callerA) (hY : ∀ (w : World) (h : Heap), YP w h → (K w.params).In h)
    (F : ∀ (w : World) (mg : Str → Option Value) (fa : Addr) (h : Heap), (K w.params).In h → h.Ns mainGlobals mg → mg d.name = some (.ref fa) →
      ∃ (fd : FuncData) (sp : Sp), (∀ (s : Shared) (u : Value), BindsTo s fd ⟨[u], []⟩ [(x, u)]) ∧
        (∀ (H : Hp) (a : Addr) (ns : List Int), ns.length ≤ n → SqL (K w.params) H a (ns.map V.int) → sp [.ref a] H (fun v _ => v = .bl true) fun _ _ _ => False) ∧
        ∀ base : Heap, (K w.params).In base → base.Ns mainGlobals mg → FnG l.prog w (K w.params) mg base CX0 k fa fd [x] sp) :
    PySem.W.WalkO q loose XP YP l.row.toRowW d [] (fun f vs => PySem.call f vs) := by
  refine Att.attach_callB hn hdf fun w s₀ s₁ mg mb fa o pm cd doc a vs ns G Y ho hd hcd hmg hobj hints hlen hbits hg => ?_
  have KX := hY w _ Y
  obtain ⟨fd, sp, hb, hsp, hF⟩ := F w mg fa _ KX G.T.g hmg
  exact law_callG0 KX G.T.g G.T.b G.T.builtins G.T.nolimit hg hobj hints (Nat.le_trans hlen hn2) hr hF hb fun H hS => hsp H a ns hlen hS
end Grd

set_option Elab.async false
set_option linter.all false
set_option maxRecDepth 100000
set_option maxHeartbeats 4000000
namespace K19
open PySem PySem.Spec PyProof.Rows L2 Dat
def topS (i : Nat) : Stmt := PySem.Challenge.pw_parlourday_k19_setups_and_seat_rules_jud.main.body.getD i (.Pass ⟨0, 0, 0, 0⟩)
abbrev s_is_whole : Stmt := topS 4
abbrev N_is_whole : List Str := ["thing"]
theorem sc_is_whole : FnScope ["thing"] ["thing"] (defScope s_is_whole) := ⟨rfl, rfl, rfl, by decide +kernel, rfl, by decide +kernel, by decide +kernel⟩
abbrev s_is_whole_in : Stmt := topS 5
abbrev N_is_whole_in : List Str := ["thing", "low", "high"]
theorem sc_is_whole_in : FnScope ["thing", "low", "high"] ["thing", "low", "high"] (defScope s_is_whole_in) := ⟨rfl, rfl, rfl, by decide +kernel, rfl, by decide +kernel, by decide +kernel⟩
abbrev s_is_pair : Stmt := topS 6
abbrev N_is_pair : List Str := ["thing"]
theorem sc_is_pair : FnScope ["thing"] ["thing"] (defScope s_is_pair) := ⟨rfl, rfl, rfl, by decide +kernel, rfl, by decide +kernel, by decide +kernel⟩
abbrev s_is_setup : Stmt := topS 14
abbrev N_is_setup : List Str := ["thing", "seats", "sizes", "rooms", "comers", "kinds", "life", "prices", "price"]
theorem sc_is_setup : FnScope ["thing", "seats", "sizes", "rooms", "comers", "kinds", "life", "prices", "price"] ["thing"] (defScope s_is_setup) := ⟨rfl, rfl, rfl, by decide +kernel, rfl, by decide +kernel, by decide +kernel⟩
abbrev s_is_choice : Stmt := topS 15
abbrev N_is_choice : List Str := ["thing", "most", "part"]
theorem sc_is_choice : FnScope ["thing", "most", "part"] ["thing", "most"] (defScope s_is_choice) := ⟨rfl, rfl, rfl, by decide +kernel, rfl, by decide +kernel, by decide +kernel⟩
abbrev s_check_setup : Stmt := topS 16
abbrev N_check_setup : List Str := ["thing"]
theorem sc_check_setup : FnScope ["thing"] ["thing"] (defScope s_check_setup) := ⟨rfl, rfl, rfl, by decide +kernel, rfl, by decide +kernel, by decide +kernel⟩
abbrev s_all_comers : Stmt := topS 17
abbrev N_all_comers : List Str := ["setup"]
theorem sc_all_comers : FnScope ["setup"] ["setup"] (defScope s_all_comers) := ⟨rfl, rfl, rfl, by decide +kernel, rfl, by decide +kernel, by decide +kernel⟩
abbrev s_comers_of : Stmt := topS 18
abbrev N_comers_of : List Str := ["setup", "groups", "size", "coming", "singles"]
theorem sc_comers_of : FnScope ["setup", "groups", "size", "coming", "singles"] ["setup"] (defScope s_comers_of) := ⟨rfl, rfl, rfl, by decide +kernel, rfl, by decide +kernel, by decide +kernel⟩
abbrev s_is_half : Stmt := topS 19
abbrev N_is_half : List Str := ["thing", "deeds", "row"]
theorem sc_is_half : FnScope ["thing", "deeds", "row"] ["thing", "deeds"] (defScope s_is_half) := ⟨rfl, rfl, rfl, by decide +kernel, rfl, by decide +kernel, by decide +kernel⟩
abbrev s_is_rule_row : Stmt := topS 20
abbrev N_is_rule_row : List Str := ["thing", "deeds", "part"]
theorem sc_is_rule_row : FnScope ["thing", "deeds", "part"] ["thing", "deeds"] (defScope s_is_rule_row) := ⟨rfl, rfl, rfl, by decide +kernel, rfl, by decide +kernel, by decide +kernel⟩
abbrev s_is_span : Stmt := topS 21
abbrev N_is_span : List Str := ["thing"]
theorem sc_is_span : FnScope ["thing"] ["thing"] (defScope s_is_span) := ⟨rfl, rfl, rfl, by decide +kernel, rfl, by decide +kernel, by decide +kernel⟩
abbrev s_is_seats : Stmt := topS 22
abbrev N_is_seats : List Str := ["thing"]
theorem sc_is_seats : FnScope ["thing"] ["thing"] (defScope s_is_seats) := ⟨rfl, rfl, rfl, by decide +kernel, rfl, by decide +kernel, by decide +kernel⟩
abbrev s__law_deck : Stmt := topS 24
abbrev N__law_deck : List Str := ["_law_script", "_law_at", "_law_cell"]
theorem sc__law_deck : FnScope ["_law_script", "_law_at", "_law_cell"] ["_law_script", "_law_at"] (defScope s__law_deck) := ⟨rfl, rfl, rfl, by decide +kernel, rfl, by decide +kernel, by decide +kernel⟩
abbrev s__law_draw : Stmt := topS 25
abbrev N__law_draw : List Str := ["_law_deck_here", "_law_many", "_law_drawn", "_law_mixed"]
theorem sc__law_draw : FnScope ["_law_deck_here", "_law_many", "_law_drawn", "_law_mixed"] ["_law_deck_here", "_law_many"] (defScope s__law_draw) := ⟨rfl, rfl, rfl, by decide +kernel, rfl, by decide +kernel, by decide +kernel⟩
abbrev s__law_setup : Stmt := topS 26
abbrev N__law_setup : List Str := ["_law_deck_here", "_law_small", "_law_seats_here", "_law_sizes", "_law_rooms", "_law_comers_here", "_law_kinds", "_law_prices", "_law_k"]
theorem sc__law_setup : FnScope ["_law_deck_here", "_law_small", "_law_seats_here", "_law_sizes", "_law_rooms", "_law_comers_here", "_law_kinds", "_law_prices", "_law_k"] ["_law_deck_here", "_law_small"] (defScope s__law_setup) := ⟨rfl, rfl, rfl, by decide +kernel, rfl, by decide +kernel, by decide +kernel⟩
abbrev s__law_range : Stmt := topS 27
abbrev N__law_range : List Str := ["_law_deck_here", "_law_most", "_law_one", "_law_other"]
theorem sc__law_range : FnScope ["_law_deck_here", "_law_most", "_law_one", "_law_other"] ["_law_deck_here", "_law_most"] (defScope s__law_range) := ⟨rfl, rfl, rfl, by decide +kernel, rfl, by decide +kernel, by decide +kernel⟩
abbrev s__law_seats : Stmt := topS 28
abbrev N__law_seats : List Str := ["_law_deck_here", "_law_moods", "_law_deaf", "_law_found", "_law_turn", "_law_deed", "_law_ranges"]
theorem sc__law_seats : FnScope ["_law_deck_here", "_law_moods", "_law_deaf", "_law_found", "_law_turn", "_law_deed", "_law_ranges"] ["_law_deck_here", "_law_moods", "_law_deaf"] (defScope s__law_seats) := ⟨rfl, rfl, rfl, by decide +kernel, rfl, by decide +kernel, by decide +kernel⟩
abbrev s__law_comers : Stmt := topS 30
abbrev N__law_comers : List Str := ["_law_shop", "_law_groups", "_law_size", "_law_found", "_law_some", "_law_singles"]
theorem sc__law_comers : FnScope ["_law_shop", "_law_groups", "_law_size", "_law_found", "_law_some", "_law_singles"] ["_law_shop"] (defScope s__law_comers) := ⟨rfl, rfl, rfl, by decide +kernel, rfl, by decide +kernel, by decide +kernel⟩
abbrev s__law_is_number : Stmt := topS 31
abbrev N__law_is_number : List Str := ["_law_item", "_law_low", "_law_high"]
theorem sc__law_is_number : FnScope ["_law_item", "_law_low", "_law_high"] ["_law_item", "_law_low", "_law_high"] (defScope s__law_is_number) := ⟨rfl, rfl, rfl, by decide +kernel, rfl, by decide +kernel, by decide +kernel⟩
abbrev s__law_are : Stmt := topS 32
abbrev N__law_are : List Str := ["_law_item", "_law_lows", "_law_highs", "_law_k"]
theorem sc__law_are : FnScope ["_law_item", "_law_lows", "_law_highs", "_law_k"] ["_law_item", "_law_lows", "_law_highs"] (defScope s__law_are) := ⟨rfl, rfl, rfl, by decide +kernel, rfl, by decide +kernel, by decide +kernel⟩
abbrev s__law_choice : Stmt := topS 33
abbrev N__law_choice : List Str := ["_law_item", "_law_most"]
theorem sc__law_choice : FnScope ["_law_item", "_law_most"] ["_law_item", "_law_most"] (defScope s__law_choice) := ⟨rfl, rfl, rfl, by decide +kernel, rfl, by decide +kernel, by decide +kernel⟩
abbrev s__law_due_setup : Stmt := topS 34
abbrev N__law_due_setup : List Str := ["_law_item"]
theorem sc__law_due_setup : FnScope ["_law_item"] ["_law_item"] (defScope s__law_due_setup) := ⟨rfl, rfl, rfl, by decide +kernel, rfl, by decide +kernel, by decide +kernel⟩
abbrev s__law_due_row : Stmt := topS 35
abbrev N__law_due_row : List Str := ["_law_item", "_law_k"]
theorem sc__law_due_row : FnScope ["_law_item", "_law_k"] ["_law_item"] (defScope s__law_due_row) := ⟨rfl, rfl, rfl, by decide +kernel, rfl, by decide +kernel, by decide +kernel⟩
abbrev s__law_due_seats : Stmt := topS 36
abbrev N__law_due_seats : List Str := ["_law_item", "_law_row_here"]
theorem sc__law_due_seats : FnScope ["_law_item", "_law_row_here"] ["_law_item"] (defScope s__law_due_seats) := ⟨rfl, rfl, rfl, by decide +kernel, rfl, by decide +kernel, by decide +kernel⟩
abbrev s__law_odd : Stmt := topS 37
abbrev N__law_odd : List Str := ["_law_deck_here", "_law_some"]
theorem sc__law_odd : FnScope ["_law_deck_here", "_law_some"] ["_law_deck_here"] (defScope s__law_odd) := ⟨rfl, rfl, rfl, by decide +kernel, rfl, by decide +kernel, by decide +kernel⟩
abbrev s__law_bent : Stmt := topS 38
abbrev N__law_bent : List Str := ["_law_deck_here", "_law_item", "_law_way", "_law_place", "_law_other", "_law_parts"]
theorem sc__law_bent : FnScope ["_law_deck_here", "_law_item", "_law_way", "_law_place", "_law_other", "_law_parts"] ["_law_deck_here", "_law_item"] (defScope s__law_bent) := ⟨rfl, rfl, rfl, by decide +kernel, rfl, by decide +kernel, by decide +kernel⟩
abbrev s__law_says : Stmt := topS 39
abbrev N__law_says : List Str := ["_law_found", "_law_due"]
theorem sc__law_says : FnScope ["_law_found", "_law_due"] ["_law_found", "_law_due"] (defScope s__law_says) := ⟨rfl, rfl, rfl, by decide +kernel, rfl, by decide +kernel, by decide +kernel⟩
abbrev s__law_right : Stmt := topS 40
abbrev N__law_right : List Str := ["_law_deck_here", "_law_shop", "_law_seats_here", "_law_edge", "_law_rules", "_law_setups", "_law_turn", "_law_item", "_law_kept", "_law_found"]
theorem sc__law_right : FnScope ["_law_deck_here", "_law_shop", "_law_seats_here", "_law_edge", "_law_rules", "_law_setups", "_law_turn", "_law_item", "_law_kept", "_law_found"] ["_law_deck_here"] (defScope s__law_right) := ⟨rfl, rfl, rfl, by decide +kernel, rfl, by decide +kernel, by decide +kernel⟩
abbrev s_law : Stmt := topS 41
abbrev N_law : List Str := ["_law_script", "_law_k"]
theorem sc_law : FnScope ["_law_script", "_law_k"] ["_law_script"] (defScope s_law) := ⟨rfl, rfl, rfl, by decide +kernel, rfl, by decide +kernel, by decide +kernel⟩
structure Top (K : PySem.W.Frag) (mg : Str → Option Value) where
  f_is_whole : Addr
  d_is_whole : FuncData
  D_is_whole : DefAt K mg "is_whole" s_is_whole ["thing"] [] f_is_whole d_is_whole
  f_is_whole_in : Addr
  d_is_whole_in : FuncData
  D_is_whole_in : DefAt K mg "is_whole_in" s_is_whole_in ["thing", "low", "high"] [] f_is_whole_in d_is_whole_in
  f_is_pair : Addr
  d_is_pair : FuncData
  D_is_pair : DefAt K mg "is_pair" s_is_pair ["thing"] [] f_is_pair d_is_pair
  f_is_setup : Addr
  d_is_setup : FuncData
  D_is_setup : DefAt K mg "is_setup" s_is_setup ["thing"] [] f_is_setup d_is_setup
  f_is_choice : Addr
  d_is_choice : FuncData
  D_is_choice : DefAt K mg "is_choice" s_is_choice ["thing", "most"] [] f_is_choice d_is_choice
  f_check_setup : Addr
  d_check_setup : FuncData
  D_check_setup : DefAt K mg "check_setup" s_check_setup ["thing"] [] f_check_setup d_check_setup
  f_all_comers : Addr
  d_all_comers : FuncData
  D_all_comers : DefAt K mg "all_comers" s_all_comers ["setup"] [] f_all_comers d_all_comers
  f_comers_of : Addr
  d_comers_of : FuncData
  D_comers_of : DefAt K mg "comers_of" s_comers_of ["setup"] [] f_comers_of d_comers_of
  f_is_half : Addr
  d_is_half : FuncData
  D_is_half : DefAt K mg "is_half" s_is_half ["thing", "deeds"] [] f_is_half d_is_half
  f_is_rule_row : Addr
  d_is_rule_row : FuncData
  D_is_rule_row : DefAt K mg "is_rule_row" s_is_rule_row ["thing", "deeds"] [] f_is_rule_row d_is_rule_row
  f_is_span : Addr
  d_is_span : FuncData
  D_is_span : DefAt K mg "is_span" s_is_span ["thing"] [] f_is_span d_is_span
  f_is_seats : Addr
  d_is_seats : FuncData
  D_is_seats : DefAt K mg "is_seats" s_is_seats ["thing"] [] f_is_seats d_is_seats
  f__law_deck : Addr
  d__law_deck : FuncData
  D__law_deck : DefAt K mg "_law_deck" s__law_deck ["_law_script", "_law_at"] [] f__law_deck d__law_deck
  f__law_draw : Addr
  d__law_draw : FuncData
  D__law_draw : DefAt K mg "_law_draw" s__law_draw ["_law_deck_here", "_law_many"] [] f__law_draw d__law_draw
  f__law_setup : Addr
  d__law_setup : FuncData
  D__law_setup : DefAt K mg "_law_setup" s__law_setup ["_law_deck_here", "_law_small"] [] f__law_setup d__law_setup
  f__law_range : Addr
  d__law_range : FuncData
  D__law_range : DefAt K mg "_law_range" s__law_range ["_law_deck_here", "_law_most"] [] f__law_range d__law_range
  f__law_seats : Addr
  d__law_seats : FuncData
  D__law_seats : DefAt K mg "_law_seats" s__law_seats ["_law_deck_here", "_law_moods", "_law_deaf"] [] f__law_seats d__law_seats
  f__law_comers : Addr
  d__law_comers : FuncData
  D__law_comers : DefAt K mg "_law_comers" s__law_comers ["_law_shop"] [] f__law_comers d__law_comers
  f__law_is_number : Addr
  d__law_is_number : FuncData
  D__law_is_number : DefAt K mg "_law_is_number" s__law_is_number ["_law_item", "_law_low", "_law_high"] [] f__law_is_number d__law_is_number
  f__law_are : Addr
  d__law_are : FuncData
  D__law_are : DefAt K mg "_law_are" s__law_are ["_law_item", "_law_lows", "_law_highs"] [] f__law_are d__law_are
  f__law_choice : Addr
  d__law_choice : FuncData
  D__law_choice : DefAt K mg "_law_choice" s__law_choice ["_law_item", "_law_most"] [] f__law_choice d__law_choice
  f__law_due_setup : Addr
  d__law_due_setup : FuncData
  D__law_due_setup : DefAt K mg "_law_due_setup" s__law_due_setup ["_law_item"] [] f__law_due_setup d__law_due_setup
  f__law_due_row : Addr
  d__law_due_row : FuncData
  D__law_due_row : DefAt K mg "_law_due_row" s__law_due_row ["_law_item"] [] f__law_due_row d__law_due_row
  f__law_due_seats : Addr
  d__law_due_seats : FuncData
  D__law_due_seats : DefAt K mg "_law_due_seats" s__law_due_seats ["_law_item"] [] f__law_due_seats d__law_due_seats
  f__law_odd : Addr
  d__law_odd : FuncData
  D__law_odd : DefAt K mg "_law_odd" s__law_odd ["_law_deck_here"] [] f__law_odd d__law_odd
  f__law_bent : Addr
  d__law_bent : FuncData
  D__law_bent : DefAt K mg "_law_bent" s__law_bent ["_law_deck_here", "_law_item"] [] f__law_bent d__law_bent
  f__law_says : Addr
  d__law_says : FuncData
  D__law_says : DefAt K mg "_law_says" s__law_says ["_law_found", "_law_due"] [] f__law_says d__law_says
  f__law_right : Addr
  d__law_right : FuncData
  D__law_right : DefAt K mg "_law_right" s__law_right ["_law_deck_here"] [] f__law_right d__law_right
  b_len : mg "len" = none
  b_isinstance : mg "isinstance" = none
  b_abs : mg "abs" = none
  b_all : mg "all" = none
  b_max : mg "max" = none
  b_min : mg "min" = none
  b_sorted : mg "sorted" = none
  b_repr : mg "repr" = none
  b_int : mg "int" = none
  b_bool : mg "bool" = none
  b_tuple : mg "tuple" = none
  b_list : mg "list" = none
  b_str : mg "str" = none
  b_range : mg "range" = none
  b_set : mg "set" = none
  t_MOST_SEATS : Tok
  c_MOST_SEATS : mg "MOST_SEATS" = some (.int 4 t_MOST_SEATS)
  t_MOST_PORTIONS : Tok
  c_MOST_PORTIONS : mg "MOST_PORTIONS" = some (.int 4 t_MOST_PORTIONS)
  t_MOST_LIFE : Tok
  c_MOST_LIFE : mg "MOST_LIFE" = some (.int 3 t_MOST_LIFE)
  t_MOST_PRICE : Tok
  c_MOST_PRICE : mg "MOST_PRICE" = some (.int 5 t_MOST_PRICE)
  t_MOST_RULE_ROWS : Tok
  c_MOST_RULE_ROWS : mg "MOST_RULE_ROWS" = some (.int 6 t_MOST_RULE_ROWS)
  p_SEAT_DEEDS : Addr
  c_SEAT_DEEDS : mg "SEAT_DEEDS" = some (.ref p_SEAT_DEEDS)
  v_SEAT_DEEDS : ∀ H, Dq K H (.ref p_SEAT_DEEDS) (.tuple [.str "group", .str "single", .str "go"])
  KN_all_comers__setup : KBn K d_all_comers ["setup"] 0 ["setup"] (fun _ ws => kwU [0] ws) (fun _ zs => kwV [0] zs)
  KN_is_setup__thing : KBn K d_is_setup ["thing"] 0 ["thing"] (fun _ ws => kwU [0] ws) (fun _ zs => kwV [0] zs)
  KN_is_seats__thing : KBn K d_is_seats ["thing"] 0 ["thing"] (fun _ ws => kwU [0] ws) (fun _ zs => kwV [0] zs)
end K19

set_option Elab.async false
set_option linter.all false
set_option maxRecDepth 100000
set_option maxHeartbeats 1000000
namespace K19
open PySem PySem.Spec PyProof.Rows L2 Dat
local macro_rules | `(tactic| trivial) => `(tactic| (first
  | (with_reducible refine s_seq ?_)
  | (with_reducible refine s_asg ?_)
  | (with_reducible refine s_ret ?_)
  | (with_reducible refine s_drop ?_)
  | (with_reducible refine s_next ?_)
  | (with_reducible refine s_retN ?_)
  | (with_reducible refine s_brk ?_)
  | (with_reducible refine s_cont ?_)
  | (with_reducible refine s_if ?_)
  | (with_reducible refine e_int ?_)
  | (with_reducible refine e_str ?_)
  | (with_reducible refine e_bl ?_)
  | (with_reducible refine e_non ?_)
  | (with_reducible refine e_ty ?_)
  | (with_reducible refine e_tupD ?_)
  | (with_reducible refine e_lstD ?_)
  | (with_reducible refine e_op ?_)
  | (with_reducible refine e_un ?_)
  | (with_reducible refine e_then ?_)
  | (with_reducible refine e_cb ?_)
  | (with_reducible refine e_call ?_)
  | (with_reducible refine e_if ?_)
  | (with_reducible refine e_chain ?_)
  | (with_reducible refine e_andV ?_)
  | (with_reducible refine e_orV ?_)
  | (with_reducible refine e_notV ?_)
  | (with_reducible refine a_cons ?_)
  | (with_reducible refine a_nil ?_)
  | (with_reducible refine t_test ?_)
  | (with_reducible refine t_B ?_)
  | (with_reducible refine t_not ?_)
  | (with_reducible refine t_and ?_)
  | (with_reducible refine t_or ?_)
  | (with_reducible refine r_I0i ?_)
  | (with_reducible refine r_I0b ?_)
  | (with_reducible refine r_neg ?_)
  | (with_reducible refine r_isN ?_)
  | (with_reducible refine r_notN ?_)
  | (with_reducible refine c_lenT ?_)
  | (with_reducible refine c_lenL ?_)
  | (with_reducible refine c_intI ?_)
  | (with_reducible refine c_intB ?_)
  | (with_reducible refine c_max2 ?_)
  | (with_reducible refine c_min2 ?_)
  | (with_reducible refine c_abs ?_)
  | (with_reducible refine r_tupL ?_)
  | (with_reducible refine r_tupT ?_)
  | (with_reducible refine c_allM ?_)
  | ((with_reducible apply e_var); (exact rfl))
  | ((with_reducible refine r_eq ?_ ?_); (exact rfl))
  | ((with_reducible refine r_ne ?_ ?_); (exact rfl))
  | (with_reducible refine c_isi kit_int ?_)
  | (with_reducible refine c_isi kit_bool ?_)
  | (with_reducible refine c_isi kit_tuple ?_)
  | (with_reducible refine c_isi kit_list ?_)
  | (with_reducible refine c_isi kit_str ?_)
  | ((with_reducible apply r_ixT); (exact rfl))
  | ((with_reducible apply dats_pack); (iterate 40 (first | exact Dats.nil | apply Dats.cons | skip)); (exact rfl))
  | (with_reducible refine s_asgG ?_) | (with_reducible refine g_name ?_) | ((with_reducible refine g_tup ?_ ?_); (exact rfl)) | (refine gs_nil ?_) | (refine gs_cons ?_) | (with_reducible refine ⟨rfl, ?_⟩)
  | (refine ⟨_, rfl, ?_⟩) | (refine ⟨_, _, rfl, ?_⟩) | (refine ⟨_, _, _, rfl, ?_⟩) | (with_reducible refine ⟨fun _ => ?_, fun _ => ?_⟩) | fail))
/-! ### what the program judges -/
def isWh : PyData → Bool
  | .int _ => true
  | _ => false
def inD (lo hi : Int) : PyData → Bool
  | .int i => decide (lo ≤ i) && decide (i ≤ hi)
  | _ => false
def pairD : PyData → Bool
  | .tuple ds => decide (ds.length = 2)
  | _ => false
def lt2 : List PyData → Bool
  | [.int a, .int b] => decide (a < b)
  | _ => false
def choiceD (m : Int) : PyData → Bool
  | .tuple ds => (decide (1 ≤ ds.length) && decide (ds.length ≤ 2)) && (ds.all (inD 1 m) && (decide (ds.length = 1) || lt2 ds))
  | _ => false
section
variable {P : Program} {w : World} {K : PySem.W.Frag} {mg : Str → Option Value} {base : Heap}
theorem ok_is_whole (T : Top K mg) : FnOk P w K mg base CX0 1 T.f_is_whole T.d_is_whole ["thing"] (spA K (spB isWh)) := by
  refine fnA_ok T.D_is_whole.F sc_is_whole (fun as Ω P ⟨d, e, _⟩ => by subst e; rfl) (fun cdv A outer s H E hr => ?_)
  refine ⟨_, (pss_one (ps_ret (pe_and (pe_callB (Dat.isiQ (K := K) rfl) rfl T.b_isinstance bt_isinstance (pa_cons (pv 0) (pa_cons (pe_bltn (v := .ty "int") rfl T.b_int bt_int rfl) pa_nil))) (pe_one (pe_not (pe_callB (Dat.isiQ (K := K) rfl) rfl T.b_isinstance bt_isinstance (pa_cons (pv 0) (pa_cons (pe_bltn (v := .ty "bool") rfl T.b_bool bt_bool rfl) pa_nil)))))))), ?_⟩
  rintro as Ω P ⟨d, rfl, h⟩
  repeat' trivial
  all_goals (cases d <;> simp_all [isIntD, isBoolD, isWh])
abbrev spIn : ASp := fun as Ω P => ∃ d lo hi, as = [.dat d, .dat (.int lo), .dat (.int hi)] ∧ P (.dat (.bool (inD lo hi d))) Ω
theorem ok_is_whole_in (T : Top K mg) : FnOk P w K mg base CX0 2 T.f_is_whole_in T.d_is_whole_in ["thing", "low", "high"] (spA K spIn) := by
  have G_is_whole : FnOk P w K mg base CX0 1 T.f_is_whole T.d_is_whole ["thing"] (spA K (spB isWh)) := ok_is_whole T
  refine fnA_ok T.D_is_whole_in.F sc_is_whole_in (fun as Ω P ⟨d, lo, hi, e, _⟩ => by subst e; rfl) (fun cdv A outer s H E hr => ?_)
  refine ⟨_, (pss_one (ps_ret (pe_and (pe_call G_is_whole (hr.mono (by omega)) rfl T.D_is_whole.g T.D_is_whole.F.kp T.D_is_whole.b .nil pass0 (pa_cons (pv 0) pa_nil)) (pe_one (pe_chain op_le op_le (pv 1) (pv 0) (pv 2)))))), ?_⟩
  rintro as Ω P ⟨d, lo, hi, rfl, h⟩
  refine s_ret (e_andV (e_call (a_cons (e_var rfl (a_nil ⟨d, rfl, _, rfl, fun hw => ?_, fun hw => ?_⟩)))))
  · cases d <;> try (cases hw; done)
    repeat' trivial
    all_goals simp_all [inD]
  · cases d <;> simp_all [isWh, inD]
theorem ok_is_pair (T : Top K mg) : FnOk P w K mg base CX0 1 T.f_is_pair T.d_is_pair ["thing"] (spA K (spB pairD)) := by
  refine fnA_ok T.D_is_pair.F sc_is_pair (fun as Ω P ⟨d, e, _⟩ => by subst e; rfl) (fun cdv A outer s H E hr => ?_)
  refine ⟨_, (pss_one (ps_ret (pe_and (pe_callB (Dat.isiQ (K := K) rfl) rfl T.b_isinstance bt_isinstance (pa_cons (pv 0) (pa_cons (pe_bltn (v := .ty "tuple") rfl T.b_tuple bt_tuple rfl) pa_nil))) (pe_one (pe_cmpR op_eq (pe_callB (Dat.lenQ (K := K) rfl) rfl T.b_len bt_len (pa_cons (pv 0) pa_nil)) pe_int (nomark _)))))), ?_⟩
  rintro as Ω P ⟨d, rfl, h⟩
  refine s_ret (e_andV (e_cb (a_cons (e_var rfl (a_cons (e_ty (a_nil (c_isi kit_tuple ⟨_, rfl, fun hw => ?_, fun hw => ?_⟩))))))))
  · cases d <;> try (cases hw; done)
    repeat' trivial
    refine cast (congrArg (fun b => P (Av.dat (.bool b)) Ω) ?_) h
    simp only [pairD, eqD]
    rw [decide_eq_decide]
    omega
  · cases d <;> simp_all [isTupD, pairD]
abbrev spCh : ASp := fun as Ω P => ∃ d m, as = [.dat d, .dat (.int m)] ∧ P (.dat (.bool (choiceD m d))) Ω
theorem all_in {lo hi : Int} : ∀ {ds : List PyData}, ds.all (inD lo hi) = true → ∃ ns : List Int, ds = ns.map PyData.int
  | [], _ => ⟨[], rfl⟩
  | d :: r, h => by
    rw [List.all_cons, Bool.and_eq_true] at h
    obtain ⟨ns, rfl⟩ := all_in h.2
    cases d <;> first | exact ⟨_ :: ns, rfl⟩ | (cases h.1)
theorem tup_or (d : PyData) : (∃ ds, d = .tuple ds) ∨ isTupD d = false := by
  cases d <;> first | exact .inl ⟨_, rfl⟩ | exact .inr rfl
theorem ok_is_choice (T : Top K mg) : FnOk P w K mg base CX0 3 T.f_is_choice T.d_is_choice ["thing", "most"] (spA K spCh) := by
  have G_is_whole_in : FnOk P w K mg base CX0 2 T.f_is_whole_in T.d_is_whole_in ["thing", "low", "high"] (spA K spIn) := ok_is_whole_in T
  refine fnA_ok T.D_is_choice.F sc_is_choice (fun as Ω P ⟨d, m, e, _⟩ => by subst e; rfl) (fun cdv A outer s H E hr => ?_)
  refine ⟨_, (pss_cons (ps_if (pt_not (PW.pt (pw_and (pt_val (pe_callB (Dat.isiQ (K := K) rfl) rfl T.b_isinstance bt_isinstance (pa_cons (pv 0) (pa_cons (pe_bltn (v := .ty "tuple") rfl T.b_tuple bt_tuple rfl) pa_nil)))) (pw_and1 (pt_chain op_le op_le pe_int (pe_callB (Dat.lenQ (K := K) rfl) rfl T.b_len bt_len (pa_cons (pv 0) pa_nil)) pe_int)))))
      (pss_one (ps_ret pe_bl))
      pss_nil)
    (pss_one (ps_ret (pe_and (pe_callB (Dat.allQ (K := K) rfl rfl) rfl T.b_all bt_all (pa_cons (pe_lc (own := [("part", 2)]) (g := (gName 2)) (tt := tYes) rfl sc_is_choice.nd (Dat.piT (K := K) rfl (pv 0)) (blkOk_by (N := N_is_choice) (sc := defScope s_is_choice) (by decide +kernel)) (fun _ _ _ _ _ => (pg_name (i := 2) sc_is_choice.nd rfl (Or.inl rfl))) (fun _ _ _ _ _ => pts_nil) (fun _ _ _ _ _ => (pe_call G_is_whole_in (hr.mono (by omega)) rfl T.D_is_whole_in.g T.D_is_whole_in.F.kp T.D_is_whole_in.b .nil pass0 (pa_cons (pv 2) (pa_cons pe_int (pa_cons (pv 1) pa_nil)))))) pa_nil)) (pe_one (pe_or (pe_cmpR op_eq (pe_callB (Dat.lenQ (K := K) rfl) rfl T.b_len bt_len (pa_cons (pv 0) pa_nil)) pe_int (nomark _)) (pe_one (pe_cmpR op_lt (pe_ix (Dat.ixT (K := K) rfl) (pv 0) pe_int (fun _ _ => rfl)) (pe_ix (Dat.ixT (K := K) rfl) (pv 0) pe_int (fun _ _ => rfl)) (nomark _))))))))), ?_⟩
  rintro as Ω P ⟨d, m, rfl, h⟩
  rcases tup_or d with ⟨ds, rfl⟩ | hn
  · have bad : ¬ (1 ≤ ds.length ∧ ds.length ≤ 2) → P (.dat (.bool false)) Ω := fun hl => by
      have : choiceD m (.tuple ds) = false := by
        simp only [choiceD]
        by_cases h1 : 1 ≤ ds.length
        · have h2 : ¬ ds.length ≤ 2 := fun z => hl ⟨h1, z⟩
          simp [h2]
        · simp [h1]
      rw [this] at h
      exact h
    repeat' trivial
    · exact bad (by simp_all; omega)
    · have hl : 1 ≤ ds.length ∧ ds.length ≤ 2 := by simp_all; omega
      refine e_lcM ds .dat (fun d => .bool (inD 1 m d)) (gn_name (by decide)) (by omega) ?_
      refine i_tup (e_var rfl ⟨_, rfl, rfl, fun x Ω' _ _ => g_name ⟨rfl, ?_⟩, ?_⟩)
      · repeat' trivial
      · refine a_nil (c_allM ⟨_, rfl, fun ha => ?_, fun ha => ?_⟩)
        · obtain ⟨ns, rfl⟩ := all_in ha
          match ns, hl with
          | [a], _ =>
            repeat' trivial
            all_goals simp_all [choiceD, lt2, eqD, inD]
          | [a, b], _ =>
            repeat' trivial
            all_goals simp_all [choiceD, lt2, eqD, inD]
          | _ :: _ :: _ :: _, hl => exact absurd hl.2 (by simp)
        · have : choiceD m (.tuple ds) = false := by simp only [choiceD, ha, Bool.false_and, Bool.and_false]
          rw [this] at h
          exact h
    · exact bad (by simp_all; omega)
  · repeat' trivial
    all_goals (cases d <;> simp_all [isTupD, choiceD])
/-! ### setups -/
def intOf : PyData → Int
  | .int i => i
  | _ => 0
def fstD : PyData → PyData
  | .tuple (a :: _) => a
  | _ => .none
def sndD : PyData → PyData
  | .tuple (_ :: b :: _) => b
  | _ => .none
def pricesD : PyData → Bool
  | .tuple ds => decide (ds.length = 4) && ds.all (inD 0 5)
  | _ => false
def setupD : PyData → Bool
  | .tuple [seats, sizes, rooms, comers, kinds, life, prices] =>
    inD 1 4 seats && (choiceD (intOf seats) sizes && (pairD rooms && (inD 1 2 (fstD rooms) && (inD 0 2 (sndD rooms) && (pairD comers && (inD 0 1 (fstD comers) && (inD 0 2 (sndD comers) && (choiceD 4 kinds && (inD 1 3 life && pricesD prices)))))))))
  | _ => false
theorem pair_or {d : PyData} (h : pairD d = true) : ∃ a b, d = .tuple [a, b] := by
  cases d <;> try (cases h; done)
  rename_i ds
  have h2 : ds.length = 2 := of_decide_eq_true h
  match ds, h2 with
  | [a, b], _ => exact ⟨a, b, rfl⟩
theorem inD_or {lo hi : Int} {d : PyData} (h : inD lo hi d = true) : ∃ i, d = .int i ∧ lo ≤ i ∧ i ≤ hi := by
  cases d <;> try (cases h; done)
  rename_i i
  simp only [inD, Bool.and_eq_true, decide_eq_true_eq] at h
  exact ⟨i, rfl, h.1, h.2⟩
theorem pair_or' (d : PyData) : (∃ a b, d = .tuple [a, b]) ∨ pairD d = false := by
  cases h : pairD d
  · exact .inr rfl
  · exact .inl (pair_or h)
theorem in_or (lo hi : Int) (d : PyData) : (∃ i, d = .int i ∧ lo ≤ i ∧ i ≤ hi) ∨ inD lo hi d = false := by
  cases h : inD lo hi d
  · exact .inr rfl
  · exact .inl (inD_or h)
theorem ok_is_setup (T : Top K mg) : FnOk P w K mg base CX0 4 T.f_is_setup T.d_is_setup ["thing"] (spA K (spB setupD)) := by
  have G_is_whole_in : FnOk P w K mg base CX0 2 T.f_is_whole_in T.d_is_whole_in ["thing", "low", "high"] (spA K spIn) := ok_is_whole_in T
  have G_is_choice : FnOk P w K mg base CX0 3 T.f_is_choice T.d_is_choice ["thing", "most"] (spA K spCh) := ok_is_choice T
  have G_is_pair : FnOk P w K mg base CX0 1 T.f_is_pair T.d_is_pair ["thing"] (spA K (spB pairD)) := ok_is_pair T
  refine fnA_ok T.D_is_setup.F sc_is_setup (fun as Ω P ⟨d, e, _⟩ => by subst e; rfl) (fun cdv A outer s H E hr => ?_)
  refine ⟨_, (pss_cons (ps_if (pt_not (PW.pt (pw_and (pt_val (pe_callB (Dat.isiQ (K := K) rfl) rfl T.b_isinstance bt_isinstance (pa_cons (pv 0) (pa_cons (pe_bltn (v := .ty "tuple") rfl T.b_tuple bt_tuple rfl) pa_nil)))) (pw_and1 (pt_cmpR op_eq (pe_callB (Dat.lenQ (K := K) rfl) rfl T.b_len bt_len (pa_cons (pv 0) pa_nil)) pe_int (nomark _))))))
      (pss_one (ps_ret pe_bl))
      pss_nil)
    (pss_cons (ps_asg (pv 0) (Dat.pgT (K := K) (n := 7) rfl rfl (pgs_cons (pg_name (i := 1) sc_is_setup.nd rfl (.inl rfl)) (pgs_cons (pg_name (i := 2) sc_is_setup.nd rfl (.inl rfl)) (pgs_cons (pg_name (i := 3) sc_is_setup.nd rfl (.inl rfl)) (pgs_cons (pg_name (i := 4) sc_is_setup.nd rfl (.inl rfl)) (pgs_cons (pg_name (i := 5) sc_is_setup.nd rfl (.inl rfl)) (pgs_cons (pg_name (i := 6) sc_is_setup.nd rfl (.inl rfl)) (pgs_cons (pg_name (i := 7) sc_is_setup.nd rfl (.inl rfl)) pgs_nil)))))))))
    (pss_one (ps_ret (pe_and (pe_call G_is_whole_in (hr.mono (by omega)) rfl T.D_is_whole_in.g T.D_is_whole_in.F.kp T.D_is_whole_in.b .nil pass0 (pa_cons (pv 1) (pa_cons pe_int (pa_cons (pe_glob (v := .int 4) rfl T.c_MOST_SEATS ⟨_, rfl⟩) pa_nil)))) (pe_and (pe_call G_is_choice (hr.mono (by omega)) rfl T.D_is_choice.g T.D_is_choice.F.kp T.D_is_choice.b .nil pass0 (pa_cons (pv 2) (pa_cons (pv 1) pa_nil))) (pe_and (pe_call G_is_pair (hr.mono (by omega)) rfl T.D_is_pair.g T.D_is_pair.F.kp T.D_is_pair.b .nil pass0 (pa_cons (pv 3) pa_nil)) (pe_and (pe_call G_is_whole_in (hr.mono (by omega)) rfl T.D_is_whole_in.g T.D_is_whole_in.F.kp T.D_is_whole_in.b .nil pass0 (pa_cons (pe_ix (Dat.ixT (K := K) rfl) (pv 3) pe_int (fun _ _ => rfl)) (pa_cons pe_int (pa_cons pe_int pa_nil)))) (pe_and (pe_call G_is_whole_in (hr.mono (by omega)) rfl T.D_is_whole_in.g T.D_is_whole_in.F.kp T.D_is_whole_in.b .nil pass0 (pa_cons (pe_ix (Dat.ixT (K := K) rfl) (pv 3) pe_int (fun _ _ => rfl)) (pa_cons pe_int (pa_cons pe_int pa_nil)))) (pe_and (pe_call G_is_pair (hr.mono (by omega)) rfl T.D_is_pair.g T.D_is_pair.F.kp T.D_is_pair.b .nil pass0 (pa_cons (pv 4) pa_nil)) (pe_and (pe_call G_is_whole_in (hr.mono (by omega)) rfl T.D_is_whole_in.g T.D_is_whole_in.F.kp T.D_is_whole_in.b .nil pass0 (pa_cons (pe_ix (Dat.ixT (K := K) rfl) (pv 4) pe_int (fun _ _ => rfl)) (pa_cons pe_int (pa_cons pe_int pa_nil)))) (pe_and (pe_call G_is_whole_in (hr.mono (by omega)) rfl T.D_is_whole_in.g T.D_is_whole_in.F.kp T.D_is_whole_in.b .nil pass0 (pa_cons (pe_ix (Dat.ixT (K := K) rfl) (pv 4) pe_int (fun _ _ => rfl)) (pa_cons pe_int (pa_cons pe_int pa_nil)))) (pe_and (pe_call G_is_choice (hr.mono (by omega)) rfl T.D_is_choice.g T.D_is_choice.F.kp T.D_is_choice.b .nil pass0 (pa_cons (pv 5) (pa_cons (pe_glob (v := .int 4) rfl T.c_MOST_PORTIONS ⟨_, rfl⟩) pa_nil))) (pe_and (pe_call G_is_whole_in (hr.mono (by omega)) rfl T.D_is_whole_in.g T.D_is_whole_in.F.kp T.D_is_whole_in.b .nil pass0 (pa_cons (pv 6) (pa_cons pe_int (pa_cons (pe_glob (v := .int 3) rfl T.c_MOST_LIFE ⟨_, rfl⟩) pa_nil)))) (pe_and (pe_callB (Dat.isiQ (K := K) rfl) rfl T.b_isinstance bt_isinstance (pa_cons (pv 7) (pa_cons (pe_bltn (v := .ty "tuple") rfl T.b_tuple bt_tuple rfl) pa_nil))) (pe_and (pe_cmpR op_eq (pe_callB (Dat.lenQ (K := K) rfl) rfl T.b_len bt_len (pa_cons (pv 7) pa_nil)) pe_int (nomark _)) (pe_one (pe_callB (Dat.allQ (K := K) rfl rfl) rfl T.b_all bt_all (pa_cons (pe_lc (own := [("price", 8)]) (g := (gName 8)) (tt := tYes) rfl sc_is_setup.nd (Dat.piT (K := K) rfl (pv 7)) (blkOk_by (N := N_is_setup) (sc := defScope s_is_setup) (by decide +kernel)) (fun _ _ _ _ _ => (pg_name (i := 8) sc_is_setup.nd rfl (Or.inl rfl))) (fun _ _ _ _ _ => pts_nil) (fun _ _ _ _ _ => (pe_call G_is_whole_in (hr.mono (by omega)) rfl T.D_is_whole_in.g T.D_is_whole_in.F.kp T.D_is_whole_in.b .nil pass0 (pa_cons (pv 8) (pa_cons pe_int (pa_cons (pe_glob (v := .int 5) rfl T.c_MOST_PRICE ⟨_, rfl⟩) pa_nil)))))) pa_nil))))))))))))))))))), ?_⟩
  rintro as Ω P ⟨d, rfl, h⟩
  rcases tup_or d with ⟨ds, rfl⟩ | hn
  · by_cases hl : ds.length = 7
    · match ds, hl with
      | [d1, d2, d3, d4, d5, d6, d7], _ =>
        refine s_seq (s_ifB (b := false) ?_ (fun z => by cases z) fun _ => s_next (s_seq ?_))
        · repeat' trivial
          all_goals first | (refine ⟨?_, rfl⟩; rfl) | (simp_all [isTupD]; done)
        refine s_asgG (e_var rfl (g_tup rfl ?_))
        repeat (refine gs_cons (g_name ⟨rfl, ?_⟩))
        refine gs_nil (s_retB (b := setupD (.tuple [d1, d2, d3, d4, d5, d6, d7])) ?_ h)
        refine e_andB ?_ fun h1 => ?_
        · repeat' trivial
        obtain ⟨i, rfl, hi⟩ := inD_or h1
        refine e_andB ?_ fun h2 => e_andB ?_ fun h3 => ?_
        · repeat' trivial
        · repeat' trivial
        obtain ⟨a, b, rfl⟩ := pair_or h3
        refine e_andB ?_ fun h4 => e_andB ?_ fun h5 => e_andB ?_ fun h6 => ?_
        · repeat' trivial
        · repeat' trivial
        · repeat' trivial
        obtain ⟨a', b', rfl⟩ := pair_or h6
        refine e_andB ?_ fun h7 => e_andB ?_ fun h8 => e_andB ?_ fun h9 => e_andB ?_ fun h10 => ?_
        · repeat' trivial
        · repeat' trivial
        · repeat' trivial
        · repeat' trivial
        rcases tup_or d7 with ⟨ds7, rfl⟩ | h7
        · refine e_andB (b1 := true) ?_ fun _ => e_andB (b1 := decide (ds7.length = 4)) ?_ fun hl => ?_
          · repeat' trivial
          · repeat' trivial
            refine ⟨?_, rfl⟩
            simp only [eqD]
            congr 2
            rw [decide_eq_decide]
            omega
          · have hl4 : ds7.length = 4 := of_decide_eq_true hl
            refine e_cb (a_cons (e_lcM ds7 .dat (fun d => .bool (inD 0 5 d)) (gn_name (by decide)) (by omega) ?_))
            refine i_tup (e_var rfl ⟨_, rfl, rfl, fun x Ω' _ _ => g_name ⟨rfl, ?_⟩, ?_⟩)
            · repeat' trivial
            · exact a_nil (c_allM ⟨rfl, rfl⟩)
        · have e7 : pricesD d7 = false := by
            cases d7 <;> first | rfl | cases h7
          show EW K _ _ Ω (IsB (pricesD d7) Ω)
          rw [e7]
          repeat' trivial
          exact absurd h7 (by simp_all)
    · have : setupD (.tuple ds) = false := by
        unfold setupD
        split
        · next e => rw [PyData.tuple.inj e] at hl; exact absurd rfl hl
        · rfl
      rw [this] at h
      repeat' trivial
      all_goals (simp_all [eqD]; try omega)
  · repeat' trivial
    all_goals (cases d <;> simp_all [isTupD, setupD])
end
end K19

set_option Elab.async false
set_option linter.all false
set_option maxRecDepth 100000
set_option maxHeartbeats 1000000
namespace K19
open PySem PySem.Spec PyProof.Rows L2 Dat
local macro_rules | `(tactic| trivial) => `(tactic| (first
  | (with_reducible refine s_seq ?_)
  | (with_reducible refine s_asg ?_)
  | (with_reducible refine s_ret ?_)
  | (with_reducible refine s_drop ?_)
  | (with_reducible refine s_next ?_)
  | (with_reducible refine s_retN ?_)
  | (with_reducible refine s_brk ?_)
  | (with_reducible refine s_cont ?_)
  | (with_reducible refine s_if ?_)
  | (with_reducible refine e_int ?_)
  | (with_reducible refine e_str ?_)
  | (with_reducible refine e_bl ?_)
  | (with_reducible refine e_non ?_)
  | (with_reducible refine e_ty ?_)
  | (with_reducible refine e_tupD ?_)
  | (with_reducible refine e_lstD ?_)
  | (with_reducible refine e_op ?_)
  | (with_reducible refine e_un ?_)
  | (with_reducible refine e_then ?_)
  | (with_reducible refine e_cb ?_)
  | (with_reducible refine e_call ?_)
  | (with_reducible refine e_if ?_)
  | (with_reducible refine e_chain ?_)
  | (with_reducible refine e_andV ?_)
  | (with_reducible refine e_orV ?_)
  | (with_reducible refine e_notV ?_)
  | (with_reducible refine a_cons ?_)
  | (with_reducible refine a_nil ?_)
  | (with_reducible refine t_test ?_)
  | (with_reducible refine t_B ?_)
  | (with_reducible refine t_not ?_)
  | (with_reducible refine t_and ?_)
  | (with_reducible refine t_or ?_)
  | (with_reducible refine r_I0i ?_)
  | (with_reducible refine r_I0b ?_)
  | (with_reducible refine r_neg ?_)
  | (with_reducible refine r_isN ?_)
  | (with_reducible refine r_notN ?_)
  | (with_reducible refine c_lenT ?_)
  | (with_reducible refine c_lenL ?_)
  | (with_reducible refine c_intI ?_)
  | (with_reducible refine c_intB ?_)
  | (with_reducible refine c_max2 ?_)
  | (with_reducible refine c_min2 ?_)
  | (with_reducible refine c_abs ?_)
  | (with_reducible refine r_tupL ?_)
  | (with_reducible refine r_tupT ?_)
  | (with_reducible refine c_allM ?_)
  | ((with_reducible apply e_var); (exact rfl))
  | ((with_reducible refine r_eq ?_ ?_); (exact rfl))
  | ((with_reducible refine r_ne ?_ ?_); (exact rfl))
  | (with_reducible refine c_isi kit_int ?_)
  | (with_reducible refine c_isi kit_bool ?_)
  | (with_reducible refine c_isi kit_tuple ?_)
  | (with_reducible refine c_isi kit_list ?_)
  | (with_reducible refine c_isi kit_str ?_)
  | ((with_reducible apply r_ixT); (exact rfl))
  | ((with_reducible apply dats_pack); (iterate 40 (first | exact Dats.nil | apply Dats.cons | skip)); (exact rfl))
  | (with_reducible refine s_asgG ?_) | (with_reducible refine g_name ?_) | ((with_reducible refine g_tup ?_ ?_); (exact rfl)) | (refine gs_nil ?_) | (refine gs_cons ?_) | (with_reducible refine ⟨rfl, ?_⟩)
  | (refine ⟨_, rfl, ?_⟩) | (refine ⟨_, _, rfl, ?_⟩) | (refine ⟨_, _, _, rfl, ?_⟩) | (with_reducible refine ⟨fun _ => ?_, fun _ => ?_⟩) | fail))
/-! ### seat rules -/
def spanD : PyData → Bool
  | .tuple [a, b] => inD 0 9 a && (inD 0 9 b && decide (intOf a ≤ intOf b))
  | _ => false
def rowD (ws : List Str) : PyData → Bool
  | .tuple [m, f, l, s, o, d, a] => (inD 0 2 m && ((ws.any fun w => isStr w d) && inD 0 2 a)) && [f, l, s, o].all spanD
  | _ => false
def halfD (ws : List Str) : PyData → Bool
  | .tuple ds => decide (ds.length ≤ 6) && ds.all (rowD ws)
  | _ => false
abbrev seatWs : List Str := ["group", "single", "go"]
def seatsD : PyData → Bool := halfD seatWs
section
variable {P : Program} {w : World} {K : PySem.W.Frag} {mg : Str → Option Value} {base : Heap}
theorem ok_is_span (T : Top K mg) : FnOk P w K mg base CX0 3 T.f_is_span T.d_is_span ["thing"] (spA K (spB spanD)) := by
  have G_is_whole_in : FnOk P w K mg base CX0 2 T.f_is_whole_in T.d_is_whole_in ["thing", "low", "high"] (spA K spIn) := ok_is_whole_in T
  have G_is_pair : FnOk P w K mg base CX0 1 T.f_is_pair T.d_is_pair ["thing"] (spA K (spB pairD)) := ok_is_pair T
  refine fnA_ok T.D_is_span.F sc_is_span (fun as Ω P ⟨d, e, _⟩ => by subst e; rfl) (fun cdv A outer s H E hr => ?_)
  refine ⟨_, (pss_one (ps_ret (pe_and (pe_call G_is_pair (hr.mono (by omega)) rfl T.D_is_pair.g T.D_is_pair.F.kp T.D_is_pair.b .nil pass0 (pa_cons (pv 0) pa_nil)) (pe_and (pe_call G_is_whole_in (hr.mono (by omega)) rfl T.D_is_whole_in.g T.D_is_whole_in.F.kp T.D_is_whole_in.b .nil pass0 (pa_cons (pe_ix (Dat.ixT (K := K) rfl) (pv 0) pe_int (fun _ _ => rfl)) (pa_cons pe_int (pa_cons pe_int pa_nil)))) (pe_and (pe_call G_is_whole_in (hr.mono (by omega)) rfl T.D_is_whole_in.g T.D_is_whole_in.F.kp T.D_is_whole_in.b .nil pass0 (pa_cons (pe_ix (Dat.ixT (K := K) rfl) (pv 0) pe_int (fun _ _ => rfl)) (pa_cons pe_int (pa_cons pe_int pa_nil)))) (pe_one (pe_cmpR op_le (pe_ix (Dat.ixT (K := K) rfl) (pv 0) pe_int (fun _ _ => rfl)) (pe_ix (Dat.ixT (K := K) rfl) (pv 0) pe_int (fun _ _ => rfl)) (nomark _)))))))), ?_⟩
  rintro as Ω P ⟨d, rfl, h⟩
  rcases pair_or' d with ⟨a, b, rfl⟩ | hn
  · refine s_retB (b := spanD (.tuple [a, b])) ?_ h
    refine e_andB (b1 := true) ?_ fun _ => e_andB ?_ fun h1 => e_andB ?_ fun h2 => ?_
    · repeat' trivial
    · repeat' trivial
    · repeat' trivial
    obtain ⟨i, rfl, _⟩ := inD_or h1
    obtain ⟨j, rfl, _⟩ := inD_or h2
    repeat' trivial
  · have e : spanD d = false := by
      cases d <;> try rfl
      rename_i ds
      match ds with
      | [] => rfl
      | [_] => rfl
      | [_, _] => exact absurd hn (by simp [pairD])
      | _ :: _ :: _ :: _ => rfl
    refine s_retB (b := spanD d) ?_ h
    rw [e]
    refine e_andV (e_call (a_cons (e_var rfl (a_nil ⟨d, rfl, _, rfl, fun hw => ?_, fun hw => ⟨rfl, rfl⟩⟩))))
    rw [hn] at hw
    cases hw
abbrev spRow : ASp := fun as Ω P => ∃ d ws, as = [.dat d, .dat (.tuple (List.map PyData.str ws))] ∧ P (.dat (.bool (rowD ws d))) Ω
theorem rowD_no {ws : List Str} {ds : List PyData} (h : ds.length ≠ 7) : rowD ws (.tuple ds) = false := by
  unfold rowD
  split
  · next e => rw [PyData.tuple.inj e] at h; exact absurd rfl h
  · rfl
theorem ok_is_rule_row (T : Top K mg) : FnOk P w K mg base CX0 4 T.f_is_rule_row T.d_is_rule_row ["thing", "deeds"] (spA K spRow) := by
  have G_is_whole_in : FnOk P w K mg base CX0 2 T.f_is_whole_in T.d_is_whole_in ["thing", "low", "high"] (spA K spIn) := ok_is_whole_in T
  have G_is_span : FnOk P w K mg base CX0 3 T.f_is_span T.d_is_span ["thing"] (spA K (spB spanD)) := ok_is_span T
  refine fnA_ok T.D_is_rule_row.F sc_is_rule_row (fun as Ω P ⟨d, ws, e, _⟩ => by subst e; rfl) (fun cdv A outer s H E hr => ?_)
  refine ⟨_, (pss_cons (ps_if (pt_not (PW.pt (pw_and (pt_val (pe_callB (Dat.isiQ (K := K) rfl) rfl T.b_isinstance bt_isinstance (pa_cons (pv 0) (pa_cons (pe_bltn (v := .ty "tuple") rfl T.b_tuple bt_tuple rfl) pa_nil)))) (pw_and1 (pt_cmpR op_eq (pe_callB (Dat.lenQ (K := K) rfl) rfl T.b_len bt_len (pa_cons (pv 0) pa_nil)) pe_int (nomark _))))))
      (pss_one (ps_ret pe_bl))
      pss_nil)
    (pss_cons (ps_if (pt_not (PW.pt (pw_and (pt_val (pe_call G_is_whole_in (hr.mono (by omega)) rfl T.D_is_whole_in.g T.D_is_whole_in.F.kp T.D_is_whole_in.b .nil pass0 (pa_cons (pe_ix (Dat.ixT (K := K) rfl) (pv 0) pe_int (fun _ _ => rfl)) (pa_cons pe_int (pa_cons pe_int pa_nil))))) (pw_and (pt_cmpR (Dat.inStrQ (K := K) rfl (hu64 hr)) (pe_ix (Dat.ixT (K := K) rfl) (pv 0) pe_int (fun _ _ => rfl)) (pv 1) rfl) (pw_and1 (pt_val (pe_call G_is_whole_in (hr.mono (by omega)) rfl T.D_is_whole_in.g T.D_is_whole_in.F.kp T.D_is_whole_in.b .nil pass0 (pa_cons (pe_ix (Dat.ixT (K := K) rfl) (pv 0) pe_int (fun _ _ => rfl)) (pa_cons pe_int (pa_cons pe_int pa_nil))))))))))
      (pss_one (ps_ret pe_bl))
      pss_nil)
    (pss_one (ps_ret (pe_callB (Dat.allQ (K := K) rfl rfl) rfl T.b_all bt_all (pa_cons (pe_lc (own := [("part", 2)]) (g := (gName 2)) (tt := tYes) rfl sc_is_rule_row.nd (Dat.piT (K := K) rfl (pe_slice (Dat.slT (K := K) rfl) (pv 0) (po_some pe_int) (po_some pe_int))) (blkOk_by (N := N_is_rule_row) (sc := defScope s_is_rule_row) (by decide +kernel)) (fun _ _ _ _ _ => (pg_name (i := 2) sc_is_rule_row.nd rfl (Or.inl rfl))) (fun _ _ _ _ _ => pts_nil) (fun _ _ _ _ _ => (pe_call G_is_span (hr.mono (by omega)) rfl T.D_is_span.g T.D_is_span.F.kp T.D_is_span.b .nil pass0 (pa_cons (pv 2) pa_nil)))) pa_nil)))))), ?_⟩
  rintro as Ω P ⟨d, ws, rfl, h⟩
  rcases tup_or d with ⟨ds, rfl⟩ | hn
  · by_cases hl : ds.length = 7
    · match ds, hl with
      | [d1, d2, d3, d4, d5, d6, d7], _ =>
        refine s_seq (s_ifB (b := false) ?_ (fun z => by cases z) fun _ => s_next ?_)
        · repeat' trivial
          all_goals first | (refine ⟨?_, rfl⟩; rfl) | (simp_all [isTupD]; done)
        refine s_seq (s_ifB (b := !(inD 0 2 d1 && ((ws.any fun w => isStr w d6) && inD 0 2 d7))) (t_notB (t_andB (t_ofB ?_) fun _ => t_andB (t_ofC ?_) fun _ => t_ofB ?_)) (fun z => ?_) fun z => s_next ?_)
        · repeat' trivial
        · refine e_op (e_op (e_var rfl (e_int (r_ixT rfl (e_var rfl (r_inStr ⟨rfl, rfl⟩))))))
        · repeat' trivial
        · have : rowD ws (.tuple [d1, d2, d3, d4, d5, d6, d7]) = false := by
            simp only [rowD]
            rw [Bool.not_eq_true'] at z
            rw [z, Bool.false_and]
          rw [this] at h
          exact s_ret (e_bl h)
        · refine s_ret (e_cb (a_cons (e_lcM [d2, d3, d4, d5] .dat (fun d => .bool (spanD d)) (gn_name (by decide)) (by simp) ?_)))
          refine i_tup (e_slT (e_var rfl ⟨_, rfl, o_some (e_int ⟨_, rfl, o_some (e_int ⟨_, rfl, ⟨_, rfl, rfl, fun x Ω' _ _ => g_name ⟨rfl, ?_⟩, ?_⟩⟩)⟩)⟩))
          · repeat' trivial
          · refine a_nil (c_allM ?_)
            have : rowD ws (.tuple [d1, d2, d3, d4, d5, d6, d7]) = [d2, d3, d4, d5].all spanD := by
              simp only [rowD]
              rw [Bool.not_eq_false'] at z
              rw [z, Bool.true_and]
            rw [← this]
            exact h
    · rw [rowD_no hl] at h
      repeat' trivial
      all_goals (simp_all [eqD]; try omega)
  · have e : rowD ws d = false := by cases d <;> first | rfl | cases hn
    rw [e] at h
    repeat' trivial
    all_goals (cases d <;> simp_all [isTupD])
abbrev spHalf : ASp := fun as Ω P => ∃ d ws, as = [.dat d, .dat (.tuple (List.map PyData.str ws))] ∧ P (.dat (.bool (halfD ws d))) Ω
theorem ok_is_half (T : Top K mg) : FnOk P w K mg base CX0 5 T.f_is_half T.d_is_half ["thing", "deeds"] (spA K spHalf) := by
  have G_is_rule_row : FnOk P w K mg base CX0 4 T.f_is_rule_row T.d_is_rule_row ["thing", "deeds"] (spA K spRow) := ok_is_rule_row T
  refine fnA_ok T.D_is_half.F sc_is_half (fun as Ω P ⟨d, ws, e, _⟩ => by subst e; rfl) (fun cdv A outer s H E hr => ?_)
  refine ⟨_, (pss_cons (ps_if (pt_not (PW.pt (pw_and (pt_val (pe_callB (Dat.isiQ (K := K) rfl) rfl T.b_isinstance bt_isinstance (pa_cons (pv 0) (pa_cons (pe_bltn (v := .ty "tuple") rfl T.b_tuple bt_tuple rfl) pa_nil)))) (pw_and1 (pt_cmpR op_le (pe_callB (Dat.lenQ (K := K) rfl) rfl T.b_len bt_len (pa_cons (pv 0) pa_nil)) (pe_glob (v := .int 6) rfl T.c_MOST_RULE_ROWS ⟨_, rfl⟩) (nomark _))))))
      (pss_one (ps_ret pe_bl))
      pss_nil)
    (pss_one (ps_ret (pe_callB (Dat.allQ (K := K) rfl rfl) rfl T.b_all bt_all (pa_cons (pe_lc (own := [("row", 2)]) (g := (gName 2)) (tt := tYes) rfl sc_is_half.nd (Dat.piT (K := K) rfl (pv 0)) (blkOk_by (N := N_is_half) (sc := defScope s_is_half) (by decide +kernel)) (fun _ _ _ _ _ => (pg_name (i := 2) sc_is_half.nd rfl (Or.inl rfl))) (fun _ _ _ _ _ => pts_nil) (fun _ _ _ _ _ => (pe_call G_is_rule_row (hr.mono (by omega)) rfl T.D_is_rule_row.g T.D_is_rule_row.F.kp T.D_is_rule_row.b .nil pass0 (pa_cons (pv 2) (pa_cons (pv 1) pa_nil))))) pa_nil))))), ?_⟩
  rintro as Ω P ⟨d, ws, rfl, h⟩
  rcases tup_or d with ⟨ds, rfl⟩ | hn
  · refine s_seq (s_ifB (b := !(true && decide (ds.length ≤ 6))) (t_notB (t_andB (t_ofB ?_) fun _ => t_ofC ?_)) (fun z => ?_) fun z => s_next ?_)
    · repeat' trivial
    · repeat' trivial
      refine ⟨?_, rfl⟩
      congr 2
      rw [decide_eq_decide]
      omega
    · have : halfD ws (.tuple ds) = false := by
        simp only [halfD]
        rw [Bool.true_and, Bool.not_eq_true'] at z
        rw [z, Bool.false_and]
      rw [this] at h
      exact s_ret (e_bl h)
    · rw [Bool.true_and, Bool.not_eq_false', decide_eq_true_eq] at z
      refine s_ret (e_cb (a_cons (e_lcM ds .dat (fun d => .bool (rowD ws d)) (gn_name (by decide)) (by omega) ?_)))
      refine i_tup (e_var rfl ⟨_, rfl, rfl, fun x Ω' _ _ => g_name ⟨rfl, ?_⟩, ?_⟩)
      · exact e_call (a_cons (e_var rfl (a_cons (e_var rfl (a_nil ⟨x, ws, rfl, rfl, rfl⟩)))))
      · refine a_nil (c_allM ?_)
        have : halfD ws (.tuple ds) = ds.all (rowD ws) := by
          simp only [halfD, decide_eq_true z, Bool.true_and]
        rw [← this]
        exact h
  · have e : halfD ws d = false := by cases d <;> first | rfl | cases hn
    rw [e] at h
    repeat' trivial
    all_goals (cases d <;> simp_all [isTupD])
theorem ok_is_seats (T : Top K mg) : FnOk P w K mg base CX0 6 T.f_is_seats T.d_is_seats ["thing"] (spA K (spB seatsD)) := by
  have G_is_half : FnOk P w K mg base CX0 5 T.f_is_half T.d_is_half ["thing", "deeds"] (spA K spHalf) := ok_is_half T
  refine fnA_ok T.D_is_seats.F sc_is_seats (fun as Ω P ⟨d, e, _⟩ => by subst e; rfl) (fun cdv A outer s H E hr => ?_)
  refine ⟨_, (pss_one (ps_ret (pe_call G_is_half (hr.mono (by omega)) rfl T.D_is_half.g T.D_is_half.F.kp T.D_is_half.b .nil pass0 (pa_cons (pv 0) (pa_cons (pe_glob (v := .ref T.p_SEAT_DEEDS) rfl T.c_SEAT_DEEDS rfl) pa_nil))))), ?_⟩
  rintro as Ω P ⟨d, rfl, h⟩
  exact s_ret (e_call (a_cons (e_var rfl (a_cons (e_K T.v_SEAT_DEEDS (a_nil ⟨d, seatWs, rfl, h⟩))))))
/-! ### comers -/
abbrev spChk : ASp := fun as Ω P => ∃ d, as = [.dat d] ∧ setupD d = true ∧ P (.dat .none) Ω
theorem ok_check_setup (T : Top K mg) : FnOk P w K mg base CX0 5 T.f_check_setup T.d_check_setup ["thing"] (spA K spChk) := by
  have G_is_setup : FnOk P w K mg base CX0 4 T.f_is_setup T.d_is_setup ["thing"] (spA K (spB setupD)) := ok_is_setup T
  refine fnA_ok T.D_check_setup.F sc_check_setup (fun as Ω P ⟨d, e, _⟩ => by subst e; rfl) (fun cdv A outer s H E hr => ?_)
  refine ⟨_, (pss_one (ps_if (pt_not (pt_val (pe_call G_is_setup (hr.mono (by omega)) rfl T.D_is_setup.g T.D_is_setup.F.kp T.D_is_setup.b .nil pass0 (pa_cons (pv 0) pa_nil))))
      (pss_one ps_dead)
      pss_nil)), ?_⟩
  rintro as Ω P ⟨d, rfl, hs, h⟩
  refine s_ifB (b := !setupD d) (t_notB (t_ofC ?_)) (fun z => ?_) fun _ => s_next h
  · repeat' trivial
  · rw [hs] at z
    cases z
end
end K19

set_option Elab.async false
set_option linter.all false
set_option maxRecDepth 100000
set_option maxHeartbeats 1000000
namespace K19
open PySem PySem.Spec PyProof.Rows L2 Dat
local macro_rules | `(tactic| trivial) => `(tactic| (first
  | (with_reducible refine s_seq ?_)
  | (with_reducible refine s_asg ?_)
  | (with_reducible refine s_ret ?_)
  | (with_reducible refine s_drop ?_)
  | (with_reducible refine s_next ?_)
  | (with_reducible refine s_retN ?_)
  | (with_reducible refine s_brk ?_)
  | (with_reducible refine s_cont ?_)
  | (with_reducible refine s_if ?_)
  | (with_reducible refine e_int ?_)
  | (with_reducible refine e_str ?_)
  | (with_reducible refine e_bl ?_)
  | (with_reducible refine e_non ?_)
  | (with_reducible refine e_ty ?_)
  | (with_reducible refine e_tupD ?_)
  | (with_reducible refine e_lstD ?_)
  | (with_reducible refine e_op ?_)
  | (with_reducible refine e_un ?_)
  | (with_reducible refine e_then ?_)
  | (with_reducible refine e_cb ?_)
  | (with_reducible refine e_call ?_)
  | (with_reducible refine e_if ?_)
  | (with_reducible refine e_chain ?_)
  | (with_reducible refine e_andV ?_)
  | (with_reducible refine e_orV ?_)
  | (with_reducible refine e_notV ?_)
  | (with_reducible refine a_cons ?_)
  | (with_reducible refine a_nil ?_)
  | (with_reducible refine t_test ?_)
  | (with_reducible refine t_B ?_)
  | (with_reducible refine t_not ?_)
  | (with_reducible refine t_and ?_)
  | (with_reducible refine t_or ?_)
  | (with_reducible refine r_I0i ?_)
  | (with_reducible refine r_I0b ?_)
  | (with_reducible refine r_neg ?_)
  | (with_reducible refine r_isN ?_)
  | (with_reducible refine r_notN ?_)
  | (with_reducible refine c_lenT ?_)
  | (with_reducible refine c_lenL ?_)
  | (with_reducible refine c_intI ?_)
  | (with_reducible refine c_intB ?_)
  | (with_reducible refine c_max2 ?_)
  | (with_reducible refine c_min2 ?_)
  | (with_reducible refine c_abs ?_)
  | (with_reducible refine r_tupL ?_)
  | (with_reducible refine r_tupT ?_)
  | (with_reducible refine c_allM ?_)
  | ((with_reducible apply e_var); (exact rfl))
  | ((with_reducible refine r_eq ?_ ?_); (exact rfl))
  | ((with_reducible refine r_ne ?_ ?_); (exact rfl))
  | (with_reducible refine c_isi kit_int ?_)
  | (with_reducible refine c_isi kit_bool ?_)
  | (with_reducible refine c_isi kit_tuple ?_)
  | (with_reducible refine c_isi kit_list ?_)
  | (with_reducible refine c_isi kit_str ?_)
  | ((with_reducible apply r_ixT); (exact rfl))
  | ((with_reducible apply dats_pack); (iterate 40 (first | exact Dats.nil | apply Dats.cons | skip)); (exact rfl))
  | (with_reducible refine s_asgG ?_) | (with_reducible refine g_name ?_) | ((with_reducible refine g_tup ?_ ?_); (exact rfl)) | (refine gs_nil ?_) | (refine gs_cons ?_) | (with_reducible refine ⟨rfl, ?_⟩)
  | (refine ⟨_, rfl, ?_⟩) | (refine ⟨_, _, rfl, ?_⟩) | (refine ⟨_, _, _, rfl, ?_⟩) | (with_reducible refine ⟨fun _ => ?_, fun _ => ?_⟩) | fail))
section
variable {P : Program} {w : World} {K : PySem.W.Frag} {mg : Str → Option Value} {base : Heap}
/-! ### the deck -/
abbrev deckL (a b c : Int) : List Av := [.dat (.int a), .dat (.int b), .dat (.int c)]
abbrev spDeck : ASp := fun as Ω P => ∃ (ns : List Int) (k : Nat), as = [.scr ns, .dat (.int k)] ∧ ∀ p a b c, Ω p = none → P (.ptr p) (put Ω p (deckL a b c))
theorem ok_deck (T : Top K mg) : FnOk P w K mg base CX0 1 T.f__law_deck T.d__law_deck ["_law_script", "_law_at"] (spA K spDeck) := by
  refine fnA_ok T.D__law_deck.F sc__law_deck (fun as Ω P ⟨ns, k, e, _⟩ => by subst e; rfl) (fun cdv A outer s H E hr => ?_)
  refine ⟨_, (pss_cons (ps_set (i := 2) sc__law_deck.nd rfl (.inl rfl) (pe_op op_add (pe_op op_mul pe_int (pv 1)) pe_int))
    (pss_cons (ps_if (pt_cmpR op_lt (pv 1) (pe_callB (Dat.lenQ (K := K) rfl) rfl T.b_len bt_len (pa_cons (pv 0) pa_nil)) (nomark _))
      (pss_one (ps_set (i := 2) sc__law_deck.nd rfl (.inl rfl) (pe_ix (Dat.ixL (K := K) rfl) (pv 0) (pv 1) (fun _ _ => rfl))))
      pss_nil)
    (pss_one (ps_ret (pe_lst (pa_cons (pe_callB (Dat.cl_max2 rfl) rfl T.b_max bt_max (pa_cons pe_int (pa_cons (pe_op op_sub (pv 2) (pe_op op_pow pe_int pe_int)) pa_nil))) (pa_cons (pe_op op_add (pe_op op_mul (pe_callB Dat.cl_abs rfl T.b_abs bt_abs (pa_cons (pv 2) pa_nil)) pe_int) (pe_callTy Dat.cl_int rfl T.b_int bt_int (pa_cons (pe_cmpR op_lt (pv 2) pe_int (nomark _)) pa_nil))) (pa_cons (pv 1) pa_nil)))))))), ?_⟩
  rintro as Ω P ⟨ns, k, rfl, h⟩
  refine s_seq (s_asg (e_op (e_op (e_int (e_var rfl (r_Ii (by exact .inl ⟨by decide, by decide⟩) (e_int (r_I0i ?_))))))))
  refine s_seqM (fun Γ' Ω' => ∃ cell : Int, Γ' = [some (.scr ns), some (.dat (.int k)), some (.dat (.int cell))] ∧ Ω' = Ω) ?_ ?_
  · refine s_if (t_test (e_op (e_var rfl (e_cb (a_cons (e_var rfl (a_nil (c_lenS (r_I0b ⟨_, rfl, fun hb => ?_, fun _ => s_next ⟨_, rfl, rfl⟩⟩)))))))))
    have hk : k < ns.length := by
      have := of_decide_eq_true hb
      omega
    exact s_asg (e_op (e_var rfl (e_var rfl (r_ixS (n := ns[k]) (atI_nat' (List.getElem?_eq_getElem hk)) ⟨_, rfl, rfl⟩))))
  rintro Γ' Ω' ⟨cell, rfl, rfl⟩
  refine s_ret (e_lstP (a_cons (e_cb (a_cons (e_int (a_cons (e_op (e_var rfl (e_op (e_int (e_int (r_Ii (by exact ⟨by decide, by decide, by decide⟩) (r_I0i (a_nil (c_max2 ?_)))))))))))))))
  refine a_cons (e_op (e_op (e_cb (a_cons (e_var rfl (a_nil (c_abs (e_int (r_Ii (by exact .inr ⟨by decide, by decide⟩) (e_cb (a_cons (e_op (e_var rfl (e_int (r_I0b (a_nil (c_intB (r_I0i ?_))))))))))))))))))
  exact a_cons (e_var rfl (a_nil ⟨by simp, fun p hp => h p _ _ _ hp⟩))
abbrev spDraw : ASp := fun as Ω P => ∃ (Ω0 : AH) (p : Addr) (m a b c : Int), as = [.ptr p, .dat (.int m)] ∧ Ω = put Ω0 p (deckL a b c) ∧ 1 ≤ m ∧ m ≤ 1000000000 ∧ ∀ v a' b' c', 0 ≤ v → v < m → P (.dat (.int v)) (put Ω0 p (deckL a' b' c'))
theorem ok_draw (T : Top K mg) : FnOk P w K mg base CX0 1 T.f__law_draw T.d__law_draw ["_law_deck_here", "_law_many"] (spA K spDraw) := by
  refine fnA_ok T.D__law_draw.F sc__law_draw (fun as Ω P ⟨Ω0, p, m, a, b, c, e, _⟩ => by subst e; rfl) (fun cdv A outer s H E hr => ?_)
  refine ⟨_, (pss_cons (ps_if (pt_cmpR op_gt (pe_ix (Dat.ixL (K := K) rfl) (pv 0) pe_int (fun _ _ => rfl)) pe_int (nomark _))
      (pss_cons (ps_set (i := 2) sc__law_draw.nd rfl (.inl rfl) (pe_op op_mod (pe_callTy Dat.cl_int rfl T.b_int bt_int (pa_cons (pe_ix (Dat.ixL (K := K) rfl) (pv 0) pe_int (fun _ _ => rfl)) pa_nil)) (pv 1)))
      (pss_cons (ps_asg (pe_op op_fdiv (pe_ix (Dat.ixL (K := K) rfl) (pv 0) pe_int (fun _ _ => rfl)) (pv 1)) (pg_sub (pv 0) pe_int set_list))
      (pss_one (ps_ret (pv 2)))))
      pss_nil)
    (pss_cons (ps_asg (pe_op op_add (pe_ix (Dat.ixL (K := K) rfl) (pv 0) pe_int (fun _ _ => rfl)) pe_int) (pg_sub (pv 0) pe_int set_list))
    (pss_cons (ps_set (i := 3) sc__law_draw.nd rfl (.inl rfl) (pe_op op_mod (pe_callTy Dat.cl_int rfl T.b_int bt_int (pa_cons (pe_op op_add (pe_op op_add (pe_op op_mul (pe_ix (Dat.ixL (K := K) rfl) (pv 0) pe_int (fun _ _ => rfl)) pe_int) (pe_op op_mul (pe_ix (Dat.ixL (K := K) rfl) (pv 0) pe_int (fun _ _ => rfl)) pe_int)) pe_int) pa_nil)) pe_int))
    (pss_cons (ps_set (i := 3) sc__law_draw.nd rfl (.inl rfl) (pe_op op_mod (pe_callTy Dat.cl_int rfl T.b_int bt_int (pa_cons (pe_op op_add (pe_op op_add (pe_op op_mul (pv 3) (pv 3)) (pe_op op_mul pe_int (pe_ix (Dat.ixL (K := K) rfl) (pv 0) pe_int (fun _ _ => rfl)))) (pe_ix (Dat.ixL (K := K) rfl) (pv 0) pe_int (fun _ _ => rfl))) pa_nil)) pe_int))
    (pss_cons (ps_set (i := 3) sc__law_draw.nd rfl (.inl rfl) (pe_op op_mod (pe_callTy Dat.cl_int rfl T.b_int bt_int (pa_cons (pe_op op_add (pe_op op_mul (pv 3) (pe_op op_add (pv 3) (pe_ix (Dat.ixL (K := K) rfl) (pv 0) pe_int (fun _ _ => rfl)))) pe_int) pa_nil)) pe_int))
    (pss_one (ps_ret (pe_op op_mod (pe_callTy Dat.cl_int rfl T.b_int bt_int (pa_cons (pe_op op_fdiv (pv 3) pe_int) pa_nil)) (pv 1))))))))), ?_⟩
  rintro as Ω P ⟨Ω0, p, m, a, b, c, rfl, rfl, m1, m2, h⟩
  have at0 : ∀ x y z : Int, atI (deckL x y z) 0 = some (.dat (.int x)) := fun _ _ _ => rfl
  have at1 : ∀ x y z : Int, atI (deckL x y z) 1 = some (.dat (.int y)) := fun _ _ _ => rfl
  have at2 : ∀ x y z : Int, atI (deckL x y z) 2 = some (.dat (.int z)) := fun _ _ _ => rfl
  refine s_seq (s_if (t_test (e_op (e_op (e_var rfl (e_int (r_ixP put_same (at0 a b c) (e_int (r_I0b ⟨_, rfl, fun _ => ?_, fun _ => s_next ?_⟩)))))))))
  · refine s_seq (s_asg (e_op (e_cb (a_cons (e_op (e_var rfl (e_int (r_ixP put_same (at0 a b c) (a_nil (c_intI (e_var rfl (r_Ii (by show (0 : Int) < m; omega) ?_))))))))))))
    refine s_seq (s_setL (e_op (e_op (e_var rfl (e_int (r_ixP put_same (at0 a b c) (e_var rfl (r_Ii (by exact ⟨by omega, by omega⟩) (e_var rfl ⟨p, rfl, e_int ⟨0, _, 0, rfl, put_same, rfl, ?_⟩⟩)))))))))
    refine s_ret (e_var rfl ?_)
    rw [put_put]
    exact h _ _ _ _ (Int.emod_nonneg _ (by omega)) (Int.emod_lt_of_pos _ (by omega))
  refine s_seq (s_setL (e_op (e_op (e_var rfl (e_int (r_ixP put_same (at2 a b c) (e_int (r_I0i (e_var rfl ⟨p, rfl, e_int ⟨2, _, 2, rfl, put_same, rfl, ?_⟩⟩)))))))))
  show SW K _ _ (put (put Ω0 p (deckL a b c)) p (deckL a b (c + 1))) _
  rw [put_put]
  refine s_seqM (fun Γ' Ω' => ∃ x : Int, 0 ≤ x ∧ x < 4294967291 ∧ Γ' = [some (.ptr p), some (.dat (.int m)), none, some (.dat (.int x))] ∧ Ω' = put Ω0 p (deckL a b (c + 1))) ?_ ?_
  · refine s_asg (e_op (e_cb (a_cons (e_op (e_op (e_op (e_op (e_var rfl (e_int (r_ixP put_same (at1 a b (c + 1)) (e_int (r_Ii (by exact .inr ⟨by decide, by decide⟩) ?_))))))))))))
    refine e_op (e_op (e_var rfl (e_int (r_ixP put_same (at2 a b (c + 1)) (e_int (r_Ii (by exact .inr ⟨by decide, by decide⟩) (r_I0i (e_int (r_I0i (a_nil (c_intI (e_int (r_Ii (by show (0 : Int) < 4294967291; decide) ?_)))))))))))))
    exact ⟨_, Int.emod_nonneg _ (by decide), Int.emod_lt_of_pos _ (by decide), rfl, rfl⟩
  rintro Γ' Ω' ⟨x, x0, x1, rfl, rfl⟩
  refine s_seqM (fun Γ' Ω' => ∃ x : Int, 0 ≤ x ∧ x < 4294967279 ∧ Γ' = [some (.ptr p), some (.dat (.int m)), none, some (.dat (.int x))] ∧ Ω' = put Ω0 p (deckL a b (c + 1))) ?_ ?_
  · refine s_asg (e_op (e_cb (a_cons (e_op (e_op (e_op (e_var rfl (e_var rfl (r_Ii (by exact .inl ⟨by omega, by omega⟩) ?_)))))))))
    refine e_op (e_int (e_op (e_var rfl (e_int (r_ixP put_same (at2 a b (c + 1)) (r_Ii (by exact .inl ⟨by decide, by decide⟩) (r_I0i ?_)))))))
    refine e_op (e_var rfl (e_int (r_ixP put_same (at1 a b (c + 1)) (r_I0i (a_nil (c_intI (e_int (r_Ii (by show (0 : Int) < 4294967279; decide) ?_))))))))
    exact ⟨_, Int.emod_nonneg _ (by decide), Int.emod_lt_of_pos _ (by decide), rfl, rfl⟩
  rintro Γ' Ω' ⟨x, x0, x1, rfl, rfl⟩
  refine s_seqM (fun Γ' Ω' => ∃ x : Int, Γ' = [some (.ptr p), some (.dat (.int m)), none, some (.dat (.int x))] ∧ Ω' = put Ω0 p (deckL a b (c + 1))) ?_ ?_
  · refine s_asg (e_op (e_cb (a_cons (e_op (e_op (e_var rfl (e_op (e_var rfl (e_op (e_var rfl (e_int (r_ixP put_same (at2 a b (c + 1)) (r_I0i (r_Ii (by exact .inl ⟨by omega, by omega⟩) (e_int (r_I0i (a_nil (c_intI (e_int (r_Ii (by show (0 : Int) < 4294967231; decide) ⟨_, rfl, rfl⟩))))))))))))))))))))
  rintro Γ' Ω' ⟨x, rfl, rfl⟩
  refine s_ret (e_op (e_cb (a_cons (e_op (e_var rfl (e_int (r_Ii (by exact ⟨by decide, by decide⟩) (a_nil (c_intI (e_var rfl (r_Ii (by show (0 : Int) < m; omega) ?_)))))))))))
  exact h _ _ _ _ (Int.emod_nonneg _ (by omega)) (Int.emod_lt_of_pos _ (by omega))
/-- a draw from the deck in a slot -/
theorem e_draw {Γ : List (Option Av)} {Ω0 : AH} {p : Addr} {i : Nat} {a b c : Int} {te : TE} {X : XK} {P : Av → AH → Prop} (hi : Γ[i]? = some (some (.ptr p)))
    (h : EW K te Γ (put Ω0 p (deckL a b c)) fun z Ω1 => ∃ m a1 b1 c1, z = .dat (.int m) ∧ Ω1 = put Ω0 p (deckL a1 b1 c1) ∧ 1 ≤ m ∧ m ≤ 1000000000 ∧ ∀ v a' b' c', 0 ≤ v → v < m → P (.dat (.int v)) (put Ω0 p (deckL a' b' c'))) :
    EW K (tCall (spA K spDraw) [] X (tCons (tVar i) (tCons te tNil))) Γ (put Ω0 p (deckL a b c)) P :=
  e_call (a_cons (e_var hi (a_cons (h.mono fun z Ω1 ⟨m, a1, b1, c1, e1, e2, m1, m2, q⟩ => a_nil ⟨Ω0, p, m, a1, b1, c1, by rw [e1], e2, m1, m2, q⟩))))
theorem e_drawN {Γ : List (Option Av)} {Ω0 : AH} {p : Addr} {i : Nat} {m a b c : Int} {X : XK} {P : Av → AH → Prop} (hi : Γ[i]? = some (some (.ptr p))) (m1 : 1 ≤ m) (m2 : m ≤ 1000000000)
    (h : ∀ v a' b' c', 0 ≤ v → v < m → P (.dat (.int v)) (put Ω0 p (deckL a' b' c'))) :
    EW K (tCall (spA K spDraw) [] X (tCons (tVar i) (tCons (tC (.int m)) tNil))) Γ (put Ω0 p (deckL a b c)) P :=
  e_draw hi (e_int ⟨m, a, b, c, rfl, rfl, m1, m2, h⟩)
theorem r_ixL_any {Ω : AH} {ds : List PyData} {v : Int} {P : Av → AH → Prop} (h0 : 0 ≤ v) (h1 : v < ds.length) (h : ∀ d ∈ ds, P (.dat d) Ω) : R2W K (rIxL K) (.dat (.list ds)) (.dat (.int v)) Ω P := by
  obtain ⟨n, rfl⟩ : ∃ n : Nat, v = n := ⟨v.toNat, (Int.toNat_of_nonneg h0).symm⟩
  have hn : n < ds.length := by omega
  exact r_ixL (atI_nat' (List.getElem?_eq_getElem hn)) (h _ (List.getElem_mem hn))
theorem r_ixT_any {Ω : AH} {ds : List PyData} {v : Int} {P : Av → AH → Prop} (h0 : 0 ≤ v) (h1 : v < ds.length) (h : ∀ d ∈ ds, P (.dat d) Ω) : R2W K (rIxT K) (.dat (.tuple ds)) (.dat (.int v)) Ω P := by
  obtain ⟨n, rfl⟩ : ∃ n : Nat, v = n := ⟨v.toNat, (Int.toNat_of_nonneg h0).symm⟩
  have hn : n < ds.length := by omega
  exact r_ixT (atI_nat' (List.getElem?_eq_getElem hn)) (h _ (List.getElem_mem hn))
theorem put_comm {Ω : AH} {p q : Addr} {as bs : List Av} (h : p ≠ q) : put (put Ω p as) q bs = put (put Ω q bs) p as := by
  funext a
  unfold put
  by_cases e1 : a = q
  · by_cases e2 : a = p
    · exact absurd (e2.symm.trans e1) h
    · rw [if_pos e1, if_neg e2, if_pos e1]
  · rw [if_neg e1, if_neg e1]
end
end K19

set_option Elab.async false
set_option linter.all false
set_option maxRecDepth 100000
set_option maxHeartbeats 1000000
namespace K19
open PySem PySem.Spec PyProof.Rows L2 Dat
local macro_rules | `(tactic| trivial) => `(tactic| (first
  | (with_reducible refine s_seq ?_)
  | (with_reducible refine s_asg ?_)
  | (with_reducible refine s_ret ?_)
  | (with_reducible refine s_drop ?_)
  | (with_reducible refine s_next ?_)
  | (with_reducible refine s_retN ?_)
  | (with_reducible refine s_brk ?_)
  | (with_reducible refine s_cont ?_)
  | (with_reducible refine s_if ?_)
  | (with_reducible refine e_int ?_)
  | (with_reducible refine e_str ?_)
  | (with_reducible refine e_bl ?_)
  | (with_reducible refine e_non ?_)
  | (with_reducible refine e_ty ?_)
  | (with_reducible refine e_tupD ?_)
  | (with_reducible refine e_lstD ?_)
  | (with_reducible refine e_op ?_)
  | (with_reducible refine e_un ?_)
  | (with_reducible refine e_then ?_)
  | (with_reducible refine e_cb ?_)
  | (with_reducible refine e_call ?_)
  | (with_reducible refine e_if ?_)
  | (with_reducible refine e_chain ?_)
  | (with_reducible refine e_andV ?_)
  | (with_reducible refine e_orV ?_)
  | (with_reducible refine e_notV ?_)
  | (with_reducible refine a_cons ?_)
  | (with_reducible refine a_nil ?_)
  | (with_reducible refine t_test ?_)
  | (with_reducible refine t_B ?_)
  | (with_reducible refine t_not ?_)
  | (with_reducible refine t_and ?_)
  | (with_reducible refine t_or ?_)
  | (with_reducible refine r_I0i ?_)
  | (with_reducible refine r_I0b ?_)
  | (with_reducible refine r_neg ?_)
  | (with_reducible refine r_isN ?_)
  | (with_reducible refine r_notN ?_)
  | (with_reducible refine c_lenT ?_)
  | (with_reducible refine c_lenL ?_)
  | (with_reducible refine c_intI ?_)
  | (with_reducible refine c_intB ?_)
  | (with_reducible refine c_max2 ?_)
  | (with_reducible refine c_min2 ?_)
  | (with_reducible refine c_abs ?_)
  | (with_reducible refine r_tupL ?_)
  | (with_reducible refine r_tupT ?_)
  | (with_reducible refine c_allM ?_)
  | ((with_reducible apply e_var); (exact rfl))
  | ((with_reducible refine r_eq ?_ ?_); (exact rfl))
  | ((with_reducible refine r_ne ?_ ?_); (exact rfl))
  | (with_reducible refine c_isi kit_int ?_)
  | (with_reducible refine c_isi kit_bool ?_)
  | (with_reducible refine c_isi kit_tuple ?_)
  | (with_reducible refine c_isi kit_list ?_)
  | (with_reducible refine c_isi kit_str ?_)
  | ((with_reducible apply r_ixT); (exact rfl))
  | ((with_reducible apply dats_pack); (iterate 40 (first | exact Dats.nil | apply Dats.cons | skip)); (exact rfl))
  | (with_reducible refine s_asgG ?_) | (with_reducible refine g_name ?_) | ((with_reducible refine g_tup ?_ ?_); (exact rfl)) | (refine gs_nil ?_) | (refine gs_cons ?_) | (with_reducible refine ⟨rfl, ?_⟩)
  | (refine ⟨_, rfl, ?_⟩) | (refine ⟨_, _, rfl, ?_⟩) | (refine ⟨_, _, _, rfl, ?_⟩) | (with_reducible refine ⟨fun _ => ?_, fun _ => ?_⟩) | fail))
section
variable {P : Program} {w : World} {K : PySem.W.Frag} {mg : Str → Option Value} {base : Heap}
def intsOf (ds : List PyData) : List Int := ds.map intOf
theorem r_ixL_ints {Ω : AH} {ds : List PyData} {v : Int} {P : Av → AH → Prop} (lo hi : Int) (e : ds = (intsOf ds).map PyData.int) (hb : ∀ n ∈ intsOf ds, lo ≤ n ∧ n ≤ hi) (h0 : 0 ≤ v) (h1 : v < ds.length)
    (h : ∀ n, lo ≤ n → n ≤ hi → P (.dat (.int n)) Ω) : R2W K (rIxL K) (.dat (.list ds)) (.dat (.int v)) Ω P :=
  r_ixL_any h0 h1 fun d hd => by
    rw [e] at hd
    obtain ⟨n, hn, rfl⟩ := List.mem_map.mp hd
    exact h n (hb n hn).1 (hb n hn).2
/-- a literal list of numbers -/
def tLits : List Int → TA
  | [] => tNil
  | n :: r => tCons (tC (.int n)) (tLits r)
theorem a_lits {Γ : List (Option Av)} {Ω : AH} : ∀ (ns : List Int) {P : List Av → AH → Prop}, P ((ns.map PyData.int).map .dat) Ω → AW K (tLits ns) Γ Ω P
  | [], _, h => a_nil h
  | n :: r, _, h => a_cons (e_int (a_lits r h))
theorem e_lits {Γ : List (Option Av)} {Ω : AH} {P : Av → AH → Prop} (ns : List Int) (h : P (.dat (.list (ns.map PyData.int))) Ω) (hl : Nat.ble ns.length 100000 = true := by rfl) : EW K (tLst (tLits ns)) Γ Ω P :=
  e_lst (a_lits ns ⟨_, rfl, by rw [List.length_map]; exact Nat.le_of_ble_eq_true hl, h⟩)
theorem choice12 {m x y : Int} {ns : List Int} (x1 : 1 ≤ x) (x2 : x ≤ m) (y1 : 1 ≤ y) (y2 : y ≤ m) (hs : ns.Pairwise (· < ·)) (hm : ∀ k, k ∈ ns ↔ k ∈ [x, y]) : choiceD m (.tuple (ns.map PyData.int)) = true := by
  have hx : x ∈ ns := (hm x).mpr (by simp)
  have hy : y ∈ ns := (hm y).mpr (by simp)
  have bd : ∀ k ∈ ns, 1 ≤ k ∧ k ≤ m := fun k hk => by
    have := (hm k).mp hk
    simp only [List.mem_cons, List.not_mem_nil, or_false] at this
    rcases this with rfl | rfl <;> exact ⟨by assumption, by assumption⟩
  match ns, hs, hm, hx, hy, bd with
  | [], _, _, hx, _, _ => cases hx
  | [a], _, _, _, _, bd =>
    have h := bd a (by simp)
    simp [choiceD, inD, h.1, h.2]
  | [a, b], hs, _, _, _, bd =>
    have h := bd a (by simp)
    have h2 := bd b (by simp)
    have h3 : a < b := by simpa using hs
    simp [choiceD, inD, lt2, h.1, h.2, h2.1, h2.2, h3]
  | a :: b :: c :: r, hs, hm, _, _, _ =>
    have ha := (hm a).mp (by simp)
    have hb := (hm b).mp (by simp)
    have hc := (hm c).mp (by simp)
    simp only [List.mem_cons, List.not_mem_nil, or_false] at ha hb hc
    rw [List.pairwise_cons] at hs
    obtain ⟨p1, p2⟩ := hs
    rw [List.pairwise_cons] at p2
    have q1 := p1 b (by simp)
    have q2 := p1 c (by simp)
    have q3 := p2.1 c (by simp)
    omega
theorem inD_of {lo hi i : Int} (h0 : lo ≤ i) (h1 : i ≤ hi) : inD lo hi (.int i) = true := by
  simp [inD, h0, h1]
theorem all4 {ds : List PyData} (h : ∃ ns : List Int, ds = ns.map PyData.int ∧ ns.length = 4 ∧ ∀ n ∈ ns, 0 ≤ n ∧ n ≤ 5) : pricesD (.tuple ds) = true := by
  obtain ⟨ns, rfl, l, hb⟩ := h
  simp only [pricesD, List.length_map, l, List.all_map, Bool.and_eq_true, decide_eq_true_eq, List.all_eq_true]
  exact ⟨trivial, fun n hn => inD_of (hb n hn).1 (hb n hn).2⟩
abbrev spSetup : ASp := fun as Ω P => ∃ (Ω0 : AH) (p : Addr) (m a b c : Int), as = [.ptr p, .dat (.int m)] ∧ Ω = put Ω0 p (deckL a b c) ∧ 0 ≤ m ∧ m ≤ 2 ∧ ∀ d a' b' c', setupD d = true → P (.dat d) (put Ω0 p (deckL a' b' c'))
theorem ok_setup (T : Top K mg) : FnOk P w K mg base CX0 2 T.f__law_setup T.d__law_setup ["_law_deck_here", "_law_small"] (spA K spSetup) := by
  have G__law_draw : FnOk P w K mg base CX0 1 T.f__law_draw T.d__law_draw ["_law_deck_here", "_law_many"] (spA K spDraw) := ok_draw T
  refine fnA_ok T.D__law_setup.F sc__law_setup (fun as Ω P ⟨Ω0, p, m, a, b, c, e, _⟩ => by subst e; rfl) (fun cdv A outer s H E hr => ?_)
  refine ⟨_, (pss_cons (ps_set (i := 2) sc__law_setup.nd rfl (.inl rfl) (pe_op op_add pe_int (pe_call G__law_draw (hr.mono (by omega)) rfl T.D__law_draw.g T.D__law_draw.F.kp T.D__law_draw.b .nil pass0 (pa_cons (pv 0) (pa_cons (pe_ix (Dat.ixL (K := K) rfl) (pe_lst (pa_cons pe_int (pa_cons pe_int (pa_cons pe_int (pa_cons pe_int pa_nil))))) (pe_call G__law_draw (hr.mono (by omega)) rfl T.D__law_draw.g T.D__law_draw.F.kp T.D__law_draw.b .nil pass0 (pa_cons (pv 0) (pa_cons pe_int pa_nil))) (fun _ _ => rfl)) pa_nil)))))
    (pss_cons (ps_set (i := 3) sc__law_setup.nd rfl (.inl rfl) (Dat.pe_tupleK (K := K) rfl rfl T.b_tuple (pe_callB (Dat.sortSetQ (w := w) rfl rfl) rfl T.b_sorted bt_sorted (pa_cons (pe_callTy (Dat.setLQ (w := w) rfl rfl) rfl T.b_set bt_set (pa_cons (pe_lst (pa_cons (pe_op op_add pe_int (pe_call G__law_draw (hr.mono (by omega)) rfl T.D__law_draw.g T.D__law_draw.F.kp T.D__law_draw.b .nil pass0 (pa_cons (pv 0) (pa_cons (pv 2) pa_nil)))) (pa_cons (pe_op op_add pe_int (pe_call G__law_draw (hr.mono (by omega)) rfl T.D__law_draw.g T.D__law_draw.F.kp T.D__law_draw.b .nil pass0 (pa_cons (pv 0) (pa_cons (pv 2) pa_nil)))) pa_nil))) pa_nil)) pa_nil))))
    (pss_cons (ps_set (i := 4) sc__law_setup.nd rfl (.inl rfl) (pe_tup (pa_cons (pe_op op_add pe_int (pe_call G__law_draw (hr.mono (by omega)) rfl T.D__law_draw.g T.D__law_draw.F.kp T.D__law_draw.b .nil pass0 (pa_cons (pv 0) (pa_cons (pe_ix (Dat.ixL (K := K) rfl) (pe_lst (pa_cons pe_int (pa_cons pe_int (pa_cons pe_int pa_nil)))) (pv 1) (fun _ _ => rfl)) pa_nil)))) (pa_cons (pe_call G__law_draw (hr.mono (by omega)) rfl T.D__law_draw.g T.D__law_draw.F.kp T.D__law_draw.b .nil pass0 (pa_cons (pv 0) (pa_cons (pe_ix (Dat.ixL (K := K) rfl) (pe_lst (pa_cons pe_int (pa_cons pe_int (pa_cons pe_int pa_nil)))) (pv 1) (fun _ _ => rfl)) pa_nil))) pa_nil))))
    (pss_cons (ps_set (i := 5) sc__law_setup.nd rfl (.inl rfl) (pe_tup (pa_cons (pe_callTy Dat.cl_int rfl T.b_int bt_int (pa_cons (pe_cmpR op_gt (pe_call G__law_draw (hr.mono (by omega)) rfl T.D__law_draw.g T.D__law_draw.F.kp T.D__law_draw.b .nil pass0 (pa_cons (pv 0) (pa_cons pe_int pa_nil))) pe_int (nomark _)) pa_nil)) (pa_cons (pe_call G__law_draw (hr.mono (by omega)) rfl T.D__law_draw.g T.D__law_draw.F.kp T.D__law_draw.b .nil pass0 (pa_cons (pv 0) (pa_cons (pe_ix (Dat.ixL (K := K) rfl) (pe_lst (pa_cons pe_int (pa_cons pe_int (pa_cons pe_int pa_nil)))) (pv 1) (fun _ _ => rfl)) pa_nil))) pa_nil))))
    (pss_cons (ps_set (i := 6) sc__law_setup.nd rfl (.inl rfl) (Dat.pe_tupleK (K := K) rfl rfl T.b_tuple (pe_callB (Dat.sortSetQ (w := w) rfl rfl) rfl T.b_sorted bt_sorted (pa_cons (pe_callTy (Dat.setLQ (w := w) rfl rfl) rfl T.b_set bt_set (pa_cons (pe_lst (pa_cons (pe_op op_add pe_int (pe_call G__law_draw (hr.mono (by omega)) rfl T.D__law_draw.g T.D__law_draw.F.kp T.D__law_draw.b .nil pass0 (pa_cons (pv 0) (pa_cons (pe_op op_sub pe_int (pv 1)) pa_nil)))) (pa_cons (pe_op op_add pe_int (pe_call G__law_draw (hr.mono (by omega)) rfl T.D__law_draw.g T.D__law_draw.F.kp T.D__law_draw.b .nil pass0 (pa_cons (pv 0) (pa_cons (pe_op op_sub pe_int (pv 1)) pa_nil)))) pa_nil))) pa_nil)) pa_nil))))
    (pss_cons (ps_set (i := 7) sc__law_setup.nd rfl (.inl rfl) (Dat.pe_tupleK (K := K) rfl rfl T.b_tuple (pe_lc (own := [("_law_k", 8)]) (g := (gName 8)) (tt := tYes) rfl sc__law_setup.nd (pi_range1 rfl T.b_range (pa_cons pe_int pa_nil)) (blkOk_by (N := N__law_setup) (sc := defScope s__law_setup) (by decide +kernel)) (fun _ _ _ _ _ => (pg_name (i := 8) sc__law_setup.nd rfl (Or.inl rfl))) (fun _ _ _ _ _ => pts_nil) (fun _ _ _ _ _ => (pe_call G__law_draw (hr.mono (by omega)) rfl T.D__law_draw.g T.D__law_draw.F.kp T.D__law_draw.b .nil pass0 (pa_cons (pv 0) (pa_cons pe_int pa_nil)))))))
    (pss_one (ps_ret (pe_tup (pa_cons (pv 2) (pa_cons (pv 3) (pa_cons (pv 4) (pa_cons (pv 5) (pa_cons (pv 6) (pa_cons (pe_op op_add pe_int (pe_call G__law_draw (hr.mono (by omega)) rfl T.D__law_draw.g T.D__law_draw.F.kp T.D__law_draw.b .nil pass0 (pa_cons (pv 0) (pa_cons (pe_op op_sub pe_int (pe_callTy Dat.cl_int rfl T.b_int bt_int (pa_cons (pe_cmpR op_gt (pv 1) pe_int (nomark _)) pa_nil))) pa_nil)))) (pa_cons (pv 7) pa_nil)))))))))))))))), ?_⟩
  rintro as Ω P ⟨Ω0, p, m, a, b, c, rfl, rfl, m0, m2, h⟩
  refine s_seqM (fun Γ' Ω' => ∃ n a b c : Int, 1 ≤ n ∧ n ≤ 4 ∧ Γ' = [some (.ptr p), some (.dat (.int m)), some (.dat (.int n)), none, none, none, none, none, none] ∧ Ω' = put Ω0 p (deckL a b c)) ?_ ?_
  · refine s_asg (e_op (e_int (e_draw rfl (e_op (e_lits [3, 3, 4, 4] (e_drawN rfl (by decide) (by decide) fun v a b c v0 v1 => r_ixL_ints 3 4 rfl (by decide) v0 v1 fun n n0 n1 => ⟨n, a, b, c, rfl, rfl, by omega, by omega, fun v a b c v0 v1 => r_I0i ⟨_, a, b, c, by omega, by omega, rfl, rfl⟩⟩))))))
  rintro Γ' Ω' ⟨n, a, b, c, n1, n4, rfl, rfl⟩
  refine s_seqM (fun Γ' Ω' => ∃ (z : PyData) (a b c : Int), choiceD n z = true ∧ Γ' = [some (.ptr p), some (.dat (.int m)), some (.dat (.int n)), some (.dat z), none, none, none, none, none] ∧ Ω' = put Ω0 p (deckL a b c)) ?_ ?_
  · refine s_asg (e_then (e_sortSet (a_cons (e_lstD (a_cons (e_op (e_int (e_draw rfl (e_var rfl ⟨_, a, b, c, rfl, rfl, by omega, by omega, fun x a b c x0 x1 => r_I0i ?_⟩)))))))))
    refine a_cons (e_op (e_int (e_draw rfl (e_var rfl ⟨_, a, b, c, rfl, rfl, by omega, by omega, fun y a b c y0 y1 => r_I0i (a_nil ⟨[.int (1 + x), .int (1 + y)], .cons (.cons .nil), rfl, a_nil ⟨[1 + x, 1 + y], .cons .nil, by simp, fun ns hs hm => r_tupL ⟨_, a, b, c, ?_, rfl, rfl⟩⟩⟩)⟩))))
    exact choice12 (by omega) (by omega) (by omega) (by omega) hs hm
  rintro Γ' Ω' ⟨z, a, b, c, hz, rfl, rfl⟩
  refine s_seqM (fun Γ' Ω' => ∃ (r1 r2 a b c : Int), 1 ≤ r1 ∧ r1 ≤ 2 ∧ 0 ≤ r2 ∧ r2 ≤ 2 ∧ Γ' = [some (.ptr p), some (.dat (.int m)), some (.dat (.int n)), some (.dat z), some (.dat (.tuple [.int r1, .int r2])), none, none, none, none] ∧ Ω' = put Ω0 p (deckL a b c)) ?_ ?_
  · refine s_asg (e_tupD (a_cons (e_op (e_int (e_draw rfl (e_op (e_lits [2, 2, 1] (e_var rfl (r_ixL_ints 1 2 rfl (by decide) m0 (by show m < 3; omega) fun k k0 k1 => ⟨k, a, b, c, rfl, rfl, by omega, by omega, fun x a b c x0 x1 => r_I0i ?_⟩)))))))))
    refine a_cons (e_draw rfl (e_op (e_lits [3, 2, 2] (e_var rfl (r_ixL_ints 2 3 rfl (by decide) m0 (by show m < 3; omega) fun k k0 k1 => ⟨k, a, b, c, rfl, rfl, by omega, by omega, fun y a b c y0 y1 => a_nil ⟨_, .cons (.cons .nil), rfl, _, _, a, b, c, ?_, ?_, ?_, ?_, rfl, rfl⟩⟩)))))
    all_goals omega
  rintro Γ' Ω' ⟨r1, r2, a, b, c, i1, i2, i3, i4, rfl, rfl⟩
  refine s_seqM (fun Γ' Ω' => ∃ (c1 c2 a b c : Int), 0 ≤ c1 ∧ c1 ≤ 1 ∧ 0 ≤ c2 ∧ c2 ≤ 2 ∧ Γ' = [some (.ptr p), some (.dat (.int m)), some (.dat (.int n)), some (.dat z), some (.dat (.tuple [.int r1, .int r2])), some (.dat (.tuple [.int c1, .int c2])), none, none, none] ∧ Ω' = put Ω0 p (deckL a b c)) ?_ ?_
  · refine s_asg (e_tupD (a_cons (e_cb (a_cons (e_op (e_drawN rfl (by decide) (by decide) fun v a b c v0 v1 => e_int (r_I0b (a_nil (c_intB ?_)))))))))
    refine a_cons (e_draw rfl (e_op (e_lits [3, 3, 2] (e_var rfl (r_ixL_ints 2 3 rfl (by decide) m0 (by show m < 3; omega) fun k k0 k1 => ⟨k, a, b, c, rfl, rfl, by omega, by omega, fun y a b c y0 y1 => a_nil ⟨_, .cons (.cons .nil), rfl, _, _, a, b, c, ?_, ?_, ?_, ?_, rfl, rfl⟩⟩)))))
    · split <;> decide
    · split <;> decide
    all_goals omega
  rintro Γ' Ω' ⟨c1, c2, a, b, c, j1, j2, j3, j4, rfl, rfl⟩
  refine s_seqM (fun Γ' Ω' => ∃ (y : PyData) (a b c : Int), choiceD 4 y = true ∧ Γ' = [some (.ptr p), some (.dat (.int m)), some (.dat (.int n)), some (.dat z), some (.dat (.tuple [.int r1, .int r2])), some (.dat (.tuple [.int c1, .int c2])), some (.dat y), none, none] ∧ Ω' = put Ω0 p (deckL a b c)) ?_ ?_
  · refine s_asg (e_then (e_sortSet (a_cons (e_lstD (a_cons (e_op (e_int (e_draw rfl (e_op (e_int (e_var rfl (r_I0i ⟨_, a, b, c, rfl, rfl, by omega, by omega, fun x a b c x0 x1 => r_I0i ?_⟩))))))))))))
    refine a_cons (e_op (e_int (e_draw rfl (e_op (e_int (e_var rfl (r_I0i ⟨_, a, b, c, rfl, rfl, by omega, by omega, fun y a b c y0 y1 => r_I0i (a_nil ⟨[.int (1 + x), .int (1 + y)], .cons (.cons .nil), rfl, a_nil ⟨[1 + x, 1 + y], .cons .nil, by simp, fun ns hs hm => r_tupL ⟨_, a, b, c, ?_, rfl, rfl⟩⟩⟩)⟩)))))))
    exact choice12 (by omega) (by omega) (by omega) (by omega) hs hm
  rintro Γ' Ω' ⟨y, a, b, c, hy, rfl, rfl⟩
  refine s_seqM (fun Γ' Ω' => ∃ (q : PyData) (a b c : Int), pricesD q = true ∧ Γ' = [some (.ptr p), some (.dat (.int m)), some (.dat (.int n)), some (.dat z), some (.dat (.tuple [.int r1, .int r2])), some (.dat (.tuple [.int c1, .int c2])), some (.dat y), some (.dat q), none] ∧ Ω' = put Ω0 p (deckL a b c)) ?_ ?_
  · refine s_asg (e_then ?_)
    refine e_lc (gn_name (by decide)) (fun D as i acc Ω' => Ω0 D = none ∧ D ≠ p ∧ ∃ (ns : List Int) (a b c : Int), as = rngA 0 4 ∧ acc = (ns.map PyData.int).map .dat ∧ ns.length = i ∧ (∀ n ∈ ns, 0 ≤ n ∧ n ≤ 5) ∧ Ω' = put (put Ω0 D acc) p (deckL a b c)) ?_
    refine i_rng1 (a_cons (e_int (a_nil ⟨4, rfl, by decide, by decide, fun D nD => ⟨?_, fun i x acc Ω' ex hM => ?_, fun acc Ω' hM => ?_⟩⟩)))
    · have ne : D ≠ p := fun e => by rw [e, put_same] at nD; cases nD
      rw [put_ne ne] at nD
      exact ⟨nD, ne, [], a, b, c, rfl, rfl, rfl, nofun, put_comm ne.symm⟩
    · obtain ⟨nD, ne, ns, a, b, c, _, rfl, hl, hb, rfl⟩ := hM
      refine ⟨by rw [put_ne ne, put_same], by rw [List.length_map, List.length_map]; omega, g_name (t_yes ⟨fun _ => ?_, nofun⟩)⟩
      refine e_drawN rfl (by decide) (by decide) fun v a b c v0 v1 => ⟨by rw [put_ne ne, put_same], nD, ne, ns ++ [v], a, b, c, rfl, by simp, by simp [hl], fun k hk => ?_, ?_⟩
      · rcases List.mem_append.mp hk with hk | hk
        · exact hb k hk
        · rw [List.mem_singleton] at hk
          omega
      · rw [put_comm ne.symm, put_put]
    · obtain ⟨nD, ne, ns, a, b, c, _, rfl, hl, hb, rfl⟩ := hM
      refine r_tupP (by rw [put_ne ne, put_same]) ⟨_, a, b, c, all4 ⟨ns, rfl, hl, hb⟩, rfl, ?_⟩
      rw [put_comm ne, del_put (by rw [put_ne ne]; exact nD)]
  rintro Γ' Ω' ⟨q, a, b, c, hq, rfl, rfl⟩
  refine s_ret (e_tupD (a_cons (e_var rfl (a_cons (e_var rfl (a_cons (e_var rfl (a_cons (e_var rfl (a_cons (e_var rfl (a_cons (e_op (e_int (e_draw rfl (e_op (e_int (e_cb (a_cons (e_op (e_var rfl (e_int (r_I0b (a_nil (c_intB (r_I0i ⟨_, a, b, c, rfl, rfl, ?_, ?_, fun x a b c x0 x1 => r_I0i (a_cons (e_var rfl (a_nil ⟨_, .cons (.cons (.cons (.cons (.cons (.cons (.cons .nil)))))), rfl, h _ a b c ?_⟩)))⟩))))))))))))))))))))))))))
  · split <;> decide
  · split <;> decide
  have x3 : x < 3 := by
    revert x1
    split <;> omega
  simp [setupD, inD_of n1 n4, intOf, hz, pairD, fstD, sndD, inD_of i1 i2, inD_of i3 i4, inD_of j1 j2, inD_of j3 j4, hy, hq, inD_of (show (1 : Int) ≤ 1 + x by omega) (show 1 + x ≤ 3 by omega)]
end
end K19

set_option Elab.async false
set_option linter.all false
set_option maxRecDepth 100000
set_option maxHeartbeats 1000000
namespace K19
open PySem PySem.Spec PyProof.Rows L2 Dat
local macro_rules | `(tactic| trivial) => `(tactic| (first
  | (with_reducible refine s_seq ?_)
  | (with_reducible refine s_asg ?_)
  | (with_reducible refine s_ret ?_)
  | (with_reducible refine s_drop ?_)
  | (with_reducible refine s_next ?_)
  | (with_reducible refine s_retN ?_)
  | (with_reducible refine s_brk ?_)
  | (with_reducible refine s_cont ?_)
  | (with_reducible refine s_if ?_)
  | (with_reducible refine e_int ?_)
  | (with_reducible refine e_str ?_)
  | (with_reducible refine e_bl ?_)
  | (with_reducible refine e_non ?_)
  | (with_reducible refine e_ty ?_)
  | (with_reducible refine e_tupD ?_)
  | (with_reducible refine e_lstD ?_)
  | (with_reducible refine e_op ?_)
  | (with_reducible refine e_un ?_)
  | (with_reducible refine e_then ?_)
  | (with_reducible refine e_cb ?_)
  | (with_reducible refine e_call ?_)
  | (with_reducible refine e_if ?_)
  | (with_reducible refine e_chain ?_)
  | (with_reducible refine e_andV ?_)
  | (with_reducible refine e_orV ?_)
  | (with_reducible refine e_notV ?_)
  | (with_reducible refine a_cons ?_)
  | (with_reducible refine a_nil ?_)
  | (with_reducible refine t_test ?_)
  | (with_reducible refine t_B ?_)
  | (with_reducible refine t_not ?_)
  | (with_reducible refine t_and ?_)
  | (with_reducible refine t_or ?_)
  | (with_reducible refine r_I0i ?_)
  | (with_reducible refine r_I0b ?_)
  | (with_reducible refine r_neg ?_)
  | (with_reducible refine r_isN ?_)
  | (with_reducible refine r_notN ?_)
  | (with_reducible refine c_lenT ?_)
  | (with_reducible refine c_lenL ?_)
  | (with_reducible refine c_intI ?_)
  | (with_reducible refine c_intB ?_)
  | (with_reducible refine c_max2 ?_)
  | (with_reducible refine c_min2 ?_)
  | (with_reducible refine c_abs ?_)
  | (with_reducible refine r_tupL ?_)
  | (with_reducible refine r_tupT ?_)
  | (with_reducible refine c_allM ?_)
  | ((with_reducible apply e_var); (exact rfl))
  | ((with_reducible refine r_eq ?_ ?_); (exact rfl))
  | ((with_reducible refine r_ne ?_ ?_); (exact rfl))
  | (with_reducible refine c_isi kit_int ?_)
  | (with_reducible refine c_isi kit_bool ?_)
  | (with_reducible refine c_isi kit_tuple ?_)
  | (with_reducible refine c_isi kit_list ?_)
  | (with_reducible refine c_isi kit_str ?_)
  | ((with_reducible apply r_ixT); (exact rfl))
  | ((with_reducible apply dats_pack); (iterate 40 (first | exact Dats.nil | apply Dats.cons | skip)); (exact rfl))
  | (with_reducible refine s_asgG ?_) | (with_reducible refine g_name ?_) | ((with_reducible refine g_tup ?_ ?_); (exact rfl)) | (refine gs_nil ?_) | (refine gs_cons ?_) | (with_reducible refine ⟨rfl, ?_⟩)
  | (refine ⟨_, rfl, ?_⟩) | (refine ⟨_, _, rfl, ?_⟩) | (refine ⟨_, _, _, rfl, ?_⟩) | (with_reducible refine ⟨fun _ => ?_, fun _ => ?_⟩) | fail))
section
variable {P : Program} {w : World} {K : PySem.W.Frag} {mg : Str → Option Value} {base : Heap}
/-! ### ranges, seat rules drawn -/
abbrev rng (lo hi : Int) : PyData := .tuple [.int lo, .int hi]
abbrev spRange : ASp := fun as Ω P => ∃ (Ω0 : AH) (p : Addr) (m a b c : Int), as = [.ptr p, .dat (.int m)] ∧ Ω = put Ω0 p (deckL a b c) ∧ 0 ≤ m ∧ m ≤ 9 ∧ ∀ lo hi a' b' c', 0 ≤ lo → lo ≤ hi → hi ≤ 9 → P (.dat (rng lo hi)) (put Ω0 p (deckL a' b' c'))
theorem ok_range (T : Top K mg) : FnOk P w K mg base CX0 2 T.f__law_range T.d__law_range ["_law_deck_here", "_law_most"] (spA K spRange) := by
  have G__law_draw : FnOk P w K mg base CX0 1 T.f__law_draw T.d__law_draw ["_law_deck_here", "_law_many"] (spA K spDraw) := ok_draw T
  refine fnA_ok T.D__law_range.F sc__law_range (fun as Ω P ⟨Ω0, p, m, a, b, c, e, _⟩ => by subst e; rfl) (fun cdv A outer s H E hr => ?_)
  refine ⟨_, (pss_cons (ps_par (i := 2) (j := 3) rfl sc__law_range.nd rfl rfl (by decide) rfl rfl (pa_cons (pe_call G__law_draw (hr.mono (by omega)) rfl T.D__law_draw.g T.D__law_draw.F.kp T.D__law_draw.b .nil pass0 (pa_cons (pv 0) (pa_cons (pe_op op_add (pv 1) pe_int) pa_nil))) (pa_cons (pe_call G__law_draw (hr.mono (by omega)) rfl T.D__law_draw.g T.D__law_draw.F.kp T.D__law_draw.b .nil pass0 (pa_cons (pv 0) (pa_cons (pe_op op_add (pv 1) pe_int) pa_nil))) pa_nil)) (by rfl))
    (pss_one (ps_ret (pe_ix (Dat.ixL (K := K) rfl) (pe_lst (pa_cons (pe_tup (pa_cons pe_int (pa_cons pe_int pa_nil))) (pa_cons (pe_tup (pa_cons pe_int (pa_cons pe_int pa_nil))) (pa_cons (pe_tup (pa_cons (pv 2) (pa_cons pe_int pa_nil))) (pa_cons (pe_tup (pa_cons pe_int (pa_cons (pv 2) pa_nil))) (pa_cons (pe_tup (pa_cons (pv 2) (pa_cons (pv 2) pa_nil))) (pa_cons (pe_tup (pa_cons (pe_callB (Dat.cl_min2 rfl) rfl T.b_min bt_min (pa_cons (pv 2) (pa_cons (pv 3) pa_nil))) (pa_cons (pe_callB (Dat.cl_max2 rfl) rfl T.b_max bt_max (pa_cons (pv 2) (pa_cons (pv 3) pa_nil))) pa_nil))) pa_nil))))))) (pe_call G__law_draw (hr.mono (by omega)) rfl T.D__law_draw.g T.D__law_draw.F.kp T.D__law_draw.b .nil pass0 (pa_cons (pv 0) (pa_cons pe_int pa_nil))) (fun _ _ => rfl))))), ?_⟩
  rintro as Ω P ⟨Ω0, p, m, a, b, c, rfl, rfl, m0, m9, h⟩
  refine s_seq (s_par (a_cons (e_draw rfl (e_op (e_var rfl (e_int (r_I0i ⟨_, a, b, c, rfl, rfl, by omega, by omega, fun x a b c x0 x1 => ?_⟩)))))))
  refine a_cons (e_draw rfl (e_op (e_var rfl (e_int (r_I0i ⟨_, a, b, c, rfl, rfl, by omega, by omega, fun y a b c y0 y1 => a_nil ⟨_, _, rfl, ?_⟩⟩)))))
  refine s_ret (e_op (e_lstD (a_cons (e_tupD (a_cons (e_int (a_cons (e_int (a_nil ⟨[.int 0, .int 9], .cons (.cons .nil), rfl, ?_⟩)))))))))
  refine a_cons (e_tupD (a_cons (e_int (a_cons (e_int (a_nil ⟨[.int 0, .int 9], .cons (.cons .nil), rfl, ?_⟩))))))
  refine a_cons (e_tupD (a_cons (e_var rfl (a_cons (e_int (a_nil ⟨[.int x, .int 9], .cons (.cons .nil), rfl, ?_⟩))))))
  refine a_cons (e_tupD (a_cons (e_int (a_cons (e_var rfl (a_nil ⟨[.int 0, .int x], .cons (.cons .nil), rfl, ?_⟩))))))
  refine a_cons (e_tupD (a_cons (e_var rfl (a_cons (e_var rfl (a_nil ⟨[.int x, .int x], .cons (.cons .nil), rfl, ?_⟩))))))
  refine a_cons (e_tupD (a_cons (e_cb (a_cons (e_var rfl (a_cons (e_var rfl (a_nil (c_min2 ?_)))))))))
  refine a_cons (e_cb (a_cons (e_var rfl (a_cons (e_var rfl (a_nil (c_max2 (a_nil ⟨_, .cons (.cons .nil), rfl, a_nil ⟨_, .cons (.cons (.cons (.cons (.cons (.cons .nil))))), rfl, ?_⟩⟩))))))))
  refine e_drawN rfl (by decide) (by decide) fun v a b c v0 v1 => r_ixL_any v0 v1 fun d hd => ?_
  simp only [List.mem_cons, List.not_mem_nil, or_false] at hd
  rcases hd with rfl | rfl | rfl | rfl | rfl | rfl
  · exact h 0 9 a b c (by decide) (by decide) (by decide)
  · exact h 0 9 a b c (by decide) (by decide) (by decide)
  · exact h x 9 a b c (by omega) (by omega) (by omega)
  · exact h 0 x a b c (by omega) (by omega) (by omega)
  · exact h x x a b c (by omega) (by omega) (by omega)
  · refine h _ _ a b c ?_ ?_ ?_
    all_goals repeat' split
    all_goals omega
theorem span_rng {lo hi : Int} (h0 : 0 ≤ lo) (h1 : lo ≤ hi) (h2 : hi ≤ 9) : spanD (rng lo hi) = true := by
  simp [spanD, inD_of h0 (show lo ≤ 9 by omega), inD_of (show 0 ≤ hi by omega) h2, intOf, h1]
abbrev spSeats : ASp := fun as Ω P => ∃ (Ω0 : AH) (p : Addr) (m : Int) (df : Bool) (a b c : Int), as = [.ptr p, .dat (.int m), .dat (.bool df)] ∧ Ω = put Ω0 p (deckL a b c) ∧ 1 ≤ m ∧ m ≤ 3 ∧ ∀ ds a' b' c', ds.length ≤ 6 → (∀ d ∈ ds, rowD seatWs d = true) → P (.dat (.tuple ds)) (put Ω0 p (deckL a' b' c'))
theorem ok_seats (T : Top K mg) : FnOk P w K mg base CX0 3 T.f__law_seats T.d__law_seats ["_law_deck_here", "_law_moods", "_law_deaf"] (spA K spSeats) := by
  have G__law_draw : FnOk P w K mg base CX0 1 T.f__law_draw T.d__law_draw ["_law_deck_here", "_law_many"] (spA K spDraw) := ok_draw T
  have G__law_range : FnOk P w K mg base CX0 2 T.f__law_range T.d__law_range ["_law_deck_here", "_law_most"] (spA K spRange) := ok_range T
  refine fnA_ok T.D__law_seats.F sc__law_seats (fun as Ω P ⟨Ω0, p, m, df, a, b, c, e, _⟩ => by subst e; rfl) (fun cdv A outer s H E hr => ?_)
  refine ⟨_, (pss_cons (ps_set (i := 3) sc__law_seats.nd rfl (.inl rfl) (pe_lst pa_nil))
    (pss_cons (ps_for PassesOwn.never rfl (pi_range1 rfl T.b_range (pa_cons (pe_call G__law_draw (hr.mono (by omega)) rfl T.D__law_draw.g T.D__law_draw.F.kp T.D__law_draw.b .nil pass0 (pa_cons (pv 0) (pa_cons (pe_ix (Dat.ixL (K := K) rfl) (pe_lst (pa_cons pe_int (pa_cons pe_int (pa_cons pe_int pa_nil)))) (pe_call G__law_draw (hr.mono (by omega)) rfl T.D__law_draw.g T.D__law_draw.F.kp T.D__law_draw.b .nil pass0 (pa_cons (pv 0) (pa_cons pe_int pa_nil))) (fun _ _ => rfl)) pa_nil))) pa_nil)) (pg_name (i := 4) sc__law_seats.nd rfl (.inl rfl))
      (pss_cons (ps_set (i := 5) sc__law_seats.nd rfl (.inl rfl) (pe_ix (Dat.ixL (K := K) rfl) (pe_lst (pa_cons pe_str (pa_cons pe_str (pa_cons pe_str (pa_cons pe_str (pa_cons pe_str pa_nil)))))) (pe_call G__law_draw (hr.mono (by omega)) rfl T.D__law_draw.g T.D__law_draw.F.kp T.D__law_draw.b .nil pass0 (pa_cons (pv 0) (pa_cons pe_int pa_nil))) (fun _ _ => rfl)))
      (pss_cons (ps_set (i := 6) sc__law_seats.nd rfl (.inl rfl) (pe_tup (pa_cons (pe_call G__law_range (hr.mono (by omega)) rfl T.D__law_range.g T.D__law_range.F.kp T.D__law_range.b .nil pass0 (pa_cons (pv 0) (pa_cons pe_int pa_nil))) (pa_cons (pe_call G__law_range (hr.mono (by omega)) rfl T.D__law_range.g T.D__law_range.F.kp T.D__law_range.b .nil pass0 (pa_cons (pv 0) (pa_cons pe_int pa_nil))) (pa_cons (pe_call G__law_range (hr.mono (by omega)) rfl T.D__law_range.g T.D__law_range.F.kp T.D__law_range.b .nil pass0 (pa_cons (pv 0) (pa_cons pe_int pa_nil))) (pa_cons (pe_ifExp (pt_val (pv 2)) (pe_tup (pa_cons pe_int (pa_cons pe_int pa_nil))) (pe_call G__law_range (hr.mono (by omega)) rfl T.D__law_range.g T.D__law_range.F.kp T.D__law_range.b .nil pass0 (pa_cons (pv 0) (pa_cons pe_int pa_nil)))) pa_nil))))))
      (pss_one (ps_expr (Dat.appQ (K := K) rfl (pv 3) (pa_cons (pe_op (Dat.catT (K := K) rfl) (pe_op (Dat.catT (K := K) rfl) (pe_tup (pa_cons (pe_call G__law_draw (hr.mono (by omega)) rfl T.D__law_draw.g T.D__law_draw.F.kp T.D__law_draw.b .nil pass0 (pa_cons (pv 0) (pa_cons (pv 1) pa_nil))) pa_nil)) (pv 6)) (pe_tup (pa_cons (pv 5) (pa_cons (pe_call G__law_draw (hr.mono (by omega)) rfl T.D__law_draw.g T.D__law_draw.F.kp T.D__law_draw.b .nil pass0 (pa_cons (pv 0) (pa_cons (pv 1) pa_nil))) pa_nil)))) pa_nil)))))))
    (pss_one (ps_ret (Dat.pe_tupleK (K := K) rfl rfl T.b_tuple (pv 3)))))), ?_⟩
  rintro as Ω P ⟨Ω0, p, m, df, a, b, c, rfl, rfl, m1, m3, h⟩
  refine s_seq (s_asg (e_lstP (a_nil ⟨by simp, fun f nf => ?_⟩)))
  have ne : f ≠ p := fun e => by rw [e, put_same] at nf; cases nf
  rw [put_ne ne] at nf
  rw [put_comm ne.symm]
  refine s_seqM (fun Γ' Ω' => ∃ (ds : List PyData) (x y z : Option Av) (a b c : Int), ds.length ≤ 6 ∧ (∀ d ∈ ds, rowD seatWs d = true) ∧ Γ' = [some (.ptr p), some (.dat (.int m)), some (.dat (.bool df)), some (.ptr f), x, y, z] ∧ Ω' = put (put Ω0 f (ds.map .dat)) p (deckL a b c)) ?_ ?_
  · refine s_for (fun as i Γ' Ω' => as.length ≤ 6 ∧ ∃ (ds : List PyData) (x y z : Option Av) (a b c : Int), ds.length = i ∧ (∀ d ∈ ds, rowD seatWs d = true) ∧ Γ' = [some (.ptr p), some (.dat (.int m)), some (.dat (.bool df)), some (.ptr f), x, y, z] ∧ Ω' = put (put Ω0 f (ds.map .dat)) p (deckL a b c)) ?_
    refine i_rng1 (a_cons (e_draw rfl (e_op (e_lits [4, 5, 7] (e_drawN rfl (by decide) (by decide) fun v a b c v0 v1 => r_ixL_ints 4 7 rfl (by decide) v0 v1 fun n n0 n1 => ⟨n, a, b, c, rfl, rfl, by omega, by omega, fun t a b c t0 t1 => a_nil ⟨t, rfl, ⟨by omega, by omega⟩, ⟨⟨?_, [], none, none, none, a, b, c, rfl, nofun, rfl, rfl⟩, ?_, ?_⟩⟩⟩)))))
    · unfold rngA
      rw [List.length_map, List.length_range]
      omega
    · rintro i it Γ' Ω' hit ⟨hl, ds, x, y, z, a, b, c, hd, hr, rfl, rfl⟩
      have hi := (List.getElem?_eq_some_iff.mp hit).1
      refine g_name (s_seq (s_asg (e_op (e_lstD (a_cons (e_str (a_cons (e_str (a_cons (e_str (a_cons (e_str (a_cons (e_str (a_nil ⟨_, .cons (.cons (.cons (.cons (.cons .nil)))), rfl, ?_⟩)))))))))))))))
      refine e_drawN rfl (by decide) (by decide) fun v a b c v0 v1 => r_ixL_any v0 v1 fun dd hdd => ?_
      have edd : ∃ x, dd = .str x ∧ (seatWs.any fun w => isStr w (.str x)) = true := by
        simp only [List.mem_cons, List.not_mem_nil, or_false] at hdd
        rcases hdd with rfl | rfl | rfl | rfl | rfl <;> exact ⟨_, rfl, by decide⟩
      obtain ⟨wd, rfl, hwd⟩ := edd
      refine s_seq (s_asg (e_tupD ?_))
      refine a_cons (e_call (a_cons (e_var rfl (a_cons (e_int (a_nil ⟨_, p, 4, a, b, c, rfl, rfl, by decide, by decide, fun l1 g1 a b c p1 p2 p3 => ?_⟩))))))
      refine a_cons (e_call (a_cons (e_var rfl (a_cons (e_int (a_nil ⟨_, p, 4, a, b, c, rfl, rfl, by decide, by decide, fun l2 g2 a b c q1 q2 q3 => ?_⟩))))))
      refine a_cons (e_call (a_cons (e_var rfl (a_cons (e_int (a_nil ⟨_, p, 2, a, b, c, rfl, rfl, by decide, by decide, fun l3 g3 a b c r1 r2 r3 => ?_⟩))))))
      refine a_cons (EW.mono (P := fun a Ω' => ∃ (lo hi a' b' c' : Int), a = .dat (rng lo hi) ∧ 0 ≤ lo ∧ lo ≤ hi ∧ hi ≤ 9 ∧ Ω' = put (put Ω0 f (ds.map .dat)) p (deckL a' b' c')) ?_ ?_)
      · refine e_if (t_test (e_var rfl ⟨df, rfl, fun _ => ?_, fun _ => ?_⟩))
        · exact e_tupD (a_cons (e_int (a_cons (e_int (a_nil ⟨_, .cons (.cons .nil), rfl, 0, 9, a, b, c, rfl, by decide, by decide, by decide, rfl⟩)))))
        · exact e_call (a_cons (e_var rfl (a_cons (e_int (a_nil ⟨_, p, 4, a, b, c, rfl, rfl, by decide, by decide, fun l4 g4 a b c q1 q2 q3 => ⟨l4, g4, a, b, c, rfl, q1, q2, q3, rfl⟩⟩)))))
      rintro _ _ ⟨l4, g4, a, b, c, rfl, s1, s2, s3, rfl⟩
      refine a_nil ⟨_, .cons (.cons (.cons (.cons .nil))), rfl, ?_⟩
      refine s_drop (e_app (e_var rfl ⟨f, rfl, ⟨_, by rw [put_ne ne, put_same]⟩, ?_⟩))
      refine a_cons (e_op (e_op (e_tupD (a_cons (e_draw rfl (e_var rfl ⟨m, a, b, c, rfl, rfl, by omega, by omega, fun u a b c u0 u1 => a_nil ⟨_, .cons .nil, rfl, e_var rfl (r_catT (by simp) ?_)⟩⟩))))))
      refine e_tupD (a_cons (e_var rfl (a_cons (e_draw rfl (e_var rfl ⟨m, a, b, c, rfl, rfl, by omega, by omega, fun o a b c o0 o1 => a_nil ⟨_, .cons (.cons .nil), rfl, r_catT (by simp) (a_nil ⟨_, _, rfl, by rw [put_ne ne, put_same], by rw [List.length_map]; omega, ?_⟩)⟩⟩)))))
      refine ⟨hl, ds ++ [.tuple [.int u, rng l1 g1, rng l2 g2, rng l3 g3, rng l4 g4, .str wd, .int o]], _, _, _, a, b, c, by rw [List.length_append, hd]; rfl, fun d hd => ?_, rfl, ?_⟩
      · rcases List.mem_append.mp hd with hd | hd
        · exact hr d hd
        · rw [List.mem_singleton] at hd
          subst hd
          simp only [rowD, inD_of u0 (show u ≤ 2 by omega), inD_of o0 (show o ≤ 2 by omega), hwd, List.all_cons, List.all_nil, span_rng p1 p2 p3, span_rng q1 q2 q3, span_rng r1 r2 r3, span_rng s1 s2 s3, Bool.and_self]
      · rw [put_comm ne.symm, put_put, List.map_append]
        rfl
    · rintro Γ' Ω' ⟨hl, ds, x, y, z, a, b, c, hd, hr, rfl, rfl⟩
      exact ⟨ds, x, y, z, a, b, c, by omega, hr, rfl, rfl⟩
  rintro Γ' Ω' ⟨ds, x, y, z, a, b, c, hl, hr, rfl, rfl⟩
  refine s_ret (e_then (e_var rfl (r_tupP (by rw [put_ne ne, put_same]) ?_)))
  rw [put_comm ne, del_put (by rw [put_ne ne]; exact nf)]
  exact h _ _ _ _ hl hr
end
end K19

set_option Elab.async false
set_option linter.all false
set_option maxRecDepth 100000
set_option maxHeartbeats 1000000
namespace K19
open PySem PySem.Spec PyProof.Rows L2 Dat
local macro_rules | `(tactic| trivial) => `(tactic| (first
  | (with_reducible refine s_seq ?_)
  | (with_reducible refine s_asg ?_)
  | (with_reducible refine s_ret ?_)
  | (with_reducible refine s_drop ?_)
  | (with_reducible refine s_next ?_)
  | (with_reducible refine s_retN ?_)
  | (with_reducible refine s_brk ?_)
  | (with_reducible refine s_cont ?_)
  | (with_reducible refine s_if ?_)
  | (with_reducible refine e_int ?_)
  | (with_reducible refine e_str ?_)
  | (with_reducible refine e_bl ?_)
  | (with_reducible refine e_non ?_)
  | (with_reducible refine e_ty ?_)
  | (with_reducible refine e_tupD ?_)
  | (with_reducible refine e_lstD ?_)
  | (with_reducible refine e_op ?_)
  | (with_reducible refine e_un ?_)
  | (with_reducible refine e_then ?_)
  | (with_reducible refine e_cb ?_)
  | (with_reducible refine e_call ?_)
  | (with_reducible refine e_if ?_)
  | (with_reducible refine e_chain ?_)
  | (with_reducible refine e_andV ?_)
  | (with_reducible refine e_orV ?_)
  | (with_reducible refine e_notV ?_)
  | (with_reducible refine a_cons ?_)
  | (with_reducible refine a_nil ?_)
  | (with_reducible refine t_test ?_)
  | (with_reducible refine t_B ?_)
  | (with_reducible refine t_not ?_)
  | (with_reducible refine t_and ?_)
  | (with_reducible refine t_or ?_)
  | (with_reducible refine r_I0i ?_)
  | (with_reducible refine r_I0b ?_)
  | (with_reducible refine r_neg ?_)
  | (with_reducible refine r_isN ?_)
  | (with_reducible refine r_notN ?_)
  | (with_reducible refine c_lenT ?_)
  | (with_reducible refine c_lenL ?_)
  | (with_reducible refine c_intI ?_)
  | (with_reducible refine c_intB ?_)
  | (with_reducible refine c_max2 ?_)
  | (with_reducible refine c_min2 ?_)
  | (with_reducible refine c_abs ?_)
  | (with_reducible refine r_tupL ?_)
  | (with_reducible refine r_tupT ?_)
  | (with_reducible refine c_allM ?_)
  | ((with_reducible apply e_var); (exact rfl))
  | ((with_reducible refine r_eq ?_ ?_); (exact rfl))
  | ((with_reducible refine r_ne ?_ ?_); (exact rfl))
  | (with_reducible refine c_isi kit_int ?_)
  | (with_reducible refine c_isi kit_bool ?_)
  | (with_reducible refine c_isi kit_tuple ?_)
  | (with_reducible refine c_isi kit_list ?_)
  | (with_reducible refine c_isi kit_str ?_)
  | ((with_reducible apply r_ixT); (exact rfl))
  | ((with_reducible apply dats_pack); (iterate 40 (first | exact Dats.nil | apply Dats.cons | skip)); (exact rfl))
  | (with_reducible refine s_asgG ?_) | (with_reducible refine g_name ?_) | ((with_reducible refine g_tup ?_ ?_); (exact rfl)) | (refine gs_nil ?_) | (refine gs_cons ?_) | (with_reducible refine ⟨rfl, ?_⟩)
  | (refine ⟨_, rfl, ?_⟩) | (refine ⟨_, _, rfl, ?_⟩) | (refine ⟨_, _, _, rfl, ?_⟩) | (with_reducible refine ⟨fun _ => ?_, fun _ => ?_⟩) | fail))
section
variable {P : Program} {w : World} {K : PySem.W.Frag} {mg : Str → Option Value} {base : Heap}
/-! ### the law's judges -/
theorem lay_ints : ∀ ns : List Int, PyData.canLayAll0 (ns.map PyData.int) = true ∧ PyData.depthAll (ns.map PyData.int) = 0
  | [] => ⟨by simp [PyData.canLayAll0], by simp [PyData.depthAll]⟩
  | n :: r => ⟨by simp [PyData.canLayAll0, PyData.canLay0, (lay_ints r).1], by simp [PyData.depthAll, PyData.depth, (lay_ints r).2]⟩
theorem shaped_ints (ns : List Int) : SeqAt.shaped (.list (ns.map PyData.int)) = true := by
  simp [SeqAt.shaped, PyData.canLay0, PyData.depth, lay_ints]
theorem eqv_nil (ds : List PyData) : PyData.eqv (.list ds) (.list []) = ds.isEmpty := by
  cases ds <;> simp [PyData.eqv, PyData.eqvAll]
theorem isEmpty_filter {α : Type} {xs : List α} {p : α → Bool} : ((xs.filter fun x => !p x).isEmpty) = xs.all p := by
  induction xs with
  | nil => rfl
  | cons a r ih =>
    rw [List.filter_cons, List.all_cons]
    cases h : p a <;> simp [ih]
def areD (ls hs : List Int) : PyData → Bool
  | .tuple ds => decide (ds.length = ls.length) && (List.range ls.length).all fun k => inD (ls.getD k 0) (hs.getD k 0) (ds.getD k .none)
  | _ => false
theorem ok_is_number (T : Top K mg) : FnOk P w K mg base CX0 1 T.f__law_is_number T.d__law_is_number ["_law_item", "_law_low", "_law_high"] (spA K spIn) := by
  refine fnA_ok T.D__law_is_number.F sc__law_is_number (fun as Ω P ⟨d, lo, hi, e, _⟩ => by subst e; rfl) (fun cdv A outer s H E hr => ?_)
  refine ⟨_, (pss_one (ps_ret (pe_and (pe_callB (Dat.isiQ (K := K) rfl) rfl T.b_isinstance bt_isinstance (pa_cons (pv 0) (pa_cons (pe_bltn (v := .ty "int") rfl T.b_int bt_int rfl) pa_nil))) (pe_and (pe_not (pe_callB (Dat.isiQ (K := K) rfl) rfl T.b_isinstance bt_isinstance (pa_cons (pv 0) (pa_cons (pe_bltn (v := .ty "bool") rfl T.b_bool bt_bool rfl) pa_nil)))) (pe_one (pe_chain op_le op_le (pv 1) (pv 0) (pv 2))))))), ?_⟩
  rintro as Ω P ⟨d, lo, hi, rfl, h⟩
  cases d
  all_goals (repeat' trivial)
  all_goals simp_all [inD, isIntD, isBoolD]
abbrev spAre : ASp := fun as Ω P => ∃ (d : PyData) (ls hs : List Int), as = [.dat d, .dat (.tuple (ls.map PyData.int)), .dat (.tuple (hs.map PyData.int))] ∧ ls.length = hs.length ∧ ls.length ≤ 8 ∧ P (.dat (.bool (areD ls hs d))) Ω
theorem getD_map_int {ls : List Int} {k : Nat} (h : k < ls.length) : (ls.map PyData.int)[k]? = some (.int (ls.getD k 0)) := by
  rw [List.getElem?_map, List.getD_eq_getElem?_getD, List.getElem?_eq_getElem h]
  rfl
theorem ok_are (T : Top K mg) : FnOk P w K mg base CX0 2 T.f__law_are T.d__law_are ["_law_item", "_law_lows", "_law_highs"] (spA K spAre) := by
  have G__law_is_number : FnOk P w K mg base CX0 1 T.f__law_is_number T.d__law_is_number ["_law_item", "_law_low", "_law_high"] (spA K spIn) := ok_is_number T
  refine fnA_ok T.D__law_are.F sc__law_are (fun as Ω P ⟨d, ls, hs, e, _⟩ => by subst e; rfl) (fun cdv A outer s H E hr => ?_)
  refine ⟨_, (pss_cons (ps_if (PW.pt (pw_or (pt_not (pt_val (pe_callB (Dat.isiQ (K := K) rfl) rfl T.b_isinstance bt_isinstance (pa_cons (pv 0) (pa_cons (pe_bltn (v := .ty "tuple") rfl T.b_tuple bt_tuple rfl) pa_nil))))) (pw_or1 (pt_cmpR op_ne (pe_callB (Dat.lenQ (K := K) rfl) rfl T.b_len bt_len (pa_cons (pv 0) pa_nil)) (pe_callB (Dat.lenQ (K := K) rfl) rfl T.b_len bt_len (pa_cons (pv 1) pa_nil)) (nomark _)))))
      (pss_one (ps_ret pe_bl))
      pss_nil)
    (pss_one (ps_ret (pe_cmpR (Dat.eqDQ (K := K) rfl (hu64 hr)) (pe_lc (own := [("_law_k", 3)]) (g := (gName 3)) (tt := _) rfl sc__law_are.nd (pi_range1 rfl T.b_range (pa_cons (pe_callB (Dat.lenQ (K := K) rfl) rfl T.b_len bt_len (pa_cons (pv 1) pa_nil)) pa_nil)) (blkOk_by (N := N__law_are) (sc := defScope s__law_are) (by decide +kernel)) (fun _ _ _ _ _ => (pg_name (i := 3) sc__law_are.nd rfl (Or.inl rfl))) (fun _ _ _ _ _ => (pts_one (pt_not (pt_val (pe_call G__law_is_number (hr.mono (by omega)) rfl T.D__law_is_number.g T.D__law_is_number.F.kp T.D__law_is_number.b .nil pass0 (pa_cons (pe_ix (Dat.ixT (K := K) rfl) (pv 0) (pv 3) (fun _ _ => rfl)) (pa_cons (pe_ix (Dat.ixT (K := K) rfl) (pv 1) (pv 3) (fun _ _ => rfl)) (pa_cons (pe_ix (Dat.ixT (K := K) rfl) (pv 2) (pv 3) (fun _ _ => rfl)) pa_nil)))))))) (fun _ _ _ _ _ => (pv 3))) (pe_lst pa_nil) (nomark _))))), ?_⟩
  rintro as Ω P ⟨d, ls, hs, rfl, hlh, hl8, h⟩
  rcases tup_or d with ⟨ds, rfl⟩ | hn
  · refine s_seq (s_ifB (b := !true || !decide ((ds.length : Int) = ls.length)) (t_orB (t_notB (t_ofB ?_)) fun _ => t_ofC ?_) (fun z => ?_) fun z => s_next ?_)
    · repeat' trivial
    · repeat' trivial
      refine ⟨?_, rfl⟩
      simp [eqD]
    · have : areD ls hs (.tuple ds) = false := by
        have z2 : ¬ ds.length = ls.length := by
          have : ¬ (ds.length : Int) = ls.length := by simpa using z
          omega
        simp [areD, z2]
      rw [this] at h
      exact s_ret (e_bl h)
    · have hl : ds.length = ls.length := by
        have : (ds.length : Int) = ls.length := by simpa using z
        omega
      refine s_ret (e_op (e_lcF (List.range ls.length) (fun k => .dat (.int (0 + (k : Nat)))) (fun k => !inD (ls.getD k 0) (hs.getD k 0) (ds.getD k .none)) (fun k => .int (0 + (k : Nat))) (gn_name (by decide)) (by rw [List.length_range]; omega) ?_))
      refine i_rng1 (a_cons (e_cb (a_cons (e_var rfl (a_nil (c_lenT (a_nil ⟨_, rfl, ⟨by rw [List.length_map]; omega, by rw [List.length_map]; omega⟩, ⟨?_, fun k Ω' hk _ => ?_, ?_⟩⟩)))))))
      · unfold rngA
        rw [List.length_map, Int.toNat_natCast]
      · have hk' : k < ls.length := List.mem_range.mp hk
        have e1 : atI (ls.map PyData.int) (0 + (k : Int)) = some (.int (ls.getD k 0)) := by rw [Int.zero_add]; exact atI_nat' (getD_map_int hk')
        have e2 : atI (hs.map PyData.int) (0 + (k : Int)) = some (.int (hs.getD k 0)) := by rw [Int.zero_add]; exact atI_nat' (getD_map_int (by omega))
        have e3 : atI ds (0 + (k : Int)) = some (ds.getD k .none) := by
          rw [Int.zero_add, List.getD_eq_getElem?_getD]
          refine atI_nat' ?_
          rw [List.getElem?_eq_getElem (by omega)]
          rfl
        refine g_name ⟨rfl, t_not (t_B (e_call (a_cons (e_op (e_var rfl (e_var rfl (r_ixT e3 (a_cons (e_op (e_var rfl (e_var rfl (r_ixT e1 (a_cons (e_op (e_var rfl (e_var rfl (r_ixT e2 (a_nil ⟨_, _, _, rfl, _, rfl, rfl, rfl, fun _ => e_var rfl ⟨rfl, rfl⟩⟩))))))))))))))))))⟩
      · refine e_lstD (a_nil ⟨[], .nil, rfl, r_eqD ?_ rfl ?_⟩)
        · have := shaped_ints (((List.range ls.length).filter fun k => !inD (ls.getD k 0) (hs.getD k 0) (ds.getD k .none)).map fun k : Nat => (0 + (k : Int) : Int))
          rw [List.map_map] at this
          exact this
        · rw [eqv_nil, List.isEmpty_map, isEmpty_filter]
          have : areD ls hs (.tuple ds) = (List.range ls.length).all fun k => inD (ls.getD k 0) (hs.getD k 0) (ds.getD k .none) := by
            simp only [areD, hl, decide_true, Bool.true_and]
          rw [← this]
          exact h
  · have e : areD ls hs d = false := by cases d <;> first | rfl | cases hn
    rw [e] at h
    repeat' trivial
    all_goals (cases d <;> simp_all [isTupD])
theorem are1 {m : Int} {d : PyData} : areD [1] [m] d = true ↔ ∃ x, d = .tuple [x] ∧ inD 1 m x = true := by
  constructor
  · intro h
    cases d <;> try (cases h; done)
    rename_i ds
    match ds, h with
    | [], h => simp [areD] at h
    | [x], h => exact ⟨x, rfl, by simpa [areD, List.range_succ] using h⟩
    | _ :: _ :: _, h => simp [areD] at h
  · rintro ⟨x, rfl, h⟩
    simpa [areD, List.range_succ] using h
theorem are2 {l1 l2 m1 m2 : Int} {d : PyData} : areD [l1, l2] [m1, m2] d = true ↔ ∃ x y, d = .tuple [x, y] ∧ inD l1 m1 x = true ∧ inD l2 m2 y = true := by
  constructor
  · intro h
    cases d <;> try (cases h; done)
    rename_i ds
    match ds, h with
    | [], h => simp [areD] at h
    | [x], h => simp [areD] at h
    | [x, y], h => exact ⟨x, y, rfl, by simpa [areD, List.range_succ] using h⟩
    | _ :: _ :: _ :: _, h => simp [areD] at h
  · rintro ⟨x, y, rfl, h⟩
    simpa [areD, List.range_succ] using h
theorem are4 {d : PyData} : areD [0, 0, 0, 0] [5, 5, 5, 5] d = pricesD d := by
  cases d <;> try rfl
  rename_i ds
  match ds with
  | [] => simp [areD, pricesD]
  | [_] => simp [areD, pricesD]
  | [_, _] => simp [areD, pricesD]
  | [_, _, _] => simp [areD, pricesD]
  | [a, b, c, e] => simp [areD, pricesD, List.range_succ, Bool.and_assoc]
  | _ :: _ :: _ :: _ :: _ :: _ => simp [areD, pricesD]
theorem ok_choiceL (T : Top K mg) : FnOk P w K mg base CX0 3 T.f__law_choice T.d__law_choice ["_law_item", "_law_most"] (spA K spCh) := by
  have G__law_are : FnOk P w K mg base CX0 2 T.f__law_are T.d__law_are ["_law_item", "_law_lows", "_law_highs"] (spA K spAre) := ok_are T
  refine fnA_ok T.D__law_choice.F sc__law_choice (fun as Ω P ⟨d, m, e, _⟩ => by subst e; rfl) (fun cdv A outer s H E hr => ?_)
  refine ⟨_, (pss_cons (ps_if (PW.pt (pw_and (pt_not (pt_val (pe_call G__law_are (hr.mono (by omega)) rfl T.D__law_are.g T.D__law_are.F.kp T.D__law_are.b .nil pass0 (pa_cons (pv 0) (pa_cons (pe_tup (pa_cons pe_int pa_nil)) (pa_cons (pe_tup (pa_cons (pv 1) pa_nil)) pa_nil)))))) (pw_and1 (pt_not (pt_val (pe_call G__law_are (hr.mono (by omega)) rfl T.D__law_are.g T.D__law_are.F.kp T.D__law_are.b .nil pass0 (pa_cons (pv 0) (pa_cons (pe_tup (pa_cons pe_int (pa_cons pe_int pa_nil))) (pa_cons (pe_tup (pa_cons (pv 1) (pa_cons (pv 1) pa_nil))) pa_nil)))))))))
      (pss_one (ps_ret pe_bl))
      pss_nil)
    (pss_one (ps_ret (pe_or (pe_cmpR op_eq (pe_callB (Dat.lenQ (K := K) rfl) rfl T.b_len bt_len (pa_cons (pv 0) pa_nil)) pe_int (nomark _)) (pe_one (pe_cmpR op_lt (pe_ix (Dat.ixT (K := K) rfl) (pv 0) pe_int (fun _ _ => rfl)) (pe_ix (Dat.ixT (K := K) rfl) (pv 0) pe_int (fun _ _ => rfl)) (nomark _))))))), ?_⟩
  rintro as Ω P ⟨d, m, rfl, h⟩
  refine s_seq (s_ifB (b := !areD [1] [m] d && !areD [1, 1] [m, m] d) (t_andB (t_notB (t_ofB ?_)) fun _ => t_notB (t_ofB ?_)) (fun z => ?_) fun z => s_next ?_)
  · exact e_call (a_cons (e_var rfl (a_cons (e_tupD (a_cons (e_int (a_nil ⟨_, .cons .nil, rfl, a_cons (e_tupD (a_cons (e_var rfl (a_nil ⟨_, .cons .nil, rfl, a_nil ⟨d, [1], [m], rfl, rfl, by decide, rfl, rfl⟩⟩))))⟩)))))))
  · exact e_call (a_cons (e_var rfl (a_cons (e_tupD (a_cons (e_int (a_cons (e_int (a_nil ⟨_, .cons (.cons .nil), rfl, a_cons (e_tupD (a_cons (e_var rfl (a_cons (e_var rfl (a_nil ⟨_, .cons (.cons .nil), rfl, a_nil ⟨d, [1, 1], [m, m], rfl, rfl, by decide, rfl, rfl⟩⟩))))))⟩)))))))))
  · have : choiceD m d = false := by
      rw [Bool.and_eq_true, Bool.not_eq_true', Bool.not_eq_true'] at z
      cases hc : choiceD m d with
      | false => rfl
      | true =>
        cases d <;> try (cases hc; done)
        rename_i ds
        match ds, hc with
        | [], hc => simp [choiceD] at hc
        | [x], hc =>
          have := are1.mpr ⟨x, rfl, (by simpa [choiceD] using hc : inD 1 m x = true)⟩
          rw [z.1] at this
          cases this
        | [x, y], hc =>
          simp only [choiceD, Bool.and_eq_true, List.all_cons] at hc
          have := are2.mpr ⟨x, y, rfl, hc.2.1.1, hc.2.1.2.1⟩
          rw [z.2] at this
          cases this
        | _ :: _ :: _ :: _, hc => simp [choiceD] at hc
    rw [this] at h
    exact s_ret (e_bl h)
  · rw [Bool.and_eq_false_iff, Bool.not_eq_false', Bool.not_eq_false'] at z
    rcases z with z | z
    · obtain ⟨x, rfl, hx⟩ := are1.mp z
      have : choiceD m (.tuple [x]) = true := by simp [choiceD, hx]
      rw [this] at h
      repeat' trivial
      all_goals simp_all [eqD]
    · obtain ⟨x, y, rfl, hx, hy⟩ := are2.mp z
      obtain ⟨i, rfl, hi⟩ := inD_or hx
      obtain ⟨j, rfl, hj⟩ := inD_or hy
      have : choiceD m (.tuple [.int i, .int j]) = decide (i < j) := by simp [choiceD, hx, hy, lt2]
      rw [this] at h
      repeat' trivial
      all_goals simp_all [eqD]
end
end K19

set_option Elab.async false
set_option linter.all false
set_option maxRecDepth 100000
set_option maxHeartbeats 1000000
namespace K19
open PySem PySem.Spec PyProof.Rows L2 Dat
local macro_rules | `(tactic| trivial) => `(tactic| (first
  | (with_reducible refine s_seq ?_)
  | (with_reducible refine s_asg ?_)
  | (with_reducible refine s_ret ?_)
  | (with_reducible refine s_drop ?_)
  | (with_reducible refine s_next ?_)
  | (with_reducible refine s_retN ?_)
  | (with_reducible refine s_brk ?_)
  | (with_reducible refine s_cont ?_)
  | (with_reducible refine s_if ?_)
  | (with_reducible refine e_int ?_)
  | (with_reducible refine e_str ?_)
  | (with_reducible refine e_bl ?_)
  | (with_reducible refine e_non ?_)
  | (with_reducible refine e_ty ?_)
  | (with_reducible refine e_tupD ?_)
  | (with_reducible refine e_lstD ?_)
  | (with_reducible refine e_op ?_)
  | (with_reducible refine e_un ?_)
  | (with_reducible refine e_then ?_)
  | (with_reducible refine e_cb ?_)
  | (with_reducible refine e_call ?_)
  | (with_reducible refine e_if ?_)
  | (with_reducible refine e_chain ?_)
  | (with_reducible refine e_andV ?_)
  | (with_reducible refine e_orV ?_)
  | (with_reducible refine e_notV ?_)
  | (with_reducible refine a_cons ?_)
  | (with_reducible refine a_nil ?_)
  | (with_reducible refine t_test ?_)
  | (with_reducible refine t_B ?_)
  | (with_reducible refine t_not ?_)
  | (with_reducible refine t_and ?_)
  | (with_reducible refine t_or ?_)
  | (with_reducible refine r_I0i ?_)
  | (with_reducible refine r_I0b ?_)
  | (with_reducible refine r_neg ?_)
  | (with_reducible refine r_isN ?_)
  | (with_reducible refine r_notN ?_)
  | (with_reducible refine c_lenT ?_)
  | (with_reducible refine c_lenL ?_)
  | (with_reducible refine c_intI ?_)
  | (with_reducible refine c_intB ?_)
  | (with_reducible refine c_max2 ?_)
  | (with_reducible refine c_min2 ?_)
  | (with_reducible refine c_abs ?_)
  | (with_reducible refine r_tupL ?_)
  | (with_reducible refine r_tupT ?_)
  | (with_reducible refine c_allM ?_)
  | ((with_reducible apply e_var); (exact rfl))
  | ((with_reducible refine r_eq ?_ ?_); (exact rfl))
  | ((with_reducible refine r_ne ?_ ?_); (exact rfl))
  | (with_reducible refine c_isi kit_int ?_)
  | (with_reducible refine c_isi kit_bool ?_)
  | (with_reducible refine c_isi kit_tuple ?_)
  | (with_reducible refine c_isi kit_list ?_)
  | (with_reducible refine c_isi kit_str ?_)
  | ((with_reducible apply r_ixT); (exact rfl))
  | ((with_reducible apply dats_pack); (iterate 40 (first | exact Dats.nil | apply Dats.cons | skip)); (exact rfl))
  | (with_reducible refine s_asgG ?_) | (with_reducible refine g_name ?_) | ((with_reducible refine g_tup ?_ ?_); (exact rfl)) | (refine gs_nil ?_) | (refine gs_cons ?_) | (with_reducible refine ⟨rfl, ?_⟩)
  | (refine ⟨_, rfl, ?_⟩) | (refine ⟨_, _, rfl, ?_⟩) | (refine ⟨_, _, _, rfl, ?_⟩) | (with_reducible refine ⟨fun _ => ?_, fun _ => ?_⟩) | fail))
section
variable {P : Program} {w : World} {K : PySem.W.Frag} {mg : Str → Option Value} {base : Heap}
theorem are2b {l1 l2 m1 m2 : Int} {d : PyData} : areD [l1, l2] [m1, m2] d = (pairD d && (inD l1 m1 (fstD d) && inD l2 m2 (sndD d))) := by
  cases d <;> try rfl
  rename_i ds
  match ds with
  | [] => simp [areD, pairD]
  | [_] => simp [areD, pairD]
  | [x, y] => simp [areD, pairD, List.range_succ, fstD, sndD]
  | _ :: _ :: _ :: _ => simp [areD, pairD]
theorem setup_are {d1 d2 d3 d4 d5 d6 d7 : PyData} : setupD (.tuple [d1, d2, d3, d4, d5, d6, d7]) = (inD 1 4 d1 && ((choiceD (intOf d1) d2 && areD [1, 0] [2, 2] d3) && ((areD [0, 0] [1, 2] d4 && (choiceD 4 d5 && inD 1 3 d6)) && areD [0, 0, 0, 0] [5, 5, 5, 5] d7))) := by
  simp only [setupD, are2b, are4, Bool.and_assoc]
theorem setup_no {ds : List PyData} (h : ds.length ≠ 7) : setupD (.tuple ds) = false := by
  unfold setupD
  split
  · next e => rw [PyData.tuple.inj e] at h; exact absurd rfl h
  · rfl
theorem ok_due_setup (T : Top K mg) : FnOk P w K mg base CX0 4 T.f__law_due_setup T.d__law_due_setup ["_law_item"] (spA K (spB setupD)) := by
  have G__law_is_number : FnOk P w K mg base CX0 1 T.f__law_is_number T.d__law_is_number ["_law_item", "_law_low", "_law_high"] (spA K spIn) := ok_is_number T
  have G__law_are : FnOk P w K mg base CX0 2 T.f__law_are T.d__law_are ["_law_item", "_law_lows", "_law_highs"] (spA K spAre) := ok_are T
  have G__law_choice : FnOk P w K mg base CX0 3 T.f__law_choice T.d__law_choice ["_law_item", "_law_most"] (spA K spCh) := ok_choiceL T
  refine fnA_ok T.D__law_due_setup.F sc__law_due_setup (fun as Ω P ⟨d, e, _⟩ => by subst e; rfl) (fun cdv A outer s H E hr => ?_)
  refine ⟨_, (pss_cons (ps_if (PW.pt (pw_or (pt_not (pt_val (pe_callB (Dat.isiQ (K := K) rfl) rfl T.b_isinstance bt_isinstance (pa_cons (pv 0) (pa_cons (pe_bltn (v := .ty "tuple") rfl T.b_tuple bt_tuple rfl) pa_nil))))) (pw_or (pt_cmpR op_ne (pe_callB (Dat.lenQ (K := K) rfl) rfl T.b_len bt_len (pa_cons (pv 0) pa_nil)) pe_int (nomark _)) (pw_or1 (pt_not (pt_val (pe_call G__law_is_number (hr.mono (by omega)) rfl T.D__law_is_number.g T.D__law_is_number.F.kp T.D__law_is_number.b .nil pass0 (pa_cons (pe_ix (Dat.ixT (K := K) rfl) (pv 0) pe_int (fun _ _ => rfl)) (pa_cons pe_int (pa_cons pe_int pa_nil))))))))))
      (pss_one (ps_ret pe_bl))
      pss_nil)
    (pss_cons (ps_if (PW.pt (pw_or (pt_not (pt_val (pe_call G__law_choice (hr.mono (by omega)) rfl T.D__law_choice.g T.D__law_choice.F.kp T.D__law_choice.b .nil pass0 (pa_cons (pe_ix (Dat.ixT (K := K) rfl) (pv 0) pe_int (fun _ _ => rfl)) (pa_cons (pe_ix (Dat.ixT (K := K) rfl) (pv 0) pe_int (fun _ _ => rfl)) pa_nil))))) (pw_or1 (pt_not (pt_val (pe_call G__law_are (hr.mono (by omega)) rfl T.D__law_are.g T.D__law_are.F.kp T.D__law_are.b .nil pass0 (pa_cons (pe_ix (Dat.ixT (K := K) rfl) (pv 0) pe_int (fun _ _ => rfl)) (pa_cons (pe_tup (pa_cons pe_int (pa_cons pe_int pa_nil))) (pa_cons (pe_tup (pa_cons pe_int (pa_cons pe_int pa_nil))) pa_nil)))))))))
      (pss_one (ps_ret pe_bl))
      pss_nil)
    (pss_cons (ps_if (PW.pt (pw_or (pt_not (pt_val (pe_call G__law_are (hr.mono (by omega)) rfl T.D__law_are.g T.D__law_are.F.kp T.D__law_are.b .nil pass0 (pa_cons (pe_ix (Dat.ixT (K := K) rfl) (pv 0) pe_int (fun _ _ => rfl)) (pa_cons (pe_tup (pa_cons pe_int (pa_cons pe_int pa_nil))) (pa_cons (pe_tup (pa_cons pe_int (pa_cons pe_int pa_nil))) pa_nil)))))) (pw_or (pt_not (pt_val (pe_call G__law_choice (hr.mono (by omega)) rfl T.D__law_choice.g T.D__law_choice.F.kp T.D__law_choice.b .nil pass0 (pa_cons (pe_ix (Dat.ixT (K := K) rfl) (pv 0) pe_int (fun _ _ => rfl)) (pa_cons pe_int pa_nil))))) (pw_or1 (pt_not (pt_val (pe_call G__law_is_number (hr.mono (by omega)) rfl T.D__law_is_number.g T.D__law_is_number.F.kp T.D__law_is_number.b .nil pass0 (pa_cons (pe_ix (Dat.ixT (K := K) rfl) (pv 0) pe_int (fun _ _ => rfl)) (pa_cons pe_int (pa_cons pe_int pa_nil))))))))))
      (pss_one (ps_ret pe_bl))
      pss_nil)
    (pss_one (ps_ret (pe_call G__law_are (hr.mono (by omega)) rfl T.D__law_are.g T.D__law_are.F.kp T.D__law_are.b .nil pass0 (pa_cons (pe_ix (Dat.ixT (K := K) rfl) (pv 0) pe_int (fun _ _ => rfl)) (pa_cons (pe_tup (pa_cons pe_int (pa_cons pe_int (pa_cons pe_int (pa_cons pe_int pa_nil))))) (pa_cons (pe_tup (pa_cons pe_int (pa_cons pe_int (pa_cons pe_int (pa_cons pe_int pa_nil))))) pa_nil))))))))), ?_⟩
  rintro as Ω P ⟨d, rfl, h⟩
  rcases tup_or d with ⟨ds, rfl⟩ | hn
  · by_cases hl : ds.length = 7
    · match ds, hl with
      | [d1, d2, d3, d4, d5, d6, d7], _ =>
        rw [setup_are] at h
        have bad : ∀ b : Bool, b = false → P (.dat (.bool b)) Ω → P (.dat (.bool false)) Ω := fun b e q => by rw [← e]; exact q
        refine s_seq (s_ifB (b := !true || (!true || !inD 1 4 d1)) (t_orB (t_notB (t_ofB ?_)) fun _ => t_orB (t_ofC ?_) fun _ => t_notB (t_ofB ?_)) (fun z => ?_) fun z => s_next ?_)
        · repeat' trivial
        · repeat' trivial
        · repeat' trivial
        · refine s_ret (e_bl (bad _ ?_ h))
          have : inD 1 4 d1 = false := by simpa using z
          rw [this, Bool.false_and]
        have h1 : inD 1 4 d1 = true := by simpa using z
        obtain ⟨n, rfl, _, _⟩ := inD_or h1
        refine s_seq (s_ifB (b := !choiceD n d2 || !areD [1, 0] [2, 2] d3) (t_orB (t_notB (t_ofB ?_)) fun _ => t_notB (t_ofB ?_)) (fun z => ?_) fun z => s_next ?_)
        · repeat' trivial
        · exact e_call (a_cons (e_op (e_var rfl (e_int (r_ixT rfl (a_cons (e_tupD (a_cons (e_int (a_cons (e_int (a_nil ⟨_, .cons (.cons .nil), rfl, a_cons (e_tupD (a_cons (e_int (a_cons (e_int (a_nil ⟨_, .cons (.cons .nil), rfl, a_nil ⟨d3, [1, 0], [2, 2], rfl, rfl, by decide, rfl, rfl⟩⟩))))))⟩))))))))))))
        · refine s_ret (e_bl (bad _ ?_ h))
          have : (choiceD n d2 && areD [1, 0] [2, 2] d3) = false := by rw [← Bool.not_and, Bool.not_eq_true'] at z; exact z
          simp only [intOf]
          rw [this, Bool.false_and, Bool.and_false]
        have h2 : (choiceD n d2 && areD [1, 0] [2, 2] d3) = true := by rw [← Bool.not_and, Bool.not_eq_false'] at z; exact z
        refine s_seq (s_ifB (b := !areD [0, 0] [1, 2] d4 || (!choiceD 4 d5 || !inD 1 3 d6)) (t_orB (t_notB (t_ofB ?_)) fun _ => t_orB (t_notB (t_ofB ?_)) fun _ => t_notB (t_ofB ?_)) (fun z => ?_) fun z => s_next ?_)
        · exact e_call (a_cons (e_op (e_var rfl (e_int (r_ixT rfl (a_cons (e_tupD (a_cons (e_int (a_cons (e_int (a_nil ⟨_, .cons (.cons .nil), rfl, a_cons (e_tupD (a_cons (e_int (a_cons (e_int (a_nil ⟨_, .cons (.cons .nil), rfl, a_nil ⟨d4, [0, 0], [1, 2], rfl, rfl, by decide, rfl, rfl⟩⟩))))))⟩))))))))))))
        · repeat' trivial
        · repeat' trivial
        · refine s_ret (e_bl (bad _ ?_ h))
          rw [← Bool.not_and, ← Bool.not_and, Bool.not_eq_true'] at z
          rw [z, Bool.false_and, Bool.and_false, Bool.and_false]
        · rw [← Bool.not_and, ← Bool.not_and, Bool.not_eq_false'] at z
          simp only [intOf] at h
          rw [h1, h2, z, Bool.true_and, Bool.true_and, Bool.true_and] at h
          exact s_ret (e_call (a_cons (e_op (e_var rfl (e_int (r_ixT rfl (a_cons (e_tupD (a_cons (e_int (a_cons (e_int (a_cons (e_int (a_cons (e_int (a_nil ⟨_, .cons (.cons (.cons (.cons .nil))), rfl, a_cons (e_tupD (a_cons (e_int (a_cons (e_int (a_cons (e_int (a_cons (e_int (a_nil ⟨_, .cons (.cons (.cons (.cons .nil))), rfl, a_nil ⟨d7, [0, 0, 0, 0], [5, 5, 5, 5], rfl, rfl, by decide, h⟩⟩))))))))))⟩)))))))))))))))))
    · rw [setup_no hl] at h
      refine s_seq (s_ifB (b := !true || (!false || false)) (t_orB (t_notB (t_ofB ?_)) fun _ => t_orB (b1 := true) (t_ofC ?_) nofun) (fun z => s_ret (e_bl h)) nofun)
      · repeat' trivial
      · repeat' trivial
        refine ⟨?_, rfl⟩
        simp only [eqD]
        rw [decide_eq_false (by omega)]
        rfl
  · have e : setupD d = false := by cases d <;> first | rfl | cases hn
    rw [e] at h
    refine s_seq (s_ifB (b := !false || false) (t_orB (t_notB (t_ofB ?_)) nofun) (fun z => s_ret (e_bl h)) nofun)
    repeat' trivial
    exact ⟨by rw [hn], rfl⟩
/-! ### rows of a rule -/
theorem span_are {d : PyData} : spanD d = (areD [0, 0] [9, 9] d && decide (intOf (fstD d) ≤ intOf (sndD d))) := by
  rw [are2b]
  cases d <;> try rfl
  rename_i ds
  match ds with
  | [] => rfl
  | [_] => rfl
  | [x, y] => simp only [spanD, pairD, fstD, sndD, List.length_cons, List.length_nil, decide_true, Bool.true_and, Bool.and_assoc]; rfl
  | _ :: _ :: _ :: _ => simp [spanD, pairD]
theorem str_or (d : PyData) : (∃ x, d = .str x) ∨ isStrD d = false := by
  cases d <;> first | exact .inl ⟨_, rfl⟩ | exact .inr rfl
theorem ok_due_row (T : Top K mg) : FnOk P w K mg base CX0 3 T.f__law_due_row T.d__law_due_row ["_law_item"] (spA K (spB (rowD seatWs))) := by
  have G__law_is_number : FnOk P w K mg base CX0 1 T.f__law_is_number T.d__law_is_number ["_law_item", "_law_low", "_law_high"] (spA K spIn) := ok_is_number T
  have G__law_are : FnOk P w K mg base CX0 2 T.f__law_are T.d__law_are ["_law_item", "_law_lows", "_law_highs"] (spA K spAre) := ok_are T
  refine fnA_ok T.D__law_due_row.F sc__law_due_row (fun as Ω P ⟨d, e, _⟩ => by subst e; rfl) (fun cdv A outer s H E hr => ?_)
  refine ⟨_, (pss_cons (ps_if (PW.pt (pw_or (pt_not (pt_val (pe_callB (Dat.isiQ (K := K) rfl) rfl T.b_isinstance bt_isinstance (pa_cons (pv 0) (pa_cons (pe_bltn (v := .ty "tuple") rfl T.b_tuple bt_tuple rfl) pa_nil))))) (pw_or1 (pt_cmpR op_ne (pe_callB (Dat.lenQ (K := K) rfl) rfl T.b_len bt_len (pa_cons (pv 0) pa_nil)) pe_int (nomark _)))))
      (pss_one (ps_ret pe_bl))
      pss_nil)
    (pss_cons (ps_for PassesOwn.never rfl (Dat.piL (K := K) rfl (pe_lst (pa_cons pe_int (pa_cons pe_int (pa_cons pe_int (pa_cons pe_int pa_nil)))))) (pg_name (i := 1) sc__law_due_row.nd rfl (.inl rfl))
      (pss_one (ps_if (PW.pt (pw_or (pt_not (pt_val (pe_call G__law_are (hr.mono (by omega)) rfl T.D__law_are.g T.D__law_are.F.kp T.D__law_are.b .nil pass0 (pa_cons (pe_ix (Dat.ixT (K := K) rfl) (pv 0) (pv 1) (fun _ _ => rfl)) (pa_cons (pe_tup (pa_cons pe_int (pa_cons pe_int pa_nil))) (pa_cons (pe_tup (pa_cons pe_int (pa_cons pe_int pa_nil))) pa_nil)))))) (pw_or1 (pt_cmpR op_gt (pe_ix (Dat.ixT (K := K) rfl) (pe_ix (Dat.ixT (K := K) rfl) (pv 0) (pv 1) (fun _ _ => rfl)) pe_int (fun _ _ => rfl)) (pe_ix (Dat.ixT (K := K) rfl) (pe_ix (Dat.ixT (K := K) rfl) (pv 0) (pv 1) (fun _ _ => rfl)) pe_int (fun _ _ => rfl)) (nomark _)))))
        (pss_one (ps_ret pe_bl))
        pss_nil)))
    (pss_cons (ps_if (PW.pt (pw_or (pt_not (pt_val (pe_call G__law_is_number (hr.mono (by omega)) rfl T.D__law_is_number.g T.D__law_is_number.F.kp T.D__law_is_number.b .nil pass0 (pa_cons (pe_ix (Dat.ixT (K := K) rfl) (pv 0) pe_int (fun _ _ => rfl)) (pa_cons pe_int (pa_cons pe_int pa_nil)))))) (pw_or1 (pt_not (pt_val (pe_call G__law_is_number (hr.mono (by omega)) rfl T.D__law_is_number.g T.D__law_is_number.F.kp T.D__law_is_number.b .nil pass0 (pa_cons (pe_ix (Dat.ixT (K := K) rfl) (pv 0) pe_int (fun _ _ => rfl)) (pa_cons pe_int (pa_cons pe_int pa_nil)))))))))
      (pss_one (ps_ret pe_bl))
      pss_nil)
    (pss_one (ps_ret (pe_and (pe_callB (Dat.isiQ (K := K) rfl) rfl T.b_isinstance bt_isinstance (pa_cons (pe_ix (Dat.ixT (K := K) rfl) (pv 0) pe_int (fun _ _ => rfl)) (pa_cons (pe_bltn (v := .ty "str") rfl T.b_str bt_str rfl) pa_nil))) (pe_one (pe_cmpR (Dat.inQ (K := K) rfl) (pe_ix (Dat.ixT (K := K) rfl) (pv 0) pe_int (fun _ _ => rfl)) (pe_lst (pa_cons pe_str (pa_cons pe_str (pa_cons pe_str pa_nil)))) rfl)))))))), ?_⟩
  rintro as Ω P ⟨d, rfl, h⟩
  rcases tup_or d with ⟨ds, rfl⟩ | hn
  · by_cases hl : ds.length = 7
    · match ds, hl with
      | [d1, d2, d3, d4, d5, d6, d7], _ =>
        refine s_seq (s_ifB (b := !true || !true) (t_orB (t_notB (t_ofB ?_)) fun _ => t_ofC ?_) nofun fun z => s_next ?_)
        · repeat' trivial
        · repeat' trivial
        have step : ∀ (i : Nat) (x : PyData), [d2, d3, d4, d5][i]? = some x → spanD x = false → P (.dat (.bool false)) Ω := fun i x hx hs => by
          have : rowD seatWs (.tuple [d1, d2, d3, d4, d5, d6, d7]) = false := by
            simp only [rowD]
            have : [d2, d3, d4, d5].all spanD = false := List.all_eq_false.mpr ⟨x, List.mem_of_getElem? hx, by simp [hs]⟩
            rw [this, Bool.and_false]
          rw [this] at h
          exact h
        refine s_seqM (fun Γ' Ω' => (∃ x, Γ' = [some (.dat (.tuple [d1, d2, d3, d4, d5, d6, d7])), x]) ∧ Ω' = Ω ∧ [d2, d3, d4, d5].all spanD = true) ?_ ?_
        · refine s_for (fun as i Γ' Ω' => as = [.dat (.int 1), .dat (.int 2), .dat (.int 3), .dat (.int 4)] ∧ (∃ x, Γ' = [some (.dat (.tuple [d1, d2, d3, d4, d5, d6, d7])), x]) ∧ Ω' = Ω ∧ ([d2, d3, d4, d5].take i).all spanD = true) ?_
          refine i_list (e_lits [1, 2, 3, 4] ⟨_, rfl, ⟨rfl, ⟨_, rfl⟩, rfl, rfl⟩, ?_, ?_⟩)
          · rintro i it Γ' Ω' hit ⟨_, ⟨x, rfl⟩, rfl, ha⟩
            have hi : i < 4 := (List.getElem?_eq_some_iff.mp hit).1
            have hj : ∃ (j : Int) (y : PyData), it = .dat (.int j) ∧ atI [d1, d2, d3, d4, d5, d6, d7] j = some y ∧ [d2, d3, d4, d5][i]? = some y := by
              match i, hi, hit with
              | 0, _, hit => cases hit; exact ⟨1, d2, rfl, rfl, rfl⟩
              | 1, _, hit => cases hit; exact ⟨2, d3, rfl, rfl, rfl⟩
              | 2, _, hit => cases hit; exact ⟨3, d4, rfl, rfl, rfl⟩
              | 3, _, hit => cases hit; exact ⟨4, d5, rfl, rfl, rfl⟩
            obtain ⟨j, y, rfl, ey, ei⟩ := hj
            have hsp : spanD y = !(!areD [0, 0] [9, 9] y || decide (intOf (sndD y) < intOf (fstD y))) := by
              rw [span_are, Bool.not_or, Bool.not_not]
              congr 1
              rw [← decide_not]
              simp
            refine g_name (s_ifB (b := !areD [0, 0] [9, 9] y || decide (intOf (sndD y) < intOf (fstD y))) (t_orB (t_notB (t_ofB ?_)) fun ha2 => t_ofC ?_) (fun z => ?_) fun z => s_next ?_)
            · exact e_call (a_cons (e_op (e_var rfl (e_var rfl (r_ixT ey (a_cons (e_tupD (a_cons (e_int (a_cons (e_int (a_nil ⟨_, .cons (.cons .nil), rfl, a_cons (e_tupD (a_cons (e_int (a_cons (e_int (a_nil ⟨_, .cons (.cons .nil), rfl, a_nil ⟨y, [0, 0], [9, 9], rfl, rfl, by decide, rfl, rfl⟩⟩))))))⟩))))))))))))
            · rw [Bool.not_eq_false'] at ha2
              obtain ⟨a, b, rfl, h1, h2⟩ := are2.mp ha2
              obtain ⟨p, rfl, _⟩ := inD_or h1
              obtain ⟨q, rfl, _⟩ := inD_or h2
              exact e_op (e_op (e_op (e_var rfl (e_var rfl (r_ixT ey (e_int (r_ixT rfl (e_op (e_op (e_var rfl (e_var rfl (r_ixT ey (e_int (r_ixT rfl (r_I0b ⟨rfl, rfl⟩)))))))))))))))
            · rw [z] at hsp
              exact s_ret (e_bl (step i y ei hsp))
            · rw [z] at hsp
              refine ⟨rfl, ⟨_, rfl⟩, rfl, ?_⟩
              rw [List.take_add_one, ei, List.all_append, ha]
              simp [hsp]
          · rintro Γ' Ω' ⟨_, hx, rfl, ha⟩
            exact ⟨hx, rfl, ha⟩
        rintro Γ' Ω' ⟨⟨x, rfl⟩, rfl, ha⟩
        have hr7 : rowD seatWs (.tuple [d1, d2, d3, d4, d5, d6, d7]) = (inD 0 2 d1 && ((seatWs.any fun w => isStr w d6) && inD 0 2 d7)) := by
          simp only [rowD]
          rw [ha, Bool.and_true]
        rw [hr7] at h
        refine s_seq (s_ifB (b := !inD 0 2 d1 || !inD 0 2 d7) (t_orB (t_notB (t_ofB ?_)) fun _ => t_notB (t_ofB ?_)) (fun z => ?_) fun z => s_next ?_)
        · repeat' trivial
        · repeat' trivial
        · have : (inD 0 2 d1 && ((seatWs.any fun w => isStr w d6) && inD 0 2 d7)) = false := by
            rw [← Bool.not_and, Bool.not_eq_true', Bool.and_eq_false_iff] at z
            rcases z with z | z <;> simp [z]
          rw [this] at h
          exact s_ret (e_bl h)
        · rw [← Bool.not_and, Bool.not_eq_false', Bool.and_eq_true] at z
          rw [z.1, z.2, Bool.true_and, Bool.and_true] at h
          rcases str_or d6 with ⟨x, rfl⟩ | hs
          · refine s_retB (b := true && (seatWs.any fun w => isStr w (.str x))) (e_andB ?_ fun _ => ?_) h
            · repeat' trivial
            · refine e_op (e_op (e_var rfl (e_int (r_ixT rfl (e_lstD (a_cons (e_str (a_cons (e_str (a_cons (e_str (a_nil ⟨_, .cons (.cons (.cons .nil)), rfl, r_inL rfl rfl ⟨?_, rfl⟩⟩))))))))))))
              simp [PyData.eqv, isStr, seatWs]
          · have : (seatWs.any fun w => isStr w d6) = false := by cases d6 <;> first | rfl | cases hs
            rw [this] at h
            refine s_retB (b := false && false) (e_andB ?_ nofun) h
            repeat' trivial
            exact ⟨by rw [hs], rfl⟩
    · rw [rowD_no hl] at h
      refine s_seq (s_ifB (b := !true || !false) (t_orB (t_notB (t_ofB ?_)) fun _ => t_ofC ?_) (fun z => s_ret (e_bl h)) nofun)
      · repeat' trivial
      · repeat' trivial
        refine ⟨?_, rfl⟩
        simp only [eqD]
        rw [decide_eq_false (by omega)]
  · have e : rowD seatWs d = false := by cases d <;> first | rfl | cases hn
    rw [e] at h
    refine s_seq (s_ifB (b := !false || false) (t_orB (t_notB (t_ofB ?_)) nofun) (fun z => s_ret (e_bl h)) nofun)
    repeat' trivial
    exact ⟨by rw [hn], rfl⟩
end
end K19

set_option Elab.async false
set_option linter.all false
set_option maxRecDepth 100000
set_option maxHeartbeats 1000000
namespace K19
open PySem PySem.Spec PyProof.Rows L2 Dat
local macro_rules | `(tactic| trivial) => `(tactic| (first
  | (with_reducible refine s_seq ?_)
  | (with_reducible refine s_asg ?_)
  | (with_reducible refine s_ret ?_)
  | (with_reducible refine s_drop ?_)
  | (with_reducible refine s_next ?_)
  | (with_reducible refine s_retN ?_)
  | (with_reducible refine s_brk ?_)
  | (with_reducible refine s_cont ?_)
  | (with_reducible refine s_if ?_)
  | (with_reducible refine e_int ?_)
  | (with_reducible refine e_str ?_)
  | (with_reducible refine e_bl ?_)
  | (with_reducible refine e_non ?_)
  | (with_reducible refine e_ty ?_)
  | (with_reducible refine e_tupD ?_)
  | (with_reducible refine e_lstD ?_)
  | (with_reducible refine e_op ?_)
  | (with_reducible refine e_un ?_)
  | (with_reducible refine e_then ?_)
  | (with_reducible refine e_cb ?_)
  | (with_reducible refine e_call ?_)
  | (with_reducible refine e_if ?_)
  | (with_reducible refine e_chain ?_)
  | (with_reducible refine e_andV ?_)
  | (with_reducible refine e_orV ?_)
  | (with_reducible refine e_notV ?_)
  | (with_reducible refine a_cons ?_)
  | (with_reducible refine a_nil ?_)
  | (with_reducible refine t_test ?_)
  | (with_reducible refine t_B ?_)
  | (with_reducible refine t_not ?_)
  | (with_reducible refine t_and ?_)
  | (with_reducible refine t_or ?_)
  | (with_reducible refine r_I0i ?_)
  | (with_reducible refine r_I0b ?_)
  | (with_reducible refine r_neg ?_)
  | (with_reducible refine r_isN ?_)
  | (with_reducible refine r_notN ?_)
  | (with_reducible refine c_lenT ?_)
  | (with_reducible refine c_lenL ?_)
  | (with_reducible refine c_intI ?_)
  | (with_reducible refine c_intB ?_)
  | (with_reducible refine c_max2 ?_)
  | (with_reducible refine c_min2 ?_)
  | (with_reducible refine c_abs ?_)
  | (with_reducible refine r_tupL ?_)
  | (with_reducible refine r_tupT ?_)
  | (with_reducible refine c_allM ?_)
  | ((with_reducible apply e_var); (exact rfl))
  | ((with_reducible refine r_eq ?_ ?_); (exact rfl))
  | ((with_reducible refine r_ne ?_ ?_); (exact rfl))
  | (with_reducible refine c_isi kit_int ?_)
  | (with_reducible refine c_isi kit_bool ?_)
  | (with_reducible refine c_isi kit_tuple ?_)
  | (with_reducible refine c_isi kit_list ?_)
  | (with_reducible refine c_isi kit_str ?_)
  | ((with_reducible apply r_ixT); (exact rfl))
  | ((with_reducible apply dats_pack); (iterate 40 (first | exact Dats.nil | apply Dats.cons | skip)); (exact rfl))
  | (with_reducible refine s_asgG ?_) | (with_reducible refine g_name ?_) | ((with_reducible refine g_tup ?_ ?_); (exact rfl)) | (refine gs_nil ?_) | (refine gs_cons ?_) | (with_reducible refine ⟨rfl, ?_⟩)
  | (refine ⟨_, rfl, ?_⟩) | (refine ⟨_, _, rfl, ?_⟩) | (refine ⟨_, _, _, rfl, ?_⟩) | (with_reducible refine ⟨fun _ => ?_, fun _ => ?_⟩) | fail))
/-! ### things that are shown -/
structure Sx (d : PyData) (k w : Nat) : Prop where
  s : d.showable = true
  k : d.depth ≤ k
  l : d.leavesShort 40 = true
  w : d.weight ≤ w
theorem Sx.mono {d : PyData} {k w k' w' : Nat} (h : Sx d k w) (hk : k ≤ k') (hw : w ≤ w') : Sx d k' w' := ⟨h.s, Nat.le_trans h.k hk, h.l, Nat.le_trans h.w hw⟩
theorem Sx.int {i : Int} (h : i.natAbs < 10 ^ 12) : Sx (.int i) 0 40 := by
  have g := Shw.Sh.int h
  refine ⟨g.s, g.k, ?_, g.w⟩
  have := g.l
  simp only [PyData.leavesShort, decide_eq_true_eq] at this ⊢
  omega
theorem sx_all {k w : Nat} : ∀ {ds : List PyData}, (∀ d ∈ ds, Sx d k w) → PyData.showableAll ds = true ∧ PyData.depthAll ds ≤ k ∧ PyData.leavesShortAll 40 ds = true ∧ PyData.weightAll ds ≤ ds.length * (w + 1)
  | [], _ => ⟨by simp [PyData.showableAll], by simp [PyData.depthAll], by simp [PyData.leavesShortAll], by simp [PyData.weightAll]⟩
  | d :: r, h => by
    obtain ⟨a, c, e, f⟩ := sx_all (ds := r) fun y m => h y (List.mem_cons_of_mem _ m)
    have g := h d List.mem_cons_self
    refine ⟨by simp [PyData.showableAll, g.s, a], ?_, by simp [PyData.leavesShortAll, g.l, e], ?_⟩
    · simp only [PyData.depthAll]
      exact Nat.max_le.mpr ⟨g.k, c⟩
    · simp only [PyData.weightAll, List.length_cons]
      have := g.w
      have e2 : (r.length + 1) * (w + 1) = r.length * (w + 1) + (w + 1) := Nat.succ_mul _ _
      omega
theorem Sx.tup {ds : List PyData} {k w n : Nat} (h : ∀ d ∈ ds, Sx d k w) (hn : ds.length ≤ n) : Sx (.tuple ds) (k + 1) (n * (w + 1)) := by
  obtain ⟨a, c, e, f⟩ := sx_all h
  have m := Nat.mul_le_mul_right (w + 1) hn
  exact ⟨by simp only [PyData.showable, a], by simp only [PyData.depth]; omega, by simp only [PyData.leavesShort, e], by simp only [PyData.weight]; omega⟩
theorem Sx.lst {ds : List PyData} {k w n : Nat} (h : ∀ d ∈ ds, Sx d k w) (hn : ds.length ≤ n) : Sx (.list ds) (k + 1) (n * (w + 1)) := by
  obtain ⟨a, c, e, f⟩ := sx_all h
  have m := Nat.mul_le_mul_right (w + 1) hn
  exact ⟨by simp only [PyData.showable, a], by simp only [PyData.depth]; omega, by simp only [PyData.leavesShort, e], by simp only [PyData.weight]; omega⟩
/-- at most one of both: lists, an empty dict -/
def Fl (d : PyData) : Prop := noList d = true ∨ d.hasDict = false
theorem Sx.shown {d : PyData} {k w : Nat} (h : Sx d k w) (f : Fl d) (hk : k ≤ 64) (hw : w ≤ 300000) : Shown d :=
  ⟨h.s, fun z => f.elim id (fun q => by rw [q] at z; cases z), Nat.le_trans h.k hk, by
    have h1 := PyData.shown_le 40 (by decide) d h.l
    have h2 := h.w
    have h3 : (40 + 2) * d.weight ≤ (40 + 2) * 300000 := Nat.mul_le_mul_left _ (Nat.le_trans h2 hw)
    rw [sizeLine_eq]
    omega⟩
/-- plain data: numbers, some words, tuples of lengths within the list's -/
def Cl : List Nat → PyData → Prop
  | _, .int i => i.natAbs ≤ 1000
  | _, .str x => Sx (.str x) 0 40
  | n :: ns, .tuple ds => ds.length ≤ n ∧ ∀ d ∈ ds, Cl ns d
  | _, _ => False
def wOf : List Nat → Nat
  | [] => 400
  | n :: ns => (n + 1) * (wOf ns + 1)
mutual
theorem clean_flags : ∀ {ns : List Nat} {d : PyData}, Cl ns d → noList d = true ∧ d.hasDict = false
  | _, .int i, _ => ⟨by simp [noList], by simp [PyData.hasDict]⟩
  | _, .str x, _ => ⟨by simp [noList], by simp [PyData.hasDict]⟩
  | [], .tuple ds, h => by simp [Cl] at h
  | n :: ns, .tuple ds, h => by
    have h' : ds.length ≤ n ∧ ∀ d ∈ ds, Cl ns d := by simpa [Cl] using h
    have := clean_all h'.2
    exact ⟨by simp [noList, this.1], by simp [PyData.hasDict, this.2]⟩
  | [], .none, h => by simp [Cl] at h
  | _ :: _, .none, h => by simp [Cl] at h
  | [], .bool _, h => by simp [Cl] at h
  | _ :: _, .bool _, h => by simp [Cl] at h
  | [], .list _, h => by simp [Cl] at h
  | _ :: _, .list _, h => by simp [Cl] at h
  | [], .dict _, h => by simp [Cl] at h
  | _ :: _, .dict _, h => by simp [Cl] at h
theorem clean_all : ∀ {ns : List Nat} {ds : List PyData}, (∀ d ∈ ds, Cl ns d) → noListAll ds = true ∧ PyData.hasDictAll ds = false
  | _, [], _ => ⟨by simp [noListAll], by simp [PyData.hasDictAll]⟩
  | _, d :: r, h => by
    have h1 := clean_flags (h d List.mem_cons_self)
    have h2 := clean_all (ds := r) fun y m => h y (List.mem_cons_of_mem _ m)
    exact ⟨by simp [noListAll, h1.1, h2.1], by simp [PyData.hasDictAll, h1.2, h2.2]⟩
end
theorem w_ge : ∀ ns : List Nat, 400 ≤ wOf ns
  | [] => by decide
  | n :: ns => by
    have := w_ge ns
    have e : (n + 1) * (wOf ns + 1) = n * (wOf ns + 1) + (wOf ns + 1) := Nat.succ_mul _ _
    show 400 ≤ (n + 1) * (wOf ns + 1)
    omega
theorem Cl.sx : ∀ {ns : List Nat} {d : PyData}, Cl ns d → Sx d ns.length (wOf ns)
  | ns, .int i, h => by
    have h' : i.natAbs ≤ 1000 := by cases ns <;> simpa [Cl] using h
    exact (Sx.int (by omega)).mono (Nat.zero_le _) (Nat.le_trans (by decide) (w_ge ns))
  | ns, .str x, h => by
    have h' : Sx (.str x) 0 40 := by cases ns <;> simpa [Cl] using h
    exact h'.mono (Nat.zero_le _) (Nat.le_trans (by decide) (w_ge ns))
  | [], .tuple ds, h => by simp [Cl] at h
  | n :: ns, .tuple ds, h => by
    have h' : ds.length ≤ n ∧ ∀ d ∈ ds, Cl ns d := by simpa [Cl] using h
    exact (Sx.tup (n := n) (fun d hd => Cl.sx (h'.2 d hd)) h'.1).mono (by simp) (Nat.mul_le_mul_right _ (by omega))
  | [], .none, h => by simp [Cl] at h
  | _ :: _, .none, h => by simp [Cl] at h
  | [], .bool _, h => by simp [Cl] at h
  | _ :: _, .bool _, h => by simp [Cl] at h
  | [], .list _, h => by simp [Cl] at h
  | _ :: _, .list _, h => by simp [Cl] at h
  | [], .dict _, h => by simp [Cl] at h
  | _ :: _, .dict _, h => by simp [Cl] at h
/-- what a changed one is -/
def Bn (ns : List Nat) (d : PyData) : Prop := Sx d (ns.length + 2) (wOf ns) ∧ Fl d
theorem Cl.bn {ns : List Nat} {d : PyData} (h : Cl ns d) : Bn ns d := ⟨h.sx.mono (by omega) (Nat.le_refl _), .inl (clean_flags h).1⟩
/-! ### odd things -/
def oddL : List PyData := [.bool true, .bool false, .int (-1), .int 0, .int 1, .int 2, .int 3, .int 5, .int 6, .int 10, .int (10 ^ 30), .none, .str "", .str "0", .str "group", .str "single", .str "Go", .str "go", .tuple [], .list [], .dict [],
  .tuple [.int 0], .tuple [.int 1, .int 2], .tuple [.int 2, .int 1], .tuple [.int 2, .int 2], .list [.int 1, .int 2], .tuple [.int 0, .int 9], .tuple [.int 0, .int 10], .tuple [.int (-1), .int 3], .tuple [.int 3, .int 0], .tuple [.bool true, .int 9], .tuple [.int 1, .int 2, .int 3], .tuple [.int 4], .tuple [.int 5], .str "small"]
def oddB (d : PyData) : Bool := (d.showable && decide (d.depth ≤ 2) && d.leavesShort 40 && decide (d.weight ≤ 400)) && (noList d || !d.hasDict)
theorem odd_all : oddL.all oddB = true := by decide +kernel
theorem odd_bn {ns : List Nat} {d : PyData} (h : d ∈ oddL) : Bn ns d := by
  have g := List.all_eq_true.mp odd_all d h
  simp only [oddB, Bool.and_eq_true, Bool.or_eq_true, decide_eq_true_eq, Bool.not_eq_true'] at g
  exact ⟨⟨g.1.1.1.1, Nat.le_trans g.1.1.1.2 (by omega), g.1.1.2, Nat.le_trans g.1.2 (w_ge ns)⟩, g.2⟩
section
variable {P : Program} {w : World} {K : PySem.W.Frag} {mg : Str → Option Value} {base : Heap}
abbrev spOdd : ASp := fun as Ω P => ∃ (Ω0 : AH) (p : Addr) (a b c : Int), as = [.ptr p] ∧ Ω = put Ω0 p (deckL a b c) ∧ ∀ d a' b' c', d ∈ oddL → P (.dat d) (put Ω0 p (deckL a' b' c'))
local macro_rules | `(tactic| trivial) => `(tactic| (first
  | (with_reducible refine e_dnew ?_)
  | fail))
theorem ok_odd (T : Top K mg) : FnOk P w K mg base CX0 2 T.f__law_odd T.d__law_odd ["_law_deck_here"] (spA K spOdd) := by
  have G__law_draw : FnOk P w K mg base CX0 1 T.f__law_draw T.d__law_draw ["_law_deck_here", "_law_many"] (spA K spDraw) := ok_draw T
  refine fnA_ok T.D__law_odd.F sc__law_odd (fun as Ω P ⟨Ω0, p, a, b, c, e, _⟩ => by subst e; rfl) (fun cdv A outer s H E hr => ?_)
  refine ⟨_, (pss_cons (ps_set (i := 1) sc__law_odd.nd rfl (.inl rfl) (pe_lst (pa_cons pe_bl (pa_cons pe_bl (pa_cons (pe_un un_neg pe_int) (pa_cons pe_int (pa_cons pe_int (pa_cons pe_int (pa_cons pe_int (pa_cons pe_int (pa_cons pe_int (pa_cons pe_int (pa_cons (pe_op op_pow pe_int pe_int) (pa_cons pe_non (pa_cons pe_str (pa_cons pe_str (pa_cons pe_str (pa_cons pe_str (pa_cons pe_str (pa_cons pe_str (pa_cons (pe_tup pa_nil) (pa_cons (pe_lst pa_nil) (pa_cons pe_dnewK pa_nil)))))))))))))))))))))))
    (pss_cons (ps_set (i := 1) sc__law_odd.nd rfl (.inl rfl) (pe_op op_cat (pv 1) (pe_lst (pa_cons (pe_tup (pa_cons pe_int pa_nil)) (pa_cons (pe_tup (pa_cons pe_int (pa_cons pe_int pa_nil))) (pa_cons (pe_tup (pa_cons pe_int (pa_cons pe_int pa_nil))) (pa_cons (pe_tup (pa_cons pe_int (pa_cons pe_int pa_nil))) (pa_cons (pe_lst (pa_cons pe_int (pa_cons pe_int pa_nil))) (pa_cons (pe_tup (pa_cons pe_int (pa_cons pe_int pa_nil))) (pa_cons (pe_tup (pa_cons pe_int (pa_cons pe_int pa_nil))) (pa_cons (pe_tup (pa_cons (pe_un un_neg pe_int) (pa_cons pe_int pa_nil))) (pa_cons (pe_tup (pa_cons pe_int (pa_cons pe_int pa_nil))) (pa_cons (pe_tup (pa_cons pe_bl (pa_cons pe_int pa_nil))) (pa_cons (pe_tup (pa_cons pe_int (pa_cons pe_int (pa_cons pe_int pa_nil)))) (pa_cons (pe_tup (pa_cons pe_int pa_nil)) (pa_cons (pe_tup (pa_cons pe_int pa_nil)) (pa_cons pe_str pa_nil)))))))))))))))))
    (pss_one (ps_ret (pe_ix (Dat.ixL (K := K) rfl) (pv 1) (pe_call G__law_draw (hr.mono (by omega)) rfl T.D__law_draw.g T.D__law_draw.F.kp T.D__law_draw.b .nil pass0 (pa_cons (pv 0) (pa_cons (pe_callB (Dat.lenQ (K := K) rfl) rfl T.b_len bt_len (pa_cons (pv 1) pa_nil)) pa_nil))) (fun _ _ => rfl)))))), ?_⟩
  rintro as Ω P ⟨Ω0, p, a, b, c, rfl, rfl, h⟩
  refine s_seqM (fun Γ' Ω' => Γ' = [some (.ptr p), some (.dat (.list (oddL.take 21)))] ∧ Ω' = put Ω0 p (deckL a b c)) (s_asg ?_) ?_
  · repeat' trivial
    refine r_Ii ⟨by decide, by decide, by decide⟩ ?_
    repeat' trivial
  rintro Γ' Ω' ⟨rfl, rfl⟩
  refine s_seqM (fun Γ' Ω' => Γ' = [some (.ptr p), some (.dat (.list oddL))] ∧ Ω' = put Ω0 p (deckL a b c)) (s_asg (e_op (e_var rfl ?_))) ?_
  · refine EW.mono (P := fun x Ω' => x = .dat (.list (oddL.drop 21)) ∧ Ω' = put Ω0 p (deckL a b c)) ?_ ?_
    · repeat' trivial
    rintro _ _ ⟨rfl, rfl⟩
    exact r_catL (by decide) ⟨rfl, rfl⟩
  rintro Γ' Ω' ⟨rfl, rfl⟩
  refine s_ret (e_op (e_var rfl (e_draw rfl (e_cb (a_cons (e_var rfl (a_nil (c_lenL ⟨_, a, b, c, rfl, rfl, by decide, by decide, fun v a b c v0 v1 => r_ixL_any v0 v1 fun d hd => h d a b c hd⟩))))))))
end
end K19

set_option Elab.async false
set_option linter.all false
set_option maxRecDepth 100000
set_option maxHeartbeats 1000000
namespace K19
open PySem PySem.Spec PyProof.Rows L2 Dat
local macro_rules | `(tactic| trivial) => `(tactic| (first
  | (with_reducible refine s_seq ?_)
  | (with_reducible refine s_asg ?_)
  | (with_reducible refine s_ret ?_)
  | (with_reducible refine s_drop ?_)
  | (with_reducible refine s_next ?_)
  | (with_reducible refine s_retN ?_)
  | (with_reducible refine s_brk ?_)
  | (with_reducible refine s_cont ?_)
  | (with_reducible refine s_if ?_)
  | (with_reducible refine e_int ?_)
  | (with_reducible refine e_str ?_)
  | (with_reducible refine e_bl ?_)
  | (with_reducible refine e_non ?_)
  | (with_reducible refine e_ty ?_)
  | (with_reducible refine e_tupD ?_)
  | (with_reducible refine e_lstD ?_)
  | (with_reducible refine e_op ?_)
  | (with_reducible refine e_un ?_)
  | (with_reducible refine e_then ?_)
  | (with_reducible refine e_cb ?_)
  | (with_reducible refine e_call ?_)
  | (with_reducible refine e_if ?_)
  | (with_reducible refine e_chain ?_)
  | (with_reducible refine e_andV ?_)
  | (with_reducible refine e_orV ?_)
  | (with_reducible refine e_notV ?_)
  | (with_reducible refine a_cons ?_)
  | (with_reducible refine a_nil ?_)
  | (with_reducible refine t_test ?_)
  | (with_reducible refine t_B ?_)
  | (with_reducible refine t_not ?_)
  | (with_reducible refine t_and ?_)
  | (with_reducible refine t_or ?_)
  | (with_reducible refine r_I0i ?_)
  | (with_reducible refine r_I0b ?_)
  | (with_reducible refine r_neg ?_)
  | (with_reducible refine r_isN ?_)
  | (with_reducible refine r_notN ?_)
  | (with_reducible refine c_lenT ?_)
  | (with_reducible refine c_lenL ?_)
  | (with_reducible refine c_intI ?_)
  | (with_reducible refine c_intB ?_)
  | (with_reducible refine c_max2 ?_)
  | (with_reducible refine c_min2 ?_)
  | (with_reducible refine c_abs ?_)
  | (with_reducible refine r_tupL ?_)
  | (with_reducible refine r_tupT ?_)
  | (with_reducible refine c_allM ?_)
  | ((with_reducible apply e_var); (exact rfl))
  | ((with_reducible refine r_eq ?_ ?_); (exact rfl))
  | ((with_reducible refine r_ne ?_ ?_); (exact rfl))
  | (with_reducible refine c_isi kit_int ?_)
  | (with_reducible refine c_isi kit_bool ?_)
  | (with_reducible refine c_isi kit_tuple ?_)
  | (with_reducible refine c_isi kit_list ?_)
  | (with_reducible refine c_isi kit_str ?_)
  | ((with_reducible apply r_ixT); (exact rfl))
  | ((with_reducible apply dats_pack); (iterate 40 (first | exact Dats.nil | apply Dats.cons | skip)); (exact rfl))
  | (with_reducible refine s_asgG ?_) | (with_reducible refine g_name ?_) | ((with_reducible refine g_tup ?_ ?_); (exact rfl)) | (refine gs_nil ?_) | (refine gs_cons ?_) | (with_reducible refine ⟨rfl, ?_⟩)
  | (refine ⟨_, rfl, ?_⟩) | (refine ⟨_, _, rfl, ?_⟩) | (refine ⟨_, _, _, rfl, ?_⟩) | (with_reducible refine ⟨fun _ => ?_, fun _ => ?_⟩) | fail))
/-! ### one part changed -/
theorem noL_iff : ∀ {ds : List PyData}, noListAll ds = true ↔ ∀ d ∈ ds, noList d = true
  | [] => by simp [noListAll]
  | d :: r => by simp [noListAll, noL_iff (ds := r)]
theorem noD_iff : ∀ {ds : List PyData}, PyData.hasDictAll ds = false ↔ ∀ d ∈ ds, d.hasDict = false
  | [] => by simp [PyData.hasDictAll]
  | d :: r => by simp [PyData.hasDictAll, noD_iff (ds := r)]
theorem ixN_at {n j : Nat} (hj : j < n) : ixN n (j : Int) = some j := by unfold ixN; rw [if_pos (Int.natCast_nonneg j), if_pos (Int.ofNat_lt.mpr hj), Int.toNat_natCast]
theorem cut_to {α : Type} {xs : List α} {j : Nat} (h : j ≤ xs.length) : Dat.cutD xs none (some (j : Int)) = xs.take j := by
  unfold Dat.cutD
  rw [HT.sIx_nat, HT.sIx_none, List.drop_zero, Nat.min_eq_left h, Nat.sub_zero]
theorem cut_from {α : Type} {xs : List α} {j : Nat} (h : j ≤ xs.length) : Dat.cutD xs (some (j : Int)) none = xs.drop j := by
  unfold Dat.cutD
  rw [HT.sIx_nat, HT.sIx_none, Nat.min_eq_left h]
  exact List.take_of_length_le (by rw [List.length_drop]; omega)
theorem Cl.mem {n : Nat} {ns : List Nat} {ds : List PyData} (h : Cl (n :: ns) (.tuple ds)) : ds.length ≤ n ∧ ∀ d ∈ ds, Cl ns d := by simpa [Cl] using h
theorem Cl.of {n : Nat} {ns : List Nat} {ds : List PyData} (h1 : ds.length ≤ n) (h2 : ∀ d ∈ ds, Cl ns d) : Cl (n :: ns) (.tuple ds) := by simp only [Cl]; exact ⟨h1, h2⟩
theorem Cl.sub {n : Nat} {ns : List Nat} {ds es : List PyData} (h : Cl (n :: ns) (.tuple ds)) (l : es.length ≤ ds.length) (m : ∀ d ∈ es, d ∈ ds) : Cl (n :: ns) (.tuple es) :=
  .of (Nat.le_trans l h.mem.1) fun d hd => h.mem.2 d (m d hd)
theorem Cl.more {n : Nat} {ns : List Nat} {ds es : List PyData} (h : Cl (n :: ns) (.tuple ds)) (l : es.length ≤ ds.length + 1) (m : ∀ d ∈ es, d ∈ ds) : Bn (n :: ns) (.tuple es) := by
  have hm := h.mem
  refine ⟨(Sx.tup (n := n + 1) (fun d hd => (hm.2 d (m d hd)).sx) (by omega)).mono (by simp) (Nat.le_refl _), .inl ?_⟩
  simp only [noList]
  exact noL_iff.mpr fun d hd => (clean_flags (hm.2 d (m d hd))).1
theorem Cl.lst {n : Nat} {ns : List Nat} {ds : List PyData} (h : Cl (n :: ns) (.tuple ds)) : Bn (n :: ns) (.list ds) := by
  have hm := h.mem
  refine ⟨(Sx.lst (n := n + 1) (fun d hd => (hm.2 d hd).sx) (by omega)).mono (by simp) (Nat.le_refl _), .inr ?_⟩
  simp only [PyData.hasDict]
  exact noD_iff.mpr fun d hd => (clean_flags (hm.2 d hd)).2
theorem bn_put {n : Nat} {ns : List Nat} {ds : List PyData} {r : PyData} {j : Nat} (h : Cl (n :: ns) (.tuple ds)) (hj : j < ds.length) (hr : Bn ns r) : Bn (n :: ns) (.tuple (ds.take j ++ [r] ++ ds.drop (j + 1))) := by
  have hm := h.mem
  have mem : ∀ d ∈ ds.take j ++ [r] ++ ds.drop (j + 1), d = r ∨ Cl ns d := fun d hd => by
    simp only [List.mem_append, List.mem_singleton] at hd
    rcases hd with (hd | hd) | hd
    · exact .inr (hm.2 d (List.mem_of_mem_take hd))
    · exact .inl hd
    · exact .inr (hm.2 d (List.mem_of_mem_drop hd))
  refine ⟨(Sx.tup (k := ns.length + 2) (w := wOf ns) (n := n + 1) (fun d hd => ?_) ?_).mono (by simp) (Nat.le_refl _), ?_⟩
  · rcases mem d hd with rfl | hc
    · exact hr.1
    · exact hc.sx.mono (by omega) (Nat.le_refl _)
  · simp only [List.length_append, List.length_take, List.length_drop, List.length_singleton]
    omega
  · rcases hr.2 with q | q
    · refine .inl ?_
      simp only [noList]
      exact noL_iff.mpr fun d hd => by
        rcases mem d hd with rfl | hc
        · exact q
        · exact (clean_flags hc).1
    · refine .inr ?_
      simp only [PyData.hasDict]
      exact noD_iff.mpr fun d hd => by
        rcases mem d hd with rfl | hc
        · exact q
        · exact (clean_flags hc).2
def lenD : PyData → Nat
  | .tuple ds => ds.length
  | _ => 0
theorem cl_kind {ns : List Nat} {d : PyData} (h : Cl ns d) : (∃ i : Int, d = .int i ∧ i.natAbs ≤ 1000) ∨ (∃ x, d = .str x) ∨ ∃ n ms ds, ns = n :: ms ∧ d = .tuple ds := by
  cases d with
  | int i => exact .inl ⟨i, rfl, by cases ns <;> simpa [Cl] using h⟩
  | str x => exact .inr (.inl ⟨x, rfl⟩)
  | tuple ds => cases ns with
    | nil => simp [Cl] at h
    | cons n ms => exact .inr (.inr ⟨n, ms, ds, rfl, rfl⟩)
  | _ => cases ns <;> simp [Cl] at h
theorem bn_int {ns : List Nat} {i : Int} (h : i.natAbs ≤ 100000) : Bn ns (.int i) := ⟨(Sx.int (by omega)).mono (Nat.zero_le _) (Nat.le_trans (by decide) (w_ge ns)), .inl (by simp [noList])⟩
section
variable {P : Program} {w : World} {K : PySem.W.Frag} {mg : Str → Option Value} {base : Heap}
abbrev spBent (ns : List Nat) : ASp := fun as Ω P => ∃ (Ω0 : AH) (p : Addr) (d : PyData) (a b c : Int), as = [.ptr p, .dat d] ∧ Ω = put Ω0 p (deckL a b c) ∧ Cl ns d ∧ ∀ d' a' b' c', Bn ns d' → P (.dat d') (put Ω0 p (deckL a' b' c'))
theorem bent_step (T : Top K mg) {k : Nat} (hk : 2 ≤ k) (ns : List Nat) (h20 : ∀ n ∈ ns, n ≤ 20) (sp0 : ASp) (G__law_bent : FnOk P w K mg base CX0 k T.f__law_bent T.d__law_bent ["_law_deck_here", "_law_item"] (spA K sp0))
    (hrec : ∀ n ms, ns = n :: ms → ∀ as Ω P, spBent ms as Ω P → sp0 as Ω P) : FnOk P w K mg base CX0 (k + 1) T.f__law_bent T.d__law_bent ["_law_deck_here", "_law_item"] (spA K (spBent ns)) := by
  have G__law_draw : FnOk P w K mg base CX0 1 T.f__law_draw T.d__law_draw ["_law_deck_here", "_law_many"] (spA K spDraw) := ok_draw T
  have G__law_odd : FnOk P w K mg base CX0 2 T.f__law_odd T.d__law_odd ["_law_deck_here"] (spA K spOdd) := ok_odd T
  refine fnA_ok T.D__law_bent.F sc__law_bent (fun as Ω P ⟨Ω0, p, d, a, b, c, e, _⟩ => by subst e; rfl) (fun cdv A outer s H E hr => ?_)
  refine ⟨_, (pss_cons (ps_if (PW.pt (pw_or (pt_not (pt_val (pe_callB (Dat.isiQ (K := K) rfl) rfl T.b_isinstance bt_isinstance (pa_cons (pv 1) (pa_cons (pe_bltn (v := .ty "tuple") rfl T.b_tuple bt_tuple rfl) pa_nil))))) (pw_or (pt_cmpR op_eq (pe_callB (Dat.lenQ (K := K) rfl) rfl T.b_len bt_len (pa_cons (pv 1) pa_nil)) pe_int (nomark _)) (pw_or1 (pt_cmpR op_eq (pe_call G__law_draw (hr.mono (by omega)) rfl T.D__law_draw.g T.D__law_draw.F.kp T.D__law_draw.b .nil pass0 (pa_cons (pv 0) (pa_cons pe_int pa_nil))) pe_int (nomark _))))))
      (pss_cons (ps_set (i := 2) sc__law_bent.nd rfl (.inl rfl) (pe_call G__law_draw (hr.mono (by omega)) rfl T.D__law_draw.g T.D__law_draw.F.kp T.D__law_draw.b .nil pass0 (pa_cons (pv 0) (pa_cons pe_int pa_nil))))
      (pss_cons (ps_if (PW.pt (pw_and (pt_val (pe_callB (Dat.isiQ (K := K) rfl) rfl T.b_isinstance bt_isinstance (pa_cons (pv 1) (pa_cons (pe_bltn (v := .ty "tuple") rfl T.b_tuple bt_tuple rfl) pa_nil)))) (pw_and (pt_cmpR op_gt (pe_callB (Dat.lenQ (K := K) rfl) rfl T.b_len bt_len (pa_cons (pv 1) pa_nil)) pe_int (nomark _)) (pw_and1 (pt_cmpR op_lt (pv 2) pe_int (nomark _))))))
        (pss_one (ps_ret (pe_ix (Dat.ixL (K := K) rfl) (pe_lst (pa_cons (pe_slice (Dat.slT (K := K) rfl) (pv 1) (po_some pe_int) po_none) (pa_cons (pe_slice (Dat.slT (K := K) rfl) (pv 1) po_none (po_some (pe_un un_neg pe_int))) (pa_cons (pe_op (Dat.catT (K := K) rfl) (pv 1) (pe_slice (Dat.slT (K := K) rfl) (pv 1) po_none (po_some pe_int))) (pa_cons (pe_callTy (Dat.listQ (K := K) rfl) rfl T.b_list bt_list (pa_cons (pv 1) pa_nil)) pa_nil))))) (pv 2) (fun _ _ => rfl))))
        pss_nil)
      (pss_cons (ps_if (PW.pt (pw_and (pt_val (pe_callB (Dat.isiQ (K := K) rfl) rfl T.b_isinstance bt_isinstance (pa_cons (pv 1) (pa_cons (pe_bltn (v := .ty "int") rfl T.b_int bt_int rfl) pa_nil)))) (pw_and1 (pt_cmpR op_lt (pv 2) pe_int (nomark _)))))
        (pss_one (ps_ret (pe_ix (Dat.ixL (K := K) rfl) (pe_lst (pa_cons (pe_op op_add (pv 1) pe_int) (pa_cons (pe_op op_sub (pv 1) pe_int) pa_nil))) (pv 2) (fun _ _ => rfl))))
        pss_nil)
      (pss_one (ps_ret (pe_call G__law_odd (hr.mono (by omega)) rfl T.D__law_odd.g T.D__law_odd.F.kp T.D__law_odd.b .nil pass0 (pa_cons (pv 0) pa_nil)))))))
      pss_nil)
    (pss_cons (ps_set (i := 3) sc__law_bent.nd rfl (.inl rfl) (pe_call G__law_draw (hr.mono (by omega)) rfl T.D__law_draw.g T.D__law_draw.F.kp T.D__law_draw.b .nil pass0 (pa_cons (pv 0) (pa_cons (pe_callB (Dat.lenQ (K := K) rfl) rfl T.b_len bt_len (pa_cons (pv 1) pa_nil)) pa_nil))))
    (pss_cons (ps_if (pt_cmpR op_eq (pe_call G__law_draw (hr.mono (by omega)) rfl T.D__law_draw.g T.D__law_draw.F.kp T.D__law_draw.b .nil pass0 (pa_cons (pv 0) (pa_cons pe_int pa_nil))) pe_int (nomark _))
      (pss_cons (ps_set (i := 4) sc__law_bent.nd rfl (.inl rfl) (pe_call G__law_draw (hr.mono (by omega)) rfl T.D__law_draw.g T.D__law_draw.F.kp T.D__law_draw.b .nil pass0 (pa_cons (pv 0) (pa_cons (pe_callB (Dat.lenQ (K := K) rfl) rfl T.b_len bt_len (pa_cons (pv 1) pa_nil)) pa_nil))))
      (pss_cons (ps_set (i := 5) sc__law_bent.nd rfl (.inl rfl) (pe_callTy (Dat.listQ (K := K) rfl) rfl T.b_list bt_list (pa_cons (pv 1) pa_nil)))
      (pss_cons (ps_asg (pe_tup (pa_cons (pe_ix (Dat.ixL (K := K) rfl) (pv 5) (pv 4) (fun _ _ => rfl)) (pa_cons (pe_ix (Dat.ixL (K := K) rfl) (pv 5) (pv 3) (fun _ _ => rfl)) pa_nil))) (Dat.pgT (K := K) (n := 2) rfl rfl (pgs_cons (pg_sub (pv 5) (pv 3) set_list) (pgs_cons (pg_sub (pv 5) (pv 4) set_list) pgs_nil))))
      (pss_one (ps_ret (Dat.pe_tupleK (K := K) rfl rfl T.b_tuple (pv 5)))))))
      pss_nil)
    (pss_one (ps_ret (pe_op (Dat.catT (K := K) rfl) (pe_op (Dat.catT (K := K) rfl) (pe_slice (Dat.slT (K := K) rfl) (pv 1) po_none (po_some (pv 3))) (pe_tup (pa_cons (pe_call G__law_bent (hr.mono (by omega)) rfl T.D__law_bent.g T.D__law_bent.F.kp T.D__law_bent.b .nil pass0 (pa_cons (pv 0) (pa_cons (pe_ix (Dat.ixT (K := K) rfl) (pv 1) (pv 3) (fun _ _ => rfl)) pa_nil))) pa_nil))) (pe_slice (Dat.slT (K := K) rfl) (pv 1) (po_some (pe_op op_add (pv 3) pe_int)) po_none))))))), ?_⟩
  rintro as Ω P ⟨Ω0, p, d, a, b, c, rfl, rfl, hc, h⟩
  have hkind := cl_kind hc
  refine s_seqM (fun Γ' Ω' => ∃ (n : Nat) (ms : List Nat) (ds : List PyData) (a b c : Int), ns = n :: ms ∧ d = .tuple ds ∧ ds ≠ [] ∧ Γ' = [some (.ptr p), some (.dat d), none, none, none, none] ∧ Ω' = put Ω0 p (deckL a b c)) ?_ ?_
  · refine s_if (TW.mono (P := fun z Ω' => ∃ a b c : Int, Ω' = put Ω0 p (deckL a b c) ∧ (z = false → ∃ n ms ds, ns = n :: ms ∧ d = .tuple ds ∧ ds ≠ [])) ?_ ?_)
    · rcases hkind with ⟨i, rfl, hi⟩ | ⟨x, rfl⟩ | ⟨n, ms, ds, rfl, rfl⟩
      · refine t_or (t_not (t_B (e_cb (a_cons (e_var rfl (a_cons (e_ty (a_nil (c_isi kit_tuple ⟨_, rfl, fun _ => ⟨a, b, c, rfl, nofun⟩, fun z => ?_⟩)))))))))
        cases z
      · refine t_or (t_not (t_B (e_cb (a_cons (e_var rfl (a_cons (e_ty (a_nil (c_isi kit_tuple ⟨_, rfl, fun _ => ⟨a, b, c, rfl, nofun⟩, fun z => ?_⟩)))))))))
        cases z
      · refine t_or (t_not (t_B (e_cb (a_cons (e_var rfl (a_cons (e_ty (a_nil (c_isi kit_tuple ⟨_, rfl, nofun, fun _ => ?_⟩)))))))))
        refine t_or (t_test (e_op (e_cb (a_cons (e_var rfl (a_nil (c_lenT (e_int (r_eq rfl ⟨_, rfl, fun _ => ⟨a, b, c, rfl, nofun⟩, fun z => ?_⟩)))))))))
        have hne : ds ≠ [] := fun e => by
          subst e
          simp [eqD] at z
        refine t_test (e_op (e_drawN rfl (by decide) (by decide) fun v a b c v0 v1 => e_int (r_eq rfl ⟨_, rfl, a, b, c, rfl, fun _ => ⟨n, ms, ds, rfl, rfl, hne⟩⟩)))
    · rintro z Ω' ⟨a, b, c, rfl, hz⟩
      refine ⟨fun _ => ?_, fun hb => s_next ?_⟩
      · refine s_seq (s_asg (e_drawN rfl (by decide) (by decide) fun v a b c v0 v1 => ?_))
        refine s_seq (s_ifB (b := isTupD d && (decide ((0 : Int) < lenD d) && decide (v < 4))) (t_andB (t_ofB ?_) fun g1 => t_andB (t_ofC ?_) fun _ => t_ofC ?_) (fun g => ?_) fun g => s_next ?_)
        · exact e_cb (a_cons (e_var rfl (a_cons (e_ty (a_nil (c_isi kit_tuple ⟨rfl, rfl⟩))))))
        · obtain ⟨ds, rfl⟩ := (tup_or d).resolve_right (by rw [g1]; decide)
          exact e_op (e_cb (a_cons (e_var rfl (a_nil (c_lenT (e_int (r_I0b ⟨rfl, rfl⟩)))))))
        · exact e_op (e_var rfl (e_int (r_I0b ⟨rfl, rfl⟩)))
        · simp only [Bool.and_eq_true, decide_eq_true_eq] at g
          obtain ⟨g1, g2, g3⟩ := g
          rcases hkind with ⟨i, rfl, hi⟩ | ⟨x, rfl⟩ | ⟨n, ms, ds, rfl, rfl⟩
          · cases g1
          · cases g1
          have hlen : 0 < ds.length := by simpa [lenD] using g2
          have hc2 : Dat.cutD ds none (some (1 : Int)) = ds.take 1 := cut_to (j := 1) hlen
          refine s_ret (e_op (e_lstD (a_cons (e_slT (e_var rfl ⟨_, rfl, o_some (e_int ⟨_, rfl, o_no ?_⟩)⟩)))))
          refine a_cons (e_slT (e_var rfl ⟨_, rfl, o_no (o_some (e_un (e_int (r_neg ⟨_, rfl, ?_⟩))))⟩))
          refine a_cons (e_op (e_var rfl (e_slT (e_var rfl ⟨_, rfl, o_no (o_some (e_int ⟨_, rfl, r_catT ?_ ?_⟩))⟩))))
          · have := hc.mem.1
            have := h20 n List.mem_cons_self
            rw [hc2, List.length_take]
            omega
          refine a_cons (e_cb (a_cons (e_var rfl (a_nil (c_listT (a_nil ⟨_, .cons (.cons (.cons (.cons .nil))), rfl, e_var rfl (r_ixL_any v0 g3 fun x hx => h x a b c ?_)⟩))))))
          simp only [List.mem_cons, List.not_mem_nil, or_false] at hx
          rcases hx with rfl | rfl | rfl | rfl
          · exact (hc.sub cutD_len fun d hd => cutD_mem hd).bn
          · exact (hc.sub cutD_len fun d hd => cutD_mem hd).bn
          · refine hc.more ?_ fun d hd => ?_
            · rw [hc2, List.length_append, List.length_take]
              omega
            · rcases List.mem_append.mp hd with hd | hd
              · exact hd
              · exact cutD_mem hd
          · exact hc.lst
        refine s_seq (s_ifB (b := isIntD d && decide (v < 2)) (t_andB (t_ofB ?_) fun g1 => t_ofC ?_) (fun g => ?_) fun g => s_next ?_)
        · exact e_cb (a_cons (e_var rfl (a_cons (e_ty (a_nil (c_isi kit_int ⟨rfl, rfl⟩))))))
        · exact e_op (e_var rfl (e_int (r_I0b ⟨rfl, rfl⟩)))
        · simp only [Bool.and_eq_true, decide_eq_true_eq] at g
          rcases hkind with ⟨i, rfl, hi⟩ | ⟨x, rfl⟩ | ⟨n, ms, ds, rfl, rfl⟩
          · refine s_ret (e_op (e_lstD (a_cons (e_op (e_var rfl (e_int (r_I0i (a_cons (e_op (e_var rfl (e_int (r_I0i (a_nil ⟨_, .cons (.cons .nil), rfl, e_var rfl (r_ixL_any v0 g.2 fun x hx => h x a b c ?_)⟩)))))))))))))
            simp only [List.mem_cons, List.not_mem_nil, or_false] at hx
            rcases hx with rfl | rfl
            · exact bn_int (by omega)
            · exact bn_int (by omega)
          · cases g.1
          · cases g.1
        · exact s_ret (e_call (a_cons (e_var rfl (a_nil ⟨Ω0, p, a, b, c, rfl, rfl, fun x a b c hx => h x a b c (odd_bn hx)⟩))))
      · obtain ⟨n, ms, ds, e1, e2, e3⟩ := hz hb
        exact ⟨n, ms, ds, a, b, c, e1, e2, e3, rfl, rfl⟩
  rintro Γ' Ω' ⟨n, ms, ds, a, b, c, rfl, rfl, hne, rfl, rfl⟩
  have hm := hc.mem
  have hn20 := h20 n List.mem_cons_self
  have hpos : 0 < ds.length := List.length_pos_iff.mpr hne
  refine s_seq (s_asg (e_draw rfl (e_cb (a_cons (e_var rfl (a_nil (c_lenT ⟨_, a, b, c, rfl, rfl, by omega, by omega, fun v a b c v0 v1 => ?_⟩)))))))
  obtain ⟨j, rfl⟩ : ∃ j : Nat, v = j := ⟨v.toNat, (Int.toNat_of_nonneg v0).symm⟩
  have hj : j < ds.length := by omega
  refine s_seq (s_if (t_test (e_op (e_drawN rfl (by decide) (by decide) fun v a b c _ _ => e_int (r_eq rfl ⟨_, rfl, fun _ => ?_, fun _ => s_next ?_⟩)))))
  · refine s_seq (s_asg (e_draw rfl (e_cb (a_cons (e_var rfl (a_nil (c_lenT ⟨_, a, b, c, rfl, rfl, by omega, by omega, fun u a b c u0 u1 => ?_⟩)))))))
    obtain ⟨l, rfl⟩ : ∃ l : Nat, u = l := ⟨u.toNat, (Int.toNat_of_nonneg u0).symm⟩
    have hl : l < ds.length := by omega
    refine s_seq (s_asg (e_cb (a_cons (e_var rfl (a_nil (c_listTP fun q nq => ?_))))))
    have at_ : ∀ i (hi : i < ds.length), atI (ds.map Av.dat) (i : Int) = some (.dat ds[i]) := fun i hi => atI_nat' (by rw [List.getElem?_map, List.getElem?_eq_getElem hi]; rfl)
    refine s_seq (s_asgG (e_tupD (a_cons (e_op (e_var rfl (e_var rfl (r_ixP put_same (at_ l hl) (a_cons (e_op (e_var rfl (e_var rfl (r_ixP put_same (at_ j hj) (a_nil ⟨_, .cons (.cons .nil), rfl, ?_⟩)))))))))))))
    refine g_tup rfl (gs_consO (g_sub (e_var rfl ⟨q, rfl, e_var rfl ⟨_, _, j, rfl, put_same, by rw [List.length_map]; exact ixN_at hj, ?_⟩⟩)))
    refine gs_consO (g_sub (e_var rfl ⟨q, rfl, e_var rfl ⟨_, _, l, rfl, put_same, by rw [List.length_set, List.length_map]; exact ixN_at hl, gs_nil ?_⟩⟩))
    refine s_ret (e_then (e_var rfl ?_))
    rw [put_put, put_put, ← List.map_set, ← List.map_set]
    refine r_tupP put_same ?_
    rw [del_put nq]
    refine h _ a b c (hc.sub ?_ fun x hx => ?_).bn
    · rw [List.length_set, List.length_set]
      exact Nat.le_refl _
    · have hx' := List.mem_or_eq_of_mem_set hx
      rcases hx' with hx | rfl
      · rcases List.mem_or_eq_of_mem_set hx with hx | rfl
        · exact hx
        · exact List.getElem_mem _
      · exact List.getElem_mem _
  · have e3 : atI ds (j : Int) = some ds[j] := atI_nat' (List.getElem?_eq_getElem hj)
    refine s_ret (e_op (e_op (e_slT (e_var rfl ⟨_, rfl, o_no (o_some (e_var rfl ⟨_, rfl, ?_⟩))⟩))))
    refine e_tupD (a_cons (e_call (a_cons (e_var rfl (a_cons (e_op (e_var rfl (e_var rfl (r_ixT e3 (a_nil (hrec n ms rfl _ _ _ ⟨Ω0, p, _, a, b, c, rfl, rfl, hm.2 _ (List.getElem_mem hj), fun r a b c hbn => a_nil ⟨_, .cons .nil, rfl, r_catT ?_ ?_⟩⟩)))))))))))
    · rw [cut_to (by omega), List.length_take]
      simp
      omega
    refine e_slT (e_var rfl ⟨_, rfl, o_some (e_op (e_var rfl (e_int (r_I0i ⟨_, rfl, o_no ?_⟩))))⟩)
    have ej : (j : Int) + 1 = ((j + 1 : Nat) : Int) := by omega
    rw [cut_to (by omega), ej, cut_from (by omega)]
    refine r_catT ?_ (h _ a b c (bn_put hc hj hbn))
    simp only [List.length_append, List.length_take, List.length_drop, List.length_singleton]
    omega
theorem ok_bent (T : Top K mg) : ∀ (ns : List Nat), (∀ n ∈ ns, n ≤ 20) → FnOk P w K mg base CX0 (3 + ns.length) T.f__law_bent T.d__law_bent ["_law_deck_here", "_law_item"] (spA K (spBent ns))
  | [], h => bent_step T (k := 2) (by decide) [] h (fun _ _ _ => False) (T.D__law_bent.F.ok sc__law_bent (fun vs H Q E ⟨_, _, _, _, _, _, h, _⟩ => h.elim) fun cdv A outer s H vs Q E hr ⟨_, _, _, _, _, _, h, _⟩ => h.elim) (fun n ms e => by cases e)
  | n :: ns, h => bent_step T (k := 3 + ns.length) (by omega) (n :: ns) h (spBent ns) (ok_bent T ns fun m hm => h m (List.mem_cons_of_mem _ hm)) (fun m ms e => by cases e; exact fun _ _ _ z => z)
end
end K19

set_option Elab.async false
set_option linter.all false
set_option maxRecDepth 100000
set_option maxHeartbeats 1000000
namespace K19
open PySem PySem.Spec PyProof.Rows L2 Dat
local macro_rules | `(tactic| trivial) => `(tactic| (first
  | (with_reducible refine s_seq ?_)
  | (with_reducible refine s_asg ?_)
  | (with_reducible refine s_ret ?_)
  | (with_reducible refine s_drop ?_)
  | (with_reducible refine s_next ?_)
  | (with_reducible refine s_retN ?_)
  | (with_reducible refine s_brk ?_)
  | (with_reducible refine s_cont ?_)
  | (with_reducible refine s_if ?_)
  | (with_reducible refine e_int ?_)
  | (with_reducible refine e_str ?_)
  | (with_reducible refine e_bl ?_)
  | (with_reducible refine e_non ?_)
  | (with_reducible refine e_ty ?_)
  | (with_reducible refine e_tupD ?_)
  | (with_reducible refine e_lstD ?_)
  | (with_reducible refine e_op ?_)
  | (with_reducible refine e_un ?_)
  | (with_reducible refine e_then ?_)
  | (with_reducible refine e_cb ?_)
  | (with_reducible refine e_call ?_)
  | (with_reducible refine e_if ?_)
  | (with_reducible refine e_chain ?_)
  | (with_reducible refine e_andV ?_)
  | (with_reducible refine e_orV ?_)
  | (with_reducible refine e_notV ?_)
  | (with_reducible refine a_cons ?_)
  | (with_reducible refine a_nil ?_)
  | (with_reducible refine t_test ?_)
  | (with_reducible refine t_B ?_)
  | (with_reducible refine t_not ?_)
  | (with_reducible refine t_and ?_)
  | (with_reducible refine t_or ?_)
  | (with_reducible refine r_I0i ?_)
  | (with_reducible refine r_I0b ?_)
  | (with_reducible refine r_neg ?_)
  | (with_reducible refine r_isN ?_)
  | (with_reducible refine r_notN ?_)
  | (with_reducible refine c_lenT ?_)
  | (with_reducible refine c_lenL ?_)
  | (with_reducible refine c_intI ?_)
  | (with_reducible refine c_intB ?_)
  | (with_reducible refine c_max2 ?_)
  | (with_reducible refine c_min2 ?_)
  | (with_reducible refine c_abs ?_)
  | (with_reducible refine r_tupL ?_)
  | (with_reducible refine r_tupT ?_)
  | (with_reducible refine c_allM ?_)
  | ((with_reducible apply e_var); (exact rfl))
  | ((with_reducible refine r_eq ?_ ?_); (exact rfl))
  | ((with_reducible refine r_ne ?_ ?_); (exact rfl))
  | (with_reducible refine c_isi kit_int ?_)
  | (with_reducible refine c_isi kit_bool ?_)
  | (with_reducible refine c_isi kit_tuple ?_)
  | (with_reducible refine c_isi kit_list ?_)
  | (with_reducible refine c_isi kit_str ?_)
  | ((with_reducible apply r_ixT); (exact rfl))
  | ((with_reducible apply dats_pack); (iterate 40 (first | exact Dats.nil | apply Dats.cons | skip)); (exact rfl))
  | (with_reducible refine s_asgG ?_) | (with_reducible refine g_name ?_) | ((with_reducible refine g_tup ?_ ?_); (exact rfl)) | (refine gs_nil ?_) | (refine gs_cons ?_) | (with_reducible refine ⟨rfl, ?_⟩)
  | (refine ⟨_, rfl, ?_⟩) | (refine ⟨_, _, rfl, ?_⟩) | (refine ⟨_, _, _, rfl, ?_⟩) | (with_reducible refine ⟨fun _ => ?_, fun _ => ?_⟩) | fail))
section
variable {P : Program} {w : World} {K : PySem.W.Frag} {mg : Str → Option Value} {base : Heap}
theorem ok_due_seats (T : Top K mg) : FnOk P w K mg base CX0 4 T.f__law_due_seats T.d__law_due_seats ["_law_item"] (spA K (spB seatsD)) := by
  have G__law_due_row : FnOk P w K mg base CX0 3 T.f__law_due_row T.d__law_due_row ["_law_item"] (spA K (spB (rowD seatWs))) := ok_due_row T
  refine fnA_ok T.D__law_due_seats.F sc__law_due_seats (fun as Ω P ⟨d, e, _⟩ => by subst e; rfl) (fun cdv A outer s H E hr => ?_)
  refine ⟨_, (pss_one (ps_ret (pe_and (pe_callB (Dat.isiQ (K := K) rfl) rfl T.b_isinstance bt_isinstance (pa_cons (pv 0) (pa_cons (pe_bltn (v := .ty "tuple") rfl T.b_tuple bt_tuple rfl) pa_nil))) (pe_and (pe_cmpR op_le (pe_callB (Dat.lenQ (K := K) rfl) rfl T.b_len bt_len (pa_cons (pv 0) pa_nil)) pe_int (nomark _)) (pe_one (pe_cmpR (Dat.eqNilQ (K := K) rfl (hu64 hr)) (pe_lc (own := [("_law_row_here", 1)]) (g := (gName 1)) (tt := _) rfl sc__law_due_seats.nd (Dat.piT (K := K) rfl (pv 0)) (blkOk_by (N := N__law_due_seats) (sc := defScope s__law_due_seats) (by decide +kernel)) (fun _ _ _ _ _ => (pg_name (i := 1) sc__law_due_seats.nd rfl (Or.inl rfl))) (fun _ _ _ _ _ => (pts_one (pt_not (pt_val (pe_call G__law_due_row (hr.mono (by omega)) rfl T.D__law_due_row.g T.D__law_due_row.F.kp T.D__law_due_row.b .nil pass0 (pa_cons (pv 1) pa_nil)))))) (fun _ _ _ _ _ => (pv 1))) (pe_lst pa_nil) (nomark _))))))), ?_⟩
  rintro as Ω P ⟨d, rfl, h⟩
  rcases tup_or d with ⟨ds, rfl⟩ | hn
  · refine s_retB (b := true && (decide (ds.length ≤ 6) && ds.all (rowD seatWs))) (e_andB ?_ fun _ => e_andB ?_ fun hl => ?_) h
    · repeat' trivial
    · refine e_op (e_cb (a_cons (e_var rfl (a_nil (c_lenT (e_int (r_I0b ⟨?_, rfl⟩)))))))
      congr 2
      rw [decide_eq_decide]
      omega
    · have hl6 : ds.length ≤ 6 := of_decide_eq_true hl
      refine e_op (e_lcF ds .dat (fun d => !rowD seatWs d) id (gn_name (by decide)) (by omega) ?_)
      refine i_tup (e_var rfl ⟨_, rfl, rfl, fun x Ω' _ _ => g_name ⟨rfl, t_not (t_B (e_call (a_cons (e_var rfl (a_nil ⟨x, rfl, _, rfl, rfl, rfl, fun _ => e_var rfl ⟨rfl, rfl⟩⟩)))))⟩, ?_⟩)
      refine e_lstD (a_nil ⟨[], .nil, rfl, r_eqNil ⟨?_, rfl⟩⟩)
      rw [List.map_id, isEmpty_filter]
  · have e : seatsD d = false := by cases d <;> first | rfl | cases hn
    rw [e] at h
    refine s_retB (b := false && false) (e_andB ?_ nofun) h
    repeat' trivial
    exact ⟨by rw [hn], rfl⟩
abbrev spSays : ASp := fun as Ω P => ∃ x y : Bool, as = [.dat (.bool x), .dat (.bool y)] ∧ P (.dat (.bool (x == y))) Ω
theorem ok_says (T : Top K mg) : FnOk P w K mg base CX0 1 T.f__law_says T.d__law_says ["_law_found", "_law_due"] (spA K spSays) := by
  refine fnA_ok T.D__law_says.F sc__law_says (fun as Ω P ⟨x, y, e, _⟩ => by subst e; rfl) (fun cdv A outer s H E hr => ?_)
  refine ⟨_, (pss_one (ps_ret (pe_and (pe_callB (Dat.isiQ (K := K) rfl) rfl T.b_isinstance bt_isinstance (pa_cons (pv 0) (pa_cons (pe_bltn (v := .ty "bool") rfl T.b_bool bt_bool rfl) pa_nil))) (pe_one (pe_cmpR op_eq (pv 0) (pv 1) (nomark _)))))), ?_⟩
  rintro as Ω P ⟨x, y, rfl, h⟩
  refine s_retB (b := true && (x == y)) (e_andB ?_ fun _ => ?_) h
  · repeat' trivial
  · refine e_op (e_var rfl (e_var rfl (r_eq rfl ⟨?_, rfl⟩)))
    cases x <;> cases y <;> rfl
/-! ### comers -/
def groupsD (szs : List PyData) (g : Int) : List PyData := .tuple [] :: (szs.filter fun _ => decide (0 < g)).map fun z => .tuple [z]
def comersL (szs : List PyData) (g s : Int) : List PyData := (groupsD szs g).flatMap fun c => (List.range (s + 1).toNat).map fun k => .tuple [c, .int (0 + (k : Nat))]
def comersD : PyData → List PyData
  | .tuple [_, .tuple szs, _, .tuple [.int g, .int s], _, _, _] => comersL szs g s
  | _ => []
theorem choice_tup {m : Int} {d : PyData} (h : choiceD m d = true) : ∃ ds, d = .tuple ds ∧ ds.length ≤ 2 := by
  cases d <;> try (cases h; done)
  rename_i ds
  simp only [choiceD, Bool.and_eq_true, decide_eq_true_eq] at h
  exact ⟨ds, rfl, h.1.2⟩
theorem setup_parts {d : PyData} (h : setupD d = true) : ∃ (d1 : PyData) (szs : List PyData) (d3 : PyData) (g s : Int) (d5 d6 d7 : PyData), d = .tuple [d1, .tuple szs, d3, .tuple [.int g, .int s], d5, d6, d7] ∧ szs.length ≤ 2 ∧ 0 ≤ g ∧ g ≤ 1 ∧ 0 ≤ s ∧ s ≤ 2 := by
  obtain ⟨ds, rfl⟩ := (tup_or d).resolve_right (fun e => by cases d <;> first | (cases e; done) | (cases h; done))
  by_cases hl : ds.length = 7
  · match ds, hl with
    | [d1, d2, d3, d4, d5, d6, d7], _ =>
      rw [setup_are] at h
      simp only [Bool.and_eq_true] at h
      obtain ⟨szs, rfl, hl⟩ := choice_tup h.2.1.1
      obtain ⟨x, y, rfl, hx, hy⟩ := are2.mp h.2.2.1.1
      obtain ⟨g, rfl, g0, g1⟩ := inD_or hx
      obtain ⟨s, rfl, s0, s1⟩ := inD_or hy
      exact ⟨d1, szs, d3, g, s, d5, d6, d7, rfl, hl, g0, g1, s0, s1⟩
  · rw [setup_no hl] at h
    cases h
abbrev spCom : ASp := fun as Ω P => ∃ d, as = [.dat d] ∧ setupD d = true ∧ ∀ p, Ω p = none → P (.ptr p) (put Ω p ((comersD d).map .dat))
theorem groups_len {szs : List PyData} {g : Int} (h : szs.length ≤ 2) : (groupsD szs g).length ≤ 3 := by
  unfold groupsD
  rw [List.length_cons, List.length_map]
  have := List.length_filter_le (fun _ => decide (0 < g)) szs
  omega
theorem ok_comers_of (T : Top K mg) : FnOk P w K mg base CX0 1 T.f_comers_of T.d_comers_of ["setup"] (spA K spCom) := by
  refine fnA_ok T.D_comers_of.F sc_comers_of (fun as Ω P ⟨d, e, _⟩ => by subst e; rfl) (fun cdv A outer s H E hr => ?_)
  refine ⟨_, (pss_cons (ps_set (i := 1) sc_comers_of.nd rfl (.inl rfl) (pe_op op_cat (pe_lst (pa_cons (pe_tup pa_nil) pa_nil)) (pe_lc (own := [("size", 2)]) (g := (gName 2)) (tt := _) rfl sc_comers_of.nd (Dat.piT (K := K) rfl (pe_ix (Dat.ixT (K := K) rfl) (pv 0) pe_int (fun _ _ => rfl))) (blkOk_by (N := N_comers_of) (sc := defScope s_comers_of) (by decide +kernel)) (fun _ _ _ _ _ => (pg_name (i := 2) sc_comers_of.nd rfl (Or.inl rfl))) (fun _ _ _ _ _ => (pts_one (pt_cmpR op_gt (pe_ix (Dat.ixT (K := K) rfl) (pe_ix (Dat.ixT (K := K) rfl) (pv 0) pe_int (fun _ _ => rfl)) pe_int (fun _ _ => rfl)) pe_int (nomark _)))) (fun _ _ _ _ _ => (pe_tup (pa_cons (pv 2) pa_nil))))))
    (pss_one (ps_ret (pe_lc2 (own := [("coming", 3), ("singles", 4)]) (vs1 := [4]) (g := (gName 3)) (g1 := (gName 4)) (tt := tYes) (tt1 := tYes) rfl sc_comers_of.nd (Dat.piL (K := K) rfl (pv 1)) (blkOk_by (N := N_comers_of) (sc := defScope s_comers_of) (by decide +kernel)) (by decide) (fun _ _ _ _ _ => (pg_name (i := 3) sc_comers_of.nd rfl (Or.inl rfl))) (fun _ _ _ _ _ => pts_nil) (fun _ _ _ _ _ => (pi_range1 rfl T.b_range (pa_cons (pe_op op_add (pe_ix (Dat.ixT (K := K) rfl) (pe_ix (Dat.ixT (K := K) rfl) (pv 0) pe_int (fun _ _ => rfl)) pe_int (fun _ _ => rfl)) pe_int) pa_nil))) (fun _ _ _ _ _ => (pg_name (i := 4) sc_comers_of.nd rfl (Or.inl rfl))) (fun _ _ _ _ _ => pts_nil) (fun _ _ _ _ _ => (pe_tup (pa_cons (pv 3) (pa_cons (pv 4) pa_nil)))))))), ?_⟩
  rintro as Ω P ⟨d, rfl, hs, h⟩
  obtain ⟨d1, szs, d3, g, s, d5, d6, d7, rfl, hl, g0, g1, s0, s1⟩ := setup_parts hs
  refine s_seq (s_asg (e_op (e_lstD (a_cons (e_tupD (a_nil ⟨[], .nil, rfl, a_nil ⟨[.tuple []], .cons .nil, rfl, ?_⟩⟩))))))
  refine e_lcF szs .dat (fun _ => decide (0 < g)) (fun z => .tuple [z]) (gn_name (by decide)) (by omega) ?_
  refine i_tup (e_op (e_var rfl (e_int (r_ixT rfl ⟨_, rfl, rfl, fun x Ω' _ _ => g_name ⟨rfl, ?_⟩, ?_⟩))))
  · refine t_test (e_op (e_op (e_op (e_var rfl (e_int (r_ixT rfl (e_int (r_ixT rfl (e_int (r_I0b ⟨_, rfl, rfl, rfl, fun _ => ?_⟩))))))))))
    exact e_tupD (a_cons (e_var rfl (a_nil ⟨_, .cons .nil, rfl, rfl, rfl⟩)))
  refine r_catL ?_ ?_
  · have := List.length_filter_le (fun _ => decide (0 < g)) szs
    simp only [List.length_cons, List.length_nil, List.length_map]
    omega
  have gl := groups_len (g := g) hl
  refine s_ret (e_lc2P (groupsD szs g) .dat (fun _ => List.range (s + 1).toNat) (fun k => .dat (.int (0 + (k : Nat)))) (fun c k => .tuple [c, .int (0 + (k : Nat))]) (gn_name (by decide)) (gn_name (by decide)) (by omega) (fun x _ => by rw [List.length_range]; omega) ?_)
  refine i_list (e_var rfl ⟨_, rfl, rfl, fun x Ω' _ _ => g_name ⟨rfl, ?_⟩, h⟩)
  refine i_rng1 (a_cons (e_op (e_op (e_op (e_var rfl (e_int (r_ixT rfl (e_int (r_ixT rfl (e_int (r_I0i (a_nil ⟨_, rfl, ⟨by omega, by omega⟩, ⟨rfl, rfl, fun y Ω4 _ _ => g_name ⟨rfl, ?_⟩⟩⟩))))))))))))
  exact e_tupD (a_cons (e_var rfl (a_cons (e_var rfl (a_nil ⟨_, .cons (.cons .nil), rfl, rfl, rfl⟩)))))
theorem ok_all_comers (T : Top K mg) : FnOk P w K mg base CX0 6 T.f_all_comers T.d_all_comers ["setup"] (spA K spCom) := by
  have G_check_setup : FnOk P w K mg base CX0 5 T.f_check_setup T.d_check_setup ["thing"] (spA K spChk) := ok_check_setup T
  have G_comers_of : FnOk P w K mg base CX0 1 T.f_comers_of T.d_comers_of ["setup"] (spA K spCom) := ok_comers_of T
  refine fnA_ok T.D_all_comers.F sc_all_comers (fun as Ω P ⟨d, e, _⟩ => by subst e; rfl) (fun cdv A outer s H E hr => ?_)
  refine ⟨_, (pss_cons (ps_expr (pe_call G_check_setup (hr.mono (by omega)) rfl T.D_check_setup.g T.D_check_setup.F.kp T.D_check_setup.b .nil pass0 (pa_cons (pv 0) pa_nil)))
    (pss_one (ps_ret (pe_call G_comers_of (hr.mono (by omega)) rfl T.D_comers_of.g T.D_comers_of.F.kp T.D_comers_of.b .nil pass0 (pa_cons (pv 0) pa_nil))))), ?_⟩
  rintro as Ω P ⟨d, rfl, hs, h⟩
  exact s_seq (s_drop (e_call (a_cons (e_var rfl (a_nil ⟨d, rfl, hs, s_ret (e_call (a_cons (e_var rfl (a_nil ⟨d, rfl, hs, h⟩))))⟩)))))
abbrev spComL : ASp := fun as Ω P => ∃ d, as = [.dat d] ∧ setupD d = true ∧ P (.dat (.list (comersD d))) Ω
theorem ok_comersL (T : Top K mg) : FnOk P w K mg base CX0 1 T.f__law_comers T.d__law_comers ["_law_shop"] (spA K spComL) := by
  refine fnA_ok T.D__law_comers.F sc__law_comers (fun as Ω P ⟨d, e, _⟩ => by subst e; rfl) (fun cdv A outer s H E hr => ?_)
  refine ⟨_, (pss_cons (ps_set (i := 1) sc__law_comers.nd rfl (.inl rfl) (pe_op op_cat (pe_lst (pa_cons (pe_tup pa_nil) pa_nil)) (pe_lc (own := [("_law_size", 2)]) (g := (gName 2)) (tt := _) rfl sc__law_comers.nd (Dat.piT (K := K) rfl (pe_ix (Dat.ixT (K := K) rfl) (pv 0) pe_int (fun _ _ => rfl))) (blkOk_by (N := N__law_comers) (sc := defScope s__law_comers) (by decide +kernel)) (fun _ _ _ _ _ => (pg_name (i := 2) sc__law_comers.nd rfl (Or.inl rfl))) (fun _ _ _ _ _ => (pts_one (pt_cmpR op_gt (pe_ix (Dat.ixT (K := K) rfl) (pe_ix (Dat.ixT (K := K) rfl) (pv 0) pe_int (fun _ _ => rfl)) pe_int (fun _ _ => rfl)) pe_int (nomark _)))) (fun _ _ _ _ _ => (pe_tup (pa_cons (pv 2) pa_nil))))))
    (pss_cons (ps_set (i := 3) sc__law_comers.nd rfl (.inl rfl) (pe_lst pa_nil))
    (pss_cons (ps_for PassesOwn.never rfl (Dat.piL (K := K) rfl (pv 1)) (pg_name (i := 4) sc__law_comers.nd rfl (.inr rfl))
      (pss_one (ps_set (i := 3) sc__law_comers.nd rfl (.inl rfl) (pe_op op_cat (pv 3) (pe_lc (own := [("_law_singles", 5)]) (g := (gName 5)) (tt := tYes) rfl sc__law_comers.nd (pi_range1 rfl T.b_range (pa_cons (pe_op op_add (pe_ix (Dat.ixT (K := K) rfl) (pe_ix (Dat.ixT (K := K) rfl) (pv 0) pe_int (fun _ _ => rfl)) pe_int (fun _ _ => rfl)) pe_int) pa_nil)) (blkOk_by (N := N__law_comers) (sc := defScope s__law_comers) (by decide +kernel)) (fun _ _ _ _ _ => (pg_name (i := 5) sc__law_comers.nd rfl (Or.inl rfl))) (fun _ _ _ _ _ => pts_nil) (fun _ _ _ _ _ => (pe_tup (pa_cons (pv 4) (pa_cons (pv 5) pa_nil)))))))))
    (pss_one (ps_ret (pv 3)))))), ?_⟩
  rintro as Ω P ⟨d, rfl, hs, h⟩
  obtain ⟨d1, szs, d3, g, s, d5, d6, d7, rfl, hl, g0, g1, s0, s1⟩ := setup_parts hs
  refine s_seq (s_asg (e_op (e_lstD (a_cons (e_tupD (a_nil ⟨[], .nil, rfl, a_nil ⟨[.tuple []], .cons .nil, rfl, ?_⟩⟩))))))
  refine e_lcF szs .dat (fun _ => decide (0 < g)) (fun z => .tuple [z]) (gn_name (by decide)) (by omega) ?_
  refine i_tup (e_op (e_var rfl (e_int (r_ixT rfl ⟨_, rfl, rfl, fun x Ω' _ _ => g_name ⟨rfl, ?_⟩, ?_⟩))))
  · refine t_test (e_op (e_op (e_op (e_var rfl (e_int (r_ixT rfl (e_int (r_ixT rfl (e_int (r_I0b ⟨_, rfl, rfl, rfl, fun _ => ?_⟩))))))))))
    exact e_tupD (a_cons (e_var rfl (a_nil ⟨_, .cons .nil, rfl, rfl, rfl⟩)))
  refine r_catL ?_ ?_
  · have := List.length_filter_le (fun _ => decide (0 < g)) szs
    simp only [List.length_cons, List.length_nil, List.length_map]
    omega
  have gl := groups_len (g := g) hl
  let turn : PyData → List PyData := fun c => (List.range (s + 1).toNat).map fun k => .tuple [c, .int (0 + (k : Nat))]
  refine s_seq (s_asg (e_lstD (a_nil ⟨[], .nil, rfl, ?_⟩)))
  refine s_seqM (fun Γ' Ω' => ∃ x y z : Option Av, Γ' = [some (.dat (.tuple [d1, .tuple szs, d3, .tuple [.int g, .int s], d5, d6, d7])), x, y, some (.dat (.list (comersL szs g s))), z, none] ∧ Ω' = Ω) ?_ ?_
  · refine s_for (fun as i Γ' Ω' => as = (groupsD szs g).map .dat ∧ ∃ x y z : Option Av, Γ' = [some (.dat (.tuple [d1, .tuple szs, d3, .tuple [.int g, .int s], d5, d6, d7])), x, y, some (.dat (.list (((groupsD szs g).take i).flatMap turn))), z, none] ∧ Ω' = Ω ∧ (((groupsD szs g).take i).flatMap turn).length ≤ 3 * i) ?_
    refine i_list (e_var rfl ⟨_, rfl, ⟨rfl, _, _, _, rfl, rfl, Nat.zero_le _⟩, ?_, ?_⟩)
    · rintro i it Γ' Ω' hit ⟨eas, x, y, z, rfl, rfl, hlen⟩
      rw [eas, List.getElem?_map] at hit
      cases ex : (groupsD szs g)[i]? with
      | none => rw [ex] at hit; cases hit
      | some c =>
        rw [ex] at hit
        cases hit
        have hi := (List.getElem?_eq_some_iff.mp ex).1
        have tk : ((groupsD szs g).take (i + 1)).flatMap turn = ((groupsD szs g).take i).flatMap turn ++ turn c := by
          rw [List.take_add_one, ex, List.flatMap_append]
          simp
        have tl : (turn c).length ≤ 3 := by
          show ((List.range (s + 1).toNat).map _).length ≤ 3
          rw [List.length_map, List.length_range]
          omega
        refine g_name (s_asg (e_op (e_var rfl (e_lcM (List.range (s + 1).toNat) (fun k => .dat (.int (0 + (k : Nat)))) (fun k => .tuple [c, .int (0 + (k : Nat))]) (gn_name (by decide)) (by rw [List.length_range]; omega) ?_))))
        refine i_rng1 (a_cons (e_op (e_op (e_op (e_var rfl (e_int (r_ixT rfl (e_int (r_ixT rfl (e_int (r_I0i (a_nil ⟨_, rfl, ⟨by omega, by omega⟩, ⟨rfl, fun y Ω4 _ _ => g_name ⟨rfl, ?_⟩, ?_⟩⟩))))))))))))
        · exact e_tupD (a_cons (e_var rfl (a_cons (e_var rfl (a_nil ⟨_, .cons (.cons .nil), rfl, rfl, rfl⟩)))))
        · refine r_catL ?_ ⟨eas, x, y, some (.dat c), ?_, rfl, ?_⟩
          · have : ((List.range (s + 1).toNat).map fun k => (PyData.tuple [c, .int (0 + (k : Nat))])).length ≤ 3 := tl
            omega
          · rw [tk]
            rfl
          · rw [tk, List.length_append]
            omega
    · rintro Γ' Ω' ⟨eas, x, y, z, rfl, rfl, _⟩
      refine ⟨x, y, z, ?_, rfl⟩
      rw [eas, List.length_map, List.take_length]
      rfl
  rintro Γ' Ω' ⟨x, y, z, rfl, rfl⟩
  exact s_ret (e_var rfl h)
end
end K19

set_option Elab.async false
set_option linter.all false
set_option maxRecDepth 100000
set_option maxHeartbeats 2000000
namespace K19
open PySem PySem.Spec PyProof.Rows L2 Dat
local macro_rules | `(tactic| trivial) => `(tactic| (first
  | (with_reducible refine s_seq ?_)
  | (with_reducible refine s_asg ?_)
  | (with_reducible refine s_ret ?_)
  | (with_reducible refine s_drop ?_)
  | (with_reducible refine s_next ?_)
  | (with_reducible refine s_retN ?_)
  | (with_reducible refine s_brk ?_)
  | (with_reducible refine s_cont ?_)
  | (with_reducible refine s_if ?_)
  | (with_reducible refine e_int ?_)
  | (with_reducible refine e_str ?_)
  | (with_reducible refine e_bl ?_)
  | (with_reducible refine e_non ?_)
  | (with_reducible refine e_ty ?_)
  | (with_reducible refine e_tupD ?_)
  | (with_reducible refine e_lstD ?_)
  | (with_reducible refine e_op ?_)
  | (with_reducible refine e_un ?_)
  | (with_reducible refine e_then ?_)
  | (with_reducible refine e_cb ?_)
  | (with_reducible refine e_call ?_)
  | (with_reducible refine e_if ?_)
  | (with_reducible refine e_chain ?_)
  | (with_reducible refine e_andV ?_)
  | (with_reducible refine e_orV ?_)
  | (with_reducible refine e_notV ?_)
  | (with_reducible refine a_cons ?_)
  | (with_reducible refine a_nil ?_)
  | (with_reducible refine t_test ?_)
  | (with_reducible refine t_B ?_)
  | (with_reducible refine t_not ?_)
  | (with_reducible refine t_and ?_)
  | (with_reducible refine t_or ?_)
  | (with_reducible refine r_I0i ?_)
  | (with_reducible refine r_I0b ?_)
  | (with_reducible refine r_neg ?_)
  | (with_reducible refine r_isN ?_)
  | (with_reducible refine r_notN ?_)
  | (with_reducible refine c_lenT ?_)
  | (with_reducible refine c_lenL ?_)
  | (with_reducible refine c_intI ?_)
  | (with_reducible refine c_intB ?_)
  | (with_reducible refine c_max2 ?_)
  | (with_reducible refine c_min2 ?_)
  | (with_reducible refine c_abs ?_)
  | (with_reducible refine r_tupL ?_)
  | (with_reducible refine r_tupT ?_)
  | (with_reducible refine c_allM ?_)
  | ((with_reducible apply e_var); (exact rfl))
  | ((with_reducible refine r_eq ?_ ?_); (exact rfl))
  | ((with_reducible refine r_ne ?_ ?_); (exact rfl))
  | (with_reducible refine c_isi kit_int ?_)
  | (with_reducible refine c_isi kit_bool ?_)
  | (with_reducible refine c_isi kit_tuple ?_)
  | (with_reducible refine c_isi kit_list ?_)
  | (with_reducible refine c_isi kit_str ?_)
  | ((with_reducible apply r_ixT); (exact rfl))
  | ((with_reducible apply dats_pack); (iterate 40 (first | exact Dats.nil | apply Dats.cons | skip)); (exact rfl))
  | (with_reducible refine s_asgG ?_) | (with_reducible refine g_name ?_) | ((with_reducible refine g_tup ?_ ?_); (exact rfl)) | (refine gs_nil ?_) | (refine gs_cons ?_) | (with_reducible refine ⟨rfl, ?_⟩)
  | (refine ⟨_, rfl, ?_⟩) | (refine ⟨_, _, rfl, ?_⟩) | (refine ⟨_, _, _, rfl, ?_⟩) | (with_reducible refine ⟨fun _ => ?_, fun _ => ?_⟩) | fail))
/-! ### good things are plain -/
theorem sx_word {x : Str} (h : x ∈ seatWs) : Sx (.str x) 0 40 := by
  have : seatWs.all (fun x => (PyData.str x).showable && (decide ((PyData.str x).depth ≤ 0) && ((PyData.str x).leavesShort 40 && decide ((PyData.str x).weight ≤ 40)))) = true := by decide +kernel
  have g := List.all_eq_true.mp this x h
  simp only [Bool.and_eq_true, decide_eq_true_eq] at g
  exact ⟨g.1, g.2.1, g.2.2.1, g.2.2.2⟩
theorem cl_int {ns : List Nat} {lo hi : Int} {d : PyData} (h : inD lo hi d = true) (h0 : -1000 ≤ lo) (h1 : hi ≤ 1000) : Cl ns d := by
  obtain ⟨i, rfl, a, b⟩ := inD_or h
  cases ns <;> (simp only [Cl]; omega)
theorem cl_choice {ns : List Nat} {m : Int} {d : PyData} (h : choiceD m d = true) (hm : m ≤ 1000) : Cl (7 :: ns) d := by
  obtain ⟨ds, rfl, hl⟩ := choice_tup h
  simp only [choiceD, Bool.and_eq_true, List.all_eq_true] at h
  exact .of (by omega) fun x hx => cl_int (h.2.1 x hx) (by omega) hm
theorem cl_pair {ns : List Nat} {l1 l2 m1 m2 : Int} {d : PyData} (h : areD [l1, l2] [m1, m2] d = true) (h1 : -1000 ≤ l1) (h2 : -1000 ≤ l2) (h3 : m1 ≤ 1000) (h4 : m2 ≤ 1000) : Cl (7 :: ns) d := by
  obtain ⟨x, y, rfl, hx, hy⟩ := are2.mp h
  refine .of (by simp) fun z hz => ?_
  simp only [List.mem_cons, List.not_mem_nil, or_false] at hz
  rcases hz with rfl | rfl
  · exact cl_int hx h1 h3
  · exact cl_int hy h2 h4
theorem cl_prices {ns : List Nat} {d : PyData} (h : pricesD d = true) : Cl (7 :: ns) d := by
  cases d <;> try (cases h; done)
  simp only [pricesD, Bool.and_eq_true, decide_eq_true_eq, List.all_eq_true] at h
  exact .of (by omega) fun x hx => cl_int (h.2 x hx) (by decide) (by decide)
theorem setup_cl {d : PyData} (h : setupD d = true) : Cl [7, 7] d := by
  obtain ⟨ds, rfl⟩ := (tup_or d).resolve_right (fun e => by cases d <;> first | (cases e; done) | (cases h; done))
  by_cases hl : ds.length = 7
  · match ds, hl with
    | [d1, d2, d3, d4, d5, d6, d7], _ =>
      rw [setup_are] at h
      simp only [Bool.and_eq_true] at h
      obtain ⟨h1, ⟨h2, h3⟩, ⟨h4, h5, h6⟩, h7⟩ := h
      refine .of (by simp) fun x hx => ?_
      obtain ⟨i, rfl, i0, i1⟩ := inD_or h1
      simp only [List.mem_cons, List.not_mem_nil, or_false] at hx
      rcases hx with rfl | rfl | rfl | rfl | rfl | rfl | rfl
      · exact cl_int h1 (by decide) (by decide)
      · exact cl_choice h2 (by simp only [intOf]; omega)
      · exact cl_pair h3 (by decide) (by decide) (by decide) (by decide)
      · exact cl_pair h4 (by decide) (by decide) (by decide) (by decide)
      · exact cl_choice h5 (by decide)
      · exact cl_int h6 (by decide) (by decide)
      · exact cl_prices (by rw [← are4]; exact h7)
  · rw [setup_no hl] at h
    cases h
theorem row_cl {d : PyData} (h : rowD seatWs d = true) : Cl [7, 2] d := by
  obtain ⟨ds, rfl⟩ := (tup_or d).resolve_right (fun e => by cases d <;> first | (cases e; done) | (cases h; done))
  by_cases hl : ds.length = 7
  · match ds, hl with
    | [d1, d2, d3, d4, d5, d6, d7], _ =>
      simp only [rowD, Bool.and_eq_true, List.all_cons, List.all_nil] at h
      obtain ⟨⟨h1, h6, h7⟩, h2, h3, h4, h5, _⟩ := h
      have sp : ∀ x, spanD x = true → Cl [2] x := fun x hx => by
        rw [span_are, Bool.and_eq_true] at hx
        obtain ⟨y, z, rfl, hy, hz⟩ := are2.mp hx.1
        refine .of (by simp) fun u hu => ?_
        simp only [List.mem_cons, List.not_mem_nil, or_false] at hu
        rcases hu with rfl | rfl
        · exact cl_int hy (by decide) (by decide)
        · exact cl_int hz (by decide) (by decide)
      refine .of (by simp) fun x hx => ?_
      simp only [List.mem_cons, List.not_mem_nil, or_false] at hx
      rcases hx with rfl | rfl | rfl | rfl | rfl | rfl | rfl
      · exact cl_int h1 (by decide) (by decide)
      · exact sp _ h2
      · exact sp _ h3
      · exact sp _ h4
      · exact sp _ h5
      · obtain ⟨y, rfl⟩ : ∃ y, x = .str y := by
          cases x <;> first | exact ⟨_, rfl⟩ | (simp [isStr] at h6)
        rw [List.any_eq_true] at h6
        obtain ⟨w, hw, e⟩ := h6
        have e' : w = y := by simpa [isStr] using e
        subst e'
        simp only [Cl]
        exact sx_word hw
      · exact cl_int h7 (by decide) (by decide)
  · rw [rowD_no hl] at h
    cases h
def edgeD : PyData := .tuple [.int 0, rng 0 9, rng 9 9, rng 0 0, rng 4 4, .str "go", .int 2]
theorem edge_row : rowD seatWs edgeD = true := by decide +kernel
theorem Cl.shown {ns : List Nat} {d : PyData} (h : Cl ns d) (hk : ns.length ≤ 60) (hw : wOf ns ≤ 300000) : Shown d := h.sx.shown (.inl (clean_flags h).1) (by omega) hw
theorem Bn.shown {ns : List Nat} {d : PyData} (h : Bn ns d) (hk : ns.length ≤ 60) (hw : wOf ns ≤ 300000) : Shown d := h.1.shown h.2 (by omega) hw
theorem layAll_iff : ∀ {ds : List PyData}, PyData.canLayAll0 ds = true ↔ ∀ d ∈ ds, d.canLay0 = true
  | [] => by simp [PyData.canLayAll0]
  | d :: r => by simp [PyData.canLayAll0, layAll_iff (ds := r)]
theorem depAll_le {k : Nat} : ∀ {ds : List PyData}, (∀ d ∈ ds, d.depth ≤ k) → PyData.depthAll ds ≤ k
  | [], _ => by simp [PyData.depthAll]
  | d :: r, h => by
    simp only [PyData.depthAll]
    exact Nat.max_le.mpr ⟨h d List.mem_cons_self, depAll_le fun y m => h y (List.mem_cons_of_mem _ m)⟩
theorem comers_shaped {d : PyData} (h : setupD d = true) : SeqAt.shaped (.list (comersD d)) = true ∧ (comersD d).length ≤ 100 := by
  have hc := setup_cl h
  obtain ⟨d1, szs, d3, g, s, d5, d6, d7, rfl, hl, g0, g1, s0, s1⟩ := setup_parts h
  have hz : ∀ z ∈ szs, ∃ i, z = .int i := by
    have := setup_are (d1 := d1) (d2 := .tuple szs) (d3 := d3) (d4 := .tuple [.int g, .int s]) (d5 := d5) (d6 := d6) (d7 := d7)
    rw [this] at h
    simp only [Bool.and_eq_true, choiceD, List.all_eq_true] at h
    intro z hz
    obtain ⟨i, e, _⟩ := inD_or (h.2.1.1.2.1 z hz)
    exact ⟨i, e⟩
  have gl := groups_len (g := g) hl
  have ge : ∀ c ∈ groupsD szs g, c.canLay0 = true ∧ c.depth ≤ 1 := fun c hc => by
    unfold groupsD at hc
    rcases List.mem_cons.mp hc with rfl | hc
    · simp [PyData.canLay0, PyData.canLayAll0, PyData.depth, PyData.depthAll]
    · obtain ⟨z, hzz, rfl⟩ := List.mem_map.mp hc
      obtain ⟨i, rfl⟩ := hz z (List.mem_filter.mp hzz).1
      simp [PyData.canLay0, PyData.canLayAll0, PyData.depth, PyData.depthAll]
  have all : ∀ x ∈ comersL szs g s, x.canLay0 = true ∧ x.depth ≤ 2 := fun x hx => by
    unfold comersL at hx
    obtain ⟨c, hc, hx⟩ := List.mem_flatMap.mp hx
    obtain ⟨k, _, rfl⟩ := List.mem_map.mp hx
    have := ge c hc
    refine ⟨by simp [PyData.canLay0, PyData.canLayAll0, this.1], ?_⟩
    have e : (PyData.tuple [c, .int (0 + (k : Nat))]).depth ≤ 2 := by
      simp only [PyData.depth, PyData.depthAll]
      omega
    exact e
  constructor
  · show SeqAt.shaped (.list (comersL szs g s)) = true
    rw [SeqAt.shaped, Bool.and_eq_true, decide_eq_true_eq]
    refine ⟨?_, ?_⟩
    · simp only [PyData.canLay0]
      exact layAll_iff.mpr fun x hx => (all x hx).1
    · simp only [PyData.depth]
      have := depAll_le (k := 2) fun x hx => (all x hx).2
      omega
  · show (comersL szs g s).length ≤ 100
    unfold comersL
    rw [List.length_flatMap]
    have : ∀ (l : List PyData), (l.map fun c => ((List.range (s + 1).toNat).map fun k => (PyData.tuple [c, .int (0 + (k : Nat))])).length).sum ≤ 3 * l.length := by
      intro l
      induction l with
      | nil => simp
      | cons a r ih =>
        rw [List.map_cons, List.sum_cons, List.length_map, List.length_range, List.length_cons]
        omega
    have := this (groupsD szs g)
    omega
/-! plain parts -/
def Pl (d : PyData) : Prop := Sx d 2 10000 ∧ noList d = true ∧ d.hasDict = false
theorem Cl.pl {ns : List Nat} {d : PyData} (h : Cl ns d) (hk : ns.length ≤ 2) (hw : wOf ns ≤ 10000) : Pl d := ⟨h.sx.mono hk hw, clean_flags h⟩
theorem shown_tup {ds : List PyData} (h : ∀ d ∈ ds, Pl d) (l : ds.length ≤ 13) : Shown (.tuple ds) :=
  (Sx.tup (n := 13) (fun d hd => (h d hd).1) l).shown (.inl (by simp only [noList]; exact noL_iff.mpr fun d hd => (h d hd).2.1)) (by decide) (by decide)
theorem shown_lst {ds : List PyData} (h : ∀ d ∈ ds, Pl d) (l : ds.length ≤ 13) : Shown (.list ds) :=
  (Sx.lst (n := 13) (fun d hd => (h d hd).1) l).shown (.inr (by simp only [PyData.hasDict]; exact noD_iff.mpr fun d hd => (h d hd).2.2)) (by decide) (by decide)
theorem shown_all {ds : List PyData} (h : ds.all (fun d => oddB d) = true) : ∀ d ∈ ds, Shown d := fun d hd => by
  have g := List.all_eq_true.mp h d hd
  simp only [oddB, Bool.and_eq_true, Bool.or_eq_true, decide_eq_true_eq, Bool.not_eq_true'] at g
  exact (Sx.mk g.1.1.1.1 g.1.1.1.2 g.1.1.2 g.1.2).shown g.2 (by decide) (by decide)
theorem pl_true : Pl (.bool true) := by
  refine ⟨⟨by decide +kernel, by decide +kernel, by decide +kernel, by decide +kernel⟩, by decide +kernel, by decide +kernel⟩
theorem pl_int {i : Int} (h : i.natAbs ≤ 1000) : Pl (.int i) := Cl.pl (ns := []) (by simpa [Cl] using h) (by decide) (by decide)
def rep6 (n : Nat) : List PyData := (List.replicate n [edgeD]).flatten
theorem rep_mem {n : Nat} {d : PyData} (h : d ∈ rep6 n) : d = edgeD := by
  unfold rep6 at h
  rw [List.mem_flatten] at h
  obtain ⟨l, hl, hd⟩ := h
  rw [(List.mem_replicate.mp hl).2] at hd
  exact List.mem_singleton.mp hd
theorem rep_len (n : Nat) : (rep6 n).length = n := by simp [rep6]
def gRow : PyData := .tuple [.int 0, rng 0 9, rng 9 9, rng 0 0, rng 4 4, .str "Group", .int 0]
def rulesL (sl : List PyData) : List PyData := [.tuple sl, .tuple [], .tuple (rep6 6), .tuple (rep6 7), .tuple (sl ++ rep6 6), .list sl, .tuple (Dat.cutD sl none (some (1 : Int))), .tuple [gRow]]
def bigS : PyData := .tuple [.int 4, .tuple [.int 3, .int 4], .tuple [.int 2, .int 2], .tuple [.int 1, .int 2], .tuple [.int 1, .int 4], .int 3, .tuple [.int 5, .int 5, .int 5, .int 5]]
def lowS : PyData := .tuple [.int 1, .tuple [.int 1], .tuple [.int 1, .int 0], .tuple [.int 0, .int 0], .tuple [.int 4], .int 1, .tuple [.int 0, .int 0, .int 0, .int 0]]
def setups1 (sh : List PyData) : List PyData := [.tuple sh, .tuple (Dat.cutD sh none (some (6 : Int))), .tuple (sh ++ [.int 0]), .list sh, bigS]
def setups2 (sh : List PyData) : List PyData := [.tuple ([.int 5] ++ Dat.cutD sh (some (1 : Int)) none), lowS, .tuple ([.int 0] ++ Dat.cutD sh (some (1 : Int)) none), .tuple ([.bool true] ++ Dat.cutD sh (some (1 : Int)) none)]
theorem rules_shown {sl : List PyData} (h : ∀ d ∈ sl, rowD seatWs d = true) (l : sl.length ≤ 6) : ∀ d ∈ rulesL sl, Shown d := by
  have pr : ∀ d ∈ sl, Pl d := fun d hd => (row_cl (h d hd)).pl (by decide) (by decide)
  have pe : Pl edgeD := (row_cl edge_row).pl (by decide) (by decide)
  have pm : ∀ n, ∀ d ∈ rep6 n, Pl d := fun n d hd => by rw [rep_mem hd]; exact pe
  have pg : Pl gRow := by refine ⟨⟨by decide +kernel, by decide +kernel, by decide +kernel, by decide +kernel⟩, by decide +kernel, by decide +kernel⟩
  intro d hd
  simp only [rulesL, List.mem_cons, List.not_mem_nil, or_false] at hd
  rcases hd with rfl | rfl | rfl | rfl | rfl | rfl | rfl | rfl
  · exact shown_tup pr (by omega)
  · exact shown_tup nofun (by decide)
  · exact shown_tup (pm 6) (by rw [rep_len]; decide)
  · exact shown_tup (pm 7) (by rw [rep_len]; decide)
  · refine shown_tup (fun d hd => ?_) (by rw [List.length_append, rep_len]; omega)
    rcases List.mem_append.mp hd with hd | hd
    · exact pr d hd
    · exact pm 6 d hd
  · exact shown_lst pr (by omega)
  · exact shown_tup (fun d hd => pr d (cutD_mem hd)) (Nat.le_trans cutD_len (by omega))
  · refine shown_tup (fun d hd => ?_) (by decide)
    rw [List.mem_singleton.mp hd]
    exact pg
theorem setups_shown {sh : List PyData} (h : setupD (.tuple sh) = true) (l : sh.length = 7) : ∀ d ∈ setups1 sh ++ setups2 sh, Shown d := by
  have pr : ∀ d ∈ sh, Pl d := fun d hd => ((setup_cl h).mem.2 d hd).pl (by decide) (by decide)
  have pc : ∀ (x : PyData), Pl x → Shown (.tuple ([x] ++ Dat.cutD sh (some (1 : Int)) none)) := fun x hx => by
    refine shown_tup (fun d hd => ?_) (by rw [List.length_append]; have := cutD_len (xs := sh) (lo := some (1 : Int)) (hi := none); simp; omega)
    rcases List.mem_append.mp hd with hd | hd
    · rw [List.mem_singleton.mp hd]
      exact hx
    · exact pr d (cutD_mem hd)
  intro d hd
  simp only [setups1, setups2, List.mem_append, List.mem_cons, List.not_mem_nil, or_false] at hd
  rcases hd with (rfl | rfl | rfl | rfl | rfl) | rfl | rfl | rfl | rfl
  · exact shown_tup pr (by omega)
  · exact shown_tup (fun d hd => pr d (cutD_mem hd)) (Nat.le_trans cutD_len (by omega))
  · refine shown_tup (fun d hd => ?_) (by rw [List.length_append]; simp; omega)
    rcases List.mem_append.mp hd with hd | hd
    · exact pr d hd
    · rw [List.mem_singleton.mp hd]
      exact pl_int (by decide)
  · exact shown_lst pr (by omega)
  · exact shown_all (ds := [bigS]) (by decide +kernel) bigS (by simp)
  · exact pc _ (pl_int (by decide))
  · exact shown_all (ds := [lowS]) (by decide +kernel) lowS (by simp)
  · exact pc _ (pl_int (by decide))
  · exact pc _ pl_true
section
variable {P : Program} {w : World} {K : PySem.W.Frag} {mg : Str → Option Value} {base : Heap}
abbrev spRight : ASp := fun as Ω P => ∃ (Ω0 : AH) (p : Addr) (a b c : Int), as = [.ptr p] ∧ Ω = put Ω0 p (deckL a b c) ∧ ∀ Ω', P (.dat (.bool true)) Ω'
theorem tup_of_setup {d : PyData} (h : setupD d = true) : ∃ ds, d = .tuple ds ∧ ds.length = 7 := by
  obtain ⟨d1, szs, d3, g, s, d5, d6, d7, rfl, _⟩ := setup_parts h
  exact ⟨_, rfl, rfl⟩
theorem ok_right (T : Top K mg) : Grd.FnG P w K mg base CX0 8 T.f__law_right T.d__law_right ["_law_deck_here"] (spA K spRight) := by
  have G__law_draw : FnOk P w K mg base CX0 1 T.f__law_draw T.d__law_draw ["_law_deck_here", "_law_many"] (spA K spDraw) := ok_draw T
  have G__law_setup : FnOk P w K mg base CX0 2 T.f__law_setup T.d__law_setup ["_law_deck_here", "_law_small"] (spA K spSetup) := ok_setup T
  have G__law_seats : FnOk P w K mg base CX0 3 T.f__law_seats T.d__law_seats ["_law_deck_here", "_law_moods", "_law_deaf"] (spA K spSeats) := ok_seats T
  have G__law_bent1 : FnOk P w K mg base CX0 5 T.f__law_bent T.d__law_bent ["_law_deck_here", "_law_item"] (spA K (spBent [7, 7])) := ok_bent T [7, 7] (by decide)
  have G__law_bent2 : FnOk P w K mg base CX0 6 T.f__law_bent T.d__law_bent ["_law_deck_here", "_law_item"] (spA K (spBent [6, 7, 2])) := ok_bent T [6, 7, 2] (by decide)
  have G__law_says : FnOk P w K mg base CX0 1 T.f__law_says T.d__law_says ["_law_found", "_law_due"] (spA K spSays) := ok_says T
  have G_is_setup : FnOk P w K mg base CX0 4 T.f_is_setup T.d_is_setup ["thing"] (spA K (spB setupD)) := ok_is_setup T
  have G__law_due_setup : FnOk P w K mg base CX0 4 T.f__law_due_setup T.d__law_due_setup ["_law_item"] (spA K (spB setupD)) := ok_due_setup T
  have G_is_seats : FnOk P w K mg base CX0 6 T.f_is_seats T.d_is_seats ["thing"] (spA K (spB seatsD)) := ok_is_seats T
  have G__law_due_seats : FnOk P w K mg base CX0 4 T.f__law_due_seats T.d__law_due_seats ["_law_item"] (spA K (spB seatsD)) := ok_due_seats T
  have G_all_comers : FnOk P w K mg base CX0 6 T.f_all_comers T.d_all_comers ["setup"] (spA K spCom) := ok_all_comers T
  have G__law_comers : FnOk P w K mg base CX0 1 T.f__law_comers T.d__law_comers ["_law_shop"] (spA K spComL) := ok_comersL T
  refine fngA_ok T.D__law_right.F sc__law_right (fun as Ω P ⟨Ω0, p, a, b, c, e, _⟩ => by subst e; rfl) (fun cdv A outer s H E hr hgd => ?_)
  refine ⟨_, (pss_cons (ps_par (i := 1) (j := 2) rfl sc__law_right.nd rfl rfl (by decide) rfl rfl (pa_cons (pe_call G__law_setup (hr.mono (by omega)) rfl T.D__law_setup.g T.D__law_setup.F.kp T.D__law_setup.b .nil pass0 (pa_cons (pv 0) (pa_cons pe_int pa_nil))) (pa_cons (pe_call G__law_seats (hr.mono (by omega)) rfl T.D__law_seats.g T.D__law_seats.F.kp T.D__law_seats.b .nil pass0 (pa_cons (pv 0) (pa_cons pe_int (pa_cons (pe_cmpR op_eq (pe_call G__law_draw (hr.mono (by omega)) rfl T.D__law_draw.g T.D__law_draw.F.kp T.D__law_draw.b .nil pass0 (pa_cons (pv 0) (pa_cons pe_int pa_nil))) pe_int (nomark _)) pa_nil)))) pa_nil)) (by rfl))
    (pss_cons (ps_set (i := 3) sc__law_right.nd rfl (.inl rfl) (pe_tup (pa_cons pe_int (pa_cons (pe_tup (pa_cons pe_int (pa_cons pe_int pa_nil))) (pa_cons (pe_tup (pa_cons pe_int (pa_cons pe_int pa_nil))) (pa_cons (pe_tup (pa_cons pe_int (pa_cons pe_int pa_nil))) (pa_cons (pe_tup (pa_cons pe_int (pa_cons pe_int pa_nil))) (pa_cons pe_str (pa_cons pe_int pa_nil)))))))))
    (pss_cons (ps_set (i := 4) sc__law_right.nd rfl (.inl rfl) (pe_lst (pa_cons (pv 2) (pa_cons (pe_tup pa_nil) (pa_cons (pe_op (Dat.repTQ (K := K) rfl) (pe_tup (pa_cons (pv 3) pa_nil)) pe_int) (pa_cons (pe_op (Dat.repTQ (K := K) rfl) (pe_tup (pa_cons (pv 3) pa_nil)) pe_int) (pa_cons (pe_op (Dat.catT (K := K) rfl) (pv 2) (pe_op (Dat.repTQ (K := K) rfl) (pe_tup (pa_cons (pv 3) pa_nil)) pe_int)) (pa_cons (pe_callTy (Dat.listQ (K := K) rfl) rfl T.b_list bt_list (pa_cons (pv 2) pa_nil)) (pa_cons (pe_slice (Dat.slT (K := K) rfl) (pv 2) po_none (po_some pe_int)) (pa_cons (pe_tup (pa_cons (pe_op (Dat.catT (K := K) rfl) (pe_slice (Dat.slT (K := K) rfl) (pv 3) po_none (po_some pe_int)) (pe_tup (pa_cons pe_str (pa_cons pe_int pa_nil)))) pa_nil)) pa_nil))))))))))
    (pss_cons (ps_set (i := 5) sc__law_right.nd rfl (.inl rfl) (pe_lst (pa_cons (pv 1) (pa_cons (pe_slice (Dat.slT (K := K) rfl) (pv 1) po_none (po_some pe_int)) (pa_cons (pe_op (Dat.catT (K := K) rfl) (pv 1) (pe_tup (pa_cons pe_int pa_nil))) (pa_cons (pe_callTy (Dat.listQ (K := K) rfl) rfl T.b_list bt_list (pa_cons (pv 1) pa_nil)) (pa_cons (pe_tup (pa_cons pe_int (pa_cons (pe_tup (pa_cons pe_int (pa_cons pe_int pa_nil))) (pa_cons (pe_tup (pa_cons pe_int (pa_cons pe_int pa_nil))) (pa_cons (pe_tup (pa_cons pe_int (pa_cons pe_int pa_nil))) (pa_cons (pe_tup (pa_cons pe_int (pa_cons pe_int pa_nil))) (pa_cons pe_int (pa_cons (pe_tup (pa_cons pe_int (pa_cons pe_int (pa_cons pe_int (pa_cons pe_int pa_nil))))) pa_nil)))))))) pa_nil)))))))
    (pss_cons (ps_set (i := 5) sc__law_right.nd rfl (.inl rfl) (pe_op op_cat (pv 5) (pe_lst (pa_cons (pe_op (Dat.catT (K := K) rfl) (pe_tup (pa_cons pe_int pa_nil)) (pe_slice (Dat.slT (K := K) rfl) (pv 1) (po_some pe_int) po_none)) (pa_cons (pe_tup (pa_cons pe_int (pa_cons (pe_tup (pa_cons pe_int pa_nil)) (pa_cons (pe_tup (pa_cons pe_int (pa_cons pe_int pa_nil))) (pa_cons (pe_tup (pa_cons pe_int (pa_cons pe_int pa_nil))) (pa_cons (pe_tup (pa_cons pe_int pa_nil)) (pa_cons pe_int (pa_cons (pe_tup (pa_cons pe_int (pa_cons pe_int (pa_cons pe_int (pa_cons pe_int pa_nil))))) pa_nil)))))))) (pa_cons (pe_op (Dat.catT (K := K) rfl) (pe_tup (pa_cons pe_int pa_nil)) (pe_slice (Dat.slT (K := K) rfl) (pv 1) (po_some pe_int) po_none)) (pa_cons (pe_op (Dat.catT (K := K) rfl) (pe_tup (pa_cons pe_bl pa_nil)) (pe_slice (Dat.slT (K := K) rfl) (pv 1) (po_some pe_int) po_none)) pa_nil)))))))
    (pss_cons (ps_for PassesOwn.never rfl (pi_range1 rfl T.b_range (pa_cons pe_int pa_nil)) (pg_name (i := 6) sc__law_right.nd rfl (.inl rfl))
      (pss_cons (ps_expr (Dat.appQ (K := K) rfl (pv 5) (pa_cons (pe_call G__law_bent1 (hr.mono (by omega)) rfl T.D__law_bent.g T.D__law_bent.F.kp T.D__law_bent.b .nil pass0 (pa_cons (pv 0) (pa_cons (pv 1) pa_nil))) pa_nil)))
      (pss_one (ps_expr (Dat.appQ (K := K) rfl (pv 4) (pa_cons (pe_call G__law_bent2 (hr.mono (by omega)) rfl T.D__law_bent.g T.D__law_bent.F.kp T.D__law_bent.b .nil pass0 (pa_cons (pv 0) (pa_cons (pe_op (Dat.catT (K := K) rfl) (pv 2) (pe_slice (Dat.slT (K := K) rfl) (pe_tup (pa_cons (pv 3) pa_nil)) po_none (po_some (pe_op op_sub pe_int (pe_callB (Dat.lenQ (K := K) rfl) rfl T.b_len bt_len (pa_cons (pv 2) pa_nil)))))) pa_nil))) pa_nil))))))
    (pss_cons (ps_for PassesOwn.never rfl (Dat.piL (K := K) rfl (pe_op op_cat (pe_op op_cat (pv 5) (pv 4)) (pe_lst (pa_cons pe_non (pa_cons pe_int (pa_cons pe_str (pa_cons pe_dnewK pa_nil))))))) (pg_name (i := 7) sc__law_right.nd rfl (.inl rfl))
      (pss_cons (ps_set (i := 8) sc__law_right.nd rfl (.inl rfl) (pe_callB (Dat.reprQ (K := K) rfl hgd (hu100 hr)) rfl T.b_repr bt_repr (pa_cons (pv 7) pa_nil)))
      (pss_cons (ps_if (PW.pt (pw_or (pt_not (pt_val (pe_call G__law_says (hr.mono (by omega)) rfl T.D__law_says.g T.D__law_says.F.kp T.D__law_says.b .nil pass0 (pa_cons (pe_call G_is_setup (hr.mono (by omega)) rfl T.D_is_setup.g T.D_is_setup.F.kp T.D_is_setup.b .nil pass0 (pa_cons (pv 7) pa_nil)) (pa_cons (pe_call G__law_due_setup (hr.mono (by omega)) rfl T.D__law_due_setup.g T.D__law_due_setup.F.kp T.D__law_due_setup.b .nil pass0 (pa_cons (pv 7) pa_nil)) pa_nil))))) (pw_or1 (pt_not (pt_val (pe_call G__law_says (hr.mono (by omega)) rfl T.D__law_says.g T.D__law_says.F.kp T.D__law_says.b .nil pass0 (pa_cons (pe_call G_is_seats (hr.mono (by omega)) rfl T.D_is_seats.g T.D_is_seats.F.kp T.D_is_seats.b .nil pass0 (pa_cons (pv 7) pa_nil)) (pa_cons (pe_call G__law_due_seats (hr.mono (by omega)) rfl T.D__law_due_seats.g T.D__law_due_seats.F.kp T.D__law_due_seats.b .nil pass0 (pa_cons (pv 7) pa_nil)) pa_nil))))))))
        (pss_one (ps_ret pe_bl))
        pss_nil)
      (pss_one (ps_if (PW.pt (pw_or (pt_cmpR op_ne (pe_callN0 G_is_setup (hr.mono (by omega)) rfl T.D_is_setup.g T.D_is_setup.F.kp T.KN_is_setup__thing pass0 (pk_cons (pv 7) pk_nil)) (pe_call G__law_due_setup (hr.mono (by omega)) rfl T.D__law_due_setup.g T.D__law_due_setup.F.kp T.D__law_due_setup.b .nil pass0 (pa_cons (pv 7) pa_nil)) (nomark _)) (pw_or (pt_cmpR op_ne (pe_callN0 G_is_seats (hr.mono (by omega)) rfl T.D_is_seats.g T.D_is_seats.F.kp T.KN_is_seats__thing pass0 (pk_cons (pv 7) pk_nil)) (pe_call G__law_due_seats (hr.mono (by omega)) rfl T.D__law_due_seats.g T.D__law_due_seats.F.kp T.D__law_due_seats.b .nil pass0 (pa_cons (pv 7) pa_nil)) (nomark _)) (pw_or1 (pt_cmpR op_ne (pe_callB (Dat.reprQ (K := K) rfl hgd (hu100 hr)) rfl T.b_repr bt_repr (pa_cons (pv 7) pa_nil)) (pv 8) (nomark _))))))
        (pss_one (ps_ret pe_bl))
        pss_nil)))))
    (pss_cons (ps_set (i := 9) sc__law_right.nd rfl (.inl rfl) (pe_call G_all_comers (hr.mono (by omega)) rfl T.D_all_comers.g T.D_all_comers.F.kp T.D_all_comers.b .nil pass0 (pa_cons (pv 1) pa_nil)))
    (pss_cons (ps_if (PW.pt (pw_or (pt_cmpR (Dat.neDQ (K := K) rfl (hu64 hr)) (pv 9) (pe_call G__law_comers (hr.mono (by omega)) rfl T.D__law_comers.g T.D__law_comers.F.kp T.D__law_comers.b .nil pass0 (pa_cons (pv 1) pa_nil)) (nomark _)) (pw_or1 (pt_not (pt_val (pe_callB (Dat.isiQ (K := K) rfl) rfl T.b_isinstance bt_isinstance (pa_cons (pv 9) (pa_cons (pe_bltn (v := .ty "list") rfl T.b_list bt_list rfl) pa_nil))))))))
      (pss_one (ps_ret pe_bl))
      pss_nil)
    (pss_cons (ps_expr (Dat.appQ (K := K) rfl (pv 9) (pa_cons pe_non pa_nil)))
    (pss_one (ps_ret (pe_cmpR (Dat.eqDQ (K := K) rfl (hu64 hr)) (pe_callN0 G_all_comers (hr.mono (by omega)) rfl T.D_all_comers.g T.D_all_comers.F.kp T.KN_all_comers__setup pass0 (pk_cons (pv 1) pk_nil)) (pe_call G__law_comers (hr.mono (by omega)) rfl T.D__law_comers.g T.D__law_comers.F.kp T.D__law_comers.b .nil pass0 (pa_cons (pv 1) pa_nil)) (nomark _)))))))))))))), ?_⟩
  rintro as Ω P ⟨Ω0, p, a, b, c, rfl, rfl, h⟩
  refine s_seq (s_par (a_cons (e_call (a_cons (e_var rfl (a_cons (e_int (a_nil ⟨Ω0, p, 0, a, b, c, rfl, rfl, by decide, by decide, fun shop a b c hsh => ?_⟩))))))))
  refine a_cons (e_call (a_cons (e_var rfl (a_cons (e_int (a_cons (e_op (e_drawN rfl (by decide) (by decide) fun v a b c _ _ => e_int (r_eq rfl (a_nil ⟨Ω0, p, 3, _, a, b, c, rfl, rfl, by decide, by decide, fun sl a b c l6 hsl => a_nil ⟨_, _, rfl, ?_⟩⟩))))))))))
  obtain ⟨sh, rfl, l7⟩ := tup_of_setup hsh
  refine s_seq (s_asg (EW.mono (P := fun x Ω' => x = .dat edgeD ∧ Ω' = put Ω0 p (deckL a b c)) (by repeat' trivial) ?_))
  rintro _ _ ⟨rfl, rfl⟩
  refine s_seq (s_asg (EW.mono (P := fun x Ω' => ∃ r, x = .ptr r ∧ r ≠ p ∧ Ω0 r = none ∧ Ω' = put (put Ω0 r ((rulesL sl).map .dat)) p (deckL a b c)) ?_ ?_))
  · refine e_lstP (a_cons (e_var rfl (a_cons (e_tupD (a_nil ⟨[], .nil, rfl, ?_⟩)))))
    refine a_cons (e_op (e_tupD (a_cons (e_var rfl (a_nil ⟨_, .cons .nil, rfl, e_int (r_repT (by simp) (by decide) (by decide) (by decide) ?_)⟩)))))
    refine a_cons (e_op (e_tupD (a_cons (e_var rfl (a_nil ⟨_, .cons .nil, rfl, e_int (r_repT (by simp) (by decide) (by decide) (by decide) ?_)⟩)))))
    refine a_cons (e_op (e_var rfl (e_op (e_tupD (a_cons (e_var rfl (a_nil ⟨_, .cons .nil, rfl, e_int (r_repT (by simp) (by decide) (by decide) (by decide) (r_catT ?_ ?_))⟩)))))))
    · simp
      omega
    refine a_cons (e_cb (a_cons (e_var rfl (a_nil (c_listT ?_)))))
    refine a_cons (e_slT (e_var rfl ⟨_, rfl, o_no (o_some (e_int ⟨_, rfl, ?_⟩))⟩))
    refine a_cons (EW.mono (P := fun x Ω' => x = .dat (.tuple [gRow]) ∧ Ω' = put Ω0 p (deckL a b c)) ?_ ?_)
    · refine e_tupD (a_cons (e_op (e_slT (e_var rfl ⟨_, rfl, o_no (o_some (e_int ⟨_, rfl, ?_⟩))⟩))))
      refine e_tupD (a_cons (e_str (a_cons (e_int (a_nil ⟨_, .cons (.cons .nil), rfl, r_catT (by decide) (a_nil ⟨_, .cons .nil, rfl, rfl, rfl⟩)⟩)))))
    rintro _ _ ⟨rfl, rfl⟩
    refine a_nil ⟨by simp, fun r nr => ?_⟩
    have ne : r ≠ p := fun e => by rw [e, put_same] at nr; cases nr
    rw [put_ne ne] at nr
    exact ⟨r, rfl, ne, nr, put_comm ne.symm⟩
  rintro _ _ ⟨r, rfl, ner, nr, rfl⟩
  refine s_seq (s_asg (EW.mono (P := fun x Ω' => x = .dat (.list (setups1 sh)) ∧ Ω' = put (put Ω0 r ((rulesL sl).map .dat)) p (deckL a b c)) ?_ ?_))
  · refine e_lstD (a_cons (e_var rfl (a_cons (e_slT (e_var rfl ⟨_, rfl, o_no (o_some (e_int ⟨_, rfl, ?_⟩))⟩)))))
    refine a_cons (e_op (e_var rfl (e_tupD (a_cons (e_int (a_nil ⟨_, .cons .nil, rfl, r_catT (by simp; omega) ?_⟩))))))
    refine a_cons (e_cb (a_cons (e_var rfl (a_nil (c_listT ?_)))))
    refine a_cons (EW.mono (P := fun x Ω' => x = .dat bigS ∧ Ω' = put (put Ω0 r ((rulesL sl).map .dat)) p (deckL a b c)) (by repeat' trivial) ?_)
    rintro _ _ ⟨rfl, rfl⟩
    exact a_nil ⟨_, .cons (.cons (.cons (.cons (.cons .nil)))), rfl, rfl, rfl⟩
  rintro _ _ ⟨rfl, rfl⟩
  refine s_seq (s_asg (e_op (e_var rfl (EW.mono (P := fun x Ω' => x = .dat (.list (setups2 sh)) ∧ Ω' = put (put Ω0 r ((rulesL sl).map .dat)) p (deckL a b c)) ?_ ?_))))
  · refine e_lstD (a_cons (e_op (e_tupD (a_cons (e_int (a_nil ⟨_, .cons .nil, rfl, e_slT (e_var rfl ⟨_, rfl, o_some (e_int ⟨_, rfl, o_no (r_catT ?_ ?_)⟩)⟩)⟩))))))
    · have := cutD_len (xs := sh) (lo := some (1 : Int)) (hi := none)
      simp
      omega
    refine a_cons (EW.mono (P := fun x Ω' => x = .dat lowS ∧ Ω' = put (put Ω0 r ((rulesL sl).map .dat)) p (deckL a b c)) (by repeat' trivial) ?_)
    rintro _ _ ⟨rfl, rfl⟩
    refine a_cons (e_op (e_tupD (a_cons (e_int (a_nil ⟨_, .cons .nil, rfl, e_slT (e_var rfl ⟨_, rfl, o_some (e_int ⟨_, rfl, o_no (r_catT ?_ ?_)⟩)⟩)⟩)))))
    · have := cutD_len (xs := sh) (lo := some (1 : Int)) (hi := none)
      simp
      omega
    refine a_cons (e_op (e_tupD (a_cons (e_bl (a_nil ⟨_, .cons .nil, rfl, e_slT (e_var rfl ⟨_, rfl, o_some (e_int ⟨_, rfl, o_no (r_catT ?_ ?_)⟩)⟩)⟩)))))
    · have := cutD_len (xs := sh) (lo := some (1 : Int)) (hi := none)
      simp
      omega
    exact a_nil ⟨_, .cons (.cons (.cons (.cons .nil))), rfl, rfl, rfl⟩
  rintro _ _ ⟨rfl, rfl⟩
  refine r_catLLP (by simp [setups1, setups2]) fun q nq => ?_
  have nqp : q ≠ p := fun e => by rw [e, put_same] at nq; cases nq
  rw [put_ne nqp] at nq
  have nqr : q ≠ r := fun e => by rw [e, put_same] at nq; cases nq
  rw [put_ne nqr] at nq
  rw [put_comm nqp.symm]
  refine s_seqM (fun Γ' Ω' => ∃ (ss rs : List PyData) (x : Option Av) (a b c : Int), ss.length ≤ 19 ∧ rs.length ≤ 18 ∧ (∀ d ∈ ss, Shown d) ∧ (∀ d ∈ rs, Shown d) ∧ Γ' = [some (.ptr p), some (.dat (.tuple sh)), some (.dat (.tuple sl)), some (.dat edgeD), some (.ptr r), some (.ptr q), x, none, none, none] ∧ Ω' = put (put (put Ω0 r (rs.map .dat)) q (ss.map .dat)) p (deckL a b c)) ?_ ?_
  · refine s_for (fun as i Γ' Ω' => as.length = 10 ∧ ∃ (ss rs : List PyData) (x : Option Av) (a b c : Int), ss.length = 9 + i ∧ rs.length = 8 + i ∧ (∀ d ∈ ss, Shown d) ∧ (∀ d ∈ rs, Shown d) ∧ Γ' = [some (.ptr p), some (.dat (.tuple sh)), some (.dat (.tuple sl)), some (.dat edgeD), some (.ptr r), some (.ptr q), x, none, none, none] ∧ Ω' = put (put (put Ω0 r (rs.map .dat)) q (ss.map .dat)) p (deckL a b c)) ?_
    refine i_rng1 (a_cons (e_int (a_nil ⟨10, rfl, ⟨by decide, by decide⟩, ⟨rfl, setups1 sh ++ setups2 sh, rulesL sl, none, a, b, c, rfl, rfl, setups_shown hsh l7, rules_shown hsl l6, rfl, rfl⟩, ?_, ?_⟩)))
    · rintro i it Γ' Ω' hit ⟨h10, ss, rs, x, a, b, c, ls, lr, hss, hrs, rfl, rfl⟩
      have hi := (List.getElem?_eq_some_iff.mp hit).1
      refine g_name (s_seq (s_drop (e_app (e_var rfl ⟨q, rfl, ⟨_, by rw [put_ne nqp, put_same]⟩, ?_⟩))))
      refine a_cons (e_call (a_cons (e_var rfl (a_cons (e_var rfl (a_nil ⟨_, p, _, a, b, c, rfl, rfl, setup_cl hsh, fun y a b c hy => ?_⟩))))))
      refine a_nil ⟨_, _, rfl, by rw [put_ne nqp, put_same], by rw [List.length_map]; omega, ?_⟩
      rw [put_comm nqp.symm, put_put]
      refine s_drop (e_app (e_var rfl ⟨r, rfl, ⟨rs.map .dat, by rw [put_ne ner, put_ne nqr.symm, put_same]⟩, ?_⟩))
      have hcut : (sl ++ Dat.cutD [edgeD] none (some (6 - (sl.length : Int)))).length ≤ 6 := by
        rw [List.length_append]
        by_cases h6 : sl.length = 6
        · have e0 : (6 : Int) - (sl.length : Int) = ((0 : Nat) : Int) := by omega
          rw [e0, cut_to (j := 0) (by simp)]
          simp
          omega
        · have := cutD_len (xs := [edgeD]) (lo := none) (hi := some (6 - (sl.length : Int)))
          simp at this
          omega
      refine a_cons (e_call (a_cons (e_var rfl (a_cons (e_op (e_var rfl (e_slT (e_tupD (a_cons (e_var rfl (a_nil ⟨_, .cons .nil, rfl, _, rfl, o_no (o_some (e_op (e_int (e_cb (a_cons (e_var rfl (a_nil (c_lenT (r_I0i ⟨_, rfl, r_catT ?_ ?_⟩)))))))))⟩)))))))))))
      · rw [List.length_append] at hcut
        omega
      refine a_nil ⟨_, p, _, a, b, c, rfl, rfl, .of hcut fun d hd => ?_, fun z a b c hz => ?_⟩
      · rcases List.mem_append.mp hd with hd | hd
        · exact row_cl (hsl d hd)
        · rw [List.mem_singleton.mp (cutD_mem hd)]
          exact row_cl edge_row
      refine a_nil ⟨_, rs.map .dat, rfl, by rw [put_ne ner, put_ne nqr.symm, put_same], by rw [List.length_map]; omega, ?_⟩
      refine ⟨h10, ss ++ [y], rs ++ [z], _, a, b, c, by simp [ls]; omega, by simp [lr]; omega, fun d hd => ?_, fun d hd => ?_, rfl, ?_⟩
      · rcases List.mem_append.mp hd with hd | hd
        · exact hss d hd
        · rw [List.mem_singleton.mp hd]
          exact hy.shown (by decide) (by decide)
      · rcases List.mem_append.mp hd with hd | hd
        · exact hrs d hd
        · rw [List.mem_singleton.mp hd]
          exact hz.shown (by decide) (by decide)
      · rw [put_comm ner.symm, put_comm nqr, put_put, List.map_append, List.map_append]
        rfl
    · rintro Γ' Ω' ⟨h10, ss, rs, x, a, b, c, ls, lr, hss, hrs, rfl, rfl⟩
      exact ⟨ss, rs, x, a, b, c, by omega, by omega, hss, hrs, rfl, rfl⟩
  rintro Γ' Ω' ⟨ss, rs, x, a, b, c, ls, lr, hss, hrs, rfl, rfl⟩
  refine s_seqM (fun Γ' Ω' => ∃ x y z : Option Av, Γ' = [some (.ptr p), some (.dat (.tuple sh)), some (.dat (.tuple sl)), some (.dat edgeD), some (.ptr r), some (.ptr q), x, y, z, none]) ?_ ?_
  · refine s_for (fun as i Γ' Ω' => ∃ ds : List PyData, as = ds.map .dat ∧ (∀ d ∈ ds, Shown d) ∧ ∃ x y z : Option Av, Γ' = [some (.ptr p), some (.dat (.tuple sh)), some (.dat (.tuple sl)), some (.dat edgeD), some (.ptr r), some (.ptr q), x, y, z, none]) ?_
    refine i_list (e_op (e_op (e_var rfl (e_var rfl (r_catPPd (by rw [put_ne nqp, put_same]) (by rw [put_ne ner, put_ne nqr.symm, put_same]) (by omega) ?_)))))
    refine e_lstD (a_cons (e_non (a_cons (e_int (a_cons (e_str (a_cons (e_dnew (a_nil ⟨_, .cons (.cons (.cons (.cons .nil))), rfl, r_catL (by simp; omega) ⟨_, rfl, ⟨_, rfl, fun d hd => ?_, _, _, _, rfl⟩, ?_, ?_⟩⟩)))))))))
    · rcases List.mem_append.mp hd with hd | hd
      · rcases List.mem_append.mp hd with hd | hd
        · exact hss d hd
        · exact hrs d hd
      · exact shown_all (ds := [.none, .int 0, .str "setup", .dict []]) (by decide +kernel) d hd
    · rintro i it Γ' Ω' hit ⟨ds, eas, hds, x, y, z, rfl⟩
      rw [eas, List.getElem?_map] at hit
      cases ed : ds[i]? with
      | none => rw [ed] at hit; cases hit
      | some d =>
        rw [ed] at hit
        cases hit
        have hd := hds d (List.mem_of_getElem? ed)
        refine g_name (s_seq (s_asg (e_cb (a_cons (e_var rfl (a_nil (c_repr hd ?_)))))))
        refine s_seq (s_ifB (b := !true || !true) (t_orB (t_notB (t_ofB ?_)) fun _ => t_notB (t_ofB ?_)) nofun fun _ => s_next ?_)
        · exact e_call (a_cons (e_call (a_cons (e_var rfl (a_nil ⟨d, rfl, a_cons (e_call (a_cons (e_var rfl (a_nil ⟨d, rfl, a_nil ⟨_, _, rfl, by simp, rfl⟩⟩))))⟩)))))
        · exact e_call (a_cons (e_call (a_cons (e_var rfl (a_nil ⟨d, rfl, a_cons (e_call (a_cons (e_var rfl (a_nil ⟨d, rfl, a_nil ⟨_, _, rfl, by simp, rfl⟩⟩))))⟩)))))
        refine s_ifB (b := false || (false || false)) (t_orB (t_ofC ?_) fun _ => t_orB (t_ofC ?_) fun _ => t_ofC ?_) nofun fun _ => s_next ⟨ds, eas, hds, _, _, _, rfl⟩
        · exact e_op (e_callK (a_cons (e_var rfl (a_nil ⟨rfl, d, rfl, e_call (a_cons (e_var rfl (a_nil ⟨d, rfl, r_ne rfl ⟨by simp [eqD], rfl⟩⟩)))⟩))))
        · exact e_op (e_callK (a_cons (e_var rfl (a_nil ⟨rfl, d, rfl, e_call (a_cons (e_var rfl (a_nil ⟨d, rfl, r_ne rfl ⟨by simp [eqD], rfl⟩⟩)))⟩))))
        · exact e_op (e_cb (a_cons (e_var rfl (a_nil (c_repr hd (e_var rfl (r_ne rfl ⟨by simp [eqD], rfl⟩)))))))
    · rintro Γ' Ω' ⟨ds, _, _, x, y, z, rfl⟩
      exact ⟨x, y, z, rfl⟩
  rintro Γ' Ω' ⟨x, y, z, rfl⟩
  obtain ⟨hshape, hlen⟩ := comers_shaped hsh
  have hself : PyData.eqv (.list (comersD (.tuple sh))) (.list (comersD (.tuple sh))) = true := SeqAt.eqv_refl _ (shaped_lay hshape)
  refine s_seq (s_asg (e_call (a_cons (e_var rfl (a_nil ⟨_, rfl, hsh, fun f nf => ?_⟩)))))
  refine s_seq (s_ifB (b := !true || !true) (t_orB (t_ofC ?_) fun _ => t_notB (t_ofB ?_)) nofun fun _ => s_next ?_)
  · exact e_op (e_var rfl (e_call (a_cons (e_var rfl (a_nil ⟨_, rfl, hsh, r_neP put_same hshape hshape ⟨by rw [hself], rfl⟩⟩)))))
  · exact e_cb (a_cons (e_var rfl (a_cons (e_ty (a_nil (c_isiP put_same (by decide +kernel) ⟨rfl, rfl⟩))))))
  refine s_seq (s_drop (e_app (e_var rfl ⟨f, rfl, ⟨_, put_same⟩, a_cons (e_non (a_nil ⟨_, _, rfl, put_same, by rw [List.length_map]; omega, ?_⟩))⟩)))
  refine s_ret (e_op (e_callK (a_cons (e_var rfl (a_nil ⟨rfl, _, rfl, hsh, fun f2 nf2 => ?_⟩)))))
  refine e_call (a_cons (e_var rfl (a_nil ⟨_, rfl, hsh, r_eqP put_same hshape hshape ?_⟩)))
  rw [hself]
  exact h _
end
end K19

set_option Elab.async false
set_option linter.all false
set_option maxRecDepth 100000
set_option maxHeartbeats 2000000
namespace K19
open PySem PySem.Spec PyProof.Rows L2 Dat
local macro_rules | `(tactic| trivial) => `(tactic| (first
  | (with_reducible refine s_seq ?_)
  | (with_reducible refine s_asg ?_)
  | (with_reducible refine s_ret ?_)
  | (with_reducible refine s_drop ?_)
  | (with_reducible refine s_next ?_)
  | (with_reducible refine s_retN ?_)
  | (with_reducible refine s_brk ?_)
  | (with_reducible refine s_cont ?_)
  | (with_reducible refine s_if ?_)
  | (with_reducible refine e_int ?_)
  | (with_reducible refine e_str ?_)
  | (with_reducible refine e_bl ?_)
  | (with_reducible refine e_non ?_)
  | (with_reducible refine e_ty ?_)
  | (with_reducible refine e_tupD ?_)
  | (with_reducible refine e_lstD ?_)
  | (with_reducible refine e_op ?_)
  | (with_reducible refine e_un ?_)
  | (with_reducible refine e_then ?_)
  | (with_reducible refine e_cb ?_)
  | (with_reducible refine e_call ?_)
  | (with_reducible refine e_if ?_)
  | (with_reducible refine e_chain ?_)
  | (with_reducible refine e_andV ?_)
  | (with_reducible refine e_orV ?_)
  | (with_reducible refine e_notV ?_)
  | (with_reducible refine a_cons ?_)
  | (with_reducible refine a_nil ?_)
  | (with_reducible refine t_test ?_)
  | (with_reducible refine t_B ?_)
  | (with_reducible refine t_not ?_)
  | (with_reducible refine t_and ?_)
  | (with_reducible refine t_or ?_)
  | (with_reducible refine r_I0i ?_)
  | (with_reducible refine r_I0b ?_)
  | (with_reducible refine r_neg ?_)
  | (with_reducible refine r_isN ?_)
  | (with_reducible refine r_notN ?_)
  | (with_reducible refine c_lenT ?_)
  | (with_reducible refine c_lenL ?_)
  | (with_reducible refine c_intI ?_)
  | (with_reducible refine c_intB ?_)
  | (with_reducible refine c_max2 ?_)
  | (with_reducible refine c_min2 ?_)
  | (with_reducible refine c_abs ?_)
  | (with_reducible refine r_tupL ?_)
  | (with_reducible refine r_tupT ?_)
  | (with_reducible refine c_allM ?_)
  | ((with_reducible apply e_var); (exact rfl))
  | ((with_reducible refine r_eq ?_ ?_); (exact rfl))
  | ((with_reducible refine r_ne ?_ ?_); (exact rfl))
  | (with_reducible refine c_isi kit_int ?_)
  | (with_reducible refine c_isi kit_bool ?_)
  | (with_reducible refine c_isi kit_tuple ?_)
  | (with_reducible refine c_isi kit_list ?_)
  | (with_reducible refine c_isi kit_str ?_)
  | ((with_reducible apply r_ixT); (exact rfl))
  | ((with_reducible apply dats_pack); (iterate 40 (first | exact Dats.nil | apply Dats.cons | skip)); (exact rfl))
  | (with_reducible refine s_asgG ?_) | (with_reducible refine g_name ?_) | ((with_reducible refine g_tup ?_ ?_); (exact rfl)) | (refine gs_nil ?_) | (refine gs_cons ?_) | (with_reducible refine ⟨rfl, ?_⟩)
  | (refine ⟨_, rfl, ?_⟩) | (refine ⟨_, _, rfl, ?_⟩) | (refine ⟨_, _, _, rfl, ?_⟩) | (with_reducible refine ⟨fun _ => ?_, fun _ => ?_⟩) | fail))
section
variable {P : Program} {w : World} {K : PySem.W.Frag} {mg : Str → Option Value} {base : Heap}
abbrev spLawA : ASp := fun as Ω P => ∃ ns : List Int, as = [.scr ns] ∧ ns.length ≤ 63 ∧ ∀ Ω', P (.dat (.bool true)) Ω'
theorem ok_law (T : Top K mg) {f : Addr} {fd : FuncData} (F : L2.Fun K "law" "law" s_law f fd) : Grd.FnG P w K mg base CX0 9 f fd ["_law_script"] (spA K spLawA) := by
  have G__law_deck : FnOk P w K mg base CX0 1 T.f__law_deck T.d__law_deck ["_law_script", "_law_at"] (spA K spDeck) := ok_deck T
  have G__law_right : Grd.FnG P w K mg base CX0 8 T.f__law_right T.d__law_right ["_law_deck_here"] (spA K spRight) := ok_right T
  refine fngA_ok F sc_law (fun as Ω P ⟨ns, e, _⟩ => by subst e; rfl) (fun cdv A outer s H E hr hgd => ?_)
  refine ⟨_, (pss_cons (ps_for PassesOwn.never rfl (pi_range1 rfl T.b_range (pa_cons (pe_callB (Dat.cl_max2 rfl) rfl T.b_max bt_max (pa_cons pe_int (pa_cons (pe_callB (Dat.cl_min2 rfl) rfl T.b_min bt_min (pa_cons pe_int (pa_cons (pe_callB (Dat.lenQ (K := K) rfl) rfl T.b_len bt_len (pa_cons (pv 0) pa_nil)) pa_nil))) pa_nil))) pa_nil)) (pg_name (i := 1) sc_law.nd rfl (.inl rfl))
      (pss_one (ps_if (pt_not (pt_val (Grd.pe_callG G__law_right (hr.mono (by omega)) (Nat.le_refl _) hgd rfl T.D__law_right.g T.D__law_right.F.kp T.D__law_right.b pass0 (pa_cons (pe_call G__law_deck (hr.mono (by omega)) rfl T.D__law_deck.g T.D__law_deck.F.kp T.D__law_deck.b .nil pass0 (pa_cons (pv 0) (pa_cons (pv 1) pa_nil))) pa_nil))))
        (pss_one (ps_ret pe_bl))
        pss_nil)))
    (pss_one (ps_ret pe_bl))), ?_⟩
  rintro as Ω P ⟨ns, rfl, hns, h⟩
  refine s_seqM (fun Γ' Ω' => True) ?_ (fun Γ' Ω' _ => s_ret (e_bl (h _)))
  refine s_for (fun as i Γ' Ω' => as = rngA 0 as.length ∧ ∃ x, Γ' = [some (.scr ns), x]) ?_
  refine i_rng1 (a_cons (e_cb (a_cons (e_int (a_cons (e_cb (a_cons (e_int (a_cons (e_cb (a_cons (e_var rfl (a_nil (c_lenS (a_nil (c_min2 (a_nil (c_max2 (a_nil ⟨_, rfl, ?_, ⟨?_, _, rfl⟩, ?_, fun Γ' Ω' _ => trivial⟩)))))))))))))))))))
  · constructor <;> (repeat' split) <;> omega
  · simp [rngA]
  · rintro i it Γ' Ω' hit ⟨eas, x, rfl⟩
    have hit' := hit
    unfold rngA at hit'
    rw [List.getElem?_map] at hit'
    obtain ⟨j, hj, rfl⟩ := Option.map_eq_some_iff.mp hit'
    have ej : ((0 : Int) + (j : Nat)) = ((j : Nat) : Int) := by omega
    rw [ej]
    refine g_name (s_if (t_not (t_B (e_call (a_cons (e_call (a_cons (e_var rfl (a_cons (e_var rfl (a_nil ⟨ns, j, rfl, fun p a b c np => a_nil ⟨Ω', p, a, b, c, rfl, rfl, fun Ω2 => ⟨_, rfl, nofun, fun _ => s_next ⟨eas, _, rfl⟩⟩⟩⟩)))))))))))
/-- the law's own promise, from a plain list of the script -/
theorem spLaw_of {H : Hp} {a : Addr} {ns : List Int} (hl : ns.length ≤ 63) (hS : SqL K H a (ns.map V.int)) : spA K spLawA [.ref a] H (fun v _ => v = .bl true) fun _ _ _ => False := by
  have e : Fz (fun _ => none) H = H := by
    funext b
    rfl
  refine ⟨H, fun _ => none, [.scr ns], fun x _ => x = .dat (.bool true), ⟨by rw [e]; exact Same.refl _, fun p as z => (by cases z), .nil⟩, .cons (.scr (by rw [e]; exact hS)) .nil, ⟨ns, rfl, hl, fun _ => rfl⟩, fun x v Ω' H' hx _ hv => ?_⟩
  subst hx
  cases hv with | dat hv =>
    cases hv
    rfl
end
end K19

set_option Elab.async false
set_option linter.all false
set_option maxRecDepth 100000
set_option maxHeartbeats 4000000
namespace K19
open PySem PySem.Spec PyProof.Rows L2 Dat
theorem defAt_mk {h : Heap} {K : PySem.W.Frag} {mg : Str → Option Value} {x : Str} {st : Stmt} {ps : List Str} {f : Addr} {oc : Value} {od an : Option Addr} {osl : Array (Option Value)} {kV doc pm cdv ct : Value} (X : K.In h) (G : h.Ns mainGlobals mg)
    (a : PySem.W.nsIn K mainGlobals x = some (some (.ref f))) (l : K.lookup f = some ⟨oc, od, .func (PySem.W.fnOf x x (defArgs st) (defBody st) (defScope st) .none kV doc pm an cdv ct), osl⟩) (c : PySem.W.codeIn K cdv x = true) (k : PySem.W.keepIn K (.ref f) = true)
    (hb : ∀ (kV doc pm : Value) (an : Option Addr) (cdv ct : Value) (us : List Value), us.length = ps.length → bindArgs (PySem.W.fnOf x x (defArgs st) (defBody st) (defScope st) .none kV doc pm an cdv ct) ⟨us, []⟩ = pure (ps.zip us)) :
    DefAt K mg x st ps [] f (PySem.W.fnOf x x (defArgs st) (defBody st) (defScope st) .none kV doc pm an cdv ct) :=
  ⟨fun_mk l c k, PySem.W.mg_of X G a, (fun_mk l c k).binds hb⟩
theorem all_mk {l : PySem.W.OpenLaw} {w : World} {K : PySem.W.Frag} {h : Heap} {mg : Str → Option Value} {fa : Addr} (X : K.In h) (G : h.Ns mainGlobals mg) (hfa : mg "law" = some (.ref fa))
    {f_is_whole : Addr} {oc_is_whole : Value} {od_is_whole an_is_whole : Option Addr} {sl_is_whole : Array (Option Value)} {kV_is_whole dc_is_whole pm_is_whole cd_is_whole ct_is_whole : Value}
    (a_is_whole : PySem.W.nsIn K mainGlobals "is_whole" = some (some (.ref f_is_whole))) (l_is_whole : K.lookup f_is_whole = some ⟨oc_is_whole, od_is_whole, .func (PySem.W.fnOf "is_whole" "is_whole" (defArgs s_is_whole) (defBody s_is_whole) (defScope s_is_whole) .none kV_is_whole dc_is_whole pm_is_whole an_is_whole cd_is_whole ct_is_whole), sl_is_whole⟩) (c_is_whole : PySem.W.codeIn K cd_is_whole "is_whole" = true) (k_is_whole : PySem.W.keepIn K (.ref f_is_whole) = true)
    {f_is_whole_in : Addr} {oc_is_whole_in : Value} {od_is_whole_in an_is_whole_in : Option Addr} {sl_is_whole_in : Array (Option Value)} {kV_is_whole_in dc_is_whole_in pm_is_whole_in cd_is_whole_in ct_is_whole_in : Value}
    (a_is_whole_in : PySem.W.nsIn K mainGlobals "is_whole_in" = some (some (.ref f_is_whole_in))) (l_is_whole_in : K.lookup f_is_whole_in = some ⟨oc_is_whole_in, od_is_whole_in, .func (PySem.W.fnOf "is_whole_in" "is_whole_in" (defArgs s_is_whole_in) (defBody s_is_whole_in) (defScope s_is_whole_in) .none kV_is_whole_in dc_is_whole_in pm_is_whole_in an_is_whole_in cd_is_whole_in ct_is_whole_in), sl_is_whole_in⟩) (c_is_whole_in : PySem.W.codeIn K cd_is_whole_in "is_whole_in" = true) (k_is_whole_in : PySem.W.keepIn K (.ref f_is_whole_in) = true)
    {f_is_pair : Addr} {oc_is_pair : Value} {od_is_pair an_is_pair : Option Addr} {sl_is_pair : Array (Option Value)} {kV_is_pair dc_is_pair pm_is_pair cd_is_pair ct_is_pair : Value}
    (a_is_pair : PySem.W.nsIn K mainGlobals "is_pair" = some (some (.ref f_is_pair))) (l_is_pair : K.lookup f_is_pair = some ⟨oc_is_pair, od_is_pair, .func (PySem.W.fnOf "is_pair" "is_pair" (defArgs s_is_pair) (defBody s_is_pair) (defScope s_is_pair) .none kV_is_pair dc_is_pair pm_is_pair an_is_pair cd_is_pair ct_is_pair), sl_is_pair⟩) (c_is_pair : PySem.W.codeIn K cd_is_pair "is_pair" = true) (k_is_pair : PySem.W.keepIn K (.ref f_is_pair) = true)
    {f_is_setup : Addr} {oc_is_setup : Value} {od_is_setup an_is_setup : Option Addr} {sl_is_setup : Array (Option Value)} {kV_is_setup dc_is_setup pm_is_setup cd_is_setup ct_is_setup : Value}
    (a_is_setup : PySem.W.nsIn K mainGlobals "is_setup" = some (some (.ref f_is_setup))) (l_is_setup : K.lookup f_is_setup = some ⟨oc_is_setup, od_is_setup, .func (PySem.W.fnOf "is_setup" "is_setup" (defArgs s_is_setup) (defBody s_is_setup) (defScope s_is_setup) .none kV_is_setup dc_is_setup pm_is_setup an_is_setup cd_is_setup ct_is_setup), sl_is_setup⟩) (c_is_setup : PySem.W.codeIn K cd_is_setup "is_setup" = true) (k_is_setup : PySem.W.keepIn K (.ref f_is_setup) = true)
    {f_is_choice : Addr} {oc_is_choice : Value} {od_is_choice an_is_choice : Option Addr} {sl_is_choice : Array (Option Value)} {kV_is_choice dc_is_choice pm_is_choice cd_is_choice ct_is_choice : Value}
    (a_is_choice : PySem.W.nsIn K mainGlobals "is_choice" = some (some (.ref f_is_choice))) (l_is_choice : K.lookup f_is_choice = some ⟨oc_is_choice, od_is_choice, .func (PySem.W.fnOf "is_choice" "is_choice" (defArgs s_is_choice) (defBody s_is_choice) (defScope s_is_choice) .none kV_is_choice dc_is_choice pm_is_choice an_is_choice cd_is_choice ct_is_choice), sl_is_choice⟩) (c_is_choice : PySem.W.codeIn K cd_is_choice "is_choice" = true) (k_is_choice : PySem.W.keepIn K (.ref f_is_choice) = true)
    {f_check_setup : Addr} {oc_check_setup : Value} {od_check_setup an_check_setup : Option Addr} {sl_check_setup : Array (Option Value)} {kV_check_setup dc_check_setup pm_check_setup cd_check_setup ct_check_setup : Value}
    (a_check_setup : PySem.W.nsIn K mainGlobals "check_setup" = some (some (.ref f_check_setup))) (l_check_setup : K.lookup f_check_setup = some ⟨oc_check_setup, od_check_setup, .func (PySem.W.fnOf "check_setup" "check_setup" (defArgs s_check_setup) (defBody s_check_setup) (defScope s_check_setup) .none kV_check_setup dc_check_setup pm_check_setup an_check_setup cd_check_setup ct_check_setup), sl_check_setup⟩) (c_check_setup : PySem.W.codeIn K cd_check_setup "check_setup" = true) (k_check_setup : PySem.W.keepIn K (.ref f_check_setup) = true)
    {f_all_comers : Addr} {oc_all_comers : Value} {od_all_comers an_all_comers : Option Addr} {sl_all_comers : Array (Option Value)} {kV_all_comers dc_all_comers pm_all_comers cd_all_comers ct_all_comers : Value}
    (a_all_comers : PySem.W.nsIn K mainGlobals "all_comers" = some (some (.ref f_all_comers))) (l_all_comers : K.lookup f_all_comers = some ⟨oc_all_comers, od_all_comers, .func (PySem.W.fnOf "all_comers" "all_comers" (defArgs s_all_comers) (defBody s_all_comers) (defScope s_all_comers) .none kV_all_comers dc_all_comers pm_all_comers an_all_comers cd_all_comers ct_all_comers), sl_all_comers⟩) (c_all_comers : PySem.W.codeIn K cd_all_comers "all_comers" = true) (k_all_comers : PySem.W.keepIn K (.ref f_all_comers) = true)
    {f_comers_of : Addr} {oc_comers_of : Value} {od_comers_of an_comers_of : Option Addr} {sl_comers_of : Array (Option Value)} {kV_comers_of dc_comers_of pm_comers_of cd_comers_of ct_comers_of : Value}
    (a_comers_of : PySem.W.nsIn K mainGlobals "comers_of" = some (some (.ref f_comers_of))) (l_comers_of : K.lookup f_comers_of = some ⟨oc_comers_of, od_comers_of, .func (PySem.W.fnOf "comers_of" "comers_of" (defArgs s_comers_of) (defBody s_comers_of) (defScope s_comers_of) .none kV_comers_of dc_comers_of pm_comers_of an_comers_of cd_comers_of ct_comers_of), sl_comers_of⟩) (c_comers_of : PySem.W.codeIn K cd_comers_of "comers_of" = true) (k_comers_of : PySem.W.keepIn K (.ref f_comers_of) = true)
    {f_is_half : Addr} {oc_is_half : Value} {od_is_half an_is_half : Option Addr} {sl_is_half : Array (Option Value)} {kV_is_half dc_is_half pm_is_half cd_is_half ct_is_half : Value}
    (a_is_half : PySem.W.nsIn K mainGlobals "is_half" = some (some (.ref f_is_half))) (l_is_half : K.lookup f_is_half = some ⟨oc_is_half, od_is_half, .func (PySem.W.fnOf "is_half" "is_half" (defArgs s_is_half) (defBody s_is_half) (defScope s_is_half) .none kV_is_half dc_is_half pm_is_half an_is_half cd_is_half ct_is_half), sl_is_half⟩) (c_is_half : PySem.W.codeIn K cd_is_half "is_half" = true) (k_is_half : PySem.W.keepIn K (.ref f_is_half) = true)
    {f_is_rule_row : Addr} {oc_is_rule_row : Value} {od_is_rule_row an_is_rule_row : Option Addr} {sl_is_rule_row : Array (Option Value)} {kV_is_rule_row dc_is_rule_row pm_is_rule_row cd_is_rule_row ct_is_rule_row : Value}
    (a_is_rule_row : PySem.W.nsIn K mainGlobals "is_rule_row" = some (some (.ref f_is_rule_row))) (l_is_rule_row : K.lookup f_is_rule_row = some ⟨oc_is_rule_row, od_is_rule_row, .func (PySem.W.fnOf "is_rule_row" "is_rule_row" (defArgs s_is_rule_row) (defBody s_is_rule_row) (defScope s_is_rule_row) .none kV_is_rule_row dc_is_rule_row pm_is_rule_row an_is_rule_row cd_is_rule_row ct_is_rule_row), sl_is_rule_row⟩) (c_is_rule_row : PySem.W.codeIn K cd_is_rule_row "is_rule_row" = true) (k_is_rule_row : PySem.W.keepIn K (.ref f_is_rule_row) = true)
    {f_is_span : Addr} {oc_is_span : Value} {od_is_span an_is_span : Option Addr} {sl_is_span : Array (Option Value)} {kV_is_span dc_is_span pm_is_span cd_is_span ct_is_span : Value}
    (a_is_span : PySem.W.nsIn K mainGlobals "is_span" = some (some (.ref f_is_span))) (l_is_span : K.lookup f_is_span = some ⟨oc_is_span, od_is_span, .func (PySem.W.fnOf "is_span" "is_span" (defArgs s_is_span) (defBody s_is_span) (defScope s_is_span) .none kV_is_span dc_is_span pm_is_span an_is_span cd_is_span ct_is_span), sl_is_span⟩) (c_is_span : PySem.W.codeIn K cd_is_span "is_span" = true) (k_is_span : PySem.W.keepIn K (.ref f_is_span) = true)
    {f_is_seats : Addr} {oc_is_seats : Value} {od_is_seats an_is_seats : Option Addr} {sl_is_seats : Array (Option Value)} {kV_is_seats dc_is_seats pm_is_seats cd_is_seats ct_is_seats : Value}
    (a_is_seats : PySem.W.nsIn K mainGlobals "is_seats" = some (some (.ref f_is_seats))) (l_is_seats : K.lookup f_is_seats = some ⟨oc_is_seats, od_is_seats, .func (PySem.W.fnOf "is_seats" "is_seats" (defArgs s_is_seats) (defBody s_is_seats) (defScope s_is_seats) .none kV_is_seats dc_is_seats pm_is_seats an_is_seats cd_is_seats ct_is_seats), sl_is_seats⟩) (c_is_seats : PySem.W.codeIn K cd_is_seats "is_seats" = true) (k_is_seats : PySem.W.keepIn K (.ref f_is_seats) = true)
    {f__law_deck : Addr} {oc__law_deck : Value} {od__law_deck an__law_deck : Option Addr} {sl__law_deck : Array (Option Value)} {kV__law_deck dc__law_deck pm__law_deck cd__law_deck ct__law_deck : Value}
    (a__law_deck : PySem.W.nsIn K mainGlobals "_law_deck" = some (some (.ref f__law_deck))) (l__law_deck : K.lookup f__law_deck = some ⟨oc__law_deck, od__law_deck, .func (PySem.W.fnOf "_law_deck" "_law_deck" (defArgs s__law_deck) (defBody s__law_deck) (defScope s__law_deck) .none kV__law_deck dc__law_deck pm__law_deck an__law_deck cd__law_deck ct__law_deck), sl__law_deck⟩) (c__law_deck : PySem.W.codeIn K cd__law_deck "_law_deck" = true) (k__law_deck : PySem.W.keepIn K (.ref f__law_deck) = true)
    {f__law_draw : Addr} {oc__law_draw : Value} {od__law_draw an__law_draw : Option Addr} {sl__law_draw : Array (Option Value)} {kV__law_draw dc__law_draw pm__law_draw cd__law_draw ct__law_draw : Value}
    (a__law_draw : PySem.W.nsIn K mainGlobals "_law_draw" = some (some (.ref f__law_draw))) (l__law_draw : K.lookup f__law_draw = some ⟨oc__law_draw, od__law_draw, .func (PySem.W.fnOf "_law_draw" "_law_draw" (defArgs s__law_draw) (defBody s__law_draw) (defScope s__law_draw) .none kV__law_draw dc__law_draw pm__law_draw an__law_draw cd__law_draw ct__law_draw), sl__law_draw⟩) (c__law_draw : PySem.W.codeIn K cd__law_draw "_law_draw" = true) (k__law_draw : PySem.W.keepIn K (.ref f__law_draw) = true)
    {f__law_setup : Addr} {oc__law_setup : Value} {od__law_setup an__law_setup : Option Addr} {sl__law_setup : Array (Option Value)} {kV__law_setup dc__law_setup pm__law_setup cd__law_setup ct__law_setup : Value}
    (a__law_setup : PySem.W.nsIn K mainGlobals "_law_setup" = some (some (.ref f__law_setup))) (l__law_setup : K.lookup f__law_setup = some ⟨oc__law_setup, od__law_setup, .func (PySem.W.fnOf "_law_setup" "_law_setup" (defArgs s__law_setup) (defBody s__law_setup) (defScope s__law_setup) .none kV__law_setup dc__law_setup pm__law_setup an__law_setup cd__law_setup ct__law_setup), sl__law_setup⟩) (c__law_setup : PySem.W.codeIn K cd__law_setup "_law_setup" = true) (k__law_setup : PySem.W.keepIn K (.ref f__law_setup) = true)
    {f__law_range : Addr} {oc__law_range : Value} {od__law_range an__law_range : Option Addr} {sl__law_range : Array (Option Value)} {kV__law_range dc__law_range pm__law_range cd__law_range ct__law_range : Value}
    (a__law_range : PySem.W.nsIn K mainGlobals "_law_range" = some (some (.ref f__law_range))) (l__law_range : K.lookup f__law_range = some ⟨oc__law_range, od__law_range, .func (PySem.W.fnOf "_law_range" "_law_range" (defArgs s__law_range) (defBody s__law_range) (defScope s__law_range) .none kV__law_range dc__law_range pm__law_range an__law_range cd__law_range ct__law_range), sl__law_range⟩) (c__law_range : PySem.W.codeIn K cd__law_range "_law_range" = true) (k__law_range : PySem.W.keepIn K (.ref f__law_range) = true)
    {f__law_seats : Addr} {oc__law_seats : Value} {od__law_seats an__law_seats : Option Addr} {sl__law_seats : Array (Option Value)} {kV__law_seats dc__law_seats pm__law_seats cd__law_seats ct__law_seats : Value}
    (a__law_seats : PySem.W.nsIn K mainGlobals "_law_seats" = some (some (.ref f__law_seats))) (l__law_seats : K.lookup f__law_seats = some ⟨oc__law_seats, od__law_seats, .func (PySem.W.fnOf "_law_seats" "_law_seats" (defArgs s__law_seats) (defBody s__law_seats) (defScope s__law_seats) .none kV__law_seats dc__law_seats pm__law_seats an__law_seats cd__law_seats ct__law_seats), sl__law_seats⟩) (c__law_seats : PySem.W.codeIn K cd__law_seats "_law_seats" = true) (k__law_seats : PySem.W.keepIn K (.ref f__law_seats) = true)
    {f__law_comers : Addr} {oc__law_comers : Value} {od__law_comers an__law_comers : Option Addr} {sl__law_comers : Array (Option Value)} {kV__law_comers dc__law_comers pm__law_comers cd__law_comers ct__law_comers : Value}
    (a__law_comers : PySem.W.nsIn K mainGlobals "_law_comers" = some (some (.ref f__law_comers))) (l__law_comers : K.lookup f__law_comers = some ⟨oc__law_comers, od__law_comers, .func (PySem.W.fnOf "_law_comers" "_law_comers" (defArgs s__law_comers) (defBody s__law_comers) (defScope s__law_comers) .none kV__law_comers dc__law_comers pm__law_comers an__law_comers cd__law_comers ct__law_comers), sl__law_comers⟩) (c__law_comers : PySem.W.codeIn K cd__law_comers "_law_comers" = true) (k__law_comers : PySem.W.keepIn K (.ref f__law_comers) = true)
    {f__law_is_number : Addr} {oc__law_is_number : Value} {od__law_is_number an__law_is_number : Option Addr} {sl__law_is_number : Array (Option Value)} {kV__law_is_number dc__law_is_number pm__law_is_number cd__law_is_number ct__law_is_number : Value}
    (a__law_is_number : PySem.W.nsIn K mainGlobals "_law_is_number" = some (some (.ref f__law_is_number))) (l__law_is_number : K.lookup f__law_is_number = some ⟨oc__law_is_number, od__law_is_number, .func (PySem.W.fnOf "_law_is_number" "_law_is_number" (defArgs s__law_is_number) (defBody s__law_is_number) (defScope s__law_is_number) .none kV__law_is_number dc__law_is_number pm__law_is_number an__law_is_number cd__law_is_number ct__law_is_number), sl__law_is_number⟩) (c__law_is_number : PySem.W.codeIn K cd__law_is_number "_law_is_number" = true) (k__law_is_number : PySem.W.keepIn K (.ref f__law_is_number) = true)
    {f__law_are : Addr} {oc__law_are : Value} {od__law_are an__law_are : Option Addr} {sl__law_are : Array (Option Value)} {kV__law_are dc__law_are pm__law_are cd__law_are ct__law_are : Value}
    (a__law_are : PySem.W.nsIn K mainGlobals "_law_are" = some (some (.ref f__law_are))) (l__law_are : K.lookup f__law_are = some ⟨oc__law_are, od__law_are, .func (PySem.W.fnOf "_law_are" "_law_are" (defArgs s__law_are) (defBody s__law_are) (defScope s__law_are) .none kV__law_are dc__law_are pm__law_are an__law_are cd__law_are ct__law_are), sl__law_are⟩) (c__law_are : PySem.W.codeIn K cd__law_are "_law_are" = true) (k__law_are : PySem.W.keepIn K (.ref f__law_are) = true)
    {f__law_choice : Addr} {oc__law_choice : Value} {od__law_choice an__law_choice : Option Addr} {sl__law_choice : Array (Option Value)} {kV__law_choice dc__law_choice pm__law_choice cd__law_choice ct__law_choice : Value}
    (a__law_choice : PySem.W.nsIn K mainGlobals "_law_choice" = some (some (.ref f__law_choice))) (l__law_choice : K.lookup f__law_choice = some ⟨oc__law_choice, od__law_choice, .func (PySem.W.fnOf "_law_choice" "_law_choice" (defArgs s__law_choice) (defBody s__law_choice) (defScope s__law_choice) .none kV__law_choice dc__law_choice pm__law_choice an__law_choice cd__law_choice ct__law_choice), sl__law_choice⟩) (c__law_choice : PySem.W.codeIn K cd__law_choice "_law_choice" = true) (k__law_choice : PySem.W.keepIn K (.ref f__law_choice) = true)
    {f__law_due_setup : Addr} {oc__law_due_setup : Value} {od__law_due_setup an__law_due_setup : Option Addr} {sl__law_due_setup : Array (Option Value)} {kV__law_due_setup dc__law_due_setup pm__law_due_setup cd__law_due_setup ct__law_due_setup : Value}
    (a__law_due_setup : PySem.W.nsIn K mainGlobals "_law_due_setup" = some (some (.ref f__law_due_setup))) (l__law_due_setup : K.lookup f__law_due_setup = some ⟨oc__law_due_setup, od__law_due_setup, .func (PySem.W.fnOf "_law_due_setup" "_law_due_setup" (defArgs s__law_due_setup) (defBody s__law_due_setup) (defScope s__law_due_setup) .none kV__law_due_setup dc__law_due_setup pm__law_due_setup an__law_due_setup cd__law_due_setup ct__law_due_setup), sl__law_due_setup⟩) (c__law_due_setup : PySem.W.codeIn K cd__law_due_setup "_law_due_setup" = true) (k__law_due_setup : PySem.W.keepIn K (.ref f__law_due_setup) = true)
    {f__law_due_row : Addr} {oc__law_due_row : Value} {od__law_due_row an__law_due_row : Option Addr} {sl__law_due_row : Array (Option Value)} {kV__law_due_row dc__law_due_row pm__law_due_row cd__law_due_row ct__law_due_row : Value}
    (a__law_due_row : PySem.W.nsIn K mainGlobals "_law_due_row" = some (some (.ref f__law_due_row))) (l__law_due_row : K.lookup f__law_due_row = some ⟨oc__law_due_row, od__law_due_row, .func (PySem.W.fnOf "_law_due_row" "_law_due_row" (defArgs s__law_due_row) (defBody s__law_due_row) (defScope s__law_due_row) .none kV__law_due_row dc__law_due_row pm__law_due_row an__law_due_row cd__law_due_row ct__law_due_row), sl__law_due_row⟩) (c__law_due_row : PySem.W.codeIn K cd__law_due_row "_law_due_row" = true) (k__law_due_row : PySem.W.keepIn K (.ref f__law_due_row) = true)
    {f__law_due_seats : Addr} {oc__law_due_seats : Value} {od__law_due_seats an__law_due_seats : Option Addr} {sl__law_due_seats : Array (Option Value)} {kV__law_due_seats dc__law_due_seats pm__law_due_seats cd__law_due_seats ct__law_due_seats : Value}
    (a__law_due_seats : PySem.W.nsIn K mainGlobals "_law_due_seats" = some (some (.ref f__law_due_seats))) (l__law_due_seats : K.lookup f__law_due_seats = some ⟨oc__law_due_seats, od__law_due_seats, .func (PySem.W.fnOf "_law_due_seats" "_law_due_seats" (defArgs s__law_due_seats) (defBody s__law_due_seats) (defScope s__law_due_seats) .none kV__law_due_seats dc__law_due_seats pm__law_due_seats an__law_due_seats cd__law_due_seats ct__law_due_seats), sl__law_due_seats⟩) (c__law_due_seats : PySem.W.codeIn K cd__law_due_seats "_law_due_seats" = true) (k__law_due_seats : PySem.W.keepIn K (.ref f__law_due_seats) = true)
    {f__law_odd : Addr} {oc__law_odd : Value} {od__law_odd an__law_odd : Option Addr} {sl__law_odd : Array (Option Value)} {kV__law_odd dc__law_odd pm__law_odd cd__law_odd ct__law_odd : Value}
    (a__law_odd : PySem.W.nsIn K mainGlobals "_law_odd" = some (some (.ref f__law_odd))) (l__law_odd : K.lookup f__law_odd = some ⟨oc__law_odd, od__law_odd, .func (PySem.W.fnOf "_law_odd" "_law_odd" (defArgs s__law_odd) (defBody s__law_odd) (defScope s__law_odd) .none kV__law_odd dc__law_odd pm__law_odd an__law_odd cd__law_odd ct__law_odd), sl__law_odd⟩) (c__law_odd : PySem.W.codeIn K cd__law_odd "_law_odd" = true) (k__law_odd : PySem.W.keepIn K (.ref f__law_odd) = true)
    {f__law_bent : Addr} {oc__law_bent : Value} {od__law_bent an__law_bent : Option Addr} {sl__law_bent : Array (Option Value)} {kV__law_bent dc__law_bent pm__law_bent cd__law_bent ct__law_bent : Value}
    (a__law_bent : PySem.W.nsIn K mainGlobals "_law_bent" = some (some (.ref f__law_bent))) (l__law_bent : K.lookup f__law_bent = some ⟨oc__law_bent, od__law_bent, .func (PySem.W.fnOf "_law_bent" "_law_bent" (defArgs s__law_bent) (defBody s__law_bent) (defScope s__law_bent) .none kV__law_bent dc__law_bent pm__law_bent an__law_bent cd__law_bent ct__law_bent), sl__law_bent⟩) (c__law_bent : PySem.W.codeIn K cd__law_bent "_law_bent" = true) (k__law_bent : PySem.W.keepIn K (.ref f__law_bent) = true)
    {f__law_says : Addr} {oc__law_says : Value} {od__law_says an__law_says : Option Addr} {sl__law_says : Array (Option Value)} {kV__law_says dc__law_says pm__law_says cd__law_says ct__law_says : Value}
    (a__law_says : PySem.W.nsIn K mainGlobals "_law_says" = some (some (.ref f__law_says))) (l__law_says : K.lookup f__law_says = some ⟨oc__law_says, od__law_says, .func (PySem.W.fnOf "_law_says" "_law_says" (defArgs s__law_says) (defBody s__law_says) (defScope s__law_says) .none kV__law_says dc__law_says pm__law_says an__law_says cd__law_says ct__law_says), sl__law_says⟩) (c__law_says : PySem.W.codeIn K cd__law_says "_law_says" = true) (k__law_says : PySem.W.keepIn K (.ref f__law_says) = true)
    {f__law_right : Addr} {oc__law_right : Value} {od__law_right an__law_right : Option Addr} {sl__law_right : Array (Option Value)} {kV__law_right dc__law_right pm__law_right cd__law_right ct__law_right : Value}
    (a__law_right : PySem.W.nsIn K mainGlobals "_law_right" = some (some (.ref f__law_right))) (l__law_right : K.lookup f__law_right = some ⟨oc__law_right, od__law_right, .func (PySem.W.fnOf "_law_right" "_law_right" (defArgs s__law_right) (defBody s__law_right) (defScope s__law_right) .none kV__law_right dc__law_right pm__law_right an__law_right cd__law_right ct__law_right), sl__law_right⟩) (c__law_right : PySem.W.codeIn K cd__law_right "_law_right" = true) (k__law_right : PySem.W.keepIn K (.ref f__law_right) = true)
    {f_law : Addr} {oc_law : Value} {od_law an_law : Option Addr} {sl_law : Array (Option Value)} {kV_law dc_law pm_law cd_law ct_law : Value}
    (a_law : PySem.W.nsIn K mainGlobals "law" = some (some (.ref f_law))) (l_law : K.lookup f_law = some ⟨oc_law, od_law, .func (PySem.W.fnOf "law" "law" (defArgs s_law) (defBody s_law) (defScope s_law) .none kV_law dc_law pm_law an_law cd_law ct_law), sl_law⟩) (c_law : PySem.W.codeIn K cd_law "law" = true) (k_law : PySem.W.keepIn K (.ref f_law) = true)
    (z_len : PySem.W.nsIn K mainGlobals "len" = some none)
    (z_isinstance : PySem.W.nsIn K mainGlobals "isinstance" = some none)
    (z_abs : PySem.W.nsIn K mainGlobals "abs" = some none)
    (z_all : PySem.W.nsIn K mainGlobals "all" = some none)
    (z_max : PySem.W.nsIn K mainGlobals "max" = some none)
    (z_min : PySem.W.nsIn K mainGlobals "min" = some none)
    (z_sorted : PySem.W.nsIn K mainGlobals "sorted" = some none)
    (z_repr : PySem.W.nsIn K mainGlobals "repr" = some none)
    (z_int : PySem.W.nsIn K mainGlobals "int" = some none)
    (z_bool : PySem.W.nsIn K mainGlobals "bool" = some none)
    (z_tuple : PySem.W.nsIn K mainGlobals "tuple" = some none)
    (z_list : PySem.W.nsIn K mainGlobals "list" = some none)
    (z_str : PySem.W.nsIn K mainGlobals "str" = some none)
    (z_range : PySem.W.nsIn K mainGlobals "range" = some none)
    (z_set : PySem.W.nsIn K mainGlobals "set" = some none)
    {t_MOST_SEATS : Tok} (g_MOST_SEATS : PySem.W.nsIn K mainGlobals "MOST_SEATS" = some (some (.int 4 t_MOST_SEATS)))
    {t_MOST_PORTIONS : Tok} (g_MOST_PORTIONS : PySem.W.nsIn K mainGlobals "MOST_PORTIONS" = some (some (.int 4 t_MOST_PORTIONS)))
    {t_MOST_LIFE : Tok} (g_MOST_LIFE : PySem.W.nsIn K mainGlobals "MOST_LIFE" = some (some (.int 3 t_MOST_LIFE)))
    {t_MOST_PRICE : Tok} (g_MOST_PRICE : PySem.W.nsIn K mainGlobals "MOST_PRICE" = some (some (.int 5 t_MOST_PRICE)))
    {t_MOST_RULE_ROWS : Tok} (g_MOST_RULE_ROWS : PySem.W.nsIn K mainGlobals "MOST_RULE_ROWS" = some (some (.int 6 t_MOST_RULE_ROWS)))
    {p_SEAT_DEEDS : Addr} {m_SEAT_DEEDS : Nat} {dd_SEAT_DEEDS : Option Addr} {ss_SEAT_DEEDS : Array (Option Value)} {u_SEAT_DEEDS_0 u_SEAT_DEEDS_1 u_SEAT_DEEDS_2 : Tok} (g_SEAT_DEEDS : PySem.W.nsIn K mainGlobals "SEAT_DEEDS" = some (some (.ref p_SEAT_DEEDS))) (o_SEAT_DEEDS : K.lookup p_SEAT_DEEDS = some ⟨.type "tuple", dd_SEAT_DEEDS, .seq #[.str "group" u_SEAT_DEEDS_0, .str "single" u_SEAT_DEEDS_1, .str "go" u_SEAT_DEEDS_2] m_SEAT_DEEDS, ss_SEAT_DEEDS⟩)
    :
    ∃ (fd : FuncData) (sp : Sp), (∀ (s : Shared) (u : Value), BindsTo s fd ⟨[u], []⟩ [("_law_script", u)]) ∧
        (∀ (H : Hp) (a : Addr) (ns : List Int), ns.length ≤ 63 → SqL K H a (ns.map V.int) → sp [.ref a] H (fun v _ => v = .bl true) fun _ _ _ => False) ∧
        ∀ base : Heap, K.In base → base.Ns mainGlobals mg → Grd.FnG l.prog w K mg base CX0 9 fa fd ["_law_script"] sp := by
  have e := hfa.symm.trans (PySem.W.mg_of X G a_law)
  cases e
  have D_is_whole := defAt_mk (st := s_is_whole) (ps := ["thing"]) X G a_is_whole l_is_whole c_is_whole k_is_whole (fun _ _ _ _ _ _ us hl => match us, hl with | [_], _ => rfl)
  have D_is_whole_in := defAt_mk (st := s_is_whole_in) (ps := ["thing", "low", "high"]) X G a_is_whole_in l_is_whole_in c_is_whole_in k_is_whole_in (fun _ _ _ _ _ _ us hl => match us, hl with | [_, _, _], _ => rfl)
  have D_is_pair := defAt_mk (st := s_is_pair) (ps := ["thing"]) X G a_is_pair l_is_pair c_is_pair k_is_pair (fun _ _ _ _ _ _ us hl => match us, hl with | [_], _ => rfl)
  have D_is_setup := defAt_mk (st := s_is_setup) (ps := ["thing"]) X G a_is_setup l_is_setup c_is_setup k_is_setup (fun _ _ _ _ _ _ us hl => match us, hl with | [_], _ => rfl)
  have D_is_choice := defAt_mk (st := s_is_choice) (ps := ["thing", "most"]) X G a_is_choice l_is_choice c_is_choice k_is_choice (fun _ _ _ _ _ _ us hl => match us, hl with | [_, _], _ => rfl)
  have D_check_setup := defAt_mk (st := s_check_setup) (ps := ["thing"]) X G a_check_setup l_check_setup c_check_setup k_check_setup (fun _ _ _ _ _ _ us hl => match us, hl with | [_], _ => rfl)
  have D_all_comers := defAt_mk (st := s_all_comers) (ps := ["setup"]) X G a_all_comers l_all_comers c_all_comers k_all_comers (fun _ _ _ _ _ _ us hl => match us, hl with | [_], _ => rfl)
  have D_comers_of := defAt_mk (st := s_comers_of) (ps := ["setup"]) X G a_comers_of l_comers_of c_comers_of k_comers_of (fun _ _ _ _ _ _ us hl => match us, hl with | [_], _ => rfl)
  have D_is_half := defAt_mk (st := s_is_half) (ps := ["thing", "deeds"]) X G a_is_half l_is_half c_is_half k_is_half (fun _ _ _ _ _ _ us hl => match us, hl with | [_, _], _ => rfl)
  have D_is_rule_row := defAt_mk (st := s_is_rule_row) (ps := ["thing", "deeds"]) X G a_is_rule_row l_is_rule_row c_is_rule_row k_is_rule_row (fun _ _ _ _ _ _ us hl => match us, hl with | [_, _], _ => rfl)
  have D_is_span := defAt_mk (st := s_is_span) (ps := ["thing"]) X G a_is_span l_is_span c_is_span k_is_span (fun _ _ _ _ _ _ us hl => match us, hl with | [_], _ => rfl)
  have D_is_seats := defAt_mk (st := s_is_seats) (ps := ["thing"]) X G a_is_seats l_is_seats c_is_seats k_is_seats (fun _ _ _ _ _ _ us hl => match us, hl with | [_], _ => rfl)
  have D__law_deck := defAt_mk (st := s__law_deck) (ps := ["_law_script", "_law_at"]) X G a__law_deck l__law_deck c__law_deck k__law_deck (fun _ _ _ _ _ _ us hl => match us, hl with | [_, _], _ => rfl)
  have D__law_draw := defAt_mk (st := s__law_draw) (ps := ["_law_deck_here", "_law_many"]) X G a__law_draw l__law_draw c__law_draw k__law_draw (fun _ _ _ _ _ _ us hl => match us, hl with | [_, _], _ => rfl)
  have D__law_setup := defAt_mk (st := s__law_setup) (ps := ["_law_deck_here", "_law_small"]) X G a__law_setup l__law_setup c__law_setup k__law_setup (fun _ _ _ _ _ _ us hl => match us, hl with | [_, _], _ => rfl)
  have D__law_range := defAt_mk (st := s__law_range) (ps := ["_law_deck_here", "_law_most"]) X G a__law_range l__law_range c__law_range k__law_range (fun _ _ _ _ _ _ us hl => match us, hl with | [_, _], _ => rfl)
  have D__law_seats := defAt_mk (st := s__law_seats) (ps := ["_law_deck_here", "_law_moods", "_law_deaf"]) X G a__law_seats l__law_seats c__law_seats k__law_seats (fun _ _ _ _ _ _ us hl => match us, hl with | [_, _, _], _ => rfl)
  have D__law_comers := defAt_mk (st := s__law_comers) (ps := ["_law_shop"]) X G a__law_comers l__law_comers c__law_comers k__law_comers (fun _ _ _ _ _ _ us hl => match us, hl with | [_], _ => rfl)
  have D__law_is_number := defAt_mk (st := s__law_is_number) (ps := ["_law_item", "_law_low", "_law_high"]) X G a__law_is_number l__law_is_number c__law_is_number k__law_is_number (fun _ _ _ _ _ _ us hl => match us, hl with | [_, _, _], _ => rfl)
  have D__law_are := defAt_mk (st := s__law_are) (ps := ["_law_item", "_law_lows", "_law_highs"]) X G a__law_are l__law_are c__law_are k__law_are (fun _ _ _ _ _ _ us hl => match us, hl with | [_, _, _], _ => rfl)
  have D__law_choice := defAt_mk (st := s__law_choice) (ps := ["_law_item", "_law_most"]) X G a__law_choice l__law_choice c__law_choice k__law_choice (fun _ _ _ _ _ _ us hl => match us, hl with | [_, _], _ => rfl)
  have D__law_due_setup := defAt_mk (st := s__law_due_setup) (ps := ["_law_item"]) X G a__law_due_setup l__law_due_setup c__law_due_setup k__law_due_setup (fun _ _ _ _ _ _ us hl => match us, hl with | [_], _ => rfl)
  have D__law_due_row := defAt_mk (st := s__law_due_row) (ps := ["_law_item"]) X G a__law_due_row l__law_due_row c__law_due_row k__law_due_row (fun _ _ _ _ _ _ us hl => match us, hl with | [_], _ => rfl)
  have D__law_due_seats := defAt_mk (st := s__law_due_seats) (ps := ["_law_item"]) X G a__law_due_seats l__law_due_seats c__law_due_seats k__law_due_seats (fun _ _ _ _ _ _ us hl => match us, hl with | [_], _ => rfl)
  have D__law_odd := defAt_mk (st := s__law_odd) (ps := ["_law_deck_here"]) X G a__law_odd l__law_odd c__law_odd k__law_odd (fun _ _ _ _ _ _ us hl => match us, hl with | [_], _ => rfl)
  have D__law_bent := defAt_mk (st := s__law_bent) (ps := ["_law_deck_here", "_law_item"]) X G a__law_bent l__law_bent c__law_bent k__law_bent (fun _ _ _ _ _ _ us hl => match us, hl with | [_, _], _ => rfl)
  have D__law_says := defAt_mk (st := s__law_says) (ps := ["_law_found", "_law_due"]) X G a__law_says l__law_says c__law_says k__law_says (fun _ _ _ _ _ _ us hl => match us, hl with | [_, _], _ => rfl)
  have D__law_right := defAt_mk (st := s__law_right) (ps := ["_law_deck_here"]) X G a__law_right l__law_right c__law_right k__law_right (fun _ _ _ _ _ _ us hl => match us, hl with | [_], _ => rfl)
  let T : Top K mg := {
    f_is_whole := _, d_is_whole := _, D_is_whole := D_is_whole,
    f_is_whole_in := _, d_is_whole_in := _, D_is_whole_in := D_is_whole_in,
    f_is_pair := _, d_is_pair := _, D_is_pair := D_is_pair,
    f_is_setup := _, d_is_setup := _, D_is_setup := D_is_setup,
    f_is_choice := _, d_is_choice := _, D_is_choice := D_is_choice,
    f_check_setup := _, d_check_setup := _, D_check_setup := D_check_setup,
    f_all_comers := _, d_all_comers := _, D_all_comers := D_all_comers,
    f_comers_of := _, d_comers_of := _, D_comers_of := D_comers_of,
    f_is_half := _, d_is_half := _, D_is_half := D_is_half,
    f_is_rule_row := _, d_is_rule_row := _, D_is_rule_row := D_is_rule_row,
    f_is_span := _, d_is_span := _, D_is_span := D_is_span,
    f_is_seats := _, d_is_seats := _, D_is_seats := D_is_seats,
    f__law_deck := _, d__law_deck := _, D__law_deck := D__law_deck,
    f__law_draw := _, d__law_draw := _, D__law_draw := D__law_draw,
    f__law_setup := _, d__law_setup := _, D__law_setup := D__law_setup,
    f__law_range := _, d__law_range := _, D__law_range := D__law_range,
    f__law_seats := _, d__law_seats := _, D__law_seats := D__law_seats,
    f__law_comers := _, d__law_comers := _, D__law_comers := D__law_comers,
    f__law_is_number := _, d__law_is_number := _, D__law_is_number := D__law_is_number,
    f__law_are := _, d__law_are := _, D__law_are := D__law_are,
    f__law_choice := _, d__law_choice := _, D__law_choice := D__law_choice,
    f__law_due_setup := _, d__law_due_setup := _, D__law_due_setup := D__law_due_setup,
    f__law_due_row := _, d__law_due_row := _, D__law_due_row := D__law_due_row,
    f__law_due_seats := _, d__law_due_seats := _, D__law_due_seats := D__law_due_seats,
    f__law_odd := _, d__law_odd := _, D__law_odd := D__law_odd,
    f__law_bent := _, d__law_bent := _, D__law_bent := D__law_bent,
    f__law_says := _, d__law_says := _, D__law_says := D__law_says,
    f__law_right := _, d__law_right := _, D__law_right := D__law_right,
    b_len := PySem.W.mg_none_of X G z_len,
    b_isinstance := PySem.W.mg_none_of X G z_isinstance,
    b_abs := PySem.W.mg_none_of X G z_abs,
    b_all := PySem.W.mg_none_of X G z_all,
    b_max := PySem.W.mg_none_of X G z_max,
    b_min := PySem.W.mg_none_of X G z_min,
    b_sorted := PySem.W.mg_none_of X G z_sorted,
    b_repr := PySem.W.mg_none_of X G z_repr,
    b_int := PySem.W.mg_none_of X G z_int,
    b_bool := PySem.W.mg_none_of X G z_bool,
    b_tuple := PySem.W.mg_none_of X G z_tuple,
    b_list := PySem.W.mg_none_of X G z_list,
    b_str := PySem.W.mg_none_of X G z_str,
    b_range := PySem.W.mg_none_of X G z_range,
    b_set := PySem.W.mg_none_of X G z_set,
    t_MOST_SEATS := _, c_MOST_SEATS := PySem.W.mg_of X G g_MOST_SEATS,
    t_MOST_PORTIONS := _, c_MOST_PORTIONS := PySem.W.mg_of X G g_MOST_PORTIONS,
    t_MOST_LIFE := _, c_MOST_LIFE := PySem.W.mg_of X G g_MOST_LIFE,
    t_MOST_PRICE := _, c_MOST_PRICE := PySem.W.mg_of X G g_MOST_PRICE,
    t_MOST_RULE_ROWS := _, c_MOST_RULE_ROWS := PySem.W.mg_of X G g_MOST_RULE_ROWS,
    p_SEAT_DEEDS := _, c_SEAT_DEEDS := PySem.W.mg_of X G g_SEAT_DEEDS, v_SEAT_DEEDS := fun H => .tup (xs := [.str "group", .str "single", .str "go"]) (.inr ⟨_, _, _, o_SEAT_DEEDS, rfl, rfl, by simp [sizeLine_eq], .cons ⟨_, rfl⟩ (.cons ⟨_, rfl⟩ (.cons ⟨_, rfl⟩ .nil))⟩) (.cons (.str _) (.cons (.str _) (.cons (.str _) .nil))),
    KN_all_comers__setup := ⟨fun s us ws _ l1 l2 => match us, ws, l1, l2 with | [], [_], _, _ => .of_eq rfl, fun _ h => kw_vals h _⟩,
    KN_is_setup__thing := ⟨fun s us ws _ l1 l2 => match us, ws, l1, l2 with | [], [_], _, _ => .of_eq rfl, fun _ h => kw_vals h _⟩,
    KN_is_seats__thing := ⟨fun s us ws _ l1 l2 => match us, ws, l1, l2 with | [], [_], _, _ => .of_eq rfl, fun _ h => kw_vals h _⟩ }
  exact ⟨PySem.W.fnOf "law" "law" (defArgs s_law) (defBody s_law) (defScope s_law) .none kV_law dc_law pm_law an_law cd_law ct_law, spA K spLawA, fun s v => .of_eq rfl, fun H a ns hl hS => spLaw_of hl hS, fun base _ _ => ok_law T (fun_mk (st := s_law) l_law c_law k_law)⟩
end K19
open PySem PySem.W PyProof.Rows
set_option maxRecDepth 100000 in
set_option maxHeartbeats 0 in
theorem PySem.Challenge.cw_parlourday_k19_setups_and_seat_rules_jud_holds : PySem.Challenge.rw_parlourday_k19_setups_and_seat_rules_jud.Holds := by
  w_on; o_law; k_head; (case hw => w_witness2)
  k_fill
  refine Grd.walk_ofG0 (l := PySem.Challenge.rw_parlourday_k19_setups_and_seat_rules_jud) (n := 63) (k := 9) (x := "_law_script") rfl (by decide) rfl ⟨rfl, by decide, by decide⟩ (fun w h Y => PySem.W.kIn_of Y) ?F
  case F =>
    intro w mg fa h KX G hmg
    refine' K19.all_mk KX G hmg ?a_is_whole ?l_is_whole ?c_is_whole ?k_is_whole ?a_is_whole_in ?l_is_whole_in ?c_is_whole_in ?k_is_whole_in ?a_is_pair ?l_is_pair ?c_is_pair ?k_is_pair ?a_is_setup ?l_is_setup ?c_is_setup ?k_is_setup ?a_is_choice ?l_is_choice ?c_is_choice ?k_is_choice ?a_check_setup ?l_check_setup ?c_check_setup ?k_check_setup ?a_all_comers ?l_all_comers ?c_all_comers ?k_all_comers ?a_comers_of ?l_comers_of ?c_comers_of ?k_comers_of ?a_is_half ?l_is_half ?c_is_half ?k_is_half ?a_is_rule_row ?l_is_rule_row ?c_is_rule_row ?k_is_rule_row ?a_is_span ?l_is_span ?c_is_span ?k_is_span ?a_is_seats ?l_is_seats ?c_is_seats ?k_is_seats ?a__law_deck ?l__law_deck ?c__law_deck ?k__law_deck ?a__law_draw ?l__law_draw ?c__law_draw ?k__law_draw ?a__law_setup ?l__law_setup ?c__law_setup ?k__law_setup ?a__law_range ?l__law_range ?c__law_range ?k__law_range ?a__law_seats ?l__law_seats ?c__law_seats ?k__law_seats ?a__law_comers ?l__law_comers ?c__law_comers ?k__law_comers ?a__law_is_number ?l__law_is_number ?c__law_is_number ?k__law_is_number ?a__law_are ?l__law_are ?c__law_are ?k__law_are ?a__law_choice ?l__law_choice ?c__law_choice ?k__law_choice ?a__law_due_setup ?l__law_due_setup ?c__law_due_setup ?k__law_due_setup ?a__law_due_row ?l__law_due_row ?c__law_due_row ?k__law_due_row ?a__law_due_seats ?l__law_due_seats ?c__law_due_seats ?k__law_due_seats ?a__law_odd ?l__law_odd ?c__law_odd ?k__law_odd ?a__law_bent ?l__law_bent ?c__law_bent ?k__law_bent ?a__law_says ?l__law_says ?c__law_says ?k__law_says ?a__law_right ?l__law_right ?c__law_right ?k__law_right ?a_law ?l_law ?c_law ?k_law ?z_len ?z_isinstance ?z_abs ?z_all ?z_max ?z_min ?z_sorted ?z_repr ?z_int ?z_bool ?z_tuple ?z_list ?z_str ?z_range ?z_set ?g_MOST_SEATS ?g_MOST_PORTIONS ?g_MOST_LIFE ?g_MOST_PRICE ?g_MOST_RULE_ROWS ?g_SEAT_DEEDS ?o_SEAT_DEEDS
    (case a_is_whole => k_is); (case l_is_whole => k_is); (case c_is_whole => k_is); (case k_is_whole => k_is); (case a_is_whole_in => k_is); (case l_is_whole_in => k_is); (case c_is_whole_in => k_is); (case k_is_whole_in => k_is); (case a_is_pair => k_is); (case l_is_pair => k_is); (case c_is_pair => k_is); (case k_is_pair => k_is); (case a_is_setup => k_is); (case l_is_setup => k_is); (case c_is_setup => k_is); (case k_is_setup => k_is); (case a_is_choice => k_is); (case l_is_choice => k_is); (case c_is_choice => k_is); (case k_is_choice => k_is); (case a_check_setup => k_is); (case l_check_setup => k_is); (case c_check_setup => k_is); (case k_check_setup => k_is); (case a_all_comers => k_is); (case l_all_comers => k_is); (case c_all_comers => k_is); (case k_all_comers => k_is); (case a_comers_of => k_is); (case l_comers_of => k_is); (case c_comers_of => k_is); (case k_comers_of => k_is); (case a_is_half => k_is); (case l_is_half => k_is); (case c_is_half => k_is); (case k_is_half => k_is); (case a_is_rule_row => k_is); (case l_is_rule_row => k_is); (case c_is_rule_row => k_is); (case k_is_rule_row => k_is); (case a_is_span => k_is); (case l_is_span => k_is); (case c_is_span => k_is); (case k_is_span => k_is); (case a_is_seats => k_is); (case l_is_seats => k_is); (case c_is_seats => k_is); (case k_is_seats => k_is); (case a__law_deck => k_is); (case l__law_deck => k_is); (case c__law_deck => k_is); (case k__law_deck => k_is); (case a__law_draw => k_is); (case l__law_draw => k_is); (case c__law_draw => k_is); (case k__law_draw => k_is); (case a__law_setup => k_is); (case l__law_setup => k_is); (case c__law_setup => k_is); (case k__law_setup => k_is); (case a__law_range => k_is); (case l__law_range => k_is); (case c__law_range => k_is); (case k__law_range => k_is); (case a__law_seats => k_is); (case l__law_seats => k_is); (case c__law_seats => k_is); (case k__law_seats => k_is); (case a__law_comers => k_is); (case l__law_comers => k_is); (case c__law_comers => k_is); (case k__law_comers => k_is); (case a__law_is_number => k_is); (case l__law_is_number => k_is); (case c__law_is_number => k_is); (case k__law_is_number => k_is); (case a__law_are => k_is); (case l__law_are => k_is); (case c__law_are => k_is); (case k__law_are => k_is); (case a__law_choice => k_is); (case l__law_choice => k_is); (case c__law_choice => k_is); (case k__law_choice => k_is); (case a__law_due_setup => k_is); (case l__law_due_setup => k_is); (case c__law_due_setup => k_is); (case k__law_due_setup => k_is); (case a__law_due_row => k_is); (case l__law_due_row => k_is); (case c__law_due_row => k_is); (case k__law_due_row => k_is); (case a__law_due_seats => k_is); (case l__law_due_seats => k_is); (case c__law_due_seats => k_is); (case k__law_due_seats => k_is); (case a__law_odd => k_is); (case l__law_odd => k_is); (case c__law_odd => k_is); (case k__law_odd => k_is); (case a__law_bent => k_is); (case l__law_bent => k_is); (case c__law_bent => k_is); (case k__law_bent => k_is); (case a__law_says => k_is); (case l__law_says => k_is); (case c__law_says => k_is); (case k__law_says => k_is); (case a__law_right => k_is); (case l__law_right => k_is); (case c__law_right => k_is); (case k__law_right => k_is); (case a_law => k_is); (case l_law => k_is); (case c_law => k_is); (case k_law => k_is); (case z_len => k_is); (case z_isinstance => k_is); (case z_abs => k_is); (case z_all => k_is); (case z_max => k_is); (case z_min => k_is); (case z_sorted => k_is); (case z_repr => k_is); (case z_int => k_is); (case z_bool => k_is); (case z_tuple => k_is); (case z_list => k_is); (case z_str => k_is); (case z_range => k_is); (case z_set => k_is); (case g_MOST_SEATS => k_is); (case g_MOST_PORTIONS => k_is); (case g_MOST_LIFE => k_is); (case g_MOST_PRICE => k_is); (case g_MOST_RULE_ROWS => k_is); (case g_SEAT_DEEDS => k_is); (case o_SEAT_DEEDS => k_is)

