import PyProof.Rows.All
import Wide.All
import OpenK.AllK
import Wide.FinOn
import HandS.ForMost
import HandS.Exc
import HandS.Wide
import PyProof.ReprRoads
import HandS.ExcInit
import KE.KExcInit
import KE.KExcIs
import HandS.Defaults
import HandS.IsInst
import HandS.Codes
import PySem.Challenge.RW_latelands_k01_errors
set_option Elab.async false
set_option linter.all false
set_option maxRecDepth 100000
set_option maxHeartbeats 16000000
/-! Contracts of defs that know that no repr runs around them -/
namespace L2.My
open PySem PySem.Spec PyProof.Rows

def Quiet (A : Around) : Prop := A.guards = some []

structure FnG (P : Program) (w : World) (K : W.Frag) (mg : Str → Option Value) (base : Heap) (CX : CXT) (k : Nat) (f : Addr) (fd : FuncData) (ps : List Str) (sp : Sp) : Prop where
  many : ∀ vs H Q E, sp vs H Q E → vs.length = ps.length
  runs : ∀ (A : Around) (outer : List Env) (s : Shared) (H : Hp) (args : Args) (us : List Value) (vs : List V) (Q : VK) (E : XK),
    Room k A → Quiet A → Env0 P w K mg base A outer s H → BindsTo s fd args (ps.zip us) → Vals vs us → sp vs H Q E →
      codeAny (model P w) A (.call (.ref f) args) (CR CX outer P w H s Q E) s

section
variable {P : Program} {w : World} {K : W.Frag} {mg : Str → Option Value} {base : Heap} {CX : CXT} {j k : Nat} {f : Addr} {fd : FuncData} {ps : List Str} {sp : Sp}
theorem FnG.of (F : FnOk P w K mg base CX k f fd ps sp) : FnG P w K mg base CX k f fd ps sp :=
  ⟨F.len, fun A outer s H args us vs Q E hr _ => F.run A outer s H args us vs Q E hr⟩
theorem FnG.up (F : FnG P w K mg base CX j f fd ps sp) (h : j ≤ k) : FnG P w K mg base CX k f fd ps sp :=
  ⟨F.many, fun A outer s H args us vs Q E hr => F.runs A outer s H args us vs Q E (hr.mono h)⟩
theorem FnG.weak {sp' : Sp} (F : FnG P w K mg base CX k f fd ps sp) (h : ∀ vs H Q E, sp' vs H Q E → sp vs H Q E) : FnG P w K mg base CX k f fd ps sp' :=
  ⟨fun vs H Q E q => F.many vs H Q E (h _ _ _ _ q), fun A outer s H args us vs Q E hr hq he hb hv hs => F.runs A outer s H args us vs Q E hr hq he hb hv (h _ _ _ _ hs)⟩
end

/-- a def of the module by its name, with its promise -/
structure CalG (P : Program) (w : World) (K : W.Frag) (mg : Str → Option Value) (base : Heap) (CX : CXT) (k : Nat) (x : Str) (sp : Sp) : Prop where
  ex : ∃ (f : Addr) (fd : FuncData) (ps : List Str), FnG P w K mg base CX k f fd ps sp ∧ mg x = some (.ref f) ∧ W.keepIn K (.ref f) = true ∧ Binds K fd ps []

section
variable {X : Cx} {CX : CXT} {j k : Nat} {f : Addr} {fd : FuncData} {ps : List Str} {sp : Sp} {E : XK} {x : Str} {p pos : Pos} {e : Expr} {es : List Expr} {t : TA}
theorem goes {pins : List (Addr × Obj)} {σ : St} {H : Hp} {s : Shared} {Q : VK} {us : List Value} {vs : List V} (F : FnG X.prog X.w X.K X.mg X.base CX k f fd ps sp) (hr : Room k X.A) (hq : Quiet X.A)
    (hb : Binds X.K fd ps []) (hx : Passes CX X E) (I : Inv X pins σ H s) (r : Vals vs us) (h : sp vs H Q E) :
    wpAny (model X.prog X.w) X.A (call (.ref f) us) (EP X pins σ Q) X.xe s := by
  have hl : (us ++ []).length = ps.length := by
    rw [List.append_nil, ← r.length]
    exact F.many vs H Q E h
  have b := hb s us I.kIn hl
  rw [List.append_nil] at b
  have main := F.runs X.A X.stack s H ⟨us, []⟩ us vs Q E hr hq I.env0 b r h
  refine wpAny_call (codeAny_mono main ?_)
  intro res s' z
  match res, z with
  | .error er, z => exact hx pins σ H s er s' I z
  | .ok (.ret u), z => exact I.after z
theorem pe_g (c : CalG X.prog X.w X.K X.mg X.base CX j x sp) (hr : Room k X.A) (hjk : j ≤ k) (hq : Quiet X.A) (hx : Passes CX X E) (hg : Gl X x) (ha : PA X (e :: es) t)
    (hdb : (x == ("__debug__" : Str)) = false := by decide) (he : starEach (e :: es) X.env = (false, eval e X.env) :: starEach es X.env := by rfl) (hpl : (backTo pos (starEach es X.env)).any (·.1) = false := by rfl) :
    PE X (.Call (.Name x p) (e :: es) [] pos) (tCall sp [] E t) := by
  obtain ⟨f, fd, ps, F, hm, hk, hb⟩ := c.ex
  constructor
  intro pins s σ H Q I h
  refine wpAny_Call_Name_kw (ld_glob I hg hm ?_ hdb)
  refine W.callWith_K (h₀ := X.base) I.ok.mod.kin hk (thn (ha.run pos pins s σ H _ I h) ?_) he hpl
  rintro us s1 ⟨vs, H1, I1, r, q⟩
  rw [List.append_nil] at q
  exact ⟨I1.kIn, goes (F.up hjk) hr hq hb hx I1 r q⟩
theorem pe_g0 (c : CalG X.prog X.w X.K X.mg X.base CX j x sp) (hr : Room k X.A) (hjk : j ≤ k) (hq : Quiet X.A) (hx : Passes CX X E) (hg : Gl X x) (hdb : (x == ("__debug__" : Str)) = false := by decide) :
    PE X (.Call (.Name x p) [] [] pos) (tCall sp [] E tNil) := by
  obtain ⟨f, fd, ps, F, hm, hk, hb⟩ := c.ex
  constructor
  intro pins s σ H Q I h
  refine wpAny_Call_Name_kw (ld_glob I hg hm ?_ hdb)
  exact W.callWith_K0 I.kIn hk (goes (us := []) (F.up hjk) hr hq hb hx I .nil h)
end

/-- a def of the text by its body -/
theorem body_g {CX : CXT} {P : Program} {w : World} {K : W.Frag} {mg : Str → Option Value} {base : Heap} {x qual : Str} {st : Stmt} {f : Addr} {fd : FuncData} {N ps : List Str} {k : Nat} {sp : Sp}
    (F : Fun K x qual st f fd) (S : FnScope N ps (defScope st)) (many : ∀ vs H Q E, sp vs H Q E → vs.length = ps.length)
    (hbody : ∀ (cdv : Value) (A : Around) (outer : List Env) (s : Shared) (H : Hp) (vs : List V) (Q : VK) (E : XK), Room k (A.deeper (envOfC qual (defScope st) s.heap.objs.size f cdv)) → Quiet (A.deeper (envOfC qual (defScope st) s.heap.objs.size f cdv)) → sp vs H Q E →
      ∃ t, PSs (cxOf CX P w K mg base N qual (defScope st) f cdv A outer s H E) (defBody st) t ∧ t { nx := fun _ H' => Q .non H', rt := Q } (start N vs) H) :
    FnG P w K mg base CX (k + 1) f fd ps sp := by
  obtain ⟨oc, od, kV, doc, pm, an, cdv, ct, osl, rfl, lk, hcd⟩ := F.ex
  refine ⟨many, ?_⟩
  intro A outer s H args us vs Q E hr hq e0 hb r hsp
  have hk0 : ∀ b o, base.get? b = some o → s.heap.get? b = some o := fun b o e => (e0.bs b o e).1
  have KX : K.In s.heap := e0.mod.kin.keeps hk0
  have lim : s.heap.NoLimit := e0.mod.nolimit.keeps hk0
  have hkind : ∀ y ∈ ps.zip us, (defScope st).names.lookup y.1 = some .local ∨ ((defScope st).names.lookup y.1 = some .cell ∧ ((cellsFrom (s.heap.objs.size + 1) (defScope st).names []).lookup y.1).isSome = true) := by
    rintro ⟨n, v⟩ hy
    cases S.par n (List.of_mem_zip hy).1 with
    | inl q => exact .inl q
    | inr q => exact .inr ⟨q, W.cellsFrom_some _ _ _ (.inl q)⟩
  refine codeAny_call_function hr.depth (KX _ _ lk) rfl S.co S.gen rfl (W.codeRec_of KX hcd) (hb _ _ _ _ (wpAny_newFunctionEnv_cells S.kind hkind ?_))
  rintro env rfl s1 x
  refine ⟨lim.keeps x.toInCall.keep, codeAny_func ?_⟩
  obtain ⟨t, ht, hq'⟩ := hbody cdv A outer s H vs Q E (hr.deeper _) hq hsp
  have I := inv_start (CX := CX) (E := E) S hr.hd e0 (many _ _ _ _ hsp) r x
  refine wpAny_mono (ht.run [] s1 (start N vs) H _ I hq') ?_ (fun e s' hs => hs)
  intro fl s' hs
  match fl, hs with
  | .ret u, ⟨v, σ', H', J, rv, q⟩ => exact (⟨v, H', J.os, J.bare, J.base, J.hok, rv, q⟩ : CE outer P w H s Q u s')
  | .next, ⟨σ', H', J, q⟩ => exact (⟨.non, H', J.os, J.bare, J.base, J.hok, rfl, q⟩ : CE outer P w H s Q .none s')
  | .brk, ⟨_, _, _, q⟩ => exact q.elim
  | .cont, ⟨_, _, _, q⟩ => exact q.elim
/-- the same where nothing is raised out of it -/
theorem body_g0 {P : Program} {w : World} {K : W.Frag} {mg : Str → Option Value} {base : Heap} {x qual : Str} {st : Stmt} {f : Addr} {fd : FuncData} {N ps : List Str} {k : Nat} {sp : Sp}
    (F : Fun K x qual st f fd) (S : FnScope N ps (defScope st)) (many : ∀ vs H Q E, sp vs H Q E → vs.length = ps.length)
    (hbody : ∀ (cdv : Value) (A : Around) (outer : List Env) (s : Shared) (H : Hp) (vs : List V) (Q : VK) (E : XK), Room k (A.deeper (envOfC qual (defScope st) s.heap.objs.size f cdv)) → Quiet (A.deeper (envOfC qual (defScope st) s.heap.objs.size f cdv)) → sp vs H Q E →
      ∃ t, PSs (cxOf CX0 P w K mg base N qual (defScope st) f cdv A outer s H E).nox (defBody st) t ∧ t { nx := fun _ H' => Q .non H', rt := Q } (start N vs) H) :
    FnG P w K mg base CX0 (k + 1) f fd ps sp :=
  body_g F S many fun cdv A outer s H vs Q E hr hq hsp =>
    let ⟨t, h, q⟩ := hbody cdv A outer s H vs Q E hr hq hsp
    ⟨t, h.nox, q⟩
end L2.My
/-! The end of a law over FnG -/
namespace L2.My
open PySem PySem.Spec PyProof.Rows

theorem seen_as {P : Program} {w : World} {K : W.Frag} {mg mb : Str → Option Value} {k : Nat} {fa a : Addr} {fd : FuncData} {x : Str} {sp : Sp} {s1 : Shared} {vs : List Value} {H : Hp}
    (KX : K.In s1.heap) (hns : s1.heap.Ns mainGlobals mg) (hb : s1.heap.Ns builtinsNs mb) (hbb : ∀ x : Str, x ≠ "__name__" → mb x = bootBuiltins x) (hlim : s1.heap.NoLimit) (hg : s1.gens = #[])
    (ha : s1.heap.get? a = some { cls := .type "list", data := .seq vs.toArray }) (hr : Room k callerA)
    (hsys : ∃ m, s1.heap.Ns sysModules m) (F : ∀ base : Heap, K.In base → base.Ns mainGlobals mg → (∃ m, base.Ns sysModules m) → FnG P w K mg base CX0 k fa fd [x] sp) (hbind : ∀ (s : Shared) (u : Value), BindsTo s fd ⟨[u], []⟩ [(x, u)])
    (hO : Only H) (hok : HOk P w H s1.heap) (hA : ∀ b, H b ≠ none → b = a) (hK : H a ≠ none → K.lookup a = none) (q : sp [.ref a] H (fun v _ => v = .bl true) fun _ _ _ => False) :
    codeAny (model P w) callerA (.call (.ref fa) ⟨[.ref a], []⟩) (fun r s' => r = .ok (.ret (.bool true)) ∧ OldK s1.heap s'.heap ∧ s'.os = s1.os ∧ AllBare s'.gens) s1 := by
  -- a tracked place is the script's
  have only : ∀ {b : Addr} {u : HO}, H b = some u → b = a := by
    intro b u e
    exact hA b (by rw [e]; exact (fun z => by cases z))
  have laid : ∀ {b : Addr} {o : Obj}, s1.heap.get? b = some o → (b = a → False) → (hidT s1.heap H).get? b = some o := by
    intro b o e ne
    cases h : H b with
    | none => exact hidT_get e h
    | some u => exact (ne (only h)).elim
  have dict : ∀ {b : Addr} {m : Str → Option Value}, s1.heap.Ns b m → (hidT s1.heap H).Ns b m := by
    rintro b m ⟨o, es, ep, e, d, r⟩
    refine ⟨o, es, ep, laid e (fun z => ?_), d, r⟩
    rw [z, ha] at e
    have e' := Option.some.inj e
    rw [← e'] at d
    exact Data.noConfusion d
  have part : K.In (hidT s1.heap H) := by
    intro b o e
    cases h : H b with
    | none => exact hidT_get (KX b o e) h
    | some u =>
      obtain rfl := only h
      rw [hK (by rw [h]; exact (fun z => by cases z))] at e
      cases e
  have md : Mod K mg (hidT s1.heap H) := ⟨part, dict hns, ⟨mb, dict hb, hbb⟩, hlim.elim fun mc z => ⟨mc, dict z.1, z.2⟩⟩
  have env : Env0 P w K mg (hidT s1.heap H) callerA [] s1 H := ⟨rfl, md, fun b o => of_hidT, Nat.le_of_eq (hidT_size _ _), trivial, (fun b z => (nomatch z)), hok, .of_eq hg⟩
  have run := (F _ part (dict hns) (hsys.elim fun m z => ⟨m, dict z⟩)).runs callerA [] s1 H ⟨[.ref a], []⟩ [.ref a] [.ref a] _ _ hr rfl env (hbind s1 (.ref a)) (.cons rfl .nil) q
  refine codeAny_mono run ?_
  intro r s2 z
  match r, z with
  | .ok (.ret u), ⟨v, H2, os, bare, un, hok2, rv, ev⟩ =>
    have ev' : v = .bl true := ev
    subst ev'
    have eu : u = Value.bool true := rv
    subst eu
    refine ⟨rfl, OldK.of_keep (fun b o e => ?_), os, bare⟩
    cases h : H b with
    | none => exact un.keep b o e h (fun z => nomatch z) (fun z => nomatch z)
    | some u =>
      cases hO b with
      | inl y => rw [h] at y; cases y
      | inr y =>
        obtain ⟨ob, xs, y⟩ := y
        have e1 := (hok b _ y).1
        have e2 := (hok2 b _ (un.frzs b ob _ y)).1
        rw [e1] at e
        rw [← Option.some.inj e]
        exact e2

theorem top_g {l : W.OpenLaw} {n k : Nat} {q : Program} {loose : List Str} {XP : (Str → Option Value) → Heap → Prop} {YP : World → Heap → Prop} {d : DefRec} {K : Params → W.Frag} {sp : W.Frag → Sp} {x : Str}
    (hi : importsNone q = true) (hn : l.most = some n) (hn2 : n ≤ sizeLine) (hdf : d.params.defaults = []) (hr : Room k callerA)
    (hY : ∀ (w : World) (h : Heap), YP w h → (K w.params).In h)
    (F : ∀ (w : World) (mg : Str → Option Value) (fa : Addr) (h : Heap), (K w.params).In h → h.Ns mainGlobals mg → mg d.name = some (.ref fa) →
      ∃ fd : FuncData, (∀ (s : Shared) (u : Value), BindsTo s fd ⟨[u], []⟩ [(x, u)]) ∧ ∀ base : Heap, (K w.params).In base → base.Ns mainGlobals mg → (∃ m, base.Ns sysModules m) → FnG l.prog w (K w.params) mg base CX0 k fa fd [x] (sp (K w.params)))
    (hsp : ∀ (K : W.Frag) (H : Hp) (a : Addr) (ns : List Int), ns.length ≤ n → Only H → SqL K H a (ns.map V.int) → sp K [.ref a] H (fun v _ => v = .bl true) fun _ _ _ => False) :
    W.WalkO q loose XP YP l.row.toRowW d [] (fun f vs => PySem.call f vs) := by
  refine Att.attach_call hn hdf ?_
  intro w s0 s1 mg mb fa o pm cd doc a vs ns G Y ho hd hcd hmg hobj hints hlen hg
  have KX := hY w _ Y
  obtain ⟨fd, hb, hF⟩ := F w mg fa _ KX G.T.g hmg
  have rv := vals_ints hints
  have hs : ∃ m, s1.heap.Ns sysModules m := (G.T.seer hi).mods.elim fun m z => ⟨m, z.1⟩
  have lenV := hints.length
  have small : ns.length ≤ sizeLine := Nat.le_trans hlen hn2
  cases hk : (K w.params).lookup a with
  | some ob =>
    have e := KX a ob hk
    rw [hobj] at e
    obtain rfl := Option.some.inj e
    refine seen_as (H := fun _ => none) KX G.T.g G.T.b G.T.builtins G.T.nolimit hg hobj hr hs hF hb (fun _ => .inl rfl) (fun b u z => by cases (show (none : Option HO) = some u from z)) (fun b z => absurd rfl z) (fun z => absurd rfl z) (hsp _ _ _ _ hlen (fun _ => .inl rfl) ?_)
    exact .inr ⟨_, vs.toArray, _, hk, rfl, rfl, rfl, by rw [List.size_toArray, lenV]; exact small, by simpa using rv⟩
  | none =>
    let H : Hp := fun b => if b = a then some (.frz { cls := .type "list", data := .seq vs.toArray } (.lst (ns.map V.int))) else none
    have at_a : H a = some (.frz { cls := .type "list", data := .seq vs.toArray } (.lst (ns.map V.int))) := if_pos rfl
    have off : ∀ b, b ≠ a → H b = none := fun b z => if_neg z
    have hO : Only H := fun b => by
      by_cases z : b = a
      · rw [z]; exact .inr ⟨_, _, at_a⟩
      · exact .inl (off b z)
    refine seen_as (H := H) KX G.T.g G.T.b G.T.builtins G.T.nolimit hg hobj hr hs hF hb hO (fun b u z => ?_) (fun b z => ?_) (fun _ => hk) (hsp _ _ _ _ hlen hO (.inl (.inr ⟨_, at_a⟩)))
    · by_cases y : b = a
      · subst y
        rw [at_a] at z
        obtain rfl := Option.some.inj z
        exact ⟨hobj, by rw [List.length_map]; exact small, vs, _, rv, hobj⟩
      · rw [off b y] at z
        cases z
    · by_cases y : b = a
      · exact y
      · exact absurd (off b y) z
end L2.My
/-! Data at any depth, dicts too; repr of it -/
namespace L2.My
open PySem PySem.Spec PyProof.Rows

def keyD : Key → PyData
  | .inl i => .int i
  | .inr x => .str x
mutual
inductive Dq (K : W.Frag) (H : Hp) : V → PyData → Prop
  | non : Dq K H .non .none
  | bl (b : Bool) : Dq K H (.bl b) (.bool b)
  | int (i : Int) : Dq K H (.int i) (.int i)
  | str (x : Str) : Dq K H (.str x) (.str x)
  | lst {a : Addr} {xs : List V} {ds : List PyData} : SqL K H a xs → DqAll K H xs ds → Dq K H (.ref a) (.list ds)
  | tup {a : Addr} {xs : List V} {ds : List PyData} : SqT K H a xs → DqAll K H xs ds → Dq K H (.ref a) (.tuple ds)
  | dic {a : Addr} {kvs : List (Key × V)} {ds : List (PyData × PyData)} : H a = some (.dK kvs) → DqKv K H kvs ds → Dq K H (.ref a) (.dict ds)
inductive DqAll (K : W.Frag) (H : Hp) : List V → List PyData → Prop
  | nil : DqAll K H [] []
  | cons {v : V} {vs : List V} {d : PyData} {ds : List PyData} : Dq K H v d → DqAll K H vs ds → DqAll K H (v :: vs) (d :: ds)
inductive DqKv (K : W.Frag) (H : Hp) : List (Key × V) → List (PyData × PyData) → Prop
  | nil : DqKv K H [] []
  | cons {k : Key} {v : V} {r : List (Key × V)} {d : PyData} {ds : List (PyData × PyData)} : Dq K H v d → DqKv K H r ds → DqKv K H ((k, v) :: r) ((keyD k, d) :: ds)
end

section
variable {X : Cx} {pins : List (Addr × Obj)} {σ : St} {H : Hp} {s : Shared}
theorem apart_sys {m : Str → Option Value} {a : Addr} {o : Obj} {its : Array Value} {n : Nat} (hs : X.base.Ns sysModules m) (I : Inv X pins σ H s) (ho : s.heap.get? a = some o) (hd : o.data = .seq its n) : a ≠ sysModules := by
  obtain ⟨ob, es, ep, e, d, _⟩ := hs
  intro z
  have e2 := I.bk _ _ e
  rw [← z, ho] at e2
  rw [Option.some.inj e2, d] at hd
  cases hd
theorem key_reads {w : World} {prog : Program} {h : Heap} {k : Key} {v : Value} (e : (mixKind prog w).is k v = true) : Reads h v (keyD k) [] := by
  rcases keyIs_shape (show keyIs k v = true from e) with ⟨i, t, rfl, rfl⟩ | ⟨x, t, rfl, rfl⟩
  · exact .int i t
  · exact .str x t
/-- the keys of a dict read -/
theorem keys_read {prog : Program} {w : World} {h : Heap} : ∀ {es : List DictEntry} {kvs : List (Key × Value)}, Pairs (mixKind prog w) es kvs → ReadsAll h (es.map (·.key)) (kvs.map fun p => keyD p.1) []
  | _, _, .nil => .nil
  | _, _, .cons h1 _ h3 => ReadsAll.cons (as := []) (bs := []) (key_reads h1) (keys_read h3)
theorem vals_of {prog : Program} {w : World} : ∀ {es : List DictEntry} {kvs : List (Key × Value)}, Pairs (mixKind prog w) es kvs → es.map (·.val) = kvs.map (·.2)
  | _, _, .nil => rfl
  | _, _, .cons _ h2 h3 => by rw [List.map_cons, List.map_cons, h2, vals_of h3]
mutual
theorem Dq.reads {m : Str → Option Value} (hs : X.base.Ns sysModules m) (I : Inv X pins σ H s) : ∀ (d : PyData) (v : V) (u : Value), Dq X.K H v d → RelV v u → ∃ as, Reads s.heap u d as ∧ sysModules ∉ as
  | .none, _, _, h, r => by
    cases h; cases r
    exact ⟨_, .none, fun z => (nomatch z)⟩
  | .bool b, _, _, h, r => by
    cases h; cases r
    exact ⟨_, .bool b, fun z => (nomatch z)⟩
  | .int i, _, _, h, r => by
    cases h
    obtain ⟨t, rfl⟩ := r
    exact ⟨_, .int i t, fun z => (nomatch z)⟩
  | .str x, _, _, h, r => by
    cases h
    obtain ⟨t, rfl⟩ := r
    exact ⟨_, .str x t, fun z => (nomatch z)⟩
  | .list ds, _, _, h, r => by
    cases h with
    | lst hl ha =>
      cases r
      obtain ⟨its, rv, ⟨o, n, ho, hc, _, hd⟩, _⟩ := I.list hl
      obtain ⟨as, hr, no⟩ := Dq.readsAll hs I ds _ its ha rv
      refine ⟨_, Reads.list ho hc hd hr, fun z => ?_⟩
      rcases List.mem_cons.mp z with e | e
      · exact apart_sys hs I ho hd e.symm
      · exact no e
  | .tuple ds, _, _, h, r => by
    cases h with
    | tup ht ha =>
      cases r
      obtain ⟨its, rv, ⟨o, ho, hc, n, hd⟩, _⟩ := I.tuple ht
      obtain ⟨as, hr, no⟩ := Dq.readsAll hs I ds _ its ha rv
      exact ⟨_, Reads.tuple ho hc hd hr, no⟩
  | .dict ds, _, _, h, r => by
    cases h with
    | dic hd ha =>
      cases r
      obtain ⟨_, lo, vs, kv, o, es, ep, ho, hc, hdat, _, hp, _⟩ := I.hok _ _ hd
      obtain ⟨as, hr, no, ek⟩ := Dq.readsKv hs I ds _ vs ha kv
      refine ⟨_, Reads.dict (as := []) ho hc.1 hdat ?_ (by rw [vals_of hp]; exact hr), fun z => ?_⟩
      · rw [ek]
        exact keys_read hp
      · rcases List.mem_cons.mp (show sysModules ∈ _ :: as from z) with e | e
        · rw [← e] at lo
          exact absurd lo (by decide)
        · exact no e
theorem Dq.readsAll {m : Str → Option Value} (hs : X.base.Ns sysModules m) (I : Inv X pins σ H s) : ∀ (ds : List PyData) (vs : List V) (us : List Value), DqAll X.K H vs ds → Vals vs us → ∃ as, ReadsAll s.heap us ds as ∧ sysModules ∉ as
  | [], _, _, h, r => by
    cases h; cases r
    exact ⟨_, .nil, fun z => (nomatch z)⟩
  | d :: ds, _, _, h, r => by
    cases h with
    | cons h1 h2 =>
      cases r with
      | cons r1 r2 =>
        obtain ⟨as, q1, n1⟩ := Dq.reads hs I d _ _ h1 r1
        obtain ⟨bs, q2, n2⟩ := Dq.readsAll hs I ds _ _ h2 r2
        exact ⟨_, .cons q1 q2, fun z => (List.mem_append.mp z).elim n1 n2⟩
theorem Dq.readsKv {m : Str → Option Value} (hs : X.base.Ns sysModules m) (I : Inv X pins σ H s) : ∀ (ds : List (PyData × PyData)) (vs : List (Key × V)) (us : List (Key × Value)), DqKv X.K H vs ds → KV vs us →
    ∃ as, ReadsAll s.heap (us.map (·.2)) (ds.map (·.2)) as ∧ sysModules ∉ as ∧ ds.map (·.1) = us.map fun p => keyD p.1
  | [], _, _, h, r => by
    cases h; cases r
    exact ⟨_, .nil, fun z => (nomatch z), rfl⟩
  | (e, d) :: ds, _, _, h, r => by
    cases h with
    | cons h1 h2 =>
      cases r with
      | @cons _ q _ qs r1 r2 =>
        obtain ⟨as, q1, n1⟩ := Dq.reads hs I d _ _ h1 r1.2
        obtain ⟨bs, q2, n2, ek⟩ := Dq.readsKv hs I ds _ _ h2 r2
        have r11 := r1.1
        dsimp only at r11
        refine ⟨_, .cons q1 q2, fun z => (List.mem_append.mp z).elim n1 n2, ?_⟩
        rw [List.map_cons, List.map_cons, ek, ← r11]
end
end

section
variable {X : Cx} {m : Str → Option Value}
/-- repr(x) of a list, a tuple, a dict of data -/
def rRepr (K : W.Frag) : List V → Hp → VK → Prop := fun xs H Q => ∃ (a : Addr) (d : PyData), xs = [.ref a] ∧ Dq K H (.ref a) d ∧ d.showable = true ∧ d.depth ≤ 60 ∧ d.shown.length ≤ sizeLine ∧ Q (.str d.shown) H
theorem call_repr (hs : X.base.Ns sysModules m) (hq : Quiet X.A) (hu : X.A.units + 64 < cLine) : CallR X (.builtin "repr") (rRepr X.K) := by
  intro pins s σ H xs us Q I r h
  obtain ⟨a, d, rfl, hd, h1, h2, h3, q⟩ := h
  cases r with
  | cons r0 r1 =>
    cases r1
    obtain rfl := r0
    obtain ⟨as, hr, no⟩ := Dq.reads hs I d _ _ hd rfl
    refine repr_of_reads' hr h1 (fun _ => no) hq (by omega) (fun _ _ e => e) (fun h' u tk hk => ?_) h3
    exact ⟨.str d.shown, H, I.kept hk, ⟨u, rfl⟩, q⟩
end
end L2.My
/-! Making an instance of an own exception class with an own __init__, over any built-in base (KeyError too, whose maker is LookupError's) -/
namespace PySem.Mine
open PySem.W PySem.Calls PyProof.Rows PySem.HandSPX

/-- what must be known of the bases: the maker's own class is among them, AttributeError and NameError are not -/
structure Ring (B : String) (bm : List Value) : Prop where
  own : bm.contains (.type B) = true
  att : bm.contains (.type "AttributeError") = false
  nam : bm.contains (.type "NameError") = false

section
variable {prog : Program} {w : World} {A : Around} {E : Value → Shared → Prop} {R : Result → Shared → Prop} {h : Heap} {g : Array GenState} {d : Drawn} {t : Nat} {os : OsState}
variable {nm q : Str} {C N : Addr} {bs bm bmB : List Value} {hdct : Bool} {sn : List Str} {sub : List Value} {ab : Bool} {col : Option Bool} {dd : Option Addr} {k0 k1 k2 k3 k5 : Option Value} {B newId initId : String}

theorem own_in (r : Ring B bm) : (Value.ref C :: bm).contains (.type B) = true := by
  rw [List.contains_cons, r.own, Bool.or_true]
theorem att_out (r : Ring B bm) : (Value.ref C :: bm).contains (.type "AttributeError") = false := by
  rw [List.contains_cons, r.att]; rfl
theorem nam_out (r : Ring B bm) : (Value.ref C :: bm).contains (.type "NameError") = false := by
  rw [List.contains_cons, r.nam]; rfl

theorem checked {M : Model} (F : ExcBaseFacts B newId initId bmB) (r : Ring B bm) {rest : List Value} {kw : List (Str × Value)} {Q : Unit → Shared → Prop}
    (hC : h.get? C = some (excClassObj nm q C N bs bm hdct sn sub ab col dd k0 k1 k2 k3 k5 newId)) (z : Q () ⟨h, g, d, t, os⟩) :
    wpAny M A (checkBuiltinCall newId ⟨.ref C :: rest, kw⟩) Q E ⟨h, g, d, t, os⟩ := by
  have i := own_in (C := C) r
  have star := F.noStar
  simp only [checkBuiltinCall, F.newKind, F.newSplit, F.newRow]
  repeat (first
    | refine wpAny_loadPart_at hC ?_
    | (refine wpAny_isSubtype_exc hC ?_; rw [i])
    | refine wpAny_staticBase_exc hC ?_
    | refine wpAny_madeBy_exc hC ?_
    | simp only [bne_self_eq_false, Bool.false_eq_true, if_false]
    | wp_step)
  exact z

theorem fresh_exc (F : ExcBaseFacts B newId initId bmB) (r : Ring B bm) {rest : List Value} {kw : List (Str × Value)} (small : rest.length ≤ sizeLine)
    (hC : h.get? C = some (excClassObj nm q C N bs bm hdct sn sub ab col dd k0 k1 k2 k3 k5 newId))
    (z : R (.ok (.ret (.ref (h.objs.size + 1)))) ⟨(h.push (W.kdv_tup rest)).push (excO C h.objs.size), g, d, t, os⟩) :
    codeAny (model prog w) A (.builtin newId ⟨.ref C :: rest, kw⟩) R ⟨h, g, d, t, os⟩ := by
  have e := F.ends
  have i1 := own_in (C := C) r
  have i2 := att_out (C := C) r
  have i3 := nam_out (C := C) r
  refine codeAny_builtinAt F.entry ?_
  unfold Builtin.«BaseException.__new__»
  refine wpAt_bind ?_
  show wpAt _ _ _ (stack >>= _) _ _ _
  refine wpAt_bind (wpAt_stack fun p below => wpAt_of_wpAny ?_)
  wp_walk
  refine wpAt_of_wpAny ?_
  rw [F.owner]
  repeat (first
    | with_reducible refine wpAny_madeHere_exc F.canon hC ?_
    | with_reducible refine wpAny_loadPart_at hC ?_
    | (with_reducible refine wpAny_isSubtype_exc hC ?_; first | rw [i1] | rw [i2] | rw [i3])
    | wp_step)
  show R _ _
  rw [Heap.size_push]
  exact z

theorem made_typed (F : ExcBaseFacts B newId initId bmB) (r : Ring B bm) {rest : List Value} {kw : List (Str × Value)} {fI : Addr} {Q : Fin → Shared → Prop} (small : rest.length ≤ sizeLine)
    (hC : h.get? C = some (excClassObj nm q C N bs bm hdct sn sub ab col dd k0 k1 k2 k3 k5 newId))
    (hi : W.Looks (model prog w) h (typeLookup (.ref C) "__init__") (some (.ref fI)))
    (hb : ∀ self, W.Looks (model prog w) h (bindSpecial (.ref fI) self) (.ref fI, [self]))
    (z : codeAny (model prog w) A (.call (.ref fI) ⟨.ref (h.objs.size + 1) :: rest, kw⟩)
      (fun r s' => match r with
        | .ok (.ret v) => v = .none ∧ Q (.done (.ret (.ref (h.objs.size + 1)))) s'
        | .ok _ => False
        | .error e => E e s')
      ⟨(h.push (W.kdv_tup rest)).push (excO C h.objs.size), g, d, t, os⟩) :
    wpAny (model prog w) A (Builtin.«type.__call__» ⟨.ref C :: rest, kw⟩) Q E ⟨h, g, d, t, os⟩ := by
  repeat (first
    | with_reducible refine wpAny_loadPart_at hC ?_
    | with_reducible refine wpAny_madeBy_exc hC ?_
    | wp_step)
  refine codeAny_call_builtin_code (Code.quiet_builtin _ F.quiet) (checked F r hC ?_)
  refine fresh_exc F r small hC ?_
  show wpAny _ _ _ _ _ _
  have keep : ∀ b o, h.get? b = some o → ((h.push (W.kdv_tup rest)).push (excO C h.objs.size)).get? b = some o :=
    fun b o e => Heap.get?_push_of_some _ (Heap.get?_push_of_some _ e)
  have c1 := keep _ _ hC
  have x1 : ((h.push (W.kdv_tup rest)).push (excO C h.objs.size)).get? (h.objs.size + 1) = some (excO C h.objs.size) := by
    heap_get
  have cc : (Value.ref C :: bm).contains (.ref C) = true := by
    simp
  have j1 := hi.keeps keep
  have j2 := (hb (.ref (h.objs.size + 1))).keeps keep
  unfold isInstance
  repeat (first
    | with_reducible refine wpAny_loadPart_at x1 ?_
    | (with_reducible refine wpAny_isSubtype_exc c1 ?_; rw [cc])
    | wp_step)
  show wpAny _ _ (typeLookup (.ref C) _) _ _ _
  refine j1.at ?_
  refine wpAny_holding (wpAny_bind (j2.at ?_))
  refine wpAny_bind (wpAny_call (codeAny_mono z ?_))
  intro res s' y
  match res, y with
  | .error _, y => exact y
  | .ok (.ret _), ⟨rfl, y⟩ =>
    first
      | exact wpAny_pure (wpAny_pure y)
      | (wp_walk; exact y)

/-- C(..) of an own exception class with an own __init__ -/
theorem called (F : ExcBaseFacts B newId initId bmB) (r : Ring B bm) {rest : List Value} {kw : List (Str × Value)} {fI : Addr} (small : rest.length ≤ sizeLine)
    (hC : h.get? C = some (excClassObj nm q C N bs bm hdct sn sub ab col dd k0 k1 k2 k3 k5 newId))
    (hi : W.Looks (model prog w) h (typeLookup (.ref C) "__init__") (some (.ref fI)))
    (hb : ∀ self, W.Looks (model prog w) h (bindSpecial (.ref fI) self) (.ref fI, [self]))
    (z : codeAny (model prog w) (A.under (.builtin "type.__call__" ⟨.ref C :: rest, kw⟩)) (.call (.ref fI) ⟨.ref (h.objs.size + 1) :: rest, kw⟩) (W.InitBack (h.objs.size + 1) R)
      ⟨(h.push (W.kdv_tup rest)).push (excO C h.objs.size), g, d, t, os⟩) :
    codeAny (model prog w) A (.call (.ref C) ⟨rest, kw⟩) R ⟨h, g, d, t, os⟩ := by
  have f1 := tc_lookup
  have f2 := tc_bind (.ref C)
  have ty : (⟨h, g, d, t, os⟩ : Shared).TypeIs (.ref C) "type" := ⟨_, hC, rfl⟩
  refine codeAny_of_tree ?_
  show wpAny _ _ (callAny (.ref C) _) _ _ _
  repeat (any_goals (first
    | assumption
    | with_reducible refine wpAny_loadPart_at hC ?_
    | wp_step))
  refine ⟨rfl, ?_⟩
  refine codeAny_call_builtin_at (Code.quiet_builtin _ (by decide +kernel)) entry_typeCall (wpAny_check_type_call_sub hC (made_typed F r small hC hi hb ?_))
  refine codeAny_mono z ?_
  intro res s' y
  match res, y with
  | .error _, y => exact y
  | .ok (.ret _), y => exact y
end
end PySem.Mine
/-! Own exceptions as values: made, their fields stored and read, isinstance -/
namespace L2.My
open PySem PySem.Spec PyProof.Rows Builtin.ObjectAttr

/-- what the written part says of an own exception class -/
structure ExK (K : W.Frag) (C : Addr) : Prop where
  made : ∃ (B newId initId : String) (bmB bm : List Value) (nm q : Str) (N : Addr) (bs : List Value) (hdct : Bool) (sn : List Str) (sub : List Value) (ab : Bool) (col : Option Bool) (dd : Option Addr) (k0 k1 k2 k3 k5 : Option Value),
    ExcBaseFacts B newId initId bmB ∧ Mine.Ring B bm ∧ K.lookup C = some (excClassObj nm q C N bs bm hdct sn sub ab col dd k0 k1 k2 k3 k5 newId)
  over : ∃ (B : String) (bmB : List Value), StoreFacts B bmB "object.__setattr__" "object" ∧ W.excOver K C bmB = true
  sa : W.findIn K (.ref C) "__setattr__" = some (some (.builtin "object.__setattr__"))
  hd : W.hasDictIn K C = true
  ga : W.findIn K (.ref C) "__getattribute__" = some (some (.builtin "BaseException.__getattribute__"))
  gg : W.findIn K (.ref C) "__getattr__" = some none
  ex : W.subIn K (.ref C) (.type "BaseException") = some true
  cl : W.findIn K (.ref C) "__class__" = some (some (.builtin "object.__class__"))
  ob : W.mroIn K C (.type "object") = some true
  kp : W.keepIn K (.ref C) = true
structure ExA (K : W.Frag) : Prop where
  gt : W.specialIn K (.builtin "object.__class__") "__get__" = some (some (.builtin "getset_descriptor.__get__"))
  tk : W.takesIn K (.builtin "object.__class__") = some true

abbrev rec0 (C t1 : Addr) (d : Option Addr) : Obj := { cls := .ref C, dict := d, data := .fields #[.ref t1, .none, .none, .none, .bool false, .none] }

section
variable {X : Cx} {pins : List (Addr × Obj)} {σ : St} {H : Hp} {s : Shared} {a C dx : Addr} {f : Str} {y : V} {u : Value} {fs : List (Str × V)} {Q : Unit → Shared → Prop} {E : Value → Shared → Prop}

theorem upd_sw {H : Hp} {a b : Addr} {o p : HO} (h : a ≠ b) : upd (upd H a o) b p = upd (upd H b p) a o := by
  funext c
  by_cases ca : c = a
  · subst ca; rw [upd_ne h, upd_same, upd_same]
  · by_cases cb : c = b
    · subst cb; rw [upd_same, upd_ne ca, upd_same]
    · rw [upd_ne cb, upd_ne ca, upd_ne ca, upd_ne cb]

/-- self.f = y, the first field of an exception -/
theorem field_first (T : ExK X.K C) (I : Inv X pins σ H s) (e : H a = some (exo a C none)) (ht : W.takerIn X.K C f = some none) (ry : RelV y u)
    (z : ∀ dx s', H dx = none → dx ≠ a → Inv X pins σ (upd (upd H dx (exd dx [(f, y)])) a (exo a C (some dx))) s' → Q () s') : wpAny (model X.prog X.w) X.A (setAttr (.ref a) f u) Q E s := by
  obtain ⟨B, bmB, SF, ov⟩ := T.over
  obtain ⟨t1, ho⟩ := exo_at I.hok e
  have at0 : W.InstAt s.heap a (rec0 C t1 none) C none := ⟨ho, rfl, rfl, trivial⟩
  refine W.set_plain I.kIn at0 T.sa ?_
  have I0 := I.tok (s.toks + 1)
  refine W.osa_openX SF I0.kIn at0 ov ht fun b => ?_
  obtain ⟨cd, hc, hd'⟩ := W.any_some T.hd
  refine wpAny_bind (wpAny_pure (wpAny_bind (W.instanceDict_exc (c2 := .none) ho (W.looks_clsIn I0.kIn hc) hd' ?_)))
  show wpAny _ _ (storeInDict s.heap.objs.size (.str f s.toks) f u) _ _ _
  -- the dict is laid
  have fr : H s.heap.objs.size = none := I.hok.fresh (Nat.le_refl _)
  have ne : s.heap.objs.size ≠ a := Nat.ne_of_gt (Heap.lt_size ho)
  have ns0 : (s.heap.push (W.dictOf [] 0)).Ns1 s.heap.objs.size (fun _ => none) :=
    Heap.Ns1.of_empty ⟨_, #[], _, Heap.get?_push_size _ rfl, rfl, fun e he => absurd he (by simp), fun _ => rfl⟩
  have I1 : Inv X pins σ (upd H s.heap.objs.size (exd s.heap.objs.size [])) { s with heap := s.heap.push (W.dictOf [] 0), toks := s.toks + 1 } :=
    I.laid (fun b o q => Heap.get?_push_of_some _ q) (Nat.le_refl _) (exd_ok ns0 fun g => True.intro)
  -- the exception gets it
  have oa : (s.heap.push (W.dictOf [] 0)).get? a = some (rec0 C t1 none) := Heap.get?_push_of_some _ ho
  have e1 : upd H s.heap.objs.size (exd s.heap.objs.size []) a = some (exo a C none) := by rw [upd_ne (Ne.symm ne)]; exact e
  have oa2 : ((s.heap.push (W.dictOf [] 0)).update a fun o => { o with dict := some s.heap.objs.size }).get? a = some (rec0 C t1 (some s.heap.objs.size)) := Heap.get?_update_self _ oa rfl
  have I2 := I1.write (t' := s.toks + 1) (x := a) (e := a) (o := exo a C (some s.heap.objs.size)) (h' := (s.heap.push (W.dictOf [] 0)).update a fun o => { o with dict := some s.heap.objs.size })
    (by rw [e1]; exact True.intro) (.inl rfl) (fun b o hb q => (Heap.get?_update_ne _ _ _ _ hb).trans q) ⟨_, oa2⟩ (exo_ok oa2)
  have ns2 : ((s.heap.push (W.dictOf [] 0)).update a fun o => { o with dict := some s.heap.objs.size }).Ns1 s.heap.objs.size (fun _ => none) :=
    ns0.at fun o q => (Heap.get?_update_ne _ _ _ _ ne).trans q
  refine OEX.store_in_old (ns := []) ns2 Within.nil (Nat.zero_le _) fun h' tk' hn hs => ?_
  have ex2 : upd (upd H s.heap.objs.size (exd s.heap.objs.size [])) a (exo a C (some s.heap.objs.size)) s.heap.objs.size = some (exd s.heap.objs.size []) := by rw [upd_ne ne, upd_same]
  have I3 := I2.write (t' := tk') (x := s.heap.objs.size) (e := s.heap.objs.size) (o := exd s.heap.objs.size [(f, y)]) (h' := h') (by rw [ex2]; exact True.intro) (.inl rfl) (fun b o hb q => (hs.2 b hb).trans q)
    (by obtain ⟨o, _, _, q, _⟩ := hn; exact ⟨o, q⟩) (exd_ok hn (relO_put (fs := []) ry fun g => True.intro))
  rw [upd_sw (Ne.symm ne), upd_upd] at I3
  exact z _ _ fr ne I3

/-- self.f = y, a further field -/
theorem field_more (T : ExK X.K C) (I : Inv X pins σ H s) (e : H a = some (exo a C (some dx))) (ed : H dx = some (exd dx fs)) (hl : fs.length ≤ 900) (ht : W.takerIn X.K C f = some none) (ry : RelV y u)
    (z : ∀ s', Inv X pins σ (upd H dx (exd dx ((f, y) :: fs))) s' → Q () s') : wpAny (model X.prog X.w) X.A (setAttr (.ref a) f u) Q E s := by
  obtain ⟨B, bmB, SF, ov⟩ := T.over
  obtain ⟨t1, ho⟩ := exo_at I.hok e
  obtain ⟨mA, hns, rel⟩ := exd_at I.hok ed
  obtain ⟨oD, esD, nD, hoD, hdD, _⟩ := hns.count (within_of rel)
  have at0 : W.InstAt s.heap a (rec0 C t1 (some dx)) C (some oD) := ⟨ho, rfl, rfl, hoD⟩
  refine W.set_plain I.kIn at0 T.sa ?_
  have I0 := I.tok (s.toks + 1)
  refine W.osa_openX SF I0.kIn at0 ov ht fun b => ?_
  obtain ⟨cd, hc, hd'⟩ := W.any_some T.hd
  refine wpAny_bind (wpAny_pure (wpAny_bind (wpAny_bind (wpAny_loadPart ho (wpAny_bind ((W.looks_clsIn I0.kIn hc).here ?_))))))
  rw [hd']
  refine wpAny_pure (a := some dx) ?_
  refine OEX.store_in_old hns (within_of rel) (by rw [List.length_map]; omega) fun h' tk' hn hs => ?_
  have I3 := I0.write (t' := tk') (x := dx) (e := dx) (o := exd dx ((f, y) :: fs)) (h' := h') (by rw [ed]; exact True.intro) (.inl rfl) (fun b o hb q => (hs.2 b hb).trans q)
    (by obtain ⟨o, _, _, q, _⟩ := hn; exact ⟨o, q⟩) (exd_ok hn (relO_put ry rel))
  exact z _ I3
end
end L2.My
namespace L2.My
open PySem PySem.Spec PyProof.Rows

/-! ### self.f = e in an exception's __init__ -/
def tEfl (K : W.Frag) (f : Str) (to te : TE) : TS := fun D σ H => te σ H fun y H1 => to σ H1 fun x H2 => ∃ a C : Addr, x = .ref a ∧ ExK K C ∧ W.takerIn K C f = some none ∧
  ((H2 a = some (exo a C none) ∧ ∀ dx, H2 dx = none → dx ≠ a → D.nx σ (upd (upd H2 dx (exd dx [(f, y)])) a (exo a C (some dx)))) ∨
    ∃ (dx : Addr) (fs : List (Str × V)), H2 a = some (exo a C (some dx)) ∧ H2 dx = some (exd dx fs) ∧ fs.length ≤ 900 ∧ D.nx σ (upd H2 dx (exd dx ((f, y) :: fs))))
theorem ps_efl {X : Cx} {o e : Expr} {to te : TE} {f : Str} {p' pos : Pos} (ho : PE X o to) (he : PE X e te) (hs : swapsWith e (some (.Attribute o f p')) pos.line X.env = pure false := by rfl) : PS X (.Assign [.Attribute o f p'] e pos) (tEfl X.K f to te) := by
  constructor
  intro pins s σ H D I h
  refine plainObj_wpAny_Assign_Attribute (thn (he.run pins s σ H _ I h) fun v s1 r1 => ?_) hs
  obtain ⟨y, H1, I1, ry, h1⟩ := r1
  refine thn (ho.run pins s1 σ H1 _ I1 h1) fun u s2 r2 => ?_
  obtain ⟨x, H2, I2, rx, a, C, rfl, T, ht, q⟩ := r2
  obtain rfl : u = Value.ref a := rx
  cases q with
  | inl q => exact field_first T I2 q.1 ht ry fun dx s' n ne J => ⟨σ, _, J, q.2 dx n ne⟩
  | inr q =>
    obtain ⟨dx, fs, ea, ed, hl, q⟩ := q
    exact field_more T I2 ea ed hl ht ry fun s' J => ⟨σ, _, J, q⟩

/-! ### e.f of an exception -/
def tEget (K : W.Frag) (f : Str) (te : TE) : TE := fun σ H Q => te σ H fun x H1 => ∃ (a C dx : Addr) (fs : List (Str × V)) (v : V), x = .ref a ∧ ExK K C ∧ W.findIn K (.ref C) f = some none ∧ H1 a = some (exo a C (some dx)) ∧ H1 dx = some (exd dx fs) ∧ fs.lookup f = some v ∧ Q v H1
theorem pe_eget {X : Cx} {e : Expr} {te : TE} {f : Str} {pos : Pos} (he : PE X e te) (hb : attributeBase e f X.env (eval e X.env) = eval e X.env := by rfl) : PE X (.Attribute e f pos) (tEget X.K f te) := by
  constructor
  intro pins s σ H Q I h
  refine attr_of hb (thn (he.run pins s σ H _ I h) fun u s1 r => ?_)
  obtain ⟨x, H1, I1, rx, a, C, dx, fs, v, rfl, T, hno, ea, ed, l, q⟩ := r
  obtain rfl : u = Value.ref a := rx
  obtain ⟨t1, ho⟩ := exo_at I1.hok ea
  obtain ⟨mA, hns, hr⟩ := exd_at I1.hok ed
  obtain ⟨od, hd, hl⟩ := lookIn_ns hns
  obtain ⟨u, hu, ru⟩ := RelO.some_of (v := v) (o := mA f) (by rw [← l]; exact hr f)
  have J : W.InstAt s1.heap a (rec0 C t1 (some dx)) C (some od) := ⟨ho, rfl, rfl, hd⟩
  exact HandSPX.exc_get I1.kIn J T.ga T.gg T.ex (W.findObj_own T.hd hno rfl (by rw [hl, hu])) (handed_of ru) ⟨v, H1, I1.tok _, ru, q⟩

/-! ### isinstance of an exception -/
def rIsX (K : W.Frag) : List V → Hp → VK → Prop := fun xs H Q => ∃ (a C : Addr) (d : Option Addr) (c : V) (cv : Value) (b : Bool), xs = [.ref a, c] ∧ H a = some (exo a C d) ∧ (∀ dx, d = some dx → ∃ fs, H dx = some (exd dx fs)) ∧ ExK K C ∧ ExA K ∧
  (∀ u, RelV c u → u = cv) ∧ W.kitOne K (.ref C) cv = some b ∧ Q (.bl b) H
theorem call_isX {X : Cx} : CallR X (.builtin "isinstance") (rIsX X.K) := by
  intro pins s σ H xs us Q I r h
  obtain ⟨a, C, d, c, cv, b, rfl, ea, ed, T, G, hcv, e, q⟩ := h
  cases r with
  | cons rx rr =>
    cases rr with
    | cons rt rr =>
      cases rr
      obtain rfl := rx
      obtain rfl := hcv _ rt
      obtain ⟨t1, ho⟩ := exo_at I.hok ea
      have one : ∃ od, W.InstAt s.heap a (rec0 C t1 d) C od := by
        cases d with
        | none => exact ⟨none, ho, rfl, rfl, trivial⟩
        | some dx =>
          obtain ⟨fs, ed⟩ := ed dx rfl
          obtain ⟨mA, ⟨od, _, _, hd, _⟩, _⟩ := exd_at I.hok ed
          exact ⟨some od, ho, rfl, rfl, hd⟩
      obtain ⟨od, J⟩ := one
      have hcl : (W.clsIn X.K C).isSome = true := by
        obtain ⟨cd, hc, _⟩ := W.any_some T.hd
        rw [hc] <;> rfl
      exact W.kia_one (W.kitx_exc hcl T.ga T.gg T.ex T.cl G.gt G.tk T.ob) I.kIn J e (fun z => (nomatch z)) fun tk => ⟨.bl b, H, I.kept (t' := tk) fun _ _ z => z, rfl, q⟩
end L2.My
namespace L2.My
open PySem PySem.Spec PyProof.Rows

/-- what an __init__ that stores its parameters promises -/
def spIni (C : Addr) (fs : List Str) : Sp := fun vs H Q _ => ∃ (a : Addr) (ys : List V), vs = .ref a :: ys ∧ ys.length = fs.length ∧ H a = some (exo a C none) ∧
  ∀ dx, H dx = none → dx ≠ a → Q .non (upd (upd H dx (exd dx (fs.zip ys).reverse)) a (exo a C (some dx)))

/-- how the arguments of such an __init__ bind: by position, one by name, two by name the other way round -/
structure BindOk (fd : FuncData) (fs : List Str) : Prop where
  ps : ∀ (s : Shared) (self : Value) (us : List Value), us.length = fs.length → BindsTo s fd ⟨self :: us, []⟩ ((("self" : Str) :: fs).zip (self :: us))
  k1 : ∀ (s : Shared) (self w : Value) (k : Str), fs = [k] → BindsTo s fd ⟨[self], [(k, w)]⟩ [(("self" : Str), self), (k, w)]
  k2 : ∀ (s : Shared) (self w1 w2 : Value) (f g : Str), fs = [f, g] → BindsTo s fd ⟨[self], [(g, w2), (f, w1)]⟩ [(("self" : Str), self), (f, w1), (g, w2)]
/-- an own exception class of the module by its name: its fields, its __init__ -/
structure ExM (P : Program) (w : World) (K : W.Frag) (mg : Str → Option Value) (base : Heap) (x : Str) (C : Addr) (fs : List Str) : Prop where
  ex : ExK K C
  nm : mg x = some (.ref C)
  ini : ∃ (f1 : Addr) (fd : FuncData), W.findIn K (.ref C) "__init__" = some (some (.ref f1)) ∧ W.typeIn K (.ref f1) = some (.type "function") ∧ FnG P w K mg base CX0 1 f1 fd (("self" : Str) :: fs) (spIni C fs) ∧ BindOk fd fs

section
variable {X : Cx} {C : Addr} {x : Str} {fs : List Str}
theorem exo_laid_sw {H : Hp} {a dx : Addr} {o p q : HO} (h : dx ≠ a) : upd (upd (upd H a o) dx p) a q = upd (upd H dx p) a q := by
  rw [upd_sw (Ne.symm h), upd_upd]
theorem goes_ex {pins : List (Addr × Obj)} {σ : St} {H : Hp} {s : Shared} {Q : VK} {us : List Value} {kw : List (Str × Value)} {vs : List V} {os : List Value} (M : ExM X.prog X.w X.K X.mg X.base x C fs) (hr : Room 2 X.A) (hq : Quiet X.A) (I : Inv X pins σ H s)
    (r : Vals vs os) (hl : vs.length = fs.length) (hz : us.length ≤ sizeLine)
    (hb : ∀ fd : FuncData, BindOk fd fs → ∀ s self, BindsTo s fd ⟨self :: us, kw⟩ ((("self" : Str) :: fs).zip (self :: os)))
    (h : ∀ a dx, H a = none → H dx = none → dx ≠ a → Q (.ref a) (upd (upd H dx (exd dx (fs.zip vs).reverse)) a (exo a C (some dx)))) :
    wpAny (model X.prog X.w) X.A (call (.ref C) us kw) (EP X pins σ Q) X.xe s := by
  obtain ⟨B, newId, initId, bmB, bm, nm, q, N, bs, hdct, sn, sub, ab, col, dd, k0, k1, k2, k3, k5, F, ring, hC⟩ := M.ex.made
  obtain ⟨f1, fd, hi, ht, G, bind⟩ := M.ini
  obtain ⟨hp, g, dr, tk, os'⟩ := s
  have fresh : H (hp.objs.size + 1) = none := I.hok.fresh (Nat.le_succ _)
  have keep : ∀ b o, hp.get? b = some o → ((hp.push (W.kdv_tup us)).push (HandSPX.excO C hp.objs.size)).get? b = some o := fun b o e => Heap.get?_push_of_some _ (Heap.get?_push_of_some _ e)
  have there : ((hp.push (W.kdv_tup us)).push (HandSPX.excO C hp.objs.size)).get? (hp.objs.size + 1) = some (HandSPX.excO C hp.objs.size) := by heap_get
  have I2 : Inv X pins σ (upd H (hp.objs.size + 1) (exo (hp.objs.size + 1) C none)) ⟨(hp.push (W.kdv_tup us)).push (HandSPX.excO C hp.objs.size), g, dr, tk, os'⟩ :=
    I.laid (t' := tk) keep (Nat.le_succ _) (exo_ok there)
  have asks : spIni C fs (.ref (hp.objs.size + 1) :: vs) (upd H (hp.objs.size + 1) (exo (hp.objs.size + 1) C none)) (fun v H2 => v = .non ∧ Q (.ref (hp.objs.size + 1)) H2) (fun _ _ _ => False) := by
    refine ⟨_, vs, rfl, hl, upd_same, fun dx n ne => ⟨rfl, ?_⟩⟩
    rw [exo_laid_sw ne]
    rw [upd_ne ne] at n
    exact h _ dx fresh n ne
  refine wpAny_call (Mine.called F ring hz (I.kIn _ _ hC) (W.looks_findIn I.kIn hi) (fun self => W.bind_fn I.kIn self ht)
    (codeAny_mono (G.runs _ X.stack _ _ ⟨.ref (hp.objs.size + 1) :: us, kw⟩ (.ref (hp.objs.size + 1) :: os) _ _ (fun _ _ _ => False) (hr.make C us kw) ?_ (I2.env0.make C us kw) (hb fd bind _ _) (.cons (show RelV (.ref (hp.objs.size + 1)) (.ref (hp.objs.size + 1)) from rfl) r) asks) ?_))
  · unfold Quiet Around.under
    rw [show X.A.guards = some [] from hq]
    rfl
  · intro res s' z
    match res, z with
    | .ok (.ret u), z =>
      obtain ⟨v, H3, J, rv, ev, q3⟩ := I2.after z
      subst ev
      exact ⟨rv, .ref (hp.objs.size + 1), H3, J, rfl, q3⟩

def tExn (C : Addr) (fs : List Str) (t : TA) : TE := fun σ H Q => t σ H fun vs H1 => vs.length = fs.length ∧ ∀ a dx, H1 a = none → H1 dx = none → dx ≠ a → Q (.ref a) (upd (upd H1 dx (exd dx (fs.zip vs).reverse)) a (exo a C (some dx)))
/-- X(e, ..) -/
theorem pe_exn {e : Expr} {es : List Expr} {t : TA} {p pos : Pos} (M : ExM X.prog X.w X.K X.mg X.base x C fs) (hf : fs.length ≤ 100) (hr : Room 2 X.A) (hq : Quiet X.A) (hg : Gl X x) (ha : PA X (e :: es) t)
    (hdb : (x == ("__debug__" : Str)) = false := by decide) (he : starEach (e :: es) X.env = (false, eval e X.env) :: starEach es X.env := by rfl) (hpl : (backTo pos (starEach es X.env)).any (·.1) = false := by rfl) :
    PE X (.Call (.Name x p) (e :: es) [] pos) (tExn C fs t) := by
  constructor
  intro pins s σ H Q I h
  refine wpAny_Call_Name_kw (ld_glob I hg M.nm ?_ hdb)
  refine W.callWith_K (h₀ := X.base) I.ok.mod.kin M.ex.kp (thn (ha.run pos pins s σ H _ I h) ?_) he hpl
  rintro us s1 ⟨vs, H1, I1, r, hl, q⟩
  exact ⟨I1.kIn, goes_ex M hr hq I1 r hl (by rw [List.nil_append, ← r.length, hl, sizeLine_eq]; omega) (fun fd b s self => b.ps s self us (by rw [← r.length, hl])) q⟩
/-- X(k = e) -/
theorem pe_exk1 {k : Str} {e : Expr} {te : TE} {p pos kpos : Pos} (M : ExM X.prog X.w X.K X.mg X.base x C [k]) (hr : Room 2 X.A) (hq : Quiet X.A) (hg : Gl X x) (he : PE X e te) (hdb : (x == ("__debug__" : Str)) = false := by decide) :
    PE X (.Call (.Name x p) [] [⟨some k, e, kpos⟩] pos) (tExn C [k] (tCons te tNil)) := by
  constructor
  intro pins s σ H Q I h
  refine wpAny_Call_Name_kw (ld_glob I hg M.nm ?_ hdb)
  refine W.callWith_KW0 (h₀ := X.base) I.ok.mod.kin M.ex.kp rfl ?_
  refine thn ((pk_cons (nm := some k) (kpos := kpos) he pk_nil).run pos pins s σ H _ I h) ?_
  rintro ws s1 ⟨vs, H1, I1, r, hl, q⟩
  refine ⟨I1.kIn, ?_⟩
  match vs, hl with
  | [v], hl =>
    cases r with
    | cons r1 r2 =>
      cases r2
      exact goes_ex (us := []) M hr hq I1 (.cons r1 .nil) hl (Nat.zero_le _) (fun fd b s self => b.k1 s self _ k rfl) q
def tExr (C : Addr) (f g : Str) (t : TA) : TE := fun σ H Q => t σ H fun vs H2 => ∃ y x, vs = [y, x] ∧ ∀ a dx, H2 a = none → H2 dx = none → dx ≠ a → Q (.ref a) (upd (upd H2 dx (exd dx [(g, y), (f, x)])) a (exo a C (some dx)))
/-- X(g = e, f = e') where the fields are f, g -/
theorem pe_exk2 {f g : Str} {e e' : Expr} {te te' : TE} {p pos kpos kpos' : Pos} (M : ExM X.prog X.w X.K X.mg X.base x C [f, g]) (hfg : f ≠ g) (hr : Room 2 X.A) (hq : Quiet X.A) (hg : Gl X x) (he : PE X e te) (he' : PE X e' te') (hdb : (x == ("__debug__" : Str)) = false := by decide) :
    PE X (.Call (.Name x p) [] [⟨some g, e, kpos⟩, ⟨some f, e', kpos'⟩] pos) (tExr C f g (tCons te (tCons te' tNil))) := by
  constructor
  intro pins s σ H Q I h
  refine wpAny_Call_Name_kw (ld_glob I hg M.nm ?_ hdb)
  refine W.callWith_KW0 (h₀ := X.base) I.ok.mod.kin M.ex.kp rfl ?_
  refine thn ((pk_cons (nm := some g) (kpos := kpos) he (pk_cons (nm := some f) (kpos := kpos') he' pk_nil)).run pos pins s σ H _ I h) ?_
  rintro ws s1 ⟨vs, H1, I1, r, y, x, rfl, q⟩
  refine ⟨I1.kIn, ?_⟩
  cases r with
  | @cons _ w1 _ _ r1 r2 =>
    cases r2 with
    | @cons _ w2 _ _ r2 r3 =>
      cases r3
      exact goes_ex (us := []) (vs := [x, y]) (os := [w2, w1]) M hr hq I1 (.cons r2 (.cons r1 .nil)) rfl (Nat.zero_le _) (fun fd b s self => b.k2 s self _ _ f g rfl) q
end
end L2.My
namespace L2.My
open PySem PySem.Spec PyProof.Rows

theorem par_vis {N ps : List Str} {sc : Scope} (S : FnScope N ps sc) {x : Str} (h : x ∈ ps) : Vis sc x := by
  rcases S.par x h with e | e
  · exact .inl e
  · exact .inr (.inl e)
section
variable {P : Program} {w : World} {K : W.Frag} {mg : Str → Option Value} {base : Heap} {C f1 : Addr} {fd : FuncData} {q : Str} {st : Stmt} {f g : Str} {p1 p2 p3 p4 p5 p6 p7 p8 : Pos}
theorem ini1 (F : Fun K "__init__" q st f1 fd) (S : FnScope ["self", f] ["self", f] (defScope st)) (hb : defBody st = [.Assign [.Attribute (.Name "self" p1) f p2] (.Name f p3) p4]) (T : ExK K C) (ht : W.takerIn K C f = some none)
    (hd : (f == ("__debug__" : Str)) = false) (hcd : (f == ("__classdict__" : Str)) = false) : FnG P w K mg base CX0 1 f1 fd [("self" : Str), f] (spIni C [f]) := by
  refine body_g0 F S ?_ ?_
  · rintro vs H Q E ⟨a, ys, rfl, hl, _⟩
    rw [List.length_cons, hl]; rfl
  · rintro cdv A outer s H vs Q E hr hq ⟨a, ys, rfl, hl, ea, z⟩
    match ys, hl with
    | [y], _ =>
      rw [hb]
      refine ⟨_, pss_one (ps_efl (pv 0 rfl (par_vis S (by simp)) rfl rfl) (pv 1 rfl (par_vis S (by simp)) hd hcd)), ?_⟩
      exact ⟨_, rfl, _, rfl, a, C, rfl, T, ht, .inl ⟨ea, fun dx n ne => z dx n ne⟩⟩
theorem ini2 (F : Fun K "__init__" q st f1 fd) (S : FnScope ["self", f, g] ["self", f, g] (defScope st)) (hb : defBody st = [.Assign [.Attribute (.Name "self" p1) f p2] (.Name f p3) p4, .Assign [.Attribute (.Name "self" p5) g p6] (.Name g p7) p8])
    (T : ExK K C) (ht : W.takerIn K C f = some none) (ht2 : W.takerIn K C g = some none)
    (hd : (f == ("__debug__" : Str)) = false) (hcd : (f == ("__classdict__" : Str)) = false) (hd2 : (g == ("__debug__" : Str)) = false) (hcd2 : (g == ("__classdict__" : Str)) = false) : FnG P w K mg base CX0 1 f1 fd [("self" : Str), f, g] (spIni C [f, g]) := by
  refine body_g0 F S ?_ ?_
  · rintro vs H Q E ⟨a, ys, rfl, hl, _⟩
    rw [List.length_cons, hl]; rfl
  · rintro cdv A outer s H vs Q E hr hq ⟨a, ys, rfl, hl, ea, z⟩
    match ys, hl with
    | [y, y2], _ =>
      rw [hb]
      refine ⟨_, pss_cons (ps_efl (pv 0 rfl (par_vis S (by simp)) rfl rfl) (pv 1 rfl (par_vis S (by simp)) hd hcd)) (pss_one (ps_efl (pv 0 rfl (par_vis S (by simp)) rfl rfl) (pv 2 rfl (par_vis S (by simp)) hd2 hcd2))), ?_⟩
      refine ⟨_, rfl, _, rfl, a, C, rfl, T, ht, .inl ⟨ea, fun dx n ne => ?_⟩⟩
      refine ⟨_, rfl, _, rfl, a, C, rfl, T, ht2, .inr ⟨dx, [(f, y)], upd_same, by rw [upd_ne ne, upd_same], (by show 1 ≤ 900; decide), ?_⟩⟩
      have e : upd (upd (upd H dx (exd dx [(f, y)])) a (exo a C (some dx))) dx (exd dx [(g, y2), (f, y)]) = upd (upd H dx (exd dx [(g, y2), (f, y)])) a (exo a C (some dx)) := by
        rw [upd_sw (Ne.symm ne), upd_upd]
      show Q V.non (upd (upd (upd H dx (exd dx [(f, y)])) a (exo a C (some dx))) dx (exd dx [(g, y2), (f, y)]))
      rw [e]
      exact z dx n ne
end

/-- an own exception class without an own __init__ -/
structure ExP (K : W.Frag) (mg : Str → Option Value) (x : Str) (C : Addr) : Prop where
  ex : ExK K C
  nm : mg x = some (.ref C)
  ini : ∃ (B newId initId : String) (bmB : List Value), ExcBaseFacts B newId initId bmB ∧ W.excInitIn K C bmB newId = true ∧ W.findIn K (.ref C) "__init__" = some (some (.builtin initId))
/-- X() -/
theorem pe_exn0 {X : Cx} {C : Addr} {x : Str} {p pos : Pos} (M : ExP X.K X.mg x C) (hg : Gl X x) (hdb : (x == ("__debug__" : Str)) = false := by decide) :
    PE X (.Call (.Name x p) [] [] pos) (fun σ H Q => ∀ a, H a = none → Q (.ref a) (upd H a (exo a C none))) := by
  constructor
  intro pins s σ H Q I h
  refine wpAny_Call_Name_kw (ld_glob I hg M.nm ?_ hdb)
  refine W.callWith_K0 I.kIn M.ex.kp ?_
  obtain ⟨B, newId, initId, bmB, F, q, hi⟩ := M.ini
  obtain ⟨nm, N, qn, bs, bm, hdct, sn, sub, ab, col, dd, k0, k1, k2, k3, k5, hC, hT⟩ := W.excInit_of I.kIn q
  obtain ⟨hp, g, dr, tk, os⟩ := s
  refine W.call_B F hT hC (W.looks_findIn I.kIn hi) (Nat.zero_le _) fun h' k e t => ?_
  have n := I.hok.fresh (Nat.le_succ hp.objs.size)
  exact ⟨.ref (hp.objs.size + 1), _, I.laid (t' := tk) k (Nat.le_succ _) (exo_ok e), rfl, h _ n⟩
end L2.My
/-! Operators whose operands' kinds are seen in the reading; the reading step by step -/
namespace L2.My
open PySem PySem.Spec PyProof.Rows

/-! ### + of ints, texts, lists -/
def rAddU : R2 := fun x y H Q => (∃ i j, x = .int i ∧ y = .int j ∧ Q (.int (i + j)) H) ∨ (∃ i j : Str, x = .str i ∧ y = .str j ∧ i.length + j.length ≤ sizeLine ∧ Q (.str (i ++ j)) H) ∨ rCat x y H Q
theorem op_addU {X : Cx} : OpR X (binaryOp .Add) rAddU := by
  intro pins s σ H x y v u Q I rx ry h
  rcases h with h | h | h
  · exact op_add pins s σ H x y v u Q I rx ry h
  · exact op_add_str pins s σ H x y v u Q I rx ry h
  · exact op_cat pins s σ H x y v u Q I rx ry h
/-! ### * of ints (one below 2^64), of a list and an int -/
def rMulU : R2 := fun x y H Q => (∃ i j, x = .int i ∧ y = .int j ∧ CMul i j ∧ Q (.int (i * j)) H) ∨ rRep x y H Q
theorem op_mulU {X : Cx} : OpR X (binaryOp .Mult) rMulU := by
  intro pins s σ H x y v u Q I rx ry h
  rcases h with h | h
  · exact op_mul pins s σ H x y v u Q I rx ry h
  · exact op_rep pins s σ H x y v u Q I rx ry h
/-! ### x[i] of a list, a tuple, a text -/
theorem ix_U {X : Cx} : IxR X (rIx X.K) := ix_seq
/-! ### ==, != of scalars or of data -/
def rEqU (K : W.Frag) (b : Bool) : R2 := fun x y H Q => (scal x y = true ∧ Q (.bl (b == decide (x = y))) H) ∨ ∃ d e, Dp K H x d ∧ Dp K H y e ∧ SeqAt.shaped d = true ∧ SeqAt.shaped e = true ∧ Q (.bl (b == PyData.eqv d e)) H
theorem op_eqU {X : Cx} (hu : X.A.units + 64 < cLine) : OpR X (compareOp .Eq) (rEqU X.K true) := by
  intro pins s σ H x y v u Q I rx ry h
  rcases h with ⟨h1, h⟩ | ⟨d, e, h1, h2, h3, h4, h⟩
  · exact op_eq pins s σ H x y v u Q I rx ry ⟨h1, by simpa using h⟩
  · exact op_eqD hu pins s σ H x y v u Q I rx ry ⟨d, e, h1, h2, h3, h4, by simpa using h⟩
theorem op_neU {X : Cx} (hu : X.A.units + 64 < cLine) : OpR X (compareOp .NotEq) (rEqU X.K false) := by
  intro pins s σ H x y v u Q I rx ry h
  have e : ∀ b : Bool, (false == b) = !b := by decide
  rcases h with ⟨h1, h⟩ | ⟨d, e', h1, h2, h3, h4, h⟩
  · exact op_ne pins s σ H x y v u Q I rx ry ⟨h1, by rw [← e]; exact h⟩
  · exact op_neD hu pins s σ H x y v u Q I rx ry ⟨d, e', h1, h2, h3, h4, by rw [← e]; exact h⟩

/-! ### the reading, a step at a time -/
section
variable {X : Cx} {K : W.Frag} {σ : St} {H : Hp} {Q : VK} {ta tb : TE} {t : TA}
theorem g_var {i : Nat} {v : V} (e : σ[i]? = some (some v)) (h : Q v H) : tVar i σ H Q := ⟨v, e, h⟩
theorem g_c {v : V} (h : Q v H) : tC v σ H Q := h
theorem g_op {r : R2} (h : ta σ H fun x H1 => tb σ H1 fun y H2 => r x y H2 Q) : tOp r ta tb σ H Q := h
theorem g_un {r : V → Hp → VK → Prop} (h : ta σ H fun x H1 => r x H1 Q) : tUn r ta σ H Q := h
theorem g_nil {Q : List V → Hp → Prop} (h : Q [] H) : tNil σ H Q := h
theorem g_cons {Q : List V → Hp → Prop} (h : ta σ H fun x H1 => t σ H1 fun xs H2 => Q (x :: xs) H2) : tCons ta t σ H Q := h
theorem g_cb {r : List V → Hp → VK → Prop} (h : t σ H fun vs H1 => r vs H1 Q) : tCB r t σ H Q := h
theorem g_call {sp : Sp} {E : XK} (h : t σ H fun vs H1 => sp vs H1 Q E) : tCall sp [] E t σ H Q := by
  show t σ H fun vs H1 => sp (vs ++ []) H1 Q E
  simpa only [List.append_nil] using h
theorem g_tup (h : t σ H fun xs H1 => xs.length ≤ sizeLine ∧ ∀ p, H1 p = none → Q (.ref p) (upd H1 p (.tup xs))) : tTup t σ H Q := h
theorem g_lst (h : t σ H fun xs H1 => xs.length ≤ sizeLine ∧ ∀ p, H1 p = none → Q (.ref p) (upd H1 p (.lst xs))) : tLst t σ H Q := h
theorem g_small {n : Nat} {B : Prop} (h : n ≤ 1000) (b : B) : n ≤ sizeLine ∧ B := ⟨Nat.le_of_lt (small1000 h), b⟩
theorem g_tests {te : TE} {Q : Bool → Hp → Prop} (h : te σ H fun x H' => ∃ k, x = .bl k ∧ Q k H') : tTest te σ H Q := h
theorem g_bl {b : Bool} {Q : Bool → Prop} (h : Q b) : ∃ k, V.bl b = .bl k ∧ Q k := ⟨b, rfl, h⟩
theorem g_not {te : TT} {Q : Bool → Hp → Prop} (h : te σ H fun c H1 => Q (!c) H1) : tNot te σ H Q := h
theorem g_and {t u : TT} {Q : Bool → Hp → Prop} (h : t σ H fun c H1 => if c = true then u σ H1 Q else Q false H1) : tAnd t u σ H Q := h
theorem g_or {t u : TT} {Q : Bool → Hp → Prop} (h : t σ H fun c H1 => if c = true then Q true H1 else u σ H1 Q) : tOr t u σ H Q := h
theorem g_tB {te : TE} {Q : Bool → Hp → Prop} (h : te σ H fun x H1 => ∃ c, x = .bl c ∧ Q c H1) : tB te σ H Q := h
theorem g_eget {f : Str} (h : ta σ H fun x H1 => ∃ (a C dx : Addr) (fs : List (Str × V)) (v : V), x = .ref a ∧ ExK K C ∧ W.findIn K (.ref C) f = some none ∧ H1 a = some (exo a C (some dx)) ∧ H1 dx = some (exd dx fs) ∧ fs.lookup f = some v ∧ Q v H1) : tEget K f ta σ H Q := h
theorem g_exn {C : Addr} {fs : List Str} (h : t σ H fun vs H1 => vs.length = fs.length ∧ ∀ a dx, H1 a = none → H1 dx = none → dx ≠ a → Q (.ref a) (upd (upd H1 dx (exd dx (fs.zip vs).reverse)) a (exo a C (some dx)))) : tExn C fs t σ H Q := h
variable {D : Ends} {sa sb : TS} {g : TG} {gs : TGs}
theorem g_seq (h : sa { D with nx := sb D } σ H) : tSeq sa sb D σ H := h
theorem g_next (h : D.nx σ H) : tNext D σ H := h
theorem g_asg (h : ta σ H fun x H1 => g x σ H1 D.nx) : tAsg ta g D σ H := h
theorem g_name {i : Nat} {v : V} {Q : St → Hp → Prop} (h : Q (σ.set i (some v)) H) : gName i v σ H Q := h
theorem g_sub {v : V} {st : TSet} {Q : St → Hp → Prop} (h : ta σ H fun o H1 => tb σ H1 fun i H2 => st o i v H2 fun H3 => Q σ H3) : gSub ta tb st v σ H Q := h
theorem g_drop (h : ta σ H fun _ H1 => D.nx σ H1) : tDrop ta D σ H := h
theorem g_ret (h : ta σ H D.rt) : tRet ta D σ H := h
theorem g_retN (h : D.rt .non H) : tRetN D σ H := h
theorem g_ifs {c : TT} (h : c σ H fun b H1 => if b = true then sa D σ H1 else sb D σ H1) : tIfS c sa sb D σ H := h
theorem g_par {i j : Nat} (h : t σ H fun vs H1 => ∃ v w, vs = [v, w] ∧ D.nx ((σ.set i (some v)).set j (some w)) H1) : tPar i j t D σ H := h
theorem g_two {v w : V} {R : V → V → Prop} (h : R v w) : ∃ v' w', [v, w] = [v', w'] ∧ R v' w' := ⟨v, w, rfl, h⟩
-- the operators
theorem addU_i {i j : Int} (h : Q (.int (i + j)) H) : rAddU (.int i) (.int j) H Q := .inl ⟨i, j, rfl, rfl, h⟩
theorem addU_s {i j : Str} (l : i.length + j.length ≤ sizeLine) (h : Q (.str (i ++ j)) H) : rAddU (.str i) (.str j) H Q := .inr (.inl ⟨i, j, rfl, rfl, l, h⟩)
theorem addU_l {l b : Addr} {xs zs : List V} (e : H l = some (.lst xs)) (e2 : H b = some (.lst zs)) (z : xs.length + zs.length ≤ 1000) (h : ∀ p, H p = none → Q (.ref p) (upd H p (.lst (xs ++ zs)))) : rAddU (.ref l) (.ref b) H Q :=
  .inr (.inr ⟨l, b, xs, zs, rfl, rfl, e, e2, Nat.le_of_lt (small1000 z), h⟩)
theorem mulU_i {i j : Int} (c : CMul i j) (h : Q (.int (i * j)) H) : rMulU (.int i) (.int j) H Q := .inl ⟨i, j, rfl, rfl, c, h⟩
theorem mulU_l {l : Addr} {xs : List V} {k : Nat} (e : H l = some (.lst xs)) (hk : k ≤ 1000) (z : xs.length * k ≤ 1000) (h : ∀ p, H p = none → Q (.ref p) (upd H p (.lst (List.replicate k xs).flatten))) : rMulU (.ref l) (.int (k : Int)) H Q :=
  .inr ⟨l, k, xs, rfl, rfl, e, by omega, by omega, Nat.le_of_lt (small1000 (by simpa using z)), by simpa using h⟩
theorem rI0_i {f : Int → Int → V} {i j : Int} (h : Q (f i j) H) : rI0 f (.int i) (.int j) H Q := ⟨i, j, rfl, rfl, h⟩
theorem rI_i {C : Int → Int → Prop} {f : Int → Int → V} {i j : Int} (c : C i j) (h : Q (f i j) H) : rI C f (.int i) (.int j) H Q := ⟨i, j, rfl, rfl, c, h⟩
theorem ix_l {p : Addr} {xs : List V} {i : Int} {v : V} (e : SqL K H p xs) (a : atI xs i = some v) (h : Q v H) : rIx K (.ref p) (.int i) H Q := .inl ⟨p, xs, i, v, rfl, rfl, e, a, h⟩
theorem ix_t {p : Addr} {xs : List V} {i : Int} {v : V} (e : SqT K H p xs) (a : atI xs i = some v) (h : Q v H) : rIx K (.ref p) (.int i) H Q := .inr (.inl ⟨p, xs, i, v, rfl, rfl, e, a, h⟩)
theorem eqU_s {b : Bool} {x y : V} (s : scal x y = true) (h : Q (.bl (b == decide (x = y))) H) : rEqU K b x y H Q := .inl ⟨s, h⟩
theorem eqU_d {b : Bool} {x y : V} {d e : PyData} (h1 : Dp K H x d) (h2 : Dp K H y e) (s1 : SeqAt.shaped d = true) (s2 : SeqAt.shaped e = true) (h : Q (.bl (b == PyData.eqv d e)) H) : rEqU K b x y H Q := .inr ⟨d, e, h1, h2, s1, s2, h⟩
theorem setL {p : Addr} {xs : List V} {k : Int} {j : Nat} {v : V} {R : Hp → Prop} (e : H p = some (.lst xs)) (hk : ixN xs.length k = some j) (h : R (upd H p (.lst (xs.set j v)))) : rSetL (.ref p) (.int k) v H R := ⟨p, xs, k, j, rfl, rfl, e, hk, h⟩
theorem g_lenS {z : Str} (hz : z.length ≤ sizeLine) (h : Q (.int z.length) H) : (∃ x n, [V.str z] = [x] ∧ LenV K x H n ∧ Q (.int (n : Int)) H) := ⟨_, _, rfl, ⟨hz, rfl⟩, h⟩
end
end L2.My
namespace L2.My
open PySem PySem.Spec PyProof.Rows

theorem g_cut {σ : St} {H : Hp} {D : Ends} {t u : TS} (Mid : St → Hp → Prop) (h : t { D with nx := Mid } σ H) (h2 : ∀ σ' H', Mid σ' H' → u D σ' H') : C8.tCut t u D σ H := ⟨Mid, h, h2⟩
/-- all but p is as it was -/
def But (H H' : Hp) (p : Addr) : Prop := ∀ b o, b ≠ p → H b = some o → H' b = some o
theorem Same.but {H H' : Hp} (h : Same H H') (p : Addr) : But H H' p := fun b o _ e => h b o e
theorem same_upd {H : Hp} {p : Addr} {o : HO} (h : H p = none) : Same H (upd H p o) := fun b u e => by
  rw [upd_ne (ne_of_none e h)]
  exact e
theorem But.upd {H H' : Hp} {p : Addr} {o : HO} (h : But H H' p) : But H (L2.upd H' p o) p := fun b u n e => by
  rw [upd_ne n]
  exact h b u n e
theorem but_upd {H : Hp} {p : Addr} {o : HO} : But H (L2.upd H p o) p := fun b u n e => by
  rw [upd_ne n]
  exact e
theorem But.same {H H' H2 : Hp} {p : Addr} (h : But H H' p) (s : Same H' H2) : But H H2 p := fun b u n e => s b u (h b u n e)
theorem But.trans {H H' H2 : Hp} {p : Addr} (h : But H H' p) (s : But H' H2 p) : But H H2 p := fun b u n e => s b u n (h b u n e)

/-! ### lists of ints and bools as data -/
theorem dpAll_ints {K : W.Frag} {H : Hp} : ∀ ns : List Int, DpAll K H (ns.map V.int) (ns.map PyData.int)
  | [] => .nil
  | n :: r => .cons (.int n) (dpAll_ints r)
theorem dp_ints {K : W.Frag} {H : Hp} {a : Addr} {ns : List Int} (e : SqL K H a (ns.map V.int)) : Dp K H (.ref a) (.list (ns.map PyData.int)) := .lst e (dpAll_ints ns)
theorem dpAll_bls {K : W.Frag} {H : Hp} : ∀ ns : List Bool, DpAll K H (ns.map V.bl) (ns.map PyData.bool)
  | [] => .nil
  | n :: r => .cons (.bl n) (dpAll_bls r)
theorem dp_bls {K : W.Frag} {H : Hp} {a : Addr} {ns : List Bool} (e : SqL K H a (ns.map V.bl)) : Dp K H (.ref a) (.list (ns.map PyData.bool)) := .lst e (dpAll_bls ns)
theorem lay_all {α : Type} {f : α → PyData} (h : ∀ a, (f a).canLay0 = true) : ∀ ns : List α, PyData.canLayAll0 (ns.map f) = true
  | [] => by simp [PyData.canLayAll0]
  | n :: r => by simp [PyData.canLayAll0, h n, lay_all h r]
theorem depth_all {α : Type} {f : α → PyData} (h : ∀ a, (f a).depth = 0) : ∀ ns : List α, PyData.depthAll (ns.map f) = 0
  | [] => by simp [PyData.depthAll]
  | n :: r => by simp [PyData.depthAll, h n, depth_all h r]
theorem shaped_map {α : Type} {f : α → PyData} (h : ∀ a, (f a).canLay0 = true) (h2 : ∀ a, (f a).depth = 0) (ns : List α) : SeqAt.shaped (.list (ns.map f)) = true := by
  unfold SeqAt.shaped
  simp [PyData.canLay0, PyData.depth, lay_all h, depth_all h2]
theorem shaped_ints (ns : List Int) : SeqAt.shaped (.list (ns.map PyData.int)) = true := shaped_map (fun _ => by simp [PyData.canLay0]) (fun _ => by simp [PyData.depth]) ns
theorem shaped_bls (ns : List Bool) : SeqAt.shaped (.list (ns.map PyData.bool)) = true := shaped_map (fun _ => by simp [PyData.canLay0]) (fun _ => by simp [PyData.depth]) ns
theorem eqvAll_ints : ∀ ns ms : List Int, PyData.eqvAll (ns.map PyData.int) (ms.map PyData.int) = decide (ns = ms)
  | [], [] => by simp [PyData.eqvAll]
  | [], _ :: _ => by simp [PyData.eqvAll]
  | _ :: _, [] => by simp [PyData.eqvAll]
  | n :: r, m :: q => by
    simp only [List.map_cons, PyData.eqvAll, PyData.eqv, eqvAll_ints r q]
    by_cases h : n = m <;> by_cases h2 : r = q <;> simp [h, h2]
theorem eqv_ints (ns ms : List Int) : PyData.eqv (.list (ns.map PyData.int)) (.list (ms.map PyData.int)) = decide (ns = ms) := by
  rw [← eqvAll_ints]; simp [PyData.eqv]
theorem eqvAll_bls : ∀ ns ms : List Bool, PyData.eqvAll (ns.map PyData.bool) (ms.map PyData.bool) = decide (ns = ms)
  | [], [] => by simp [PyData.eqvAll]
  | [], _ :: _ => by simp [PyData.eqvAll]
  | _ :: _, [] => by simp [PyData.eqvAll]
  | n :: r, m :: q => by
    simp only [List.map_cons, PyData.eqvAll, PyData.eqv, eqvAll_bls r q]
    by_cases h : n = m <;> by_cases h2 : r = q <;> simp [h, h2]
theorem eqv_bls (ns ms : List Bool) : PyData.eqv (.list (ns.map PyData.bool)) (.list (ms.map PyData.bool)) = decide (ns = ms) := by
  rw [← eqvAll_bls]; simp [PyData.eqv]
/-- == and != of two lists of ints, of bools -/
theorem eqU_ints {K : W.Frag} {H : Hp} {Q : VK} {b : Bool} {p q : Addr} {ns ms : List Int} (e1 : SqL K H p (ns.map V.int)) (e2 : SqL K H q (ms.map V.int)) (h : Q (.bl (b == decide (ns = ms))) H) : rEqU K b (.ref p) (.ref q) H Q :=
  eqU_d (dp_ints e1) (dp_ints e2) (shaped_ints ns) (shaped_ints ms) (by rw [eqv_ints]; exact h)
theorem eqU_bls {K : W.Frag} {H : Hp} {Q : VK} {b : Bool} {p q : Addr} {ns ms : List Bool} (e1 : SqL K H p (ns.map V.bl)) (e2 : SqL K H q (ms.map V.bl)) (h : Q (.bl (b == decide (ns = ms))) H) : rEqU K b (.ref p) (.ref q) H Q :=
  eqU_d (dp_bls e1) (dp_bls e2) (shaped_bls ns) (shaped_bls ms) (by rw [eqv_bls]; exact h)

theorem pe_gref {X : Cx} {x : Str} {pos : Pos} {a : Addr} (hg : Gl X x) (hm : X.mg x = some (.ref a)) (hd : (x == ("__debug__" : Str)) = false := by decide) : PE X (.Name x pos) (tC (.ref a)) := pe_glob (v := .ref a) hg hm rfl hd
theorem pe_bty {X : Cx} {x : Str} {pos : Pos} (T : String) (hg : Gl X x) (hm : X.mg x = none) (hv : bootBuiltins x = some (.type T)) (hn : x ≠ "__name__" := by decide) (hd : (x == ("__debug__" : Str)) = false := by decide) : PE X (.Name x pos) (tC (.ty T)) := pe_bltn (v := .ty T) hg hm hv rfl hn hd
/-! ### calls of built-ins, by their values -/
def rInt1 : List V → Hp → VK → Prop := fun xs H Q => (∃ i, xs = [.int i] ∧ Q (.int i) H) ∨ ∃ k, xs = [.bl k] ∧ Q (.int (if k then 1 else 0)) H
def rAbs1 : List V → Hp → VK → Prop := fun xs H Q => ∃ i, xs = [.int i] ∧ Q (.int (if i < 0 then -i else i)) H
def rLen1 (K : W.Frag) : List V → Hp → VK → Prop := fun xs H Q => ∃ p ys, xs = [.ref p] ∧ (SqL K H p ys ∨ SqT K H p ys) ∧ Q (.int ys.length) H
def rList1 (K : W.Frag) : List V → Hp → VK → Prop := fun xs H Q => ∃ p ys, xs = [.ref p] ∧ (SqL K H p ys ∨ SqT K H p ys) ∧ ∀ l, H l = none → Q (.ref l) (upd H l (.lst ys))
section
variable {X : Cx} {K : W.Frag} {H : Hp} {Q : VK}
theorem c_int : CallR X (.type "int") rInt1 := call_int1
theorem c_abs : CallR X (.builtin "abs") rAbs1 := call_abs
theorem c_len : CallR X (.builtin "len") (rLen1 X.K) := call_len_seq
theorem c_list : CallR X (.type "list") (rList1 X.K) := call_list_of
theorem g_int {i : Int} (h : Q (.int i) H) : rInt1 [.int i] H Q := .inl ⟨i, rfl, h⟩
theorem g_intb {b : Bool} (h : Q (.int (if b = true then 1 else 0)) H) : rInt1 [.bl b] H Q := .inr ⟨b, rfl, h⟩
theorem g_abs {i : Int} (h : Q (.int (if i < 0 then -i else i)) H) : rAbs1 [.int i] H Q := ⟨i, rfl, h⟩
theorem g_len {p : Addr} {ys : List V} (e : SqL K H p ys) (h : Q (.int (ys.length : Nat)) H) : rLen1 K [.ref p] H Q := ⟨p, ys, rfl, .inl e, h⟩
theorem g_lent {p : Addr} {ys : List V} (e : SqT K H p ys) (h : Q (.int (ys.length : Nat)) H) : rLen1 K [.ref p] H Q := ⟨p, ys, rfl, .inr e, h⟩
theorem g_list {p : Addr} {ys : List V} (e : SqL K H p ys) (h : ∀ l, H l = none → Q (.ref l) (upd H l (.lst ys))) : rList1 K [.ref p] H Q := ⟨p, ys, rfl, .inl e, h⟩
/-! ### slices, items, repr, isinstance, append -/
variable {σ : St} {te : TE} {tl th : TO} {r : V → Option Int → Option Int → Hp → VK → Prop}
theorem g_sl (h : te σ H fun x H1 => tl σ H1 fun l H2 => th σ H2 fun u H3 => r x l u H3 Q) : tSl r te tl th σ H Q := h
theorem g_nopart {R : Option Int → Hp → Prop} (h : R none H) : tNoPart σ H R := h
theorem g_part {R : Option Int → Hp → Prop} (h : te σ H fun x H1 => ∃ i, x = .int i ∧ R (some i) H1) : tPart te σ H R := h
theorem g_i {i : Int} {R : Int → Prop} (h : R i) : ∃ j, V.int i = .int j ∧ R j := ⟨i, rfl, h⟩
theorem slL {a : Addr} {xs : List V} {lo hi : Option Int} (e : SqL K H a xs) (h : ∀ p, H p = none → Q (.ref p) (upd H p (.lst (cutV xs lo hi)))) : rSlL K (.ref a) lo hi H Q := ⟨a, xs, rfl, e, h⟩
theorem g_repr {a : Addr} {d : PyData} (h : Dq K H (.ref a) d) (h1 : d.showable = true) (h2 : d.depth ≤ 60) (h3 : d.shown.length ≤ sizeLine) (q : Q (.str d.shown) H) : rRepr K [.ref a] H Q := ⟨a, d, rfl, h, h1, h2, h3, q⟩
theorem g_exr {C : Addr} {f g : Str} {t : TA} (h : t σ H fun vs H2 => ∃ y x, vs = [y, x] ∧ ∀ a dx, H2 a = none → H2 dx = none → dx ≠ a → Q (.ref a) (upd (upd H2 dx (exd dx [(g, y), (f, x)])) a (exo a C (some dx)))) : tExr C f g t σ H Q := h
theorem hush {R : Hp → Prop} {H0 Hx : Hp} {r : Addr} {o : HO} (s : Same H0 Hx) (e : Hx r = some o) (k : ∀ H', Same H0 H' → H' r = some o → R H') : R Hx := k Hx s e
theorem hush2 {R : Hp → Prop} {H0 Hx : Hp} {r r2 : Addr} {o o2 : HO} (s : Same H0 Hx) (e : Hx r = some o) (e2 : Hx r2 = some o2) (k : ∀ H', Same H0 H' → H' r = some o → H' r2 = some o2 → R H') : R Hx := k Hx s e e2
theorem g_disp {trs : List (TE × TE)} (h : ∀ p, H p = none → tPairs trs σ (upd H p (.dK [])) fun ps H2 => H2 p = some (.dK []) ∧ ∃ kvs : List (Key × V), ps = kvs.map (fun kv => (kV kv.1, kv.2)) ∧ kvs.length ≤ 15 ∧ Q (.ref p) (upd H2 p (.dK (mergeK [] kvs)))) : tDisp trs σ H Q := h
theorem g_pair {tk tv : TE} {r : List (TE × TE)} {R : List (V × V) → Hp → Prop} (h : tk σ H fun x H1 => tv σ H1 fun y H2 => tPairs r σ H2 fun ps H3 => R ((x, y) :: ps) H3) : tPairs ((tk, tv) :: r) σ H R := h
theorem g_pair0 {R : List (V × V) → Hp → Prop} (h : R [] H) : tPairs [] σ H R := h
theorem kv_str {H2 : Hp} {p : Addr} {k : Str} {y : V} (e : H2 p = some (.dK [])) (h : Q (.ref p) (upd H2 p (.dK [(Sum.inr k, y)]))) :
    H2 p = some (.dK []) ∧ ∃ kvs : List (Key × V), [(V.str k, y)] = kvs.map (fun kv => (kV kv.1, kv.2)) ∧ kvs.length ≤ 15 ∧ Q (.ref p) (upd H2 p (.dK (mergeK [] kvs))) := ⟨e, [(Sum.inr k, y)], rfl, by show 1 ≤ 15; decide, h⟩
/-- an exception of the class at C -/
def ExAt (H : Hp) (a C : Addr) : Prop := ∃ d : Option Addr, H a = some (exo a C d) ∧ ∀ dx, d = some dx → ∃ fs, H dx = some (exd dx fs)
theorem ExAt.same {H' : Hp} {a C : Addr} (s : Same H H') (h : ExAt H a C) : ExAt H' a C := by
  obtain ⟨d, e, r⟩ := h
  exact ⟨d, s _ _ e, fun dx z => (r dx z).elim fun fs q => ⟨fs, s _ _ q⟩⟩
theorem g_isX {a C : Addr} {c : V} {cv : Value} {b : Bool} (e : ExAt H a C) (T : ExK K C) (G : ExA K) (hc : ∀ u, RelV c u → u = cv) (k : W.kitOne K (.ref C) cv = some b) (h : Q (.bl b) H) : rIsX K [.ref a, c] H Q := by
  obtain ⟨d, e, r⟩ := e
  exact ⟨a, C, d, c, cv, b, rfl, e, r, T, G, hc, k, h⟩
theorem appL {l : Addr} {xs : List V} {y : V} (e : H l = some (.lst xs)) (z : xs.length < 1000) (h : Q .non (upd H l (.lst (xs ++ [y])))) : rAppend (.ref l) [y] H Q := ⟨l, xs, y, rfl, rfl, e, small1000 (Nat.le_of_lt z), h⟩
theorem g_bm {T : String} {ru : V → List V → Hp → VK → Prop} {t : TA} (h : te σ H fun x H1 => tyV K T x H1 ∧ t σ H1 fun xs H2 => ru x xs H2 Q) : tBM K T ru te t σ H Q := h
theorem ty_lst {l : Addr} {xs : List V} (e : H l = some (.lst xs)) : tyV K "list" (.ref l) H := Or.inl ⟨rfl, _, Or.inl (Or.inl e)⟩
end
end L2.My
namespace L2.My
open PySem PySem.Spec PyProof.Rows
local macro_rules | `(tactic| walk_at "s1") => `(tactic| first
  | with_reducible refine g_seq ?_
  | with_reducible refine g_asg ?_
  | with_reducible refine g_name ?_
  | with_reducible refine g_op ?_
  | ((with_reducible show tVar _ _ _ _); refine g_var rfl ?_)
  | with_reducible refine g_c ?_
  | with_reducible refine g_cons ?_
  | with_reducible refine g_nil ?_
  | with_reducible refine g_cb ?_
  | with_reducible refine g_tests ?_
  | with_reducible refine g_bl ?_
  | with_reducible refine g_tB ?_
  | with_reducible refine g_and ?_
  | with_reducible refine g_or ?_
  | with_reducible refine g_not ?_
  | with_reducible refine g_ifs ?_
  | with_reducible refine g_sub ?_
  | with_reducible refine g_ret ?_
  | with_reducible refine g_retN ?_
  | with_reducible refine g_drop ?_
  | with_reducible refine g_next ?_
  | with_reducible refine g_par ?_
  | with_reducible refine g_two ?_
  | with_reducible refine g_lst ?_
  | with_reducible refine g_tup ?_
  | with_reducible refine g_un ?_
  | with_reducible refine addU_i ?_
  | with_reducible refine rI0_i ?_)
local macro_rules | `(tactic| walk_at "go") => `(tactic| repeat walk_at "s1")
local macro_rules | `(tactic| walk_at "s1") => `(tactic| first
  | ((with_reducible show tOp _ _ _ _ _ _); with_reducible refine g_op ?_)
  | with_reducible refine g_int ?_
  | with_reducible refine g_sl ?_
  | with_reducible refine g_nopart ?_
  | with_reducible refine g_part ?_
  | with_reducible refine g_i ?_
  | with_reducible refine g_bm ?_
  | with_reducible refine g_pair ?_
  | with_reducible refine g_pair0 ?_
  | with_reducible refine g_call ?_
  | with_reducible refine g_intb ?_
  | with_reducible refine g_abs ?_)
local macro_rules | `(tactic| walk_at "look") => `(tactic| first
  | exact upd_same
  | with_reducible assumption
  | (refine same_upd ?_ _ _ ?_; assumption; walk_at "look"))
local macro_rules | `(tactic| walk_at "cat") => `(tactic| (refine' addU_l ?e1 ?e2 ?z ?_; (case e1 => walk_at "look"); (case e2 => walk_at "look"); (case z => exact Nat.le_of_ble_eq_true rfl)))
local macro_rules | `(tactic| walk_at "same") => `(tactic| first
  | exact Same.refl _
  | with_reducible assumption
  | (refine Same.trans ?_ (same_upd ?_); rotate_left; assumption; walk_at "same"))
def top (i : Nat) : Stmt := PySem.Challenge.pw_latelands_k01_errors.main.body.getD i (.Pass ⟨0, 0, 0, 0⟩)

/-! ### the pen -/
structure PenAt (H : Hp) (p q : Addr) (ns : List Int) (at' big : Int) : Prop where
  pen : H p = some (.lst [.ref q, .int at', .int big])
  cells : H q = some (.lst (ns.map V.int))
  a0 : 0 ≤ at'
  a1 : at' ≤ 100000
  b0 : 0 ≤ big
def spDraw : Sp := fun vs H Q _ => ∃ (p q : Addr) (ns : List Int) (at' big many : Int), vs = [.ref p, .int many] ∧ 0 < many ∧ many.natAbs < 2 ^ 200 ∧ PenAt H p q ns at' big ∧ at' < 100000 ∧
  ∀ (d a2 b2 : Int) (H' : Hp), 0 ≤ d → d < many → at' ≤ a2 → a2 ≤ at' + 1 → 0 ≤ b2 → But H H' p → H' p = some (.lst [.ref q, .int a2, .int b2]) → Q (.int d) H'
theorem mixed_small {m a : Int} (m0 : 0 ≤ m) (m1 : m < 2147483647) (a0 : 0 ≤ a) (a1 : a < 100000) : 0 ≤ m * (2 * a + 13) ∧ m * (2 * a + 13) < 429530000000000 := by
  constructor
  · exact Int.mul_nonneg m0 (by omega)
  · have h := Int.mul_le_mul (show m ≤ 2147483646 by omega) (show 2 * a + 13 ≤ 200011 by omega) (by omega) (by omega)
    omega
theorem sq_small {a : Int} (a0 : 0 ≤ a) (a1 : a < 100000) : 0 ≤ 52103 * a * a ∧ 52103 * a * a < 521030000000000 := by
  constructor
  · exact Int.mul_nonneg (by omega) a0
  · have h := Int.mul_le_mul (show 52103 * a ≤ 5210247897 by omega) (show a ≤ 99999 by omega) a0 (by omega)
    omega

section
variable {P : Program} {w : World} {K : W.Frag} {mg : Str → Option Value} {base : Heap}
abbrev sDraw : Stmt := top 22
theorem scDraw : FnScope ["_law_pen_here", "_law_many", "_law_digit", "_law_at", "_law_cell", "_law_great", "_law_mixed"] ["_law_pen_here", "_law_many"] (defScope sDraw) := ⟨rfl, rfl, rfl, by decide +kernel, rfl, by decide +kernel, by decide +kernel⟩
theorem ok_draw {f : Addr} {fd : FuncData} (F : Fun K "_law_draw" "_law_draw" sDraw f fd) (m_int : mg "int" = none) (m_len : mg "len" = none) (m_abs : mg "abs" = none) : FnG P w K mg base CX0 1 f fd ["_law_pen_here", "_law_many"] spDraw := by
  refine body_g0 F scDraw ?_ ?_
  · rintro vs H Q E ⟨p, q, ns, at', big, many, rfl, _⟩
    rfl
  rintro cdv A outer s H vs Q E hr hq ⟨p, q, ns, at', big, many, rfl, m0, m1, pen, a2, z⟩
  have hu := hr.units
  refine ⟨_, (pss_cons (ps_if (pt_cmpR op_gt (pe_ix ix_seq (pv 0) pe_int (fun _ _ => rfl)) pe_int (nomark _)) (pss_cons (ps_set (i := 2) scDraw.nd rfl (Or.inl rfl) (pe_op op_mod (pe_callTy c_int (by rfl) m_int (by decide +kernel) (pa_cons (pe_ix ix_seq (pv 0) pe_int (fun _ _ => rfl)) pa_nil)) (pv 1)))
    (pss_cons (ps_asg (pe_op op_fdivW (pe_ix ix_seq (pv 0) pe_int (fun _ _ => rfl)) (pv 1)) (pg_sub (pv 0) pe_int set_list))
    (pss_one (ps_ret (pv 2))))) pss_nil)
    (pss_cons (ps_set (i := 3) scDraw.nd rfl (Or.inl rfl) (pe_ix ix_seq (pv 0) pe_int (fun _ _ => rfl)))
    (pss_cons (ps_asg (pe_op op_addU (pv 3) pe_int) (pg_sub (pv 0) pe_int set_list))
    (pss_cons (ps_set (i := 4) scDraw.nd rfl (Or.inl rfl) (pe_op op_addU (pe_op op_mulU pe_int (pv 3)) pe_int))
    (C8.pss_cut (ps_if (pt_cmpR (op_neU hu) (pe_ix ix_seq (pv 0) pe_int (fun _ _ => rfl)) (pe_lst pa_nil) (nomark _)) (pss_one (ps_set (i := 4) scDraw.nd rfl (Or.inl rfl) (pe_ix ix_seq (pe_ix ix_seq (pv 0) pe_int (fun _ _ => rfl)) (pe_op op_mod (pe_callTy c_int (by rfl) m_int (by decide +kernel) (pa_cons (pv 3) pa_nil)) (pe_callB c_len (by rfl) m_len PySem.boot_len (pa_cons (pe_ix ix_seq (pv 0) pe_int (fun _ _ => rfl)) pa_nil))) (fun _ _ => rfl)))) pss_nil)
    (C8.pss_cut (ps_if (PW.pt (pw_and (pt_cmpR op_lt (pv 3) (pe_callB c_len (by rfl) m_len PySem.boot_len (pa_cons (pe_ix ix_seq (pv 0) pe_int (fun _ _ => rfl)) pa_nil)) (nomark _)) (pw_and1 (pt_cmpR op_ge (pe_callB c_abs (by rfl) m_abs (by decide +kernel) (pa_cons (pv 4) pa_nil)) (pe_op op_pow pe_int pe_int) (nomark _))))) (pss_cons (ps_set (i := 5) scDraw.nd rfl (Or.inl rfl) (pe_op op_addU (pe_op op_mulU pe_int (pe_op op_sub (pe_callB c_abs (by rfl) m_abs (by decide +kernel) (pa_cons (pv 4) pa_nil)) (pe_op op_pow pe_int pe_int))) (pe_callTy c_int (by rfl) m_int (by decide +kernel) (pa_cons (pe_cmpR op_lt (pv 4) pe_int (nomark _)) pa_nil))))
    (pss_cons (ps_asg (pe_op op_fdivW (pv 5) (pv 1)) (pg_sub (pv 0) pe_int set_list))
    (pss_one (ps_ret (pe_op op_mod (pe_callTy c_int (by rfl) m_int (by decide +kernel) (pa_cons (pv 5) pa_nil)) (pv 1)))))) pss_nil)
    (pss_cons (ps_set (i := 6) scDraw.nd rfl (Or.inl rfl) (pe_op op_mod (pe_callTy c_int (by rfl) m_int (by decide +kernel) (pa_cons (pe_op op_pow (pe_op op_addU (pe_op op_addU (pe_op op_mod (pe_callTy c_int (by rfl) m_int (by decide +kernel) (pa_cons (pv 4) pa_nil)) pe_int) (pe_op op_mulU pe_int (pv 3))) pe_int) pe_int) pa_nil)) pe_int))
    (pss_cons (ps_set (i := 6) scDraw.nd rfl (Or.inl rfl) (pe_op op_mod (pe_callTy c_int (by rfl) m_int (by decide +kernel) (pa_cons (pe_op op_pow (pe_op op_addU (pe_op op_addU (pe_op op_mulU (pv 6) (pe_op op_addU (pe_op op_mulU pe_int (pv 3)) pe_int)) (pe_op op_mulU (pe_op op_mulU pe_int (pv 3)) (pv 3))) pe_int) pe_int) pa_nil)) pe_int))
    (pss_one (ps_ret (pe_op op_mod (pe_callTy c_int (by rfl) m_int (by decide +kernel) (pa_cons (pe_op op_fdivW (pv 6) pe_int) pa_nil)) (pv 1)))))))))))), ?_⟩
  have e2 : SqL K H p [.ref q, .int at', .int big] := .inl (.inl pen.pen)
  have a0 := pen.a0
  have hW : CDivW 1 many := wide_div m0 m1 (by decide) (by decide)
  walk_at "go"
  refine ix_l e2 rfl ?_
  walk_at "go"
  refine ite2 (fun c => ?_) (fun c => ?_)
  · have c' : 0 < big := of_decide_eq_true c
    walk_at "go"
    refine ix_l e2 rfl ?_
    walk_at "go"
    refine rI_i m0 ?_
    walk_at "go"
    refine ix_l e2 rfl ?_
    walk_at "go"
    refine rI_i hW ?_
    walk_at "go"
    refine setL pen.pen rfl ?_
    walk_at "go"
    exact z _ _ _ _ (Int.emod_nonneg _ (by omega)) (Int.emod_lt_of_pos _ m0) (Int.le_refl _) (by omega) (Int.ediv_nonneg pen.b0 (by omega)) but_upd upd_same
  walk_at "go"
  refine ix_l e2 rfl ?_
  walk_at "go"
  refine setL (j := 1) pen.pen rfl ?_
  walk_at "go"
  have npq : q ≠ p := fun e => by
    have h1 := pen.cells
    rw [e, pen.pen] at h1
    have h2 := Option.some.inj h1
    injection h2 with h3
    cases ns with
    | nil => cases h3
    | cons n r => cases h3
  have e3 : upd H p (.lst ([V.ref q, .int at', .int big].set 1 (.int (at' + 1)))) p = some (.lst [.ref q, .int (at' + 1), .int big]) := upd_same
  have e4 : upd H p (.lst ([V.ref q, .int at', .int big].set 1 (.int (at' + 1)))) q = some (.lst (ns.map V.int)) := by rw [upd_ne npq]; exact pen.cells
  have b1 : But H (upd H p (.lst ([V.ref q, .int at', .int big].set 1 (.int (at' + 1))))) p := but_upd
  generalize upd H p (.lst ([V.ref q, .int at', .int big].set 1 (.int (at' + 1)))) = H1 at *
  refine mulU_i (.inl (by omega)) ?_
  walk_at "go"
  refine g_cut (fun σ' H' => ∃ cell : Int, σ' = [some (.ref p), some (.int many), none, some (.int at'), some (.int cell), none, none] ∧ H' p = some (.lst [.ref q, .int (at' + 1), .int big]) ∧ H' q = some (.lst (ns.map V.int)) ∧ But H H' p) ?_ ?_
  · walk_at "go"
    refine ix_l (.inl (.inl e3)) rfl ?_
    walk_at "go"
    refine g_small (by decide) fun l nl => ?_
    have s1 := same_upd (o := .lst []) nl
    refine eqU_ints (ns := ns) (ms := []) (.inl (.inl (s1 _ _ e4))) (.inl (.inl upd_same)) ?_
    walk_at "go"
    refine ite2 (fun c => ?_) (fun c => ?_)
    · have c' : ns ≠ [] := by
        intro e
        rw [e] at c
        exact absurd c (by decide)
      have pos : 0 < (ns.map V.int).length := by
        rw [List.length_map]
        exact List.length_pos_iff.mpr c'
      walk_at "go"
      refine ix_l (.inl (.inl (s1 _ _ e3))) rfl ?_
      walk_at "go"
      refine ix_l (.inl (.inl (s1 _ _ e3))) rfl ?_
      walk_at "go"
      refine g_len (.inl (.inl (s1 _ _ e4))) ?_
      walk_at "go"
      refine rI_i (show (0 : Int) < _ by omega) ?_
      have l0 := Int.emod_nonneg at' (show ((ns.map V.int).length : Int) ≠ 0 by omega)
      have l1 := Int.emod_lt_of_pos at' (show 0 < ((ns.map V.int).length : Int) by omega)
      have len : (ns.map V.int).length = ns.length := List.length_map _
      obtain ⟨n, hn⟩ : ∃ n, atI (ns.map V.int) (at' % ((ns.map V.int).length : Int)) = some (.int n) := by
        have lt : (at' % ((ns.map V.int).length : Int)).toNat < ns.length := by omega
        refine ⟨ns[(at' % ((ns.map V.int).length : Int)).toNat], ?_⟩
        have e := atI_nat (xs := ns.map V.int) (j := (at' % ((ns.map V.int).length : Int)).toNat) (v := .int ns[(at' % ((ns.map V.int).length : Int)).toNat]) (by rw [List.getElem?_map, List.getElem?_eq_getElem lt] <;> rfl)
        rw [Int.toNat_of_nonneg l0] at e
        exact e
      refine ix_l (.inl (.inl (s1 _ _ e4))) hn ?_
      walk_at "go"
      exact ⟨n, rfl, s1 _ _ e3, s1 _ _ e4, b1.same s1⟩
    · walk_at "go"
      exact ⟨_, rfl, s1 _ _ e3, s1 _ _ e4, b1.same s1⟩
  rintro σ' H' ⟨cell, rfl, f3, f4, b2⟩
  refine g_cut (fun σ' H2 => σ' = [some (.ref p), some (.int many), none, some (.int at'), some (.int cell), none, none] ∧ H2 = H') ?_ ?_
  walk_at "go"
  refine ix_l (.inl (.inl f3)) rfl ?_
  walk_at "go"
  refine g_len (.inl (.inl f4)) ?_
  walk_at "go"
  have abs0 : 0 ≤ (if cell < 0 then -cell else cell) := by split <;> omega
  refine ite2 (fun c1 => ?_) (fun c1 => ?_)
  · walk_at "go"
    refine rI_i ⟨by decide, by decide, by decide⟩ ?_
    walk_at "go"
    refine ite2 (fun c2 => ?_) (fun c2 => ?_)
    · have c3 : (10 : Int) ^ (Int.toNat 18) ≤ (if cell < 0 then -cell else cell) := of_decide_eq_true c2
      walk_at "go"
      refine rI_i ⟨by decide, by decide, by decide⟩ ?_
      walk_at "go"
      refine mulU_i (.inl (by omega)) ?_
      walk_at "go"
      refine rI_i hW ?_
      walk_at "go"
      refine setL (j := 2) f3 rfl ?_
      walk_at "go"
      refine rI_i m0 ?_
      walk_at "go"
      refine z _ _ _ _ (Int.emod_nonneg _ (by omega)) (Int.emod_lt_of_pos _ m0) (show at' ≤ at' + 1 by omega) (Int.le_refl _) (Int.ediv_nonneg ?_ (by omega)) b2.upd upd_same
      split <;> omega
    · walk_at "go"
      exact ⟨rfl, rfl⟩
  · walk_at "go"
    refine iteF ?_
    walk_at "go"
    exact ⟨rfl, rfl⟩
  rintro σ' H2 ⟨rfl, rfl⟩
  walk_at "go"
  refine rI_i (show (0 : Int) < 2147483563 by decide) ?_
  walk_at "go"
  refine mulU_i (.inl (by omega)) ?_
  walk_at "go"
  have r0 := Int.emod_nonneg cell (show (2147483563 : Int) ≠ 0 by decide)
  have r1 := Int.emod_lt_of_pos cell (show (0 : Int) < 2147483563 by decide)
  refine rI_i ⟨by decide, by decide, by omega⟩ ?_
  walk_at "go"
  refine rI_i (show (0 : Int) < 2147483647 by decide) ?_
  walk_at "go"
  refine mulU_i (.inl (by omega)) ?_
  walk_at "go"
  generalize hm : (cell % 2147483563 + 52103 * at' + 33) ^ (Int.toNat 3) % 2147483647 = m
  have g0 : 0 ≤ m := by rw [← hm]; exact Int.emod_nonneg _ (by decide)
  have g1 : m < 2147483647 := by rw [← hm]; exact Int.emod_lt_of_pos _ (by decide)
  have p1 := mixed_small g0 g1 a0 a2
  have p2 := sq_small a0 a2
  refine mulU_i (.inl (by omega)) ?_
  walk_at "go"
  refine mulU_i (.inl (by omega)) ?_
  walk_at "go"
  refine mulU_i (.inl (by omega)) ?_
  walk_at "go"
  refine rI_i ⟨by decide, by decide, by omega⟩ ?_
  walk_at "go"
  refine rI_i (show (0 : Int) < 2147483587 by decide) ?_
  walk_at "go"
  refine rI_i (wide_div (b := 6) (by decide) (by decide) (by decide) (by decide)) ?_
  walk_at "go"
  refine rI_i m0 ?_
  walk_at "go"
  exact z _ _ _ _ (Int.emod_nonneg _ (by omega)) (Int.emod_lt_of_pos _ m0) (show at' ≤ at' + 1 by omega) (Int.le_refl _) pen.b0 b2 f3
end
/-! ### what stands without the pen -/
theorem But.del {H H' : Hp} {p : Addr} (h : But H H' p) : Same (del H p) (del H' p) := fun b o e => by
  by_cases z : b = p
  · rw [z, del_same] at e; cases e
  · rw [del_ne z] at e ⊢
    exact h b o z e
theorem del_le {H : Hp} {p : Addr} : Same (del H p) H := fun b o e => by
  by_cases z : b = p
  · rw [z, del_same] at e; cases e
  · rw [del_ne z] at e
    exact e
theorem Rd.same {H H' : Hp} {a : Addr} {o : HO} (s : Same H H') (h : Rd H a o) : Rd H' a o := by
  rcases h with h | ⟨ob, h⟩
  · exact .inl (s _ _ h)
  · exact .inr ⟨ob, s _ _ h⟩
theorem SqL.same {K : W.Frag} {H H' : Hp} {a : Addr} {xs : List V} (s : Same H H') (h : SqL K H a xs) : SqL K H' a xs := h.imp (Rd.same s) id
theorem SqT.same {K : W.Frag} {H H' : Hp} {a : Addr} {xs : List V} (s : Same H H') (h : SqT K H a xs) : SqT K H' a xs := h.imp (Rd.same s) id
mutual
theorem Dq.same {K : W.Frag} {H H' : Hp} (s : Same H H') : ∀ {v : V} {d : PyData}, Dq K H v d → Dq K H' v d
  | _, _, .non => .non
  | _, _, .bl b => .bl b
  | _, _, .int i => .int i
  | _, _, .str x => .str x
  | _, _, .lst h1 h2 => .lst (SqL.same s h1) (DqAll.same s h2)
  | _, _, .tup h1 h2 => .tup (SqT.same s h1) (DqAll.same s h2)
  | _, _, .dic h1 h2 => .dic (s _ _ h1) (DqKv.same s h2)
theorem DqAll.same {K : W.Frag} {H H' : Hp} (s : Same H H') : ∀ {v : List V} {d : List PyData}, DqAll K H v d → DqAll K H' v d
  | _, _, .nil => .nil
  | _, _, .cons h1 h2 => .cons (Dq.same s h1) (DqAll.same s h2)
theorem DqKv.same {K : W.Frag} {H H' : Hp} (s : Same H H') : ∀ {v : List (Key × V)} {d : List (PyData × PyData)}, DqKv K H v d → DqKv K H' v d
  | _, _, .nil => .nil
  | _, _, .cons h1 h2 => .cons (Dq.same s h1) (DqKv.same s h2)
end
/-- a value that is data of a small text -/
def Thing (K : W.Frag) (H : Hp) (v : V) : Prop := ∃ d, Dq K H v d ∧ d.showable = true ∧ d.depth ≤ 3 ∧ d.shown.length ≤ 60
theorem Thing.same {K : W.Frag} {H H' : Hp} {v : V} (s : Same H H') : Thing K H v → Thing K H' v := fun ⟨d, h, r⟩ => ⟨d, h.same s, r⟩
theorem thing_int {K : W.Frag} {H : Hp} {i : Int} (h : i.natAbs < 10 ^ 9) : Thing K H (.int i) := by
  refine ⟨.int i, .int i, ?_, ?_, ?_⟩
  · simp only [PyData.showable, decide_eq_true_eq]
    exact PySem.Flt.log2_lt_of (by decide) (Nat.lt_of_lt_of_le h (Nat.le_trans (by decide : 10 ^ 9 ≤ 2 ^ 30) (Nat.pow_le_pow_right (by decide) (by decide))))
  · simp [PyData.depth]
  · exact Nat.le_trans (PyData.shown_int_le (Nat.lt_of_lt_of_le h (by decide))) (by decide)

section
variable {P : Program} {w : World} {K : W.Frag} {mg : Str → Option Value} {base : Heap}
/-! ### the pen is made -/
def spPen (K : W.Frag) : Sp := fun vs H Q _ => ∃ (a : Addr) (ns : List Int), vs = [.ref a] ∧ SqL K H a (ns.map V.int) ∧
  ∀ (p q : Addr) (ms : List Int) (H' : Hp), Same H H' → H p = none → PenAt H' p q ms 0 0 → Q (.ref p) H'
theorem cut_ints (ns : List Int) (lo hi : Option Int) : ∃ ms : List Int, cutV (ns.map V.int) lo hi = ms.map V.int := by
  unfold cutV
  rw [← List.map_drop, ← List.map_take]
  exact ⟨_, rfl⟩
abbrev sPen : Stmt := top 21
theorem scPen : FnScope ["_law_script"] ["_law_script"] (defScope sPen) := ⟨rfl, rfl, rfl, by decide +kernel, rfl, by decide +kernel, by decide +kernel⟩
theorem ok_pen {f : Addr} {fd : FuncData} (F : Fun K "_law_pen" "_law_pen" sPen f fd) (m_list : mg "list" = none) : FnG P w K mg base CX0 1 f fd ["_law_script"] (spPen K) := by
  refine body_g0 F scPen ?_ ?_
  · rintro vs H Q E ⟨a, ns, rfl, _⟩
    rfl
  rintro cdv A outer s H vs Q E hr hq ⟨a, ns, rfl, hl, z⟩
  refine ⟨_, (pss_one (ps_ret (pe_lst (pa_cons (pe_callTy c_list (by rfl) m_list (by decide +kernel) (pa_cons (pe_slice sl_list (pv 0) po_none (po_some pe_int)) pa_nil)) (pa_cons pe_int (pa_cons pe_int pa_nil)))))), ?_⟩
  walk_at "go"
  refine slL hl fun p1 n1 => ?_
  obtain ⟨ms, em⟩ := cut_ints ns none (some 60)
  rw [em]
  walk_at "go"
  refine g_list (.inl (.inl upd_same)) fun q n2 => ?_
  walk_at "go"
  refine g_small (show 3 ≤ 1000 by decide) fun p n3 => ?_
  walk_at "go"
  have s1 := same_upd (o := .lst (ms.map V.int)) n1
  have s2 := s1.trans (same_upd (o := .lst (ms.map V.int)) n2)
  have s3 := s2.trans (same_upd (o := .lst [V.ref q, .int 0, .int 0]) n3)
  refine z p q ms _ s3 (s2.free n3) ⟨upd_same, ?_, by decide, by decide, by decide⟩
  rw [upd_ne (ne_of_none upd_same n3), upd_same]
end
theorem PenAt.next {H H' : Hp} {p q : Addr} {ns : List Int} {a b a2 b2 : Int} (h : PenAt H p q ns a b) (s : But H H' p) (e : H' p = some (.lst [.ref q, .int a2, .int b2])) (h1 : a ≤ a2) (h2 : a2 ≤ 100000) (h3 : 0 ≤ b2) : PenAt H' p q ns a2 b2 := by
  have a0 := h.a0
  refine ⟨e, s _ _ (fun z => ?_) h.cells, by omega, h2, h3⟩
  have c := h.cells
  rw [z, h.pen] at c
  have c2 := Option.some.inj c
  injection c2 with c3
  cases ns with
  | nil => cases c3
  | cons n r => cases c3
theorem PenAt.same {H H' : Hp} {p q : Addr} {ns : List Int} {a b : Int} (h : PenAt H p q ns a b) (s : Same H H') : PenAt H' p q ns a b := ⟨s _ _ h.pen, s _ _ h.cells, h.a0, h.a1, h.b0⟩
theorem nth {xs : List V} {d : Int} (h0 : 0 ≤ d) (h1 : d < (xs.length : Int)) : ∃ v, v ∈ xs ∧ atI xs d = some v := by
  have lt : d.toNat < xs.length := by omega
  refine ⟨xs[d.toNat], List.getElem_mem lt, ?_⟩
  have e := atI_nat (xs := xs) (j := d.toNat) (v := xs[d.toNat]) (List.getElem?_eq_getElem lt)
  rw [Int.toNat_of_nonneg h0] at e
  exact e
theorem thing_of {K : W.Frag} {H : Hp} {v : V} {d : PyData} (h : Dq K H v d) (h1 : d.showable = true) (h2 : d.depth ≤ 3) (h3 : d.shown.length ≤ 60) : Thing K H v := ⟨d, h, h1, h2, h3⟩
section
variable {P : Program} {w : World} {K : W.Frag} {mg : Str → Option Value} {base : Heap}
/-! ### a thing is drawn -/
def spThing (K : W.Frag) : Sp := fun vs H Q _ => ∃ (p q : Addr) (ns : List Int) (a b : Int), vs = [.ref p] ∧ PenAt H p q ns a b ∧ a + 2 ≤ 100000 ∧
  ∀ (v : V) (a2 b2 : Int) (H' : Hp), a ≤ a2 → a2 ≤ a + 2 → But H H' p → PenAt H' p q ns a2 b2 → Thing K (del H' p) v → Q v H'
abbrev sThing : Stmt := top 24
theorem scThing : FnScope ["_law_pen_here", "_law_number", "_law_menu"] ["_law_pen_here"] (defScope sThing) := ⟨rfl, rfl, rfl, by decide +kernel, rfl, by decide +kernel, by decide +kernel⟩
theorem ok_thing {f : Addr} {fd : FuncData} (F : Fun K "_law_thing" "_law_thing" sThing f fd) (c_law_draw : CalG P w K mg base CX0 1 "_law_draw" spDraw) : FnG P w K mg base CX0 2 f fd ["_law_pen_here"] (spThing K) := by
  refine body_g0 F scThing ?_ ?_
  · rintro vs H Q E ⟨p, q, ns, a, b, rfl, _⟩
    rfl
  rintro cdv A outer s H vs Q E hr hq ⟨p, q, ns, a, b, rfl, pen, hb, z⟩
  refine ⟨_, (pss_cons (ps_set (i := 1) scThing.nd rfl (Or.inl rfl) (pe_g c_law_draw hr (by decide) hq pass0 rfl (pa_cons (pv 0) (pa_cons (pe_op op_pow pe_int pe_int) pa_nil))))
    (pss_cons (ps_set (i := 2) scThing.nd rfl (Or.inl rfl) (pe_lst (pa_cons (pv 1) (pa_cons (pe_op op_sub pe_int (pv 1)) (pa_cons pe_non (pa_cons pe_bl (pa_cons pe_bl (pa_cons pe_str (pa_cons pe_str (pa_cons pe_str (pa_cons (pe_tup pa_nil) (pa_cons (pe_tup (pa_cons (pv 1) (pa_cons pe_str pa_nil))) (pa_cons (pe_lst (pa_cons (pv 1) pa_nil)) pa_nil)))))))))))))
    (pss_one (ps_ret (pe_ix ix_seq (pe_op op_addU (pv 2) (pe_lst (pa_cons (pe_disp (pps_cons pe_str (pv 1) pps_nil) rfl rfl (List.cons_ne_nil _ _) (by decide)) pa_nil))) (pe_g c_law_draw hr (by decide) hq pass0 rfl (pa_cons (pv 0) (pa_cons pe_int pa_nil))) (fun _ _ => rfl)))))), ?_⟩
  walk_at "go"
  refine rI_i ⟨by decide, by decide, by decide⟩ ?_
  walk_at "go"
  have a0 := pen.a0
  refine ⟨p, q, ns, a, b, _, rfl, by decide, by decide, pen, by omega, fun n a1 b1 H1 n0 n1 l1 l2 l3 s1 e1 => ?_⟩
  have n2 : n < 10 ^ 9 := n1
  have pen1 := pen.next s1 e1 l1 (by omega) l3
  walk_at "go"
  refine g_small (show 0 ≤ 1000 by decide) fun t0 f0 => ?_
  walk_at "go"
  refine g_small (show 2 ≤ 1000 by decide) fun t1 f1 => ?_
  walk_at "go"
  refine g_small (show 1 ≤ 1000 by decide) fun l1 f2 => ?_
  walk_at "go"
  refine g_small (show 11 ≤ 1000 by decide) fun m f3 => ?_
  walk_at "go"
  refine g_disp fun d f4 => ?_
  walk_at "go"
  refine ⟨upd_same, [(Sum.inr "a", .int n)], rfl, (by show 1 ≤ 15; decide), ?_⟩
  rw [upd_upd]
  walk_at "go"
  refine g_small (show 1 ≤ 1000 by decide) fun m2 f5 => ?_
  walk_at "cat"
  intro r f6
  walk_at "go"
  have kp : ∀ {H : Hp} {a : Addr} {o : HO}, H p = some o → H a = none → a ≠ p := fun h1 h2 => Ne.symm (ne_of_none h1 h2)
  have p0 := pen1.pen
  have nt0 := kp p0 f0
  have nt1 := kp (same_upd f0 _ _ p0) f1
  have nl1 := kp (same_upd f1 _ _ (same_upd f0 _ _ p0)) f2
  have nd := kp (same_upd f3 _ _ (same_upd f2 _ _ (same_upd f1 _ _ (same_upd f0 _ _ p0)))) f4
  have nr := kp (same_upd f5 _ _ (same_upd f4 _ _ (same_upd f3 _ _ (same_upd f2 _ _ (same_upd f1 _ _ (same_upd f0 _ _ p0)))))) f6
  have g6 : Same H1 _ := (((((((same_upd f0 : Same _ _).trans (same_upd f1)).trans (same_upd f2)).trans (same_upd f3)).trans (same_upd f4)).trans (same_upd f5)).trans (same_upd (o := .lst [.int n, .int (0 - n), .non, .bl true, .bl false, .str "", .str "word", .str "two words", .ref t0, .ref t1, .ref l1, .ref d]) f6))
  refine ⟨p, q, ns, a1, b1, 12, rfl, by decide, by decide, pen1.same g6, by omega, fun k a3 b3 H2 k0 k1 l4 l5 l6 s2 e2 => ?_⟩
  have pen2 := (pen1.same g6).next s2 e2 l4 (by omega) l6
  have h0 : del H2 p t0 = some (.tup []) := s2.del _ _ (by rw [del_ne nt0]; walk_at "look")
  have h1 : del H2 p t1 = some (.tup [.int n, .str "r"]) := s2.del _ _ (by rw [del_ne nt1]; walk_at "look")
  have h2 : del H2 p l1 = some (.lst [.int n]) := s2.del _ _ (by rw [del_ne nl1]; walk_at "look")
  have h3 : del H2 p d = some (.dK [(Sum.inr "a", .int n)]) := s2.del _ _ (by rw [del_ne nd]; walk_at "look")
  have hr2 : H2 r = some (.lst [.int n, .int (0 - n), .non, .bl true, .bl false, .str "", .str "word", .str "two words", .ref t0, .ref t1, .ref l1, .ref d]) := s2 _ _ nr (by walk_at "look")
  obtain ⟨v, hv, ev⟩ := nth k0 (show k < (([.int n, .int (0 - n), .non, .bl true, .bl false, .str "", .str "word", .str "two words", .ref t0, .ref t1, .ref l1, .ref d] : List V).length : Int) from k1)
  refine ix_l (.inl (.inl hr2)) ev ?_
  walk_at "go"
  refine z v a3 b3 H2 (by omega) (by omega) (s1.trans ((Same.but g6 p).trans s2)) pen2 ?_
  have small : ∀ {i : Int}, i.natAbs < 10 ^ 9 → (PyData.shown (.int i)).length ≤ 13 ∧ PyData.showable (.int i) = true := fun {i} hi => by
    refine ⟨PyData.shown_int_le (Nat.lt_of_lt_of_le hi (by decide)), ?_⟩
    simp only [PyData.showable, decide_eq_true_eq]
    exact PySem.Flt.log2_lt_of (by decide) (Nat.lt_of_lt_of_le hi (Nat.le_trans (by decide : 10 ^ 9 ≤ 2 ^ 30) (Nat.pow_le_pow_right (by decide) (by decide))))
  have nn : n.natAbs < 10 ^ 9 := by omega
  have nm : (0 - n).natAbs < 10 ^ 9 := by omega
  simp only [List.mem_cons, List.not_mem_nil, or_false] at hv
  rcases hv with rfl | rfl | rfl | rfl | rfl | rfl | rfl | rfl | rfl | rfl | rfl | rfl
  · exact thing_int nn
  · exact thing_int nm
  · exact thing_of .non (by simp [PyData.showable]) (by simp [PyData.depth]) (by simp only [PyData.shown]; decide +kernel)
  · exact thing_of (.bl _) (by simp [PyData.showable]) (by simp [PyData.depth]) (by simp only [PyData.shown]; decide +kernel)
  · exact thing_of (.bl _) (by simp [PyData.showable]) (by simp [PyData.depth]) (by simp only [PyData.shown]; decide +kernel)
  · exact thing_of (.str _) (by simp [PyData.showable]) (by simp [PyData.depth]) (by simp only [PyData.shown]; decide +kernel)
  · exact thing_of (.str _) (by simp [PyData.showable]) (by simp [PyData.depth]) (by simp only [PyData.shown]; decide +kernel)
  · exact thing_of (.str _) (by simp [PyData.showable]) (by simp [PyData.depth]) (by simp only [PyData.shown]; decide +kernel)
  · exact thing_of (.tup (.inl (.inl h0)) .nil) (by simp [PyData.showable, PyData.showableAll]) (by simp [PyData.depth, PyData.depthAll]) (by simp only [PyData.shown, PyData.shownAll]; decide +kernel)
  · refine thing_of (.tup (.inl (.inl h1)) (.cons (.int n) (.cons (.str "r") .nil))) (by simp only [PyData.showable, PyData.showableAll] at small ⊢; simp [(small nn).2]) (by simp [PyData.depth, PyData.depthAll]) ?_
    have l1 := (small nn).1
    simp only [PyData.shown, PyData.shownAll] at l1 ⊢
    refine Nat.le_trans (tupleText_len_le _) ?_
    have l2 : (reprText (Str.ofString "r")).length = 3 := by decide +kernel
    simp only [List.map_cons, List.map_nil, List.sum_cons, List.sum_nil, List.length_cons, List.length_nil, l2]
    omega
  · refine thing_of (.lst (.inl (.inl h2)) (.cons (.int n) .nil)) (by simp only [PyData.showable, PyData.showableAll] at small ⊢; simp [(small nn).2]) (by simp [PyData.depth, PyData.depthAll]) ?_
    have l1 := (small nn).1
    simp only [PyData.shown, PyData.shownAll] at l1 ⊢
    refine Nat.le_trans (listText_len_le _) ?_
    simp only [List.map_cons, List.map_nil, List.sum_cons, List.sum_nil, List.length_cons, List.length_nil]
    omega
  · refine thing_of (.dic h3 (.cons (.int n) .nil)) (by simp only [PyData.showable, PyData.showableKv, keyD] at small ⊢; simp [(small nn).2]) (by simp [PyData.depth, PyData.depthKv, keyD]) ?_
    have l1 := (small nn).1
    simp only [PyData.shown, PyData.shownKv, keyD] at l1 ⊢
    refine Nat.le_trans (dictText_len_le _) ?_
    have l2 : (reprText (Str.ofString "a")).length = 3 := by decide +kernel
    have l3 : (Str.ofString ": ").length = 2 := by decide +kernel
    simp only [List.map_cons, List.map_nil, List.sum_cons, List.sum_nil, List.length_cons, List.length_nil, strLen_append, l2, l3]
    omega
end
section
variable {P : Program} {w : World} {K : W.Frag} {mg : Str → Option Value} {base : Heap}
/-! ### of which classes an error is -/
/-- the seven answers about the bases -/
def BasesIs (K : W.Frag) (cL C : Addr) (bs : List Bool) : Prop :=
  [W.kitOne K (.ref C) (.ref cL), W.kitOne K (.ref C) (.type "ValueError"), W.kitOne K (.ref C) (.type "KeyError"), W.kitOne K (.ref C) (.type "IndexError"), W.kitOne K (.ref C) (.type "LookupError"), W.kitOne K (.ref C) (.type "RuntimeError"), W.kitOne K (.ref C) (.type "OverflowError")] = bs.map some
def spBases (K : W.Frag) (cL : Addr) : Sp := fun vs H Q _ => ∃ (a C : Addr) (bs : List Bool), vs = [.ref a] ∧ ExAt H a C ∧ ExK K C ∧ BasesIs K cL C bs ∧
  ∀ (r : Addr) (H' : Hp), Same H H' → H' r = some (.lst (bs.map V.bl)) → Q (.ref r) H'
abbrev sBases : Stmt := top 25
theorem scBases : FnScope ["_law_error", "_law_found"] ["_law_error"] (defScope sBases) := ⟨rfl, rfl, rfl, by decide +kernel, rfl, by decide +kernel, by decide +kernel⟩
theorem ok_bases {f cL : Addr} {fd : FuncData} (F : Fun K "_law_bases" "_law_bases" sBases f fd) (G : ExA K) (nL : mg "LandError" = some (.ref cL)) (m_isinstance : mg "isinstance" = none) (m_ValueError : mg "ValueError" = none) (m_KeyError : mg "KeyError" = none) (m_IndexError : mg "IndexError" = none)
    (m_LookupError : mg "LookupError" = none) (m_RuntimeError : mg "RuntimeError" = none) (m_OverflowError : mg "OverflowError" = none) : FnG P w K mg base CX0 1 f fd ["_law_error"] (spBases K cL) := by
  refine body_g0 F scBases ?_ ?_
  · rintro vs H Q E ⟨a, C, bs, rfl, _⟩
    rfl
  rintro cdv A outer s H vs Q E hr hq ⟨a, C, bs, rfl, ea, T, hb, z⟩
  refine ⟨_, (pss_cons (ps_set (i := 1) scBases.nd rfl (Or.inl rfl) (pe_lst (pa_cons (pe_callB call_isX (by rfl) m_isinstance (by decide +kernel) (pa_cons (pv 0) (pa_cons (pe_gref rfl nL) pa_nil))) (pa_cons (pe_callB call_isX (by rfl) m_isinstance (by decide +kernel) (pa_cons (pv 0) (pa_cons (pe_bty "ValueError" rfl m_ValueError (by decide +kernel)) pa_nil))) (pa_cons (pe_callB call_isX (by rfl) m_isinstance (by decide +kernel) (pa_cons (pv 0) (pa_cons (pe_bty "KeyError" rfl m_KeyError (by decide +kernel)) pa_nil))) pa_nil)))))
    (pss_cons (ps_set (i := 1) scBases.nd rfl (Or.inl rfl) (pe_op op_addU (pv 1) (pe_lst (pa_cons (pe_callB call_isX (by rfl) m_isinstance (by decide +kernel) (pa_cons (pv 0) (pa_cons (pe_bty "IndexError" rfl m_IndexError (by decide +kernel)) pa_nil))) (pa_cons (pe_callB call_isX (by rfl) m_isinstance (by decide +kernel) (pa_cons (pv 0) (pa_cons (pe_bty "LookupError" rfl m_LookupError (by decide +kernel)) pa_nil))) (pa_cons (pe_callB call_isX (by rfl) m_isinstance (by decide +kernel) (pa_cons (pv 0) (pa_cons (pe_bty "RuntimeError" rfl m_RuntimeError (by decide +kernel)) pa_nil))) pa_nil))))))
    (pss_one (ps_ret (pe_op op_addU (pv 1) (pe_lst (pa_cons (pe_callB call_isX (by rfl) m_isinstance (by decide +kernel) (pa_cons (pv 0) (pa_cons (pe_bty "OverflowError" rfl m_OverflowError (by decide +kernel)) pa_nil))) pa_nil))))))), ?_⟩
  obtain ⟨b0, b1, b2, b3, b4, b5, b6, rfl⟩ : ∃ b0 b1 b2 b3 b4 b5 b6 : Bool, bs = [b0, b1, b2, b3, b4, b5, b6] := by
    have hl : bs.length = 7 := by
      have e := congrArg List.length hb
      simpa using e.symm
    match bs, hl with
    | [b0, b1, b2, b3, b4, b5, b6], _ => exact ⟨_, _, _, _, _, _, _, rfl⟩
  obtain ⟨h0, h1, h2, h3, h4, h5, h6⟩ : W.kitOne K (.ref C) (.ref cL) = some b0 ∧ W.kitOne K (.ref C) (.type "ValueError") = some b1 ∧ W.kitOne K (.ref C) (.type "KeyError") = some b2 ∧ W.kitOne K (.ref C) (.type "IndexError") = some b3 ∧ W.kitOne K (.ref C) (.type "LookupError") = some b4 ∧ W.kitOne K (.ref C) (.type "RuntimeError") = some b5 ∧ W.kitOne K (.ref C) (.type "OverflowError") = some b6 := by
    simpa [BasesIs] using hb
  walk_at "go"
  refine g_isX (cv := .ref cL) ea T G (fun u h => h) h0 ?_
  walk_at "go"
  refine g_isX (cv := .type "ValueError") ea T G (fun u h => h) h1 ?_
  walk_at "go"
  refine g_isX (cv := .type "KeyError") ea T G (fun u h => h) h2 ?_
  walk_at "go"
  refine g_small (show 3 ≤ 1000 by decide) fun l1 n1 => ?_
  have s1 : Same H _ := same_upd (o := .lst [.bl b0, .bl b1, .bl b2]) n1
  have e1 := ea.same s1
  walk_at "go"
  refine g_isX (cv := .type "IndexError") e1 T G (fun u h => h) h3 ?_
  walk_at "go"
  refine g_isX (cv := .type "LookupError") e1 T G (fun u h => h) h4 ?_
  walk_at "go"
  refine g_isX (cv := .type "RuntimeError") e1 T G (fun u h => h) h5 ?_
  walk_at "go"
  refine g_small (show 3 ≤ 1000 by decide) fun l2 n2 => ?_
  walk_at "cat"
  intro l3 n3
  have s3 := (s1.trans (same_upd (o := .lst [.bl b3, .bl b4, .bl b5]) n2)).trans (same_upd (o := .lst [.bl b0, .bl b1, .bl b2, .bl b3, .bl b4, .bl b5]) n3)
  have e3 := ea.same s3
  walk_at "go"
  refine g_isX (cv := .type "OverflowError") e3 T G (fun u h => h) h6 ?_
  walk_at "go"
  refine g_small (show 1 ≤ 1000 by decide) fun l4 n4 => ?_
  walk_at "cat"
  intro l5 n5
  walk_at "go"
  exact z l5 _ ((s3.trans (same_upd (o := .lst [.bl b6]) n4)).trans (same_upd n5)) upd_same
/-- the eighteen answers about the kinds -/
def KindsIs (K : W.Frag) (cs : List Addr) (C : Addr) (bs : List Bool) : Prop := (cs.map fun c => W.kitOne K (.ref C) (.ref c)) = bs.map some
/-- the numbers of the kinds that are there -/
def hits (bs : List Bool) (n : Nat) : List Int := ((List.range n).filter fun k => bs.getD k false).map fun k => ((k : Nat) : Int)
theorem hits_succ (bs : List Bool) (n : Nat) : hits bs (n + 1) = if bs.getD n false then hits bs n ++ [(n : Int)] else hits bs n := by
  unfold hits
  rw [List.range_succ, List.filter_append, List.map_append]
  rw [List.getD_eq_getElem?_getD]
  cases h : bs[n]?.getD false <;> simp [h]
theorem hits_len (bs : List Bool) : ∀ n, (hits bs n).length ≤ n
  | 0 => Nat.le_refl 0
  | n + 1 => by
    have h := hits_len bs n
    rw [hits_succ]
    split
    · rw [List.length_append]; simp; omega
    · omega
theorem nth_bl {bs : List Bool} {i : Nat} (h : i < bs.length) : atI (bs.map V.bl) ((0 : Int) + (i : Nat)) = some (.bl (bs.getD i false)) := by
  rw [Int.zero_add]
  refine atI_nat ?_
  rw [List.getElem?_map, List.getElem?_eq_getElem h, List.getD_eq_getElem?_getD, List.getElem?_eq_getElem h]
  rfl
def spKinds (K : W.Frag) (cs : List Addr) : Sp := fun vs H Q _ => ∃ (a C : Addr) (bs : List Bool), vs = [.ref a] ∧ ExAt H a C ∧ ExK K C ∧ KindsIs K cs C bs ∧
  ∀ (r : Addr) (H' : Hp), Same H H' → H' r = some (.lst ((hits bs 18).map V.int)) → Q (.ref r) H'
abbrev sKinds : Stmt := top 26
theorem scKinds : FnScope ["_law_error", "_law_found", "_law_k"] ["_law_error"] (defScope sKinds) := ⟨rfl, rfl, rfl, by decide +kernel, rfl, by decide +kernel, by decide +kernel⟩
theorem ok_kinds {f c0 c1 c2 c3 c4 c5 c6 c7 c8 c9 c10 c11 c12 c13 c14 c15 c16 c17 : Addr} {fd : FuncData} (F : Fun K "_law_kinds" "_law_kinds" sKinds f fd) (G : ExA K) (y0 : mg "InvalidMachine" = some (.ref c0)) (y1 : mg "InvalidCode" = some (.ref c1)) (y2 : mg "InvalidWay" = some (.ref c2)) (y3 : mg "InvalidBreaks" = some (.ref c3)) (y4 : mg "InvalidMap" = some (.ref c4)) (y5 : mg "InvalidText" = some (.ref c5)) (y6 : mg "InvalidLimit" = some (.ref c6)) (y7 : mg "Clash" = some (.ref c7)) (y8 : mg "UnknownCommand" = some (.ref c8)) (y9 : mg "NoName" = some (.ref c9)) (y10 : mg "NoPoint" = some (.ref c10)) (y11 : mg "NoRow" = some (.ref c11)) (y12 : mg "NoStep" = some (.ref c12)) (y13 : mg "NothingToUndo" = some (.ref c13)) (y14 : mg "Ended" = some (.ref c14)) (y15 : mg "HeldGap" = some (.ref c15)) (y16 : mg "NoWay" = some (.ref c16)) (y17 : mg "TooMany" = some (.ref c17)) (m_isinstance : mg "isinstance" = none) (m_range : mg "range" = none) :
    FnG P w K mg base CX0 1 f fd ["_law_error"] (spKinds K [c0, c1, c2, c3, c4, c5, c6, c7, c8, c9, c10, c11, c12, c13, c14, c15, c16, c17]) := by
  refine body_g0 F scKinds ?_ ?_
  · rintro vs H Q E ⟨a, C, bs, rfl, _⟩
    rfl
  rintro cdv A outer s H vs Q E hr hq ⟨a, C, bs, rfl, ea, T, hb, z⟩
  refine ⟨_, (pss_cons (ps_set (i := 1) scKinds.nd rfl (Or.inr rfl) (pe_lst (pa_cons (pe_callB call_isX (by rfl) m_isinstance (by decide +kernel) (pa_cons (pv 0) (pa_cons (pe_gref rfl y0) pa_nil))) (pa_cons (pe_callB call_isX (by rfl) m_isinstance (by decide +kernel) (pa_cons (pv 0) (pa_cons (pe_gref rfl y1) pa_nil))) (pa_cons (pe_callB call_isX (by rfl) m_isinstance (by decide +kernel) (pa_cons (pv 0) (pa_cons (pe_gref rfl y2) pa_nil))) pa_nil)))))
    (pss_cons (ps_set (i := 1) scKinds.nd rfl (Or.inr rfl) (pe_op op_addU (pv 1) (pe_lst (pa_cons (pe_callB call_isX (by rfl) m_isinstance (by decide +kernel) (pa_cons (pv 0) (pa_cons (pe_gref rfl y3) pa_nil))) (pa_cons (pe_callB call_isX (by rfl) m_isinstance (by decide +kernel) (pa_cons (pv 0) (pa_cons (pe_gref rfl y4) pa_nil))) (pa_cons (pe_callB call_isX (by rfl) m_isinstance (by decide +kernel) (pa_cons (pv 0) (pa_cons (pe_gref rfl y5) pa_nil))) pa_nil))))))
    (pss_cons (ps_set (i := 1) scKinds.nd rfl (Or.inr rfl) (pe_op op_addU (pv 1) (pe_lst (pa_cons (pe_callB call_isX (by rfl) m_isinstance (by decide +kernel) (pa_cons (pv 0) (pa_cons (pe_gref rfl y6) pa_nil))) (pa_cons (pe_callB call_isX (by rfl) m_isinstance (by decide +kernel) (pa_cons (pv 0) (pa_cons (pe_gref rfl y7) pa_nil))) (pa_cons (pe_callB call_isX (by rfl) m_isinstance (by decide +kernel) (pa_cons (pv 0) (pa_cons (pe_gref rfl y8) pa_nil))) pa_nil))))))
    (pss_cons (ps_set (i := 1) scKinds.nd rfl (Or.inr rfl) (pe_op op_addU (pv 1) (pe_lst (pa_cons (pe_callB call_isX (by rfl) m_isinstance (by decide +kernel) (pa_cons (pv 0) (pa_cons (pe_gref rfl y9) pa_nil))) (pa_cons (pe_callB call_isX (by rfl) m_isinstance (by decide +kernel) (pa_cons (pv 0) (pa_cons (pe_gref rfl y10) pa_nil))) (pa_cons (pe_callB call_isX (by rfl) m_isinstance (by decide +kernel) (pa_cons (pv 0) (pa_cons (pe_gref rfl y11) pa_nil))) pa_nil))))))
    (pss_cons (ps_set (i := 1) scKinds.nd rfl (Or.inr rfl) (pe_op op_addU (pv 1) (pe_lst (pa_cons (pe_callB call_isX (by rfl) m_isinstance (by decide +kernel) (pa_cons (pv 0) (pa_cons (pe_gref rfl y12) pa_nil))) (pa_cons (pe_callB call_isX (by rfl) m_isinstance (by decide +kernel) (pa_cons (pv 0) (pa_cons (pe_gref rfl y13) pa_nil))) (pa_cons (pe_callB call_isX (by rfl) m_isinstance (by decide +kernel) (pa_cons (pv 0) (pa_cons (pe_gref rfl y14) pa_nil))) pa_nil))))))
    (pss_cons (ps_set (i := 1) scKinds.nd rfl (Or.inr rfl) (pe_op op_addU (pv 1) (pe_lst (pa_cons (pe_callB call_isX (by rfl) m_isinstance (by decide +kernel) (pa_cons (pv 0) (pa_cons (pe_gref rfl y15) pa_nil))) (pa_cons (pe_callB call_isX (by rfl) m_isinstance (by decide +kernel) (pa_cons (pv 0) (pa_cons (pe_gref rfl y16) pa_nil))) (pa_cons (pe_callB call_isX (by rfl) m_isinstance (by decide +kernel) (pa_cons (pv 0) (pa_cons (pe_gref rfl y17) pa_nil))) pa_nil))))))
    (pss_one (ps_ret (pe_lc (own := [("_law_k", 2)]) (g := gName 2) rfl scKinds.nd (pi_range1 rfl m_range (pa_cons pe_int pa_nil)) (blkOk_by (N := ["_law_error", "_law_found", "_law_k"]) (sc := defScope sKinds) (by decide +kernel)) (fun _ _ _ _ _ => pg_name (i := 2) scKinds.nd rfl (Or.inl rfl)) (fun _ _ _ _ _ => (pts_one (pt_val (pe_ix (show IxR _ (rIx K) from ix_seq) (pv 1) (pv 2) (fun _ _ => rfl))))) (fun _ _ _ _ _ => (pv 2))))))))))), ?_⟩
  obtain ⟨b0, b1, b2, b3, b4, b5, b6, b7, b8, b9, b10, b11, b12, b13, b14, b15, b16, b17, rfl⟩ : ∃ b0 b1 b2 b3 b4 b5 b6 b7 b8 b9 b10 b11 b12 b13 b14 b15 b16 b17 : Bool, bs = [b0, b1, b2, b3, b4, b5, b6, b7, b8, b9, b10, b11, b12, b13, b14, b15, b16, b17] := by
    have hl : bs.length = 18 := by
      have e := congrArg List.length hb
      simpa using e.symm
    match bs, hl with
    | [b0, b1, b2, b3, b4, b5, b6, b7, b8, b9, b10, b11, b12, b13, b14, b15, b16, b17], _ => exact ⟨_, _, _, _, _, _, _, _, _, _, _, _, _, _, _, _, _, _, rfl⟩
  obtain ⟨h0, h1, h2, h3, h4, h5, h6, h7, h8, h9, h10, h11, h12, h13, h14, h15, h16, h17⟩ : W.kitOne K (.ref C) (.ref c0) = some b0 ∧ W.kitOne K (.ref C) (.ref c1) = some b1 ∧ W.kitOne K (.ref C) (.ref c2) = some b2 ∧ W.kitOne K (.ref C) (.ref c3) = some b3 ∧ W.kitOne K (.ref C) (.ref c4) = some b4 ∧ W.kitOne K (.ref C) (.ref c5) = some b5 ∧ W.kitOne K (.ref C) (.ref c6) = some b6 ∧ W.kitOne K (.ref C) (.ref c7) = some b7 ∧ W.kitOne K (.ref C) (.ref c8) = some b8 ∧ W.kitOne K (.ref C) (.ref c9) = some b9 ∧ W.kitOne K (.ref C) (.ref c10) = some b10 ∧ W.kitOne K (.ref C) (.ref c11) = some b11 ∧ W.kitOne K (.ref C) (.ref c12) = some b12 ∧ W.kitOne K (.ref C) (.ref c13) = some b13 ∧ W.kitOne K (.ref C) (.ref c14) = some b14 ∧ W.kitOne K (.ref C) (.ref c15) = some b15 ∧ W.kitOne K (.ref C) (.ref c16) = some b16 ∧ W.kitOne K (.ref C) (.ref c17) = some b17 := by
    simpa [KindsIs] using hb
  walk_at "go"
  refine g_isX (cv := .ref c0) ea T G (fun u h => h) h0 ?_
  walk_at "go"
  refine g_isX (cv := .ref c1) ea T G (fun u h => h) h1 ?_
  walk_at "go"
  refine g_isX (cv := .ref c2) ea T G (fun u h => h) h2 ?_
  walk_at "go"
  refine g_small (show 3 ≤ 1000 by decide) fun l0 n0 => ?_
  have s0 : Same H _ := same_upd (o := .lst [.bl b0, .bl b1, .bl b2]) n0
  have e0 := ea.same s0
  walk_at "go"
  refine g_isX (cv := .ref c3) e0 T G (fun u h => h) h3 ?_
  walk_at "go"
  refine g_isX (cv := .ref c4) e0 T G (fun u h => h) h4 ?_
  walk_at "go"
  refine g_isX (cv := .ref c5) e0 T G (fun u h => h) h5 ?_
  walk_at "go"
  refine g_small (show 3 ≤ 1000 by decide) fun l1 n1 => ?_
  walk_at "cat"
  intro r1 f1
  have s1 := (s0.trans (same_upd (o := .lst [.bl b3, .bl b4, .bl b5]) n1)).trans (same_upd (o := .lst [.bl b0, .bl b1, .bl b2, .bl b3, .bl b4, .bl b5]) f1)
  have e1 := ea.same s1
  walk_at "go"
  refine g_isX (cv := .ref c6) e1 T G (fun u h => h) h6 ?_
  walk_at "go"
  refine g_isX (cv := .ref c7) e1 T G (fun u h => h) h7 ?_
  walk_at "go"
  refine g_isX (cv := .ref c8) e1 T G (fun u h => h) h8 ?_
  walk_at "go"
  refine g_small (show 3 ≤ 1000 by decide) fun l2 n2 => ?_
  walk_at "cat"
  intro r2 f2
  have s2 := (s1.trans (same_upd (o := .lst [.bl b6, .bl b7, .bl b8]) n2)).trans (same_upd (o := .lst [.bl b0, .bl b1, .bl b2, .bl b3, .bl b4, .bl b5, .bl b6, .bl b7, .bl b8]) f2)
  have e2 := ea.same s2
  walk_at "go"
  refine g_isX (cv := .ref c9) e2 T G (fun u h => h) h9 ?_
  walk_at "go"
  refine g_isX (cv := .ref c10) e2 T G (fun u h => h) h10 ?_
  walk_at "go"
  refine g_isX (cv := .ref c11) e2 T G (fun u h => h) h11 ?_
  walk_at "go"
  refine g_small (show 3 ≤ 1000 by decide) fun l3 n3 => ?_
  walk_at "cat"
  intro r3 f3
  have s3 := (s2.trans (same_upd (o := .lst [.bl b9, .bl b10, .bl b11]) n3)).trans (same_upd (o := .lst [.bl b0, .bl b1, .bl b2, .bl b3, .bl b4, .bl b5, .bl b6, .bl b7, .bl b8, .bl b9, .bl b10, .bl b11]) f3)
  have e3 := ea.same s3
  walk_at "go"
  refine g_isX (cv := .ref c12) e3 T G (fun u h => h) h12 ?_
  walk_at "go"
  refine g_isX (cv := .ref c13) e3 T G (fun u h => h) h13 ?_
  walk_at "go"
  refine g_isX (cv := .ref c14) e3 T G (fun u h => h) h14 ?_
  walk_at "go"
  refine g_small (show 3 ≤ 1000 by decide) fun l4 n4 => ?_
  walk_at "cat"
  intro r4 f4
  have s4 := (s3.trans (same_upd (o := .lst [.bl b12, .bl b13, .bl b14]) n4)).trans (same_upd (o := .lst [.bl b0, .bl b1, .bl b2, .bl b3, .bl b4, .bl b5, .bl b6, .bl b7, .bl b8, .bl b9, .bl b10, .bl b11, .bl b12, .bl b13, .bl b14]) f4)
  have e4 := ea.same s4
  walk_at "go"
  refine g_isX (cv := .ref c15) e4 T G (fun u h => h) h15 ?_
  walk_at "go"
  refine g_isX (cv := .ref c16) e4 T G (fun u h => h) h16 ?_
  walk_at "go"
  refine g_isX (cv := .ref c17) e4 T G (fun u h => h) h17 ?_
  walk_at "go"
  refine g_small (show 3 ≤ 1000 by decide) fun l5 n5 => ?_
  walk_at "cat"
  intro r5 f5
  have s5 := (s4.trans (same_upd (o := .lst [.bl b15, .bl b16, .bl b17]) n5)).trans (same_upd (o := .lst [.bl b0, .bl b1, .bl b2, .bl b3, .bl b4, .bl b5, .bl b6, .bl b7, .bl b8, .bl b9, .bl b10, .bl b11, .bl b12, .bl b13, .bl b14, .bl b15, .bl b16, .bl b17]) f5)
  have e5 := ea.same s5
  walk_at "go"
  have fin : ∀ {H' : Hp} {b : List Bool}, H' r5 = some (.lst ([b0, b1, b2, b3, b4, b5, b6, b7, b8, b9, b10, b11, b12, b13, b14, b15, b16, b17].map V.bl)) → b = [b0, b1, b2, b3, b4, b5, b6, b7, b8, b9, b10, b11, b12, b13, b14, b15, b16, b17] → H' r5 = some (.lst (b.map V.bl)) := fun h e => by rw [e]; exact h
  refine ⟨18, rfl, by decide, by decide, fun D nD => ?_⟩
  have fD := s5.free nD
  have r5D : r5 ≠ D := ne_of_none upd_same nD
  have e5 := fin (b := [b0, b1, b2, b3, b4, b5, b6, b7, b8, b9, b10, b11, b12, b13, b14, b15, b16, b17]) (same_upd (o := .lst []) nD r5 _ upd_same) rfl
  have q5 := s5.trans (same_upd (o := .lst []) nD)
  generalize hbs : ([b0, b1, b2, b3, b4, b5, b6, b7, b8, b9, b10, b11, b12, b13, b14, b15, b16, b17] : List Bool) = bs at e5
  have hl : bs.length = 18 := by rw [← hbs]; rfl
  refine lc_range (lo := 0) (n := 18) (fun i H2 => Same H H2 ∧ H2 r5 = some (.lst (bs.map V.bl)) ∧ H2 D = some (.lst ((hits bs i).map V.int))) ⟨q5, e5, upd_same⟩ ?_ ?_
  · rintro i H2 hi ⟨sm, e6, eD⟩
    refine g_name ⟨rfl, ?_⟩
    walk_at "go"
    refine ix_l (.inl (.inl e6)) (nth_bl (by omega)) ?_
    walk_at "go"
    refine ite2 (fun c => ?_) (fun c => ?_)
    · walk_at "go"
      refine ⟨_, eD, small1000 (by rw [List.length_map]; have := hits_len bs i; omega), fun b o e => ?_, ?_, ?_⟩
      · rw [upd_ne (ne_of_none e fD)]
        exact sm b o e
      · rw [upd_ne r5D]
        exact e6
      · rw [upd_same, hits_succ, if_pos c, List.map_append]
        simp
    · refine ⟨sm, e6, ?_⟩
      rw [hits_succ, if_neg c]
      exact eD
  · rintro H2 ⟨sm, e6, eD⟩
    refine z D H2 sm ?_
    rw [hbs]
    exact eD
end
/-! ### a row: an error, its fields, what they are due -/
def RowOk (H : Hp) (row C : Addr) (ys : List V) : Prop := ∃ a t d : Addr, H row = some (.tup [.ref a, .ref t, .ref d]) ∧ ExAt H a C ∧ H t = some (.lst ys) ∧ H d = some (.lst ys)
theorem RowOk.same {H H' : Hp} {row C : Addr} {ys : List V} (s : Same H H') (h : RowOk H row C ys) : RowOk H' row C ys := by
  obtain ⟨a, t, d, h1, h2, h3, h4⟩ := h
  exact ⟨a, t, d, s _ _ h1, h2.same s, s _ _ h3, s _ _ h4⟩
/-- heaps that grow, r aside -/
theorem grow {H : Hp} {r a : Addr} {o u : HO} (hr : H r = some o) (ha : H a = none) : a ≠ r ∧ L2.upd H a u r = some o := ⟨Ne.symm (ne_of_none hr ha), by rw [upd_ne (ne_of_none hr ha)]; exact hr⟩
theorem del_at {H : Hp} {r a : Addr} {o : HO} (n : a ≠ r) (h : H a = some o) : del H r a = some o := by rw [del_ne n]; exact h
section
variable {K : W.Frag} {C r : Addr} {f g : Str} {ie ir io i2 : Nat} {rest : TS} {D : Ends} {σ : St} {H : Hp} {v v2 : V} {xs : List V}
theorem row1 (T : ExK K C) (hno : W.findIn K (.ref C) f = some none) (h0 : σ[io]? = some (some v)) (h1 : ∀ x, (σ.set ie x)[io]? = some (some v)) (h2 : ∀ x, (σ.set ie x)[ir]? = some (some (.ref r))) (h3 : ∀ x, (σ.set ie x)[ie]? = some x)
    (hr : H r = some (.lst xs)) (small : xs.length < 1000) (k : ∀ (a row : Addr) (H' : Hp), But H H' r → H' r = some (.lst (xs ++ [.ref row])) → RowOk (del H' r) row C [v] → rest D (σ.set ie (some (.ref a))) H') :
    tSeq (tAsg (tExn C [f] (tCons (tVar io) tNil)) (gName ie)) (tSeq (tDrop (tBM K "list" rAppend (tVar ir) (tCons (tTup (tCons (tVar ie) (tCons (tLst (tCons (tEget K f (tVar ie)) tNil)) (tCons (tLst (tCons (tVar io) tNil)) tNil)))) tNil))) rest) D σ H := by
  refine ⟨v, h0, rfl, fun a dx na nd ne => ?_⟩
  have q1 := grow (u := exd dx [(f, v)]) hr nd
  have na' : upd H dx (exd dx [(f, v)]) a = none := by rw [upd_ne (Ne.symm ne)]; exact na
  have q2 := grow (u := exo a C (some dx)) q1.2 na'
  have s2 : Same H (upd (upd H dx (exd dx [(f, v)])) a (exo a C (some dx))) := (show Same H _ from same_upd nd).trans (same_upd na')
  have ea : upd (upd H dx (exd dx [(f, v)])) a (exo a C (some dx)) a = some (exo a C (some dx)) := upd_same
  have ed : upd (upd H dx (exd dx [(f, v)])) a (exo a C (some dx)) dx = some (exd dx [(f, v)]) := by rw [upd_ne ne, upd_same]
  with_reducible refine g_name ?_
  with_reducible refine g_seq ?_
  show tDrop _ _ (σ.set ie (some (.ref a))) (upd (upd H dx (exd dx [(f, v)])) a (exo a C (some dx)))
  generalize upd (upd H dx (exd dx [(f, v)])) a (exo a C (some dx)) = H1 at *
  refine ⟨_, h2 _, ty_lst q2.2, _, h3 _, _, h3 _, a, C, dx, _, v, rfl, T, hno, ea, ed, by simp [List.lookup], Nat.le_of_lt (small1000 (show 1 ≤ 1000 by decide)), fun t nt => ?_⟩
  have q3 := grow (u := .lst [v]) q2.2 nt
  refine ⟨_, h1 _, Nat.le_of_lt (small1000 (show 1 ≤ 1000 by decide)), fun d n4 => ?_⟩
  have q4 := grow (u := .lst [v]) q3.2 n4
  refine ⟨Nat.le_of_lt (small1000 (show 3 ≤ 1000 by decide)), fun row n5 => ?_⟩
  have q5 := grow (u := .tup [.ref a, .ref t, .ref d]) q4.2 n5
  have s3 : Same H1 _ := same_upd (o := .lst [v]) nt
  have s4 := s3.trans (same_upd (o := .lst [v]) n4)
  have s5 := s4.trans (same_upd (o := .tup [.ref a, .ref t, .ref d]) n5)
  refine ⟨r, xs, .ref row, rfl, rfl, q5.2, small1000 (Nat.le_of_lt small), ?_⟩
  refine k a row _ ((Same.but (s2.trans s5) r).upd) upd_same ⟨a, t, d, ?_, ⟨some dx, ?_, fun z e => ?_⟩, ?_, ?_⟩
  · refine del_at q5.1 ?_
    rw [upd_ne q5.1, upd_same]
  · refine del_at q2.1 ?_
    rw [upd_ne q2.1]
    exact s5 _ _ ea
  · obtain rfl := Option.some.inj e
    refine ⟨[(f, v)], del_at q1.1 ?_⟩
    rw [upd_ne q1.1]
    exact s5 _ _ ed
  · refine del_at q3.1 ?_
    rw [upd_ne q3.1]
    exact same_upd n5 _ _ (same_upd n4 _ _ upd_same)
  · refine del_at q4.1 ?_
    rw [upd_ne q4.1]
    exact same_upd n5 _ _ upd_same
theorem row2 (T : ExK K C) (hno : W.findIn K (.ref C) f = some none) (hno2 : W.findIn K (.ref C) g = some none) (fg : (f == g) = false) (h0 : σ[io]? = some (some v)) (h02 : σ[i2]? = some (some v2)) (h1 : ∀ x, (σ.set ie x)[io]? = some (some v)) (h12 : ∀ x, (σ.set ie x)[i2]? = some (some v2))
    (h2 : ∀ x, (σ.set ie x)[ir]? = some (some (.ref r))) (h3 : ∀ x, (σ.set ie x)[ie]? = some x)
    (hr : H r = some (.lst xs)) (small : xs.length < 1000) (k : ∀ (a row : Addr) (H' : Hp), But H H' r → H' r = some (.lst (xs ++ [.ref row])) → RowOk (del H' r) row C [v, v2] → rest D (σ.set ie (some (.ref a))) H') :
    tSeq (tAsg (tExn C [f, g] (tCons (tVar io) (tCons (tVar i2) tNil))) (gName ie)) (tSeq (tDrop (tBM K "list" rAppend (tVar ir) (tCons (tTup (tCons (tVar ie) (tCons (tLst (tCons (tEget K f (tVar ie)) (tCons (tEget K g (tVar ie)) tNil))) (tCons (tLst (tCons (tVar io) (tCons (tVar i2) tNil))) tNil)))) tNil))) rest) D σ H := by
  refine ⟨v, h0, v2, h02, rfl, fun a dx na nd ne => ?_⟩
  with_reducible refine g_name ?_
  with_reducible refine g_seq ?_
  show tDrop _ _ (σ.set ie (some (.ref a))) (upd (upd H dx (exd dx [(g, v2), (f, v)])) a (exo a C (some dx)))
  have q1 := grow (u := exd dx [(g, v2), (f, v)]) hr nd
  have na' : upd H dx (exd dx [(g, v2), (f, v)]) a = none := by rw [upd_ne (Ne.symm ne)]; exact na
  have q2 := grow (u := exo a C (some dx)) q1.2 na'
  have s2 : Same H (upd (upd H dx (exd dx [(g, v2), (f, v)])) a (exo a C (some dx))) := (show Same H _ from same_upd nd).trans (same_upd na')
  have ea : upd (upd H dx (exd dx [(g, v2), (f, v)])) a (exo a C (some dx)) a = some (exo a C (some dx)) := upd_same
  have ed : upd (upd H dx (exd dx [(g, v2), (f, v)])) a (exo a C (some dx)) dx = some (exd dx [(g, v2), (f, v)]) := by rw [upd_ne ne, upd_same]
  generalize upd (upd H dx (exd dx [(g, v2), (f, v)])) a (exo a C (some dx)) = H1 at *
  refine ⟨_, h2 _, ty_lst q2.2, _, h3 _, _, h3 _, a, C, dx, _, v, rfl, T, hno, ea, ed, by simp [List.lookup, fg], _, h3 _, a, C, dx, _, v2, rfl, T, hno2, ea, ed, by simp [List.lookup], Nat.le_of_lt (small1000 (show 2 ≤ 1000 by decide)), fun t nt => ?_⟩
  have q3 := grow (u := .lst [v, v2]) q2.2 nt
  refine ⟨_, h1 _, _, h12 _, Nat.le_of_lt (small1000 (show 2 ≤ 1000 by decide)), fun d n4 => ?_⟩
  have q4 := grow (u := .lst [v, v2]) q3.2 n4
  refine ⟨Nat.le_of_lt (small1000 (show 3 ≤ 1000 by decide)), fun row n5 => ?_⟩
  have q5 := grow (u := .tup [.ref a, .ref t, .ref d]) q4.2 n5
  have s3 : Same H1 _ := same_upd (o := .lst [v, v2]) nt
  have s4 := s3.trans (same_upd (o := .lst [v, v2]) n4)
  have s5 := s4.trans (same_upd (o := .tup [.ref a, .ref t, .ref d]) n5)
  refine ⟨r, xs, .ref row, rfl, rfl, q5.2, small1000 (Nat.le_of_lt small), ?_⟩
  refine k a row _ ((Same.but (s2.trans s5) r).upd) upd_same ⟨a, t, d, ?_, ⟨some dx, ?_, fun z e => ?_⟩, ?_, ?_⟩
  · refine del_at q5.1 ?_
    rw [upd_ne q5.1, upd_same]
  · refine del_at q2.1 ?_
    rw [upd_ne q2.1]
    exact s5 _ _ ea
  · obtain rfl := Option.some.inj e
    refine ⟨[(g, v2), (f, v)], del_at q1.1 ?_⟩
    rw [upd_ne q1.1]
    exact s5 _ _ ed
  · refine del_at q3.1 ?_
    rw [upd_ne q3.1]
    exact same_upd n5 _ _ (same_upd n4 _ _ upd_same)
  · refine del_at q4.1 ?_
    rw [upd_ne q4.1]
    exact same_upd n5 _ _ upd_same
/-- rows.append((X(), [], [])) -/
theorem row0 (h2 : σ[ir]? = some (some (.ref r))) (hr : H r = some (.lst xs)) (small : xs.length < 1000) (k : ∀ (row : Addr) (H' : Hp), But H H' r → H' r = some (.lst (xs ++ [.ref row])) → RowOk (del H' r) row C [] → rest D σ H') :
    tSeq (tDrop (tBM K "list" rAppend (tVar ir) (tCons (tTup (tCons (fun σ H Q => ∀ a, H a = none → Q (.ref a) (upd H a (exo a C none))) (tCons (tLst tNil) (tCons (tLst tNil) tNil)))) tNil))) rest D σ H := by
  refine ⟨_, h2, ty_lst hr, fun a na => ?_⟩
  have q2 := grow (u := exo a C none) hr na
  have s2 : Same H (upd H a (exo a C none)) := same_upd na
  have ea : upd H a (exo a C none) a = some (exo a C none) := upd_same
  generalize upd H a (exo a C none) = H1 at *
  refine ⟨Nat.le_of_lt (small1000 (show 0 ≤ 1000 by decide)), fun t nt => ?_⟩
  have q3 := grow (u := .lst []) q2.2 nt
  refine ⟨Nat.le_of_lt (small1000 (show 0 ≤ 1000 by decide)), fun d n4 => ?_⟩
  have q4 := grow (u := .lst []) q3.2 n4
  refine ⟨Nat.le_of_lt (small1000 (show 3 ≤ 1000 by decide)), fun row n5 => ?_⟩
  have q5 := grow (u := .tup [.ref a, .ref t, .ref d]) q4.2 n5
  have s3 : Same H1 _ := same_upd (o := .lst []) nt
  have s4 := s3.trans (same_upd (o := .lst []) n4)
  have s5 := s4.trans (same_upd (o := .tup [.ref a, .ref t, .ref d]) n5)
  refine ⟨r, xs, .ref row, rfl, rfl, q5.2, small1000 (Nat.le_of_lt small), ?_⟩
  refine k row _ ((Same.but (s2.trans s5) r).upd) upd_same ⟨a, t, d, ?_, ⟨none, ?_, fun z e => (nomatch e)⟩, ?_, ?_⟩
  · refine del_at q5.1 ?_
    rw [upd_ne q5.1, upd_same]
  · refine del_at q2.1 ?_
    rw [upd_ne q2.1]
    exact s5 _ _ ea
  · refine del_at q3.1 ?_
    rw [upd_ne q3.1]
    exact same_upd n5 _ _ (same_upd n4 _ _ upd_same)
  · refine del_at q4.1 ?_
    rw [upd_ne q4.1]
    exact same_upd n5 _ _ upd_same
end
section
variable {P : Program} {w : World} {K : W.Frag} {mg : Str → Option Value} {base : Heap}
abbrev sMade : Stmt := top 27
theorem scMade : FnScope ["_law_one", "_law_two", "_law_rows", "_law_error"] ["_law_one", "_law_two"] (defScope sMade) := ⟨rfl, rfl, rfl, by decide +kernel, rfl, by decide +kernel, by decide +kernel⟩
def spMade (c0 c1 c2 c3 c4 c5 c6 c7 c8 : Addr) : Sp := fun vs H Q _ => ∃ (one two : V), vs = [one, two] ∧
  ∀ (r : Addr) (rows : List Addr) (H' : Hp), Same H H' → H' r = some (.lst (rows.map V.ref)) → Paired (fun row (c : Addr × List V) => RowOk H' row c.1 c.2) rows [(c0, [one]), (c1, [one, two]), (c2, [one]), (c3, [one]), (c4, [one]), (c5, [one, two]), (c6, [one]), (c7, [one, two]), (c8, [one])] → Q (.ref r) H'
theorem ok_made {f c0 c1 c2 c3 c4 c5 c6 c7 c8 : Addr} {fd : FuncData} (F : Fun K "_law_made" "_law_made" sMade f fd) (x0 : ExM P w K mg base "InvalidMachine" c0 ["reason"]) (t0_0 : W.findIn K (.ref c0) "reason" = some none) (x1 : ExM P w K mg base "InvalidCode" c1 ["reason", "row"]) (t1_0 : W.findIn K (.ref c1) "reason" = some none) (t1_1 : W.findIn K (.ref c1) "row" = some none) (x2 : ExM P w K mg base "InvalidWay" c2 ["index"]) (t2_0 : W.findIn K (.ref c2) "index" = some none) (x3 : ExM P w K mg base "InvalidBreaks" c3 ["index"]) (t3_0 : W.findIn K (.ref c3) "index" = some none) (x4 : ExM P w K mg base "InvalidMap" c4 ["index"]) (t4_0 : W.findIn K (.ref c4) "index" = some none) (x5 : ExM P w K mg base "InvalidText" c5 ["line", "word"]) (t5_0 : W.findIn K (.ref c5) "line" = some none) (t5_1 : W.findIn K (.ref c5) "word" = some none) (x6 : ExM P w K mg base "InvalidLimit" c6 ["value"]) (t6_0 : W.findIn K (.ref c6) "value" = some none) (x7 : ExM P w K mg base "Clash" c7 ["way", "name"]) (t7_0 : W.findIn K (.ref c7) "way" = some none) (t7_1 : W.findIn K (.ref c7) "name" = some none) (x8 : ExM P w K mg base "UnknownCommand" c8 ["line"]) (t8_0 : W.findIn K (.ref c8) "line" = some none) : FnG P w K mg base CX0 3 f fd ["_law_one", "_law_two"] (spMade c0 c1 c2 c3 c4 c5 c6 c7 c8) := by
  refine body_g0 F scMade ?_ ?_
  · rintro vs H Q E ⟨one, two, rfl, _⟩
    rfl
  rintro cdv A outer s H vs Q E hr2 hq ⟨one, two, rfl, z⟩
  refine ⟨_, (pss_cons (ps_set (i := 2) scMade.nd rfl (Or.inl rfl) (pe_lst pa_nil))
    (pss_cons (ps_set (i := 3) scMade.nd rfl (Or.inl rfl) (pe_exn x0 (by decide) hr2 hq rfl (pa_cons (pv 0) pa_nil)))
    (pss_cons (ps_expr (pe_bm PySem.F.plainAttrs_list PySem.F.slot_list_append PySem.F.type_list_append mt_append (pv 2) (pa_cons (pe_tup (pa_cons (pv 3) (pa_cons (pe_lst (pa_cons (pe_eget (pv 3)) pa_nil)) (pa_cons (pe_lst (pa_cons (pv 0) pa_nil)) pa_nil)))) pa_nil)))
    (pss_cons (ps_set (i := 3) scMade.nd rfl (Or.inl rfl) (pe_exn x1 (by decide) hr2 hq rfl (pa_cons (pv 0) (pa_cons (pv 1) pa_nil))))
    (pss_cons (ps_expr (pe_bm PySem.F.plainAttrs_list PySem.F.slot_list_append PySem.F.type_list_append mt_append (pv 2) (pa_cons (pe_tup (pa_cons (pv 3) (pa_cons (pe_lst (pa_cons (pe_eget (pv 3)) (pa_cons (pe_eget (pv 3)) pa_nil))) (pa_cons (pe_lst (pa_cons (pv 0) (pa_cons (pv 1) pa_nil))) pa_nil)))) pa_nil)))
    (pss_cons (ps_set (i := 3) scMade.nd rfl (Or.inl rfl) (pe_exn x2 (by decide) hr2 hq rfl (pa_cons (pv 0) pa_nil)))
    (pss_cons (ps_expr (pe_bm PySem.F.plainAttrs_list PySem.F.slot_list_append PySem.F.type_list_append mt_append (pv 2) (pa_cons (pe_tup (pa_cons (pv 3) (pa_cons (pe_lst (pa_cons (pe_eget (pv 3)) pa_nil)) (pa_cons (pe_lst (pa_cons (pv 0) pa_nil)) pa_nil)))) pa_nil)))
    (pss_cons (ps_set (i := 3) scMade.nd rfl (Or.inl rfl) (pe_exn x3 (by decide) hr2 hq rfl (pa_cons (pv 0) pa_nil)))
    (pss_cons (ps_expr (pe_bm PySem.F.plainAttrs_list PySem.F.slot_list_append PySem.F.type_list_append mt_append (pv 2) (pa_cons (pe_tup (pa_cons (pv 3) (pa_cons (pe_lst (pa_cons (pe_eget (pv 3)) pa_nil)) (pa_cons (pe_lst (pa_cons (pv 0) pa_nil)) pa_nil)))) pa_nil)))
    (pss_cons (ps_set (i := 3) scMade.nd rfl (Or.inl rfl) (pe_exn x4 (by decide) hr2 hq rfl (pa_cons (pv 0) pa_nil)))
    (pss_cons (ps_expr (pe_bm PySem.F.plainAttrs_list PySem.F.slot_list_append PySem.F.type_list_append mt_append (pv 2) (pa_cons (pe_tup (pa_cons (pv 3) (pa_cons (pe_lst (pa_cons (pe_eget (pv 3)) pa_nil)) (pa_cons (pe_lst (pa_cons (pv 0) pa_nil)) pa_nil)))) pa_nil)))
    (pss_cons (ps_set (i := 3) scMade.nd rfl (Or.inl rfl) (pe_exn x5 (by decide) hr2 hq rfl (pa_cons (pv 0) (pa_cons (pv 1) pa_nil))))
    (pss_cons (ps_expr (pe_bm PySem.F.plainAttrs_list PySem.F.slot_list_append PySem.F.type_list_append mt_append (pv 2) (pa_cons (pe_tup (pa_cons (pv 3) (pa_cons (pe_lst (pa_cons (pe_eget (pv 3)) (pa_cons (pe_eget (pv 3)) pa_nil))) (pa_cons (pe_lst (pa_cons (pv 0) (pa_cons (pv 1) pa_nil))) pa_nil)))) pa_nil)))
    (pss_cons (ps_set (i := 3) scMade.nd rfl (Or.inl rfl) (pe_exn x6 (by decide) hr2 hq rfl (pa_cons (pv 0) pa_nil)))
    (pss_cons (ps_expr (pe_bm PySem.F.plainAttrs_list PySem.F.slot_list_append PySem.F.type_list_append mt_append (pv 2) (pa_cons (pe_tup (pa_cons (pv 3) (pa_cons (pe_lst (pa_cons (pe_eget (pv 3)) pa_nil)) (pa_cons (pe_lst (pa_cons (pv 0) pa_nil)) pa_nil)))) pa_nil)))
    (pss_cons (ps_set (i := 3) scMade.nd rfl (Or.inl rfl) (pe_exn x7 (by decide) hr2 hq rfl (pa_cons (pv 0) (pa_cons (pv 1) pa_nil))))
    (pss_cons (ps_expr (pe_bm PySem.F.plainAttrs_list PySem.F.slot_list_append PySem.F.type_list_append mt_append (pv 2) (pa_cons (pe_tup (pa_cons (pv 3) (pa_cons (pe_lst (pa_cons (pe_eget (pv 3)) (pa_cons (pe_eget (pv 3)) pa_nil))) (pa_cons (pe_lst (pa_cons (pv 0) (pa_cons (pv 1) pa_nil))) pa_nil)))) pa_nil)))
    (pss_cons (ps_set (i := 3) scMade.nd rfl (Or.inl rfl) (pe_exn x8 (by decide) hr2 hq rfl (pa_cons (pv 0) pa_nil)))
    (pss_cons (ps_expr (pe_bm PySem.F.plainAttrs_list PySem.F.slot_list_append PySem.F.type_list_append mt_append (pv 2) (pa_cons (pe_tup (pa_cons (pv 3) (pa_cons (pe_lst (pa_cons (pe_eget (pv 3)) pa_nil)) (pa_cons (pe_lst (pa_cons (pv 0) pa_nil)) pa_nil)))) pa_nil)))
    (pss_one (ps_ret (pv 2)))))))))))))))))))))), ?_⟩
  walk_at "go"
  refine g_small (show 0 ≤ 1000 by decide) fun r nr => ?_
  with_reducible refine g_name ?_
  have b0 : But H (upd H r (.lst [])) r := but_upd
  have e0 : upd H r (.lst []) r = some (.lst []) := upd_same
  show tSeq _ _ _ [some one, some two, some (.ref r), none] _
  generalize upd H r (.lst []) = H0 at *
  refine row1 (io := 0) x0.ex t0_0 rfl (fun _ => rfl) (fun _ => rfl) (fun _ => rfl) e0 (Nat.le_of_ble_eq_true rfl) fun a0 w0 H1 c e1 o0 => ?_
  have b1 := b0.trans c
  show tSeq _ _ _ [some one, some two, some (.ref r), some (.ref a0)] _
  clear c 
  refine row2 (io := 0) (i2 := 1) x1.ex t1_0 t1_1 (by decide) rfl rfl (fun _ => rfl) (fun _ => rfl) (fun _ => rfl) (fun _ => rfl) e1 (Nat.le_of_ble_eq_true rfl) fun a1 w1 H2 c e2 o1 => ?_
  have b2 := b1.trans c
  have o0 := o0.same c.del
  show tSeq _ _ _ [some one, some two, some (.ref r), some (.ref a1)] _
  clear c b1 e1
  refine row1 (io := 0) x2.ex t2_0 rfl (fun _ => rfl) (fun _ => rfl) (fun _ => rfl) e2 (Nat.le_of_ble_eq_true rfl) fun a2 w2 H3 c e3 o2 => ?_
  have b3 := b2.trans c
  have o0 := o0.same c.del
  have o1 := o1.same c.del
  show tSeq _ _ _ [some one, some two, some (.ref r), some (.ref a2)] _
  clear c b2 e2
  refine row1 (io := 0) x3.ex t3_0 rfl (fun _ => rfl) (fun _ => rfl) (fun _ => rfl) e3 (Nat.le_of_ble_eq_true rfl) fun a3 w3 H4 c e4 o3 => ?_
  have b4 := b3.trans c
  have o0 := o0.same c.del
  have o1 := o1.same c.del
  have o2 := o2.same c.del
  show tSeq _ _ _ [some one, some two, some (.ref r), some (.ref a3)] _
  clear c b3 e3
  refine row1 (io := 0) x4.ex t4_0 rfl (fun _ => rfl) (fun _ => rfl) (fun _ => rfl) e4 (Nat.le_of_ble_eq_true rfl) fun a4 w4 H5 c e5 o4 => ?_
  have b5 := b4.trans c
  have o0 := o0.same c.del
  have o1 := o1.same c.del
  have o2 := o2.same c.del
  have o3 := o3.same c.del
  show tSeq _ _ _ [some one, some two, some (.ref r), some (.ref a4)] _
  clear c b4 e4
  refine row2 (io := 0) (i2 := 1) x5.ex t5_0 t5_1 (by decide) rfl rfl (fun _ => rfl) (fun _ => rfl) (fun _ => rfl) (fun _ => rfl) e5 (Nat.le_of_ble_eq_true rfl) fun a5 w5 H6 c e6 o5 => ?_
  have b6 := b5.trans c
  have o0 := o0.same c.del
  have o1 := o1.same c.del
  have o2 := o2.same c.del
  have o3 := o3.same c.del
  have o4 := o4.same c.del
  show tSeq _ _ _ [some one, some two, some (.ref r), some (.ref a5)] _
  clear c b5 e5
  refine row1 (io := 0) x6.ex t6_0 rfl (fun _ => rfl) (fun _ => rfl) (fun _ => rfl) e6 (Nat.le_of_ble_eq_true rfl) fun a6 w6 H7 c e7 o6 => ?_
  have b7 := b6.trans c
  have o0 := o0.same c.del
  have o1 := o1.same c.del
  have o2 := o2.same c.del
  have o3 := o3.same c.del
  have o4 := o4.same c.del
  have o5 := o5.same c.del
  show tSeq _ _ _ [some one, some two, some (.ref r), some (.ref a6)] _
  clear c b6 e6
  refine row2 (io := 0) (i2 := 1) x7.ex t7_0 t7_1 (by decide) rfl rfl (fun _ => rfl) (fun _ => rfl) (fun _ => rfl) (fun _ => rfl) e7 (Nat.le_of_ble_eq_true rfl) fun a7 w7 H8 c e8 o7 => ?_
  have b8 := b7.trans c
  have o0 := o0.same c.del
  have o1 := o1.same c.del
  have o2 := o2.same c.del
  have o3 := o3.same c.del
  have o4 := o4.same c.del
  have o5 := o5.same c.del
  have o6 := o6.same c.del
  show tSeq _ _ _ [some one, some two, some (.ref r), some (.ref a7)] _
  clear c b7 e7
  refine row1 (io := 0) x8.ex t8_0 rfl (fun _ => rfl) (fun _ => rfl) (fun _ => rfl) e8 (Nat.le_of_ble_eq_true rfl) fun a8 w8 H9 c e9 o8 => ?_
  have b9 := b8.trans c
  have o0 := o0.same c.del
  have o1 := o1.same c.del
  have o2 := o2.same c.del
  have o3 := o3.same c.del
  have o4 := o4.same c.del
  have o5 := o5.same c.del
  have o6 := o6.same c.del
  have o7 := o7.same c.del
  show tRet (tVar 2) _ [some one, some two, some (.ref r), some (.ref a8)] _
  clear c b8 e8
  refine ⟨_, rfl, z r [w0, w1, w2, w3, w4, w5, w6, w7, w8] H9 (fun b o e => b9 b o (ne_of_none e nr) e) e9 ?_⟩
  exact (.cons (o0.same del_le) (.cons (o1.same del_le) (.cons (o2.same del_le) (.cons (o3.same del_le) (.cons (o4.same del_le) (.cons (o5.same del_le) (.cons (o6.same del_le) (.cons (o7.same del_le) (.cons (o8.same del_le) .nil)))))))))
abbrev sMore : Stmt := top 28
theorem scMore : FnScope ["_law_one", "_law_rows", "_law_error"] ["_law_one"] (defScope sMore) := ⟨rfl, rfl, rfl, by decide +kernel, rfl, by decide +kernel, by decide +kernel⟩
def spMore (c9 c10 c11 c12 c13 c14 c15 c16 c17 : Addr) : Sp := fun vs H Q _ => ∃ (one : V), vs = [one] ∧
  ∀ (r : Addr) (rows : List Addr) (H' : Hp), Same H H' → H' r = some (.lst (rows.map V.ref)) → Paired (fun row (c : Addr × List V) => RowOk H' row c.1 c.2) rows [(c9, [one]), (c10, [one]), (c11, [one]), (c12, [one]), (c13, [one]), (c14, []), (c15, [one]), (c16, [one]), (c17, [one])] → Q (.ref r) H'
theorem ok_more {f c9 c10 c11 c12 c13 c14 c15 c16 c17 : Addr} {fd : FuncData} (F : Fun K "_law_more" "_law_more" sMore f fd) (x9 : ExM P w K mg base "NoName" c9 ["name"]) (t9_0 : W.findIn K (.ref c9) "name" = some none) (x10 : ExM P w K mg base "NoPoint" c10 ["point"]) (t10_0 : W.findIn K (.ref c10) "point" = some none) (x11 : ExM P w K mg base "NoRow" c11 ["row"]) (t11_0 : W.findIn K (.ref c11) "row" = some none) (x12 : ExM P w K mg base "NoStep" c12 ["step"]) (t12_0 : W.findIn K (.ref c12) "step" = some none) (x13 : ExM P w K mg base "NothingToUndo" c13 ["count"]) (t13_0 : W.findIn K (.ref c13) "count" = some none) (x14 : ExP K mg "Ended" c14) (x15 : ExM P w K mg base "HeldGap" c15 ["row"]) (t15_0 : W.findIn K (.ref c15) "row" = some none) (x16 : ExM P w K mg base "NoWay" c16 ["row"]) (t16_0 : W.findIn K (.ref c16) "row" = some none) (x17 : ExM P w K mg base "TooMany" c17 ["most"]) (t17_0 : W.findIn K (.ref c17) "most" = some none) : FnG P w K mg base CX0 3 f fd ["_law_one"] (spMore c9 c10 c11 c12 c13 c14 c15 c16 c17) := by
  refine body_g0 F scMore ?_ ?_
  · rintro vs H Q E ⟨one, rfl, _⟩
    rfl
  rintro cdv A outer s H vs Q E hr2 hq ⟨one, rfl, z⟩
  refine ⟨_, (pss_cons (ps_set (i := 1) scMore.nd rfl (Or.inl rfl) (pe_lst pa_nil))
    (pss_cons (ps_set (i := 2) scMore.nd rfl (Or.inl rfl) (pe_exn x9 (by decide) hr2 hq rfl (pa_cons (pv 0) pa_nil)))
    (pss_cons (ps_expr (pe_bm PySem.F.plainAttrs_list PySem.F.slot_list_append PySem.F.type_list_append mt_append (pv 1) (pa_cons (pe_tup (pa_cons (pv 2) (pa_cons (pe_lst (pa_cons (pe_eget (pv 2)) pa_nil)) (pa_cons (pe_lst (pa_cons (pv 0) pa_nil)) pa_nil)))) pa_nil)))
    (pss_cons (ps_set (i := 2) scMore.nd rfl (Or.inl rfl) (pe_exn x10 (by decide) hr2 hq rfl (pa_cons (pv 0) pa_nil)))
    (pss_cons (ps_expr (pe_bm PySem.F.plainAttrs_list PySem.F.slot_list_append PySem.F.type_list_append mt_append (pv 1) (pa_cons (pe_tup (pa_cons (pv 2) (pa_cons (pe_lst (pa_cons (pe_eget (pv 2)) pa_nil)) (pa_cons (pe_lst (pa_cons (pv 0) pa_nil)) pa_nil)))) pa_nil)))
    (pss_cons (ps_set (i := 2) scMore.nd rfl (Or.inl rfl) (pe_exn x11 (by decide) hr2 hq rfl (pa_cons (pv 0) pa_nil)))
    (pss_cons (ps_expr (pe_bm PySem.F.plainAttrs_list PySem.F.slot_list_append PySem.F.type_list_append mt_append (pv 1) (pa_cons (pe_tup (pa_cons (pv 2) (pa_cons (pe_lst (pa_cons (pe_eget (pv 2)) pa_nil)) (pa_cons (pe_lst (pa_cons (pv 0) pa_nil)) pa_nil)))) pa_nil)))
    (pss_cons (ps_set (i := 2) scMore.nd rfl (Or.inl rfl) (pe_exn x12 (by decide) hr2 hq rfl (pa_cons (pv 0) pa_nil)))
    (pss_cons (ps_expr (pe_bm PySem.F.plainAttrs_list PySem.F.slot_list_append PySem.F.type_list_append mt_append (pv 1) (pa_cons (pe_tup (pa_cons (pv 2) (pa_cons (pe_lst (pa_cons (pe_eget (pv 2)) pa_nil)) (pa_cons (pe_lst (pa_cons (pv 0) pa_nil)) pa_nil)))) pa_nil)))
    (pss_cons (ps_set (i := 2) scMore.nd rfl (Or.inl rfl) (pe_exn x13 (by decide) hr2 hq rfl (pa_cons (pv 0) pa_nil)))
    (pss_cons (ps_expr (pe_bm PySem.F.plainAttrs_list PySem.F.slot_list_append PySem.F.type_list_append mt_append (pv 1) (pa_cons (pe_tup (pa_cons (pv 2) (pa_cons (pe_lst (pa_cons (pe_eget (pv 2)) pa_nil)) (pa_cons (pe_lst (pa_cons (pv 0) pa_nil)) pa_nil)))) pa_nil)))
    (pss_cons (ps_expr (pe_bm PySem.F.plainAttrs_list PySem.F.slot_list_append PySem.F.type_list_append mt_append (pv 1) (pa_cons (pe_tup (pa_cons (pe_exn0 x14 rfl) (pa_cons (pe_lst pa_nil) (pa_cons (pe_lst pa_nil) pa_nil)))) pa_nil)))
    (pss_cons (ps_set (i := 2) scMore.nd rfl (Or.inl rfl) (pe_exn x15 (by decide) hr2 hq rfl (pa_cons (pv 0) pa_nil)))
    (pss_cons (ps_expr (pe_bm PySem.F.plainAttrs_list PySem.F.slot_list_append PySem.F.type_list_append mt_append (pv 1) (pa_cons (pe_tup (pa_cons (pv 2) (pa_cons (pe_lst (pa_cons (pe_eget (pv 2)) pa_nil)) (pa_cons (pe_lst (pa_cons (pv 0) pa_nil)) pa_nil)))) pa_nil)))
    (pss_cons (ps_set (i := 2) scMore.nd rfl (Or.inl rfl) (pe_exn x16 (by decide) hr2 hq rfl (pa_cons (pv 0) pa_nil)))
    (pss_cons (ps_expr (pe_bm PySem.F.plainAttrs_list PySem.F.slot_list_append PySem.F.type_list_append mt_append (pv 1) (pa_cons (pe_tup (pa_cons (pv 2) (pa_cons (pe_lst (pa_cons (pe_eget (pv 2)) pa_nil)) (pa_cons (pe_lst (pa_cons (pv 0) pa_nil)) pa_nil)))) pa_nil)))
    (pss_cons (ps_set (i := 2) scMore.nd rfl (Or.inl rfl) (pe_exn x17 (by decide) hr2 hq rfl (pa_cons (pv 0) pa_nil)))
    (pss_cons (ps_expr (pe_bm PySem.F.plainAttrs_list PySem.F.slot_list_append PySem.F.type_list_append mt_append (pv 1) (pa_cons (pe_tup (pa_cons (pv 2) (pa_cons (pe_lst (pa_cons (pe_eget (pv 2)) pa_nil)) (pa_cons (pe_lst (pa_cons (pv 0) pa_nil)) pa_nil)))) pa_nil)))
    (pss_one (ps_ret (pv 1))))))))))))))))))))), ?_⟩
  walk_at "go"
  refine g_small (show 0 ≤ 1000 by decide) fun r nr => ?_
  with_reducible refine g_name ?_
  have b9 : But H (upd H r (.lst [])) r := but_upd
  have e9 : upd H r (.lst []) r = some (.lst []) := upd_same
  show tSeq _ _ _ [some one, some (.ref r), none] _
  generalize upd H r (.lst []) = H9 at *
  refine row1 (io := 0) x9.ex t9_0 rfl (fun _ => rfl) (fun _ => rfl) (fun _ => rfl) e9 (Nat.le_of_ble_eq_true rfl) fun a9 w9 H10 c e10 o9 => ?_
  have b10 := b9.trans c
  show tSeq _ _ _ [some one, some (.ref r), some (.ref a9)] _
  clear c 
  refine row1 (io := 0) x10.ex t10_0 rfl (fun _ => rfl) (fun _ => rfl) (fun _ => rfl) e10 (Nat.le_of_ble_eq_true rfl) fun a10 w10 H11 c e11 o10 => ?_
  have b11 := b10.trans c
  have o9 := o9.same c.del
  show tSeq _ _ _ [some one, some (.ref r), some (.ref a10)] _
  clear c b10 e10
  refine row1 (io := 0) x11.ex t11_0 rfl (fun _ => rfl) (fun _ => rfl) (fun _ => rfl) e11 (Nat.le_of_ble_eq_true rfl) fun a11 w11 H12 c e12 o11 => ?_
  have b12 := b11.trans c
  have o9 := o9.same c.del
  have o10 := o10.same c.del
  show tSeq _ _ _ [some one, some (.ref r), some (.ref a11)] _
  clear c b11 e11
  refine row1 (io := 0) x12.ex t12_0 rfl (fun _ => rfl) (fun _ => rfl) (fun _ => rfl) e12 (Nat.le_of_ble_eq_true rfl) fun a12 w12 H13 c e13 o12 => ?_
  have b13 := b12.trans c
  have o9 := o9.same c.del
  have o10 := o10.same c.del
  have o11 := o11.same c.del
  show tSeq _ _ _ [some one, some (.ref r), some (.ref a12)] _
  clear c b12 e12
  refine row1 (io := 0) x13.ex t13_0 rfl (fun _ => rfl) (fun _ => rfl) (fun _ => rfl) e13 (Nat.le_of_ble_eq_true rfl) fun a13 w13 H14 c e14 o13 => ?_
  have b14 := b13.trans c
  have o9 := o9.same c.del
  have o10 := o10.same c.del
  have o11 := o11.same c.del
  have o12 := o12.same c.del
  show tSeq _ _ _ [some one, some (.ref r), some (.ref a13)] _
  clear c b13 e13
  refine row0 (C := c14) rfl e14 (Nat.le_of_ble_eq_true rfl) fun w14 H15 c e15 o14 => ?_
  have b15 := b14.trans c
  have o9 := o9.same c.del
  have o10 := o10.same c.del
  have o11 := o11.same c.del
  have o12 := o12.same c.del
  have o13 := o13.same c.del
  show tSeq _ _ _ [some one, some (.ref r), some (.ref a13)] _
  clear c b14 e14
  refine row1 (io := 0) x15.ex t15_0 rfl (fun _ => rfl) (fun _ => rfl) (fun _ => rfl) e15 (Nat.le_of_ble_eq_true rfl) fun a15 w15 H16 c e16 o15 => ?_
  have b16 := b15.trans c
  have o9 := o9.same c.del
  have o10 := o10.same c.del
  have o11 := o11.same c.del
  have o12 := o12.same c.del
  have o13 := o13.same c.del
  have o14 := o14.same c.del
  show tSeq _ _ _ [some one, some (.ref r), some (.ref a15)] _
  clear c b15 e15
  refine row1 (io := 0) x16.ex t16_0 rfl (fun _ => rfl) (fun _ => rfl) (fun _ => rfl) e16 (Nat.le_of_ble_eq_true rfl) fun a16 w16 H17 c e17 o16 => ?_
  have b17 := b16.trans c
  have o9 := o9.same c.del
  have o10 := o10.same c.del
  have o11 := o11.same c.del
  have o12 := o12.same c.del
  have o13 := o13.same c.del
  have o14 := o14.same c.del
  have o15 := o15.same c.del
  show tSeq _ _ _ [some one, some (.ref r), some (.ref a16)] _
  clear c b16 e16
  refine row1 (io := 0) x17.ex t17_0 rfl (fun _ => rfl) (fun _ => rfl) (fun _ => rfl) e17 (Nat.le_of_ble_eq_true rfl) fun a17 w17 H18 c e18 o17 => ?_
  have b18 := b17.trans c
  have o9 := o9.same c.del
  have o10 := o10.same c.del
  have o11 := o11.same c.del
  have o12 := o12.same c.del
  have o13 := o13.same c.del
  have o14 := o14.same c.del
  have o15 := o15.same c.del
  have o16 := o16.same c.del
  show tRet (tVar 1) _ [some one, some (.ref r), some (.ref a17)] _
  clear c b17 e17
  refine ⟨_, rfl, z r [w9, w10, w11, w12, w13, w14, w15, w16, w17] H18 (fun b o e => b18 b o (ne_of_none e nr) e) e18 ?_⟩
  exact (.cons (o9.same del_le) (.cons (o10.same del_le) (.cons (o11.same del_le) (.cons (o12.same del_le) (.cons (o13.same del_le) (.cons (o14.same del_le) (.cons (o15.same del_le) (.cons (o16.same del_le) (.cons (o17.same del_le) .nil)))))))))
end
/-! ### an exception and its fields -/
def ExF (H : Hp) (a C : Addr) (fs : List (Str × V)) : Prop := ∃ dx, H a = some (exo a C (some dx)) ∧ H dx = some (exd dx fs)
theorem ExF.same {H H' : Hp} {a C : Addr} {fs : List (Str × V)} (s : Same H H') (h : ExF H a C fs) : ExF H' a C fs := by
  obtain ⟨dx, e1, e2⟩ := h
  exact ⟨dx, s _ _ e1, s _ _ e2⟩
theorem exf_new {H : Hp} {a dx C : Addr} {fs : List (Str × V)} (na : H a = none) (nd : H dx = none) (ne : dx ≠ a) :
    Same H (upd (upd H dx (exd dx fs)) a (exo a C (some dx))) ∧ ExF (upd (upd H dx (exd dx fs)) a (exo a C (some dx))) a C fs := by
  have na' : upd H dx (exd dx fs) a = none := by rw [upd_ne (Ne.symm ne)]; exact na
  exact ⟨(show Same H _ from same_upd nd).trans (same_upd na'), dx, upd_same, by rw [upd_ne ne, upd_same]⟩
section
variable {K : W.Frag} {C a : Addr} {f g : Str} {io i2 : Nat} {σ : St} {H : Hp} {v v2 : V} {Q : VK} {fs : List (Str × V)}
theorem eget_at (T : ExK K C) (hno : W.findIn K (.ref C) f = some none) (e : ExF H a C fs) (l : fs.lookup f = some v) (q : Q v H) :
    ∃ (a' C' dx : Addr) (gs : List (Str × V)) (u : V), V.ref a = .ref a' ∧ ExK K C' ∧ W.findIn K (.ref C') f = some none ∧ H a' = some (exo a' C' (some dx)) ∧ H dx = some (exd dx gs) ∧ gs.lookup f = some u ∧ Q u H := by
  obtain ⟨dx, e1, e2⟩ := e
  exact ⟨a, C, dx, fs, v, rfl, T, hno, e1, e2, l, q⟩
theorem g_ek1 (T : ExK K C) (hno : W.findIn K (.ref C) f = some none) (h0 : σ[io]? = some (some v)) (k : ∀ H', Same H H' → Q v H') : tEget K f (tExn C [f] (tCons (tVar io) tNil)) σ H Q := by
  refine ⟨v, h0, rfl, fun a dx na nd ne => ?_⟩
  obtain ⟨s, e⟩ := exf_new (C := C) (fs := [(f, v)]) na nd ne
  exact eget_at T hno e (by simp [List.lookup]) (k _ s)
def Sm (d : PyData) : Prop := d.showable = true ∧ d.depth ≤ 3 ∧ d.shown.length ≤ 60
theorem sm_all : ∀ ds : List PyData, (∀ d ∈ ds, Sm d) → PyData.showableAll ds = true ∧ PyData.depthAll ds ≤ 3 ∧ ((PyData.shownAll ds).map (·.length)).sum ≤ 60 * ds.length ∧ (PyData.shownAll ds).length = ds.length
  | [], _ => by simp [PyData.showableAll, PyData.depthAll, PyData.shownAll]
  | d :: r, h => by
    obtain ⟨h1, h2, h3, h4⟩ := sm_all r (fun x z => h x (List.mem_cons_of_mem _ z))
    obtain ⟨k1, k2, k3⟩ := h d (by simp)
    refine ⟨by simp [PyData.showableAll, h1, k1], ?_, ?_, by simp [PyData.shownAll, h4]⟩
    · simp only [PyData.depthAll]; omega
    · simp only [PyData.shownAll, List.map_cons, List.sum_cons, List.length_cons]; omega
theorem repr_ds {l : Addr} {vs : List V} {ds : List PyData} (e : H l = some (.lst vs)) (h : DqAll K H vs ds) (hs : ∀ d ∈ ds, Sm d) (n : ds.length ≤ 16) (q : Q (.str (PyData.shown (.list ds))) H) : rRepr K [.ref l] H Q := by
  obtain ⟨h1, h2, h3, h4⟩ := sm_all ds hs
  refine g_repr (.lst (.inl (.inl e)) h) (by simp only [PyData.showable]; exact h1) (by simp only [PyData.depth]; omega) ?_ q
  simp only [PyData.shown]
  refine Nat.le_trans (listText_len_le _) (Nat.le_trans ?_ (Nat.le_of_lt (small1000 (Nat.le_refl 1000))))
  rw [h4]
  omega
theorem g_ef {p : Addr} {xs : List V} {n : Int} (T : ExK K C) (hno : W.findIn K (.ref C) f = some none) (h0 : σ[io]? = some (some (.ref p))) (l : H p = some (.lst xs)) (z : atI xs n = some (.ref a)) (e : ExF H a C fs) (lk : fs.lookup f = some v) (q : Q v H) :
    tEget K f (tOp (rIx K) (tVar io) (tC (.int n))) σ H Q := ⟨_, h0, ix_l (.inl (.inl l)) z (eget_at T hno e lk q)⟩
theorem g_ev (T : ExK K C) (hno : W.findIn K (.ref C) f = some none) (h0 : σ[io]? = some (some (.ref a))) (e : ExF H a C fs) (lk : fs.lookup f = some v) (q : Q v H) : tEget K f (tVar io) σ H Q := ⟨_, h0, eget_at T hno e lk q⟩
theorem step {R : Hp → Prop} {Hx : Hp} (k : ∀ H', Same Hx H' → R H') : R Hx := k Hx (Same.refl _)
theorem step2 {R : Hp → VK → Prop} {Hx : Hp} (k : ∀ H', Same Hx H' → R H' Q) : R Hx Q := k Hx (Same.refl _)
theorem eqU_self {b : Bool} {x : Str} (h : Q (.bl b) H) : rEqU K b (.str x) (.str x) H Q := by
  refine eqU_s (by simp [scal]) ?_
  rw [decide_eq_true rfl]
  cases b <;> exact h
theorem lk1 {r : List (Str × V)} : List.lookup g ((g, v) :: r) = some v := by simp [List.lookup]
theorem lk2 (fg : (f == g) = false) : List.lookup f [(g, v), (f, v2)] = some v2 := by simp [List.lookup, fg]
theorem g_set {te : TE} {i : Nat} {u : TS} {D : Ends} (h : te σ H fun v H1 => u D (σ.set i (some v)) H1) : tSeq (tAsg te (gName i)) u D σ H := h
theorem g_ek2 (h0 : σ[io]? = some (some v)) (h2 : σ[i2]? = some (some v2)) (k : ∀ a H', Same H H' → ExF H' a C [(g, v), (f, v2)] → Q (.ref a) H') : tExr C f g (tCons (tVar io) (tCons (tVar i2) tNil)) σ H Q := by
  refine ⟨v, h0, v2, h2, v, v2, rfl, fun a dx na nd ne => ?_⟩
  obtain ⟨s, e⟩ := exf_new (C := C) (fs := [(g, v), (f, v2)]) na nd ne
  exact k a _ s e
end
section
variable {P : Program} {w : World} {K : W.Frag} {mg : Str → Option Value} {base : Heap}
def spNamed (K : W.Frag) : Sp := fun vs H Q _ => ∃ one two : V, vs = [one, two] ∧ Thing K H one ∧ Thing K H two ∧ ∀ H', Same H H' → Q (.bl true) H'
abbrev sNamed : Stmt := top 29
theorem scNamed : FnScope ["_law_one", "_law_two", "_law_caught", "_law_met", "_law_told"] ["_law_one", "_law_two"] (defScope sNamed) := ⟨rfl, rfl, rfl, by decide +kernel, rfl, by decide +kernel, by decide +kernel⟩
theorem ok_named {f c0 c1 c2 c3 c4 c5 c6 c7 c8 c9 c10 c11 c12 c13 c15 c16 c17 : Addr} {fd : FuncData} {m : Str → Option Value} (F : Fun K "_law_named" "_law_named" sNamed f fd) (m_repr : mg "repr" = none) (hs : base.Ns sysModules m) (x0 : ExM P w K mg base "InvalidMachine" c0 ["reason"]) (t0_0 : W.findIn K (.ref c0) "reason" = some none) (x1 : ExM P w K mg base "InvalidCode" c1 ["reason", "row"]) (t1_0 : W.findIn K (.ref c1) "reason" = some none) (t1_1 : W.findIn K (.ref c1) "row" = some none) (x2 : ExM P w K mg base "InvalidWay" c2 ["index"]) (t2_0 : W.findIn K (.ref c2) "index" = some none) (x3 : ExM P w K mg base "InvalidBreaks" c3 ["index"]) (t3_0 : W.findIn K (.ref c3) "index" = some none) (x4 : ExM P w K mg base "InvalidMap" c4 ["index"]) (t4_0 : W.findIn K (.ref c4) "index" = some none) (x5 : ExM P w K mg base "InvalidText" c5 ["line", "word"]) (t5_0 : W.findIn K (.ref c5) "line" = some none) (t5_1 : W.findIn K (.ref c5) "word" = some none) (x6 : ExM P w K mg base "InvalidLimit" c6 ["value"]) (t6_0 : W.findIn K (.ref c6) "value" = some none) (x7 : ExM P w K mg base "Clash" c7 ["way", "name"]) (t7_0 : W.findIn K (.ref c7) "way" = some none) (t7_1 : W.findIn K (.ref c7) "name" = some none) (x8 : ExM P w K mg base "UnknownCommand" c8 ["line"]) (t8_0 : W.findIn K (.ref c8) "line" = some none) (x9 : ExM P w K mg base "NoName" c9 ["name"]) (t9_0 : W.findIn K (.ref c9) "name" = some none) (x10 : ExM P w K mg base "NoPoint" c10 ["point"]) (t10_0 : W.findIn K (.ref c10) "point" = some none) (x11 : ExM P w K mg base "NoRow" c11 ["row"]) (t11_0 : W.findIn K (.ref c11) "row" = some none) (x12 : ExM P w K mg base "NoStep" c12 ["step"]) (t12_0 : W.findIn K (.ref c12) "step" = some none) (x13 : ExM P w K mg base "NothingToUndo" c13 ["count"]) (t13_0 : W.findIn K (.ref c13) "count" = some none) (x15 : ExM P w K mg base "HeldGap" c15 ["row"]) (t15_0 : W.findIn K (.ref c15) "row" = some none) (x16 : ExM P w K mg base "NoWay" c16 ["row"]) (t16_0 : W.findIn K (.ref c16) "row" = some none) (x17 : ExM P w K mg base "TooMany" c17 ["most"]) (t17_0 : W.findIn K (.ref c17) "most" = some none) : FnG P w K mg base CX0 3 f fd ["_law_one", "_law_two"] (spNamed K) := by
  refine body_g0 F scNamed ?_ ?_
  · rintro vs H Q E ⟨one, two, rfl, _⟩
    rfl
  rintro cdv A outer s H vs Q E hr2 hq ⟨one, two, rfl, th1, th2, z⟩
  have hu := hr2.units
  obtain ⟨d1, t1, m1⟩ := th1
  obtain ⟨d2, t2, m2⟩ := th2
  refine ⟨_, (pss_cons (ps_set (i := 2) scNamed.nd rfl (Or.inl rfl) (pe_lst (pa_cons (pe_exk2 x1 (by decide) hr2 hq rfl (pv 1) (pv 0)) (pa_cons (pe_exk2 x5 (by decide) hr2 hq rfl (pv 1) (pv 0)) pa_nil))))
    (pss_cons (ps_if (pt_cmpR (op_neU hu) (pe_callB (call_repr hs hq hu) (by rfl) m_repr (by decide +kernel) (pa_cons (pe_lst (pa_cons (pe_eget (pe_ix ix_seq (pv 2) pe_int (fun _ _ => rfl))) (pa_cons (pe_eget (pe_ix ix_seq (pv 2) pe_int (fun _ _ => rfl))) (pa_cons (pe_eget (pe_ix ix_seq (pv 2) pe_int (fun _ _ => rfl))) (pa_cons (pe_eget (pe_ix ix_seq (pv 2) pe_int (fun _ _ => rfl))) pa_nil))))) pa_nil)) (pe_callB (call_repr hs hq hu) (by rfl) m_repr (by decide +kernel) (pa_cons (pe_lst (pa_cons (pv 0) (pa_cons (pv 1) (pa_cons (pv 0) (pa_cons (pv 1) pa_nil))))) pa_nil)) (nomark _)) (pss_one (ps_ret pe_bl)) pss_nil)
    (pss_cons (ps_set (i := 3) scNamed.nd rfl (Or.inl rfl) (pe_exk2 x7 (by decide) hr2 hq rfl (pv 1) (pv 0)))
    (pss_cons (ps_set (i := 4) scNamed.nd rfl (Or.inl rfl) (pe_lst (pa_cons (pe_eget (pv 3)) (pa_cons (pe_eget (pv 3)) (pa_cons (pe_eget (pe_exk1 x11 hr2 hq rfl (pv 0))) (pa_cons (pe_eget (pe_exk1 x12 hr2 hq rfl (pv 1))) (pa_cons (pe_eget (pe_exk1 x10 hr2 hq rfl (pv 0))) pa_nil)))))))
    (pss_cons (ps_set (i := 4) scNamed.nd rfl (Or.inl rfl) (pe_op op_addU (pv 4) (pe_lst (pa_cons (pe_eget (pe_exk1 x9 hr2 hq rfl (pv 1))) (pa_cons (pe_eget (pe_exk1 x13 hr2 hq rfl (pv 0))) (pa_cons (pe_eget (pe_exk1 x17 hr2 hq rfl (pv 1))) pa_nil))))))
    (pss_cons (ps_set (i := 4) scNamed.nd rfl (Or.inl rfl) (pe_op op_addU (pv 4) (pe_lst (pa_cons (pe_eget (pe_exk1 x2 hr2 hq rfl (pv 0))) (pa_cons (pe_eget (pe_exk1 x4 hr2 hq rfl (pv 1))) (pa_cons (pe_eget (pe_exk1 x15 hr2 hq rfl (pv 0))) pa_nil))))))
    (pss_cons (ps_set (i := 4) scNamed.nd rfl (Or.inl rfl) (pe_op op_addU (pv 4) (pe_lst (pa_cons (pe_eget (pe_exk1 x16 hr2 hq rfl (pv 1))) (pa_cons (pe_eget (pe_exk1 x6 hr2 hq rfl (pv 0))) (pa_cons (pe_eget (pe_exk1 x0 hr2 hq rfl (pv 1))) pa_nil))))))
    (pss_cons (ps_set (i := 4) scNamed.nd rfl (Or.inl rfl) (pe_op op_addU (pv 4) (pe_lst (pa_cons (pe_eget (pe_exk1 x3 hr2 hq rfl (pv 0))) (pa_cons (pe_eget (pe_exk1 x8 hr2 hq rfl (pv 1))) pa_nil)))))
    (pss_one (ps_ret (pe_cmpR (op_eqU hu) (pe_callB (call_repr hs hq hu) (by rfl) m_repr (by decide +kernel) (pa_cons (pv 4) pa_nil)) (pe_callB (call_repr hs hq hu) (by rfl) m_repr (by decide +kernel) (pa_cons (pe_op op_mulU (pe_lst (pa_cons (pv 0) (pa_cons (pv 1) pa_nil))) pe_int) pa_nil)) (nomark _)))))))))))), ?_⟩
  with_reducible refine g_set ?_
  with_reducible refine g_lst ?_
  with_reducible refine g_cons ?_
  refine g_ek2 rfl rfl fun a1 H1 s1 e1 => ?_
  with_reducible refine g_cons ?_
  refine g_ek2 rfl rfl fun a5 H2 s2 e5 => ?_
  walk_at "go"
  refine g_small (show 2 ≤ 1000 by decide) fun p np => ?_
  refine step fun H3 s3 => ?_
  have l3 := s3 _ _ upd_same
  have f1 := ((e1.same s2).same (same_upd (o := .lst [.ref a1, .ref a5]) np)).same s3
  have f5 := (e5.same (same_upd (o := .lst [.ref a1, .ref a5]) np)).same s3
  walk_at "go"
  refine g_ef x1.ex t1_0 rfl l3 rfl f1 (lk2 (by decide)) ?_
  walk_at "go"
  refine g_ef x1.ex t1_1 rfl l3 rfl f1 lk1 ?_
  walk_at "go"
  refine g_ef x5.ex t5_0 rfl l3 rfl f5 (lk2 (by decide)) ?_
  walk_at "go"
  refine g_ef x5.ex t5_1 rfl l3 rfl f5 lk1 ?_
  walk_at "go"
  refine g_small (show 4 ≤ 1000 by decide) fun l4 n4 => ?_
  with_reducible refine g_nil ?_
  refine step2 fun H4 s4 => ?_
  have l4' := s4 _ _ upd_same
  have s34 := (show Same H3 _ from same_upd n4).trans s4
  have z4 : ∀ d ∈ [d1, d2, d1, d2], Sm d := by simp only [List.mem_cons, List.not_mem_nil, or_false]; rintro d (rfl | rfl | rfl | rfl) <;> assumption
  have y4 : Same H H4 := ((s1.trans s2).trans (same_upd np)).trans (s3.trans s34)
  refine repr_ds l4' (.cons (t1.same y4) (.cons (t2.same y4) (.cons (t1.same y4) (.cons (t2.same y4) .nil)))) z4 (show 4 ≤ 16 by decide) ?_
  walk_at "go"
  refine g_small (show 4 ≤ 1000 by decide) fun l5 n5 => ?_
  with_reducible refine g_nil ?_
  refine step2 fun H5 s5 => ?_
  have l5' := s5 _ _ upd_same
  have y5 : Same H H5 := y4.trans ((show Same H4 _ from same_upd n5).trans s5)
  refine repr_ds l5' (.cons (t1.same y5) (.cons (t2.same y5) (.cons (t1.same y5) (.cons (t2.same y5) .nil)))) z4 (show 4 ≤ 16 by decide) ?_
  refine eqU_self ?_
  walk_at "go"
  simp only [Bool.false_eq_true, if_false]
  with_reducible refine g_next ?_
  with_reducible refine g_set ?_
  refine g_ek2 rfl rfl fun a7 H6 s6 e7 => ?_
  have y6 := y5.trans s6
  with_reducible refine g_set ?_
  walk_at "go"
  refine g_ev x7.ex t7_0 rfl e7 (lk2 (by decide)) ?_
  walk_at "go"
  refine g_ev x7.ex t7_1 rfl e7 lk1 ?_
  walk_at "go"
  refine g_ek1 x11.ex t11_0 rfl fun H7 s7 => ?_
  walk_at "go"
  refine g_ek1 x12.ex t12_0 rfl fun H8 s8 => ?_
  walk_at "go"
  refine g_ek1 x10.ex t10_0 rfl fun H9 s9 => ?_
  walk_at "go"
  refine g_small (show 5 ≤ 1000 by decide) fun m0 n0 => ?_
  refine step fun J0 r0 => ?_
  have k0 := r0 _ _ upd_same
  have w0 := (y6.trans (s7.trans (s8.trans s9))).trans ((same_upd n0).trans r0)
  with_reducible refine g_set ?_
  walk_at "go"
  refine g_ek1 x9.ex t9_0 rfl fun A9 v9 => ?_
  walk_at "go"
  refine g_ek1 x13.ex t13_0 rfl fun A13 v13 => ?_
  walk_at "go"
  refine g_ek1 x17.ex t17_0 rfl fun A17 v17 => ?_
  walk_at "go"
  refine g_small (show 3 ≤ 1000 by decide) fun u0 o0 => ?_
  have q0 := ((v9.trans (v13.trans v17))).trans (same_upd (o := .lst [two, one, two]) o0)
  walk_at "go"
  refine' addU_l (xs := _) (zs := _) (q0 _ _ k0) upd_same ?z0 ?y0
  case z0 => exact Nat.le_of_ble_eq_true rfl
  intro m1 n1
  refine step fun J1 r1 => ?_
  have k1 := r1 _ _ upd_same
  have w1 := w0.trans (q0.trans ((same_upd n1).trans r1))
  with_reducible refine g_set ?_
  walk_at "go"
  refine g_ek1 x2.ex t2_0 rfl fun A2 v2 => ?_
  walk_at "go"
  refine g_ek1 x4.ex t4_0 rfl fun A4 v4 => ?_
  walk_at "go"
  refine g_ek1 x15.ex t15_0 rfl fun A15 v15 => ?_
  walk_at "go"
  refine g_small (show 3 ≤ 1000 by decide) fun u1 o1 => ?_
  have q1 := ((v2.trans (v4.trans v15))).trans (same_upd (o := .lst [one, two, one]) o1)
  walk_at "go"
  refine' addU_l (xs := _) (zs := _) (q1 _ _ k1) upd_same ?z1 ?y1
  case z1 => exact Nat.le_of_ble_eq_true rfl
  intro m2 n2
  refine step fun J2 r2 => ?_
  have k2 := r2 _ _ upd_same
  have w2 := w1.trans (q1.trans ((same_upd n2).trans r2))
  with_reducible refine g_set ?_
  walk_at "go"
  refine g_ek1 x16.ex t16_0 rfl fun A16 v16 => ?_
  walk_at "go"
  refine g_ek1 x6.ex t6_0 rfl fun A6 v6 => ?_
  walk_at "go"
  refine g_ek1 x0.ex t0_0 rfl fun A0 v0 => ?_
  walk_at "go"
  refine g_small (show 3 ≤ 1000 by decide) fun u2 o2 => ?_
  have q2 := ((v16.trans (v6.trans v0))).trans (same_upd (o := .lst [two, one, two]) o2)
  walk_at "go"
  refine' addU_l (xs := _) (zs := _) (q2 _ _ k2) upd_same ?z2 ?y2
  case z2 => exact Nat.le_of_ble_eq_true rfl
  intro m3 n3
  refine step fun J3 r3 => ?_
  have k3 := r3 _ _ upd_same
  have w3 := w2.trans (q2.trans ((same_upd n3).trans r3))
  with_reducible refine g_set ?_
  walk_at "go"
  refine g_ek1 x3.ex t3_0 rfl fun A3 v3 => ?_
  walk_at "go"
  refine g_ek1 x8.ex t8_0 rfl fun A8 v8 => ?_
  walk_at "go"
  refine g_small (show 2 ≤ 1000 by decide) fun u3 o3 => ?_
  have q3 := ((v3.trans v8)).trans (same_upd (o := .lst [one, two]) o3)
  walk_at "go"
  refine' addU_l (xs := _) (zs := _) (q3 _ _ k3) upd_same ?z3 ?y3
  case z3 => exact Nat.le_of_ble_eq_true rfl
  intro m4 n4
  refine step fun J4 r4 => ?_
  have k4 := r4 _ _ upd_same
  have w4 := w3.trans (q3.trans ((same_upd n4).trans r4))
  walk_at "go"
  refine repr_ds (ds := [d1, d2, d1, d2, d1, d2, d1, d2, d1, d2, d1, d2, d1, d2, d1, d2]) k4 ?da ?sm (Nat.le_of_ble_eq_true rfl) ?_
  case da => repeat' (first | exact DqAll.nil | apply DqAll.cons | exact t1.same w4 | exact t2.same w4)
  case sm => simp only [List.mem_cons, List.not_mem_nil, or_false]; rintro d hd; rcases hd with rfl | rfl | rfl | rfl | rfl | rfl | rfl | rfl | rfl | rfl | rfl | rfl | rfl | rfl | rfl | rfl <;> assumption
  walk_at "go"
  refine g_small (show 2 ≤ 1000 by decide) fun e1 f1 => ?_
  walk_at "go"
  refine mulU_l (k := 8) (xs := [one, two]) upd_same (by decide) (Nat.le_of_ble_eq_true rfl) fun e2 f2 => ?_
  with_reducible refine g_nil ?_
  refine step2 fun H8 r8 => ?_
  have k8 := r8 _ _ upd_same
  have w8 := w4.trans ((same_upd (o := .lst [one, two]) f1).trans ((same_upd f2).trans r8))
  refine repr_ds (ds := [d1, d2, d1, d2, d1, d2, d1, d2, d1, d2, d1, d2, d1, d2, d1, d2]) k8 ?da ?sm (Nat.le_of_ble_eq_true rfl) ?_
  case da => repeat' (first | exact DqAll.nil | apply DqAll.cons | exact t1.same w8 | exact t2.same w8)
  case sm => simp only [List.mem_cons, List.not_mem_nil, or_false]; rintro d hd; rcases hd with rfl | rfl | rfl | rfl | rfl | rfl | rfl | rfl | rfl | rfl | rfl | rfl | rfl | rfl | rfl | rfl <;> assumption
  exact eqU_self (z _ w8)
end
/-! ### the law -/
def BL : List (List Bool) := List.replicate 9 [true, true, false, false, false, false, false] ++ List.replicate 2 [false, false, true, false, true, false, false] ++ List.replicate 2 [false, false, false, true, true, false, false] ++ [[false, false, false, false, true, false, false]] ++ List.replicate 3 [false, false, false, false, false, true, false] ++ [[false, false, false, false, false, false, true]]
def BB (k : Nat) : List Bool := BL.getD k []
def onek (k : Nat) : List Bool := (List.range 18).map fun j => j == k
theorem hits_onek : ∀ k, k < 18 → hits (onek k) 18 = [(k : Int)] := by decide +kernel
theorem hits_none : hits (List.replicate 18 false) 18 = [] := by decide +kernel
/-- the list of the due rows -/
def Dues (H : Hp) (r : Addr) : Prop := ∃ ds : List V, H r = some (.lst ds) ∧ ∀ k, k < 18 → ∃ d : Addr, ds[k]? = some (.ref d) ∧ H d = some (.lst ((BB k).map V.bl))
theorem Dues.same {H H' : Hp} {r : Addr} (s : Same H H') (h : Dues H r) : Dues H' r := by
  obtain ⟨ds, e, h⟩ := h
  exact ⟨ds, s _ _ e, fun k hk => (h k hk).elim fun d q => ⟨d, q.1, s _ _ q.2⟩⟩
/-- what is asked of the classes -/
structure Classes (K : W.Frag) (cs : List Addr) (cL : Addr) : Prop where
  one : ∀ (k : Nat) (C : Addr), cs[k]? = some C → ExK K C ∧ KindsIs K cs C (onek k) ∧ BasesIs K cL C (BB k)
  top : ExK K cL ∧ KindsIs K cs cL (List.replicate 18 false) ∧ W.kitOne K (.ref cL) (.type "ValueError") = some true
theorem Dues.del {H : Hp} {p r : Addr} {pe : List V} (h : Dues H r) (e : H p = some (.lst pe)) (l : pe.length = 3) : Dues (L2.del H p) r := by
  obtain ⟨ds, e1, h⟩ := h
  have ap : ∀ {x : Addr} {xs : List V}, H x = some (.lst xs) → xs.length ≠ 3 → L2.del H p x = some (.lst xs) := fun {x xs} ex n => by
    refine del_at (fun z => n ?_) ex
    rw [z, e] at ex
    obtain rfl := HO.lst.inj (Option.some.inj ex)
    exact l
  refine ⟨ds, ap e1 (fun z => ?_), fun k hk => (h k hk).elim fun d q => ⟨d, q.1, ap q.2 ?_⟩⟩
  · obtain ⟨d, q, _⟩ := h 17 (by decide)
    rw [List.getElem?_eq_none (by omega)] at q
    cases q
  · have : ∀ k, k < 18 → (BB k).length ≠ 3 := by decide +kernel
    rw [List.length_map]
    exact this k hk
theorem lt18 {k : Nat} (h : k < 18) : k = 0 ∨ k = 1 ∨ k = 2 ∨ k = 3 ∨ k = 4 ∨ k = 5 ∨ k = 6 ∨ k = 7 ∨ k = 8 ∨ k = 9 ∨ k = 10 ∨ k = 11 ∨ k = 12 ∨ k = 13 ∨ k = 14 ∨ k = 15 ∨ k = 16 ∨ k = 17 := by omega
theorem g_for {n : Nat} {g : TG} {tb u : TS} {D : Ends} {σ : St} {H : Hp} (hn : n < 2 ^ 62) (Pv : Nat → St → Hp → Prop) (h0 : Pv 0 σ H)
    (hs : ∀ i σ H, i < n → Pv i σ H → g (.int (0 + (i : Int))) σ H fun σ2 H2 => tb { D with nx := Pv (i + 1), ct := Pv (i + 1), bk := u D } σ2 H2) (hd : ∀ σ H, Pv n σ H → u D σ H) :
    tSeq (tFor (iRng1 (tCons (tC (.int (n : Int))) tNil)) g tb) u D σ H :=
  ⟨n, rfl, by omega, by omega, for_range Pv h0 hs hd⟩
theorem neU_ints {K : W.Frag} {H : Hp} {Q : VK} {p q : Addr} {ns : List Int} (e1 : SqL K H p (ns.map V.int)) (e2 : SqL K H q (ns.map V.int)) (h : Q (.bl false) H) : rEqU K false (.ref p) (.ref q) H Q :=
  eqU_ints e1 e2 (by rw [decide_eq_true rfl]; exact h)
theorem neU_bls {K : W.Frag} {H : Hp} {Q : VK} {p q : Addr} {ns : List Bool} (e1 : SqL K H p (ns.map V.bl)) (e2 : SqL K H q (ns.map V.bl)) (h : Q (.bl false) H) : rEqU K false (.ref p) (.ref q) H Q :=
  eqU_bls e1 e2 (by rw [decide_eq_true rfl]; exact h)
theorem step3 {R : Hp → VK → XK → Prop} {Hx : Hp} {Q : VK} {E : XK} (k : ∀ H', Same Hx H' → R H' Q E) : R Hx Q E := k Hx (Same.refl _)
theorem things_all {K : W.Frag} {H : Hp} : ∀ {ys : List V}, (∀ y ∈ ys, Thing K H y) → ∃ ds, DqAll K H ys ds ∧ (∀ d ∈ ds, Sm d) ∧ ds.length = ys.length
  | [], _ => ⟨[], .nil, by simp, rfl⟩
  | y :: r, h => by
    obtain ⟨d, h1, h2⟩ := h y (by simp)
    obtain ⟨ds, h3, h4, h5⟩ := things_all (ys := r) fun x z => h x (List.mem_cons_of_mem _ z)
    refine ⟨d :: ds, .cons h1 h3, ?_, by simp [h5]⟩
    intro x z
    rcases List.mem_cons.mp z with rfl | z
    · exact h2
    · exact h4 x z
theorem paired_at {α β : Type} {R : α → β → Prop} : ∀ {xs : List α} {ys : List β}, Paired R xs ys → ∀ {k : Nat} {y : β}, ys[k]? = some y → ∃ x, xs[k]? = some x ∧ R x y
  | _, _, .nil, k, y, h => by simp at h
  | _, _, .cons r rs, 0, y, h => by
    simp only [List.getElem?_cons_zero, Option.some.injEq] at h
    subst h
    exact ⟨_, rfl, r⟩
  | _, _, .cons r rs, k + 1, y, h => by
    simp only [List.getElem?_cons_succ] at h ⊢
    exact paired_at rs h
theorem paired_len {α β : Type} {R : α → β → Prop} : ∀ {xs : List α} {ys : List β}, Paired R xs ys → xs.length = ys.length
  | _, _, .nil => rfl
  | _, _, .cons _ rs => by rw [List.length_cons, List.length_cons, paired_len rs]
theorem paired_app {α β : Type} {R : α → β → Prop} : ∀ {xs xs2 : List α} {ys ys2 : List β}, Paired R xs ys → Paired R xs2 ys2 → Paired R (xs ++ xs2) (ys ++ ys2)
  | _, _, _, _, .nil, h => h
  | _, _, _, _, .cons r rs, h => .cons r (paired_app rs h)
theorem paired_mono {α β : Type} {R R' : α → β → Prop} (hm : ∀ a b, R a b → R' a b) : ∀ {xs : List α} {ys : List β}, Paired R xs ys → Paired R' xs ys
  | _, _, .nil => .nil
  | _, _, .cons r rs => .cons (hm _ _ r) (paired_mono hm rs)
theorem atI_nat {α : Type} {xs : List α} {k : Nat} : atI xs (k : Int) = xs[k]? := by
  have h : ixN xs.length (k : Int) = if k < xs.length then some k else none := by
    unfold ixN
    rw [if_pos (Int.natCast_nonneg k)]
    by_cases hk : k < xs.length
    · rw [if_pos hk, if_pos (by omega)]; simp
    · rw [if_neg hk, if_neg (by omega)]
  unfold atI
  rw [h]
  by_cases hk : k < xs.length
  · rw [if_pos hk]; rfl
  · rw [if_neg hk]; exact (List.getElem?_eq_none (by omega)).symm
section
variable {P : Program} {w : World} {K : W.Frag} {mg : Str → Option Value} {base : Heap}
def spLaw (K : W.Frag) : Sp := fun vs H Q _ => ∃ (a : Addr) (ns : List Int), vs = [.ref a] ∧ SqL K H a (ns.map V.int) ∧ ∀ H', Q (.bl true) H'
def rowsOf (cs : List Addr) (one two : V) : List (Addr × List V) := match cs with
  | [c0, c1, c2, c3, c4, c5, c6, c7, c8, c9, c10, c11, c12, c13, c14, c15, c16, c17] => [(c0, [one]), (c1, [one, two]), (c2, [one]), (c3, [one]), (c4, [one]), (c5, [one, two]), (c6, [one]), (c7, [one, two]), (c8, [one]), (c9, [one]), (c10, [one]), (c11, [one]), (c12, [one]), (c13, [one]), (c14, []), (c15, [one]), (c16, [one]), (c17, [one])]
  | _ => []
abbrev sLaw : Stmt := top 30
theorem scLaw : FnScope ["_law_script", "_law_pen_here", "_law_dues", "_law_turn", "_law_one", "_law_two", "_law_rows", "_law_k", "_law_error", "_law_told", "_law_due", "_law_plain"] ["_law_script"] (defScope sLaw) := ⟨rfl, rfl, rfl, by decide +kernel, rfl, by decide +kernel, by decide +kernel⟩
theorem ok_law {f cL c0 c1 c2 c3 c4 c5 c6 c7 c8 c9 c10 c11 c12 c13 c14 c15 c16 c17 : Addr} {fd : FuncData} {m : Str → Option Value} (F : Fun K "law" "law" sLaw f fd) (hs : base.Ns sysModules m) (G : ExA K) (M : Classes K [c0, c1, c2, c3, c4, c5, c6, c7, c8, c9, c10, c11, c12, c13, c14, c15, c16, c17] cL) (xLandError : ExP K mg "LandError" cL)
    (m_repr : mg "repr" = none) (m_range : mg "range" = none) (m_isinstance : mg "isinstance" = none) (m_ValueError : mg "ValueError" = none)
    (c_law_pen : CalG P w K mg base CX0 1 "_law_pen" (spPen K)) (c_law_thing : CalG P w K mg base CX0 2 "_law_thing" (spThing K)) (c_law_made : CalG P w K mg base CX0 3 "_law_made" (spMade c0 c1 c2 c3 c4 c5 c6 c7 c8)) (c_law_more : CalG P w K mg base CX0 3 "_law_more" (spMore c9 c10 c11 c12 c13 c14 c15 c16 c17))
    (c_law_kinds : CalG P w K mg base CX0 1 "_law_kinds" (spKinds K [c0, c1, c2, c3, c4, c5, c6, c7, c8, c9, c10, c11, c12, c13, c14, c15, c16, c17])) (c_law_bases : CalG P w K mg base CX0 1 "_law_bases" (spBases K cL)) (c_law_named : CalG P w K mg base CX0 3 "_law_named" (spNamed K)) : FnG P w K mg base CX0 4 f fd ["_law_script"] (spLaw K) := by
  refine body_g0 F scLaw ?_ ?_
  · rintro vs H Q E ⟨a, ns, rfl, _⟩
    rfl
  rintro cdv A outer s H vs Q E hr hq ⟨a0, ns, rfl, sa, z⟩
  have hu := hr.units
  refine ⟨_, (pss_cons (ps_set (i := 1) scLaw.nd rfl (Or.inl rfl) (pe_g c_law_pen hr (by decide) hq pass0 rfl (pa_cons (pv 0) pa_nil)))
    (pss_cons (ps_set (i := 2) scLaw.nd rfl (Or.inl rfl) (pe_op op_mulU (pe_lst (pa_cons (pe_lst (pa_cons pe_bl (pa_cons pe_bl (pa_cons pe_bl (pa_cons pe_bl (pa_cons pe_bl (pa_cons pe_bl (pa_cons pe_bl pa_nil)))))))) pa_nil)) pe_int))
    (pss_cons (ps_set (i := 2) scLaw.nd rfl (Or.inl rfl) (pe_op op_addU (pv 2) (pe_op op_mulU (pe_lst (pa_cons (pe_lst (pa_cons pe_bl (pa_cons pe_bl (pa_cons pe_bl (pa_cons pe_bl (pa_cons pe_bl (pa_cons pe_bl (pa_cons pe_bl pa_nil)))))))) pa_nil)) pe_int)))
    (pss_cons (ps_set (i := 2) scLaw.nd rfl (Or.inl rfl) (pe_op op_addU (pv 2) (pe_op op_mulU (pe_lst (pa_cons (pe_lst (pa_cons pe_bl (pa_cons pe_bl (pa_cons pe_bl (pa_cons pe_bl (pa_cons pe_bl (pa_cons pe_bl (pa_cons pe_bl pa_nil)))))))) pa_nil)) pe_int)))
    (pss_cons (ps_set (i := 2) scLaw.nd rfl (Or.inl rfl) (pe_op op_addU (pv 2) (pe_lst (pa_cons (pe_lst (pa_cons pe_bl (pa_cons pe_bl (pa_cons pe_bl (pa_cons pe_bl (pa_cons pe_bl (pa_cons pe_bl (pa_cons pe_bl pa_nil)))))))) pa_nil))))
    (pss_cons (ps_set (i := 2) scLaw.nd rfl (Or.inl rfl) (pe_op op_addU (pv 2) (pe_op op_mulU (pe_lst (pa_cons (pe_lst (pa_cons pe_bl (pa_cons pe_bl (pa_cons pe_bl (pa_cons pe_bl (pa_cons pe_bl (pa_cons pe_bl (pa_cons pe_bl pa_nil)))))))) pa_nil)) pe_int)))
    (pss_cons (ps_set (i := 2) scLaw.nd rfl (Or.inl rfl) (pe_op op_addU (pv 2) (pe_lst (pa_cons (pe_lst (pa_cons pe_bl (pa_cons pe_bl (pa_cons pe_bl (pa_cons pe_bl (pa_cons pe_bl (pa_cons pe_bl (pa_cons pe_bl pa_nil)))))))) pa_nil))))
    (pss_cons (ps_for PassesOwn.never rfl (pi_range1 rfl m_range (pa_cons pe_int pa_nil)) (pg_name (i := 3) scLaw.nd rfl (Or.inl rfl)) (pss_cons (ps_par (i := 4) (j := 5) rfl scLaw.nd rfl rfl (by decide) rfl rfl (pa_cons (pe_g c_law_thing hr (by decide) hq pass0 rfl (pa_cons (pv 1) pa_nil)) (pa_cons (pe_g c_law_thing hr (by decide) hq pass0 rfl (pa_cons (pv 1) pa_nil)) pa_nil)) rfl)
    (pss_cons (ps_set (i := 6) scLaw.nd rfl (Or.inl rfl) (pe_op op_addU (pe_g c_law_made hr (by decide) hq pass0 rfl (pa_cons (pv 4) (pa_cons (pv 5) pa_nil))) (pe_g c_law_more hr (by decide) hq pass0 rfl (pa_cons (pv 4) pa_nil))))
    (pss_cons (ps_for PassesOwn.never rfl (pi_range1 rfl m_range (pa_cons pe_int pa_nil)) (pg_name (i := 7) scLaw.nd rfl (Or.inl rfl)) (pss_cons (ps_asg (pe_ix ix_seq (pv 6) (pv 7) (fun _ _ => rfl)) (pg_tup rfl (pgs_cons (pg_name (i := 8) scLaw.nd rfl (Or.inl rfl)) (pgs_cons (pg_name (i := 9) scLaw.nd rfl (Or.inl rfl)) (pgs_cons (pg_name (i := 10) scLaw.nd rfl (Or.inl rfl)) pgs_nil)))))
    (pss_one (ps_if (PW.pt (pw_or (pt_cmpR (op_neU hu) (pe_callB (call_repr hs hq hu) (by rfl) m_repr (by decide +kernel) (pa_cons (pv 9) pa_nil)) (pe_callB (call_repr hs hq hu) (by rfl) m_repr (by decide +kernel) (pa_cons (pv 10) pa_nil)) (nomark _)) (pw_or (pt_cmpR (op_neU hu) (pe_g c_law_kinds hr (by decide) hq pass0 rfl (pa_cons (pv 8) pa_nil)) (pe_lst (pa_cons (pv 7) pa_nil)) (nomark _)) (pw_or1 (pt_cmpR (op_neU hu) (pe_g c_law_bases hr (by decide) hq pass0 rfl (pa_cons (pv 8) pa_nil)) (pe_ix ix_seq (pv 2) (pv 7) (fun _ _ => rfl)) (nomark _)))))) (pss_one (ps_ret pe_bl)) pss_nil))))
    (pss_cons (ps_if (pt_not (pt_val (pe_g c_law_named hr (by decide) hq pass0 rfl (pa_cons (pv 4) (pa_cons (pv 5) pa_nil))))) (pss_one (ps_ret pe_bl)) pss_nil)
    (pss_cons (ps_set (i := 11) scLaw.nd rfl (Or.inl rfl) (pe_exn0 xLandError rfl))
    (pss_one (ps_if (PW.pt (pw_or (pt_cmpR (op_neU hu) (pe_g c_law_kinds hr (by decide) hq pass0 rfl (pa_cons (pv 11) pa_nil)) (pe_lst pa_nil) (nomark _)) (pw_or1 (pt_not (pt_val (pe_callB call_isX (by rfl) m_isinstance (by decide +kernel) (pa_cons (pv 11) (pa_cons (pe_bty "ValueError" rfl m_ValueError (by decide +kernel)) pa_nil)))))))) (pss_one (ps_ret pe_bl)) pss_nil))))))))
    (pss_one (ps_ret pe_bl)))))))))), ?_⟩

  with_reducible refine g_set ?_
  walk_at "go"
  refine ⟨a0, ns, rfl, sa, fun p q ms H0 s0 np pen => ?_⟩
  have pd : ∀ {Hx : Hp}, Same H0 Hx → PenAt Hx p q ms 0 0 := fun s => ⟨s _ _ pen.pen, s _ _ pen.cells, pen.a0, pen.a1, pen.b0⟩
  with_reducible refine g_set ?_
  walk_at "go"
  refine g_small (show 7 ≤ 1000 by decide) fun d0 nd0 => ?_
  walk_at "go"
  refine g_small (show 1 ≤ 1000 by decide) fun o0 no0 => ?_
  have p0 : Same H0 _ := (same_upd (o := .lst [.bl true, .bl true, .bl false, .bl false, .bl false, .bl false, .bl false]) nd0).trans (same_upd (o := .lst [.ref d0]) no0)
  have hd0 : upd (upd H0 d0 (.lst [.bl true, .bl true, .bl false, .bl false, .bl false, .bl false, .bl false])) o0 (.lst [.ref d0]) d0 = some (.lst [.bl true, .bl true, .bl false, .bl false, .bl false, .bl false, .bl false]) := same_upd no0 _ _ upd_same
  walk_at "go"
  refine mulU_l (k := 9) (xs := [.ref d0]) upd_same (by decide) (Nat.le_of_ble_eq_true rfl) fun m0 nm0 => ?_
  have p0 := p0.trans (same_upd (o := .lst (List.replicate 9 [.ref d0]).flatten) nm0)
  have hd0 := same_upd (o := .lst (List.replicate 9 [.ref d0]).flatten) nm0 _ _ hd0
  refine step fun H1 r1 => ?_
  have p0 := p0.trans r1
  have hd0 := r1 _ _ hd0
  have k0 := r1 _ _ upd_same
  have sP := p0
  with_reducible refine g_set ?_
  walk_at "go"
  refine g_small (show 7 ≤ 1000 by decide) fun d1 nd1 => ?_
  walk_at "go"
  refine g_small (show 1 ≤ 1000 by decide) fun o1 no1 => ?_
  have p1 : Same H1 _ := (same_upd (o := .lst [.bl false, .bl false, .bl true, .bl false, .bl true, .bl false, .bl false]) nd1).trans (same_upd (o := .lst [.ref d1]) no1)
  have hd1 : upd (upd H1 d1 (.lst [.bl false, .bl false, .bl true, .bl false, .bl true, .bl false, .bl false])) o1 (.lst [.ref d1]) d1 = some (.lst [.bl false, .bl false, .bl true, .bl false, .bl true, .bl false, .bl false]) := same_upd no1 _ _ upd_same
  walk_at "go"
  refine mulU_l (k := 2) (xs := [.ref d1]) upd_same (by decide) (Nat.le_of_ble_eq_true rfl) fun m1 nm1 => ?_
  have p1 := p1.trans (same_upd (o := .lst (List.replicate 2 [.ref d1]).flatten) nm1)
  have hd1 := same_upd (o := .lst (List.replicate 2 [.ref d1]).flatten) nm1 _ _ hd1
  refine' addU_l (p1 _ _ k0) upd_same ?z ?_
  case z => exact Nat.le_of_ble_eq_true rfl
  intro v1 nv1
  refine step fun H2 r2 => ?_
  have p1 := p1.trans ((same_upd nv1).trans r2)
  have hd1 := ((same_upd nv1).trans r2) _ _ hd1
  have k1 := r2 _ _ upd_same
  have hd0 := p1 _ _ hd0
  have sP := sP.trans p1
  with_reducible refine g_set ?_
  walk_at "go"
  refine g_small (show 7 ≤ 1000 by decide) fun d2 nd2 => ?_
  walk_at "go"
  refine g_small (show 1 ≤ 1000 by decide) fun o2 no2 => ?_
  have p2 : Same H2 _ := (same_upd (o := .lst [.bl false, .bl false, .bl false, .bl true, .bl true, .bl false, .bl false]) nd2).trans (same_upd (o := .lst [.ref d2]) no2)
  have hd2 : upd (upd H2 d2 (.lst [.bl false, .bl false, .bl false, .bl true, .bl true, .bl false, .bl false])) o2 (.lst [.ref d2]) d2 = some (.lst [.bl false, .bl false, .bl false, .bl true, .bl true, .bl false, .bl false]) := same_upd no2 _ _ upd_same
  walk_at "go"
  refine mulU_l (k := 2) (xs := [.ref d2]) upd_same (by decide) (Nat.le_of_ble_eq_true rfl) fun m2 nm2 => ?_
  have p2 := p2.trans (same_upd (o := .lst (List.replicate 2 [.ref d2]).flatten) nm2)
  have hd2 := same_upd (o := .lst (List.replicate 2 [.ref d2]).flatten) nm2 _ _ hd2
  refine' addU_l (p2 _ _ k1) upd_same ?z ?_
  case z => exact Nat.le_of_ble_eq_true rfl
  intro v2 nv2
  refine step fun H3 r3 => ?_
  have p2 := p2.trans ((same_upd nv2).trans r3)
  have hd2 := ((same_upd nv2).trans r3) _ _ hd2
  have k2 := r3 _ _ upd_same
  have hd0 := p2 _ _ hd0
  have hd1 := p2 _ _ hd1
  have sP := sP.trans p2
  with_reducible refine g_set ?_
  walk_at "go"
  refine g_small (show 7 ≤ 1000 by decide) fun d3 nd3 => ?_
  walk_at "go"
  refine g_small (show 1 ≤ 1000 by decide) fun o3 no3 => ?_
  have p3 : Same H3 _ := (same_upd (o := .lst [.bl false, .bl false, .bl false, .bl false, .bl true, .bl false, .bl false]) nd3).trans (same_upd (o := .lst [.ref d3]) no3)
  have hd3 : upd (upd H3 d3 (.lst [.bl false, .bl false, .bl false, .bl false, .bl true, .bl false, .bl false])) o3 (.lst [.ref d3]) d3 = some (.lst [.bl false, .bl false, .bl false, .bl false, .bl true, .bl false, .bl false]) := same_upd no3 _ _ upd_same
  walk_at "go"
  refine' addU_l (p3 _ _ k2) upd_same ?z ?_
  case z => exact Nat.le_of_ble_eq_true rfl
  intro v3 nv3
  refine step fun H4 r4 => ?_
  have p3 := p3.trans ((same_upd nv3).trans r4)
  have hd3 := ((same_upd nv3).trans r4) _ _ hd3
  have k3 := r4 _ _ upd_same
  have hd0 := p3 _ _ hd0
  have hd1 := p3 _ _ hd1
  have hd2 := p3 _ _ hd2
  have sP := sP.trans p3
  with_reducible refine g_set ?_
  walk_at "go"
  refine g_small (show 7 ≤ 1000 by decide) fun d4 nd4 => ?_
  walk_at "go"
  refine g_small (show 1 ≤ 1000 by decide) fun o4 no4 => ?_
  have p4 : Same H4 _ := (same_upd (o := .lst [.bl false, .bl false, .bl false, .bl false, .bl false, .bl true, .bl false]) nd4).trans (same_upd (o := .lst [.ref d4]) no4)
  have hd4 : upd (upd H4 d4 (.lst [.bl false, .bl false, .bl false, .bl false, .bl false, .bl true, .bl false])) o4 (.lst [.ref d4]) d4 = some (.lst [.bl false, .bl false, .bl false, .bl false, .bl false, .bl true, .bl false]) := same_upd no4 _ _ upd_same
  walk_at "go"
  refine mulU_l (k := 3) (xs := [.ref d4]) upd_same (by decide) (Nat.le_of_ble_eq_true rfl) fun m4 nm4 => ?_
  have p4 := p4.trans (same_upd (o := .lst (List.replicate 3 [.ref d4]).flatten) nm4)
  have hd4 := same_upd (o := .lst (List.replicate 3 [.ref d4]).flatten) nm4 _ _ hd4
  refine' addU_l (p4 _ _ k3) upd_same ?z ?_
  case z => exact Nat.le_of_ble_eq_true rfl
  intro v4 nv4
  refine step fun H5 r5 => ?_
  have p4 := p4.trans ((same_upd nv4).trans r5)
  have hd4 := ((same_upd nv4).trans r5) _ _ hd4
  have k4 := r5 _ _ upd_same
  have hd0 := p4 _ _ hd0
  have hd1 := p4 _ _ hd1
  have hd2 := p4 _ _ hd2
  have hd3 := p4 _ _ hd3
  have sP := sP.trans p4
  with_reducible refine g_set ?_
  walk_at "go"
  refine g_small (show 7 ≤ 1000 by decide) fun d5 nd5 => ?_
  walk_at "go"
  refine g_small (show 1 ≤ 1000 by decide) fun o5 no5 => ?_
  have p5 : Same H5 _ := (same_upd (o := .lst [.bl false, .bl false, .bl false, .bl false, .bl false, .bl false, .bl true]) nd5).trans (same_upd (o := .lst [.ref d5]) no5)
  have hd5 : upd (upd H5 d5 (.lst [.bl false, .bl false, .bl false, .bl false, .bl false, .bl false, .bl true])) o5 (.lst [.ref d5]) d5 = some (.lst [.bl false, .bl false, .bl false, .bl false, .bl false, .bl false, .bl true]) := same_upd no5 _ _ upd_same
  walk_at "go"
  refine' addU_l (p5 _ _ k4) upd_same ?z ?_
  case z => exact Nat.le_of_ble_eq_true rfl
  intro v5 nv5
  refine step fun H6 r6 => ?_
  have p5 := p5.trans ((same_upd nv5).trans r6)
  have hd5 := ((same_upd nv5).trans r6) _ _ hd5
  have k5 := r6 _ _ upd_same
  have hd0 := p5 _ _ hd0
  have hd1 := p5 _ _ hd1
  have hd2 := p5 _ _ hd2
  have hd3 := p5 _ _ hd3
  have hd4 := p5 _ _ hd4
  have sP := sP.trans p5
  have du : Dues H6 v5 := by
    refine ⟨_, k5, fun k hk => ?_⟩
    rcases lt18 hk with rfl | rfl | rfl | rfl | rfl | rfl | rfl | rfl | rfl | rfl | rfl | rfl | rfl | rfl | rfl | rfl | rfl | rfl
    · exact ⟨d0, rfl, hd0⟩
    · exact ⟨d0, rfl, hd0⟩
    · exact ⟨d0, rfl, hd0⟩
    · exact ⟨d0, rfl, hd0⟩
    · exact ⟨d0, rfl, hd0⟩
    · exact ⟨d0, rfl, hd0⟩
    · exact ⟨d0, rfl, hd0⟩
    · exact ⟨d0, rfl, hd0⟩
    · exact ⟨d0, rfl, hd0⟩
    · exact ⟨d1, rfl, hd1⟩
    · exact ⟨d1, rfl, hd1⟩
    · exact ⟨d2, rfl, hd2⟩
    · exact ⟨d2, rfl, hd2⟩
    · exact ⟨d3, rfl, hd3⟩
    · exact ⟨d4, rfl, hd4⟩
    · exact ⟨d4, rfl, hd4⟩
    · exact ⟨d4, rfl, hd4⟩
    · exact ⟨d5, rfl, hd5⟩
  have pen := pd sP
  have du := du.del pen.pen rfl
  clear pd hd0 hd1 hd2 hd3 hd4 hd5 k0 k1 k2 k3 k4 k5
  refine g_for (n := 4) (by decide) (fun i σ H => ∃ x3 x4 x5 x6 x7 x8 x9 x10 x11 a b, σ = [some (.ref a0), some (.ref p), some (.ref v5), x3, x4, x5, x6, x7, x8, x9, x10, x11] ∧ PenAt H p q ms a b ∧ a ≤ 4 * i ∧ Dues (del H p) v5) ?_ ?_ ?_
  · exact ⟨none, none, none, none, none, none, none, none, none, 0, 0, rfl, pen, by decide, du⟩
  rotate_left
  · rintro σ H' ⟨x3, x4, x5, x6, x7, x8, x9, x10, x11, a', b', rfl, _⟩
    walk_at "go"
    exact z _
  clear du pen
  rintro i σ H7 hi ⟨x3, x4, x5, x6, x7, x8, x9, x10, x11, a', b', rfl, pen, ha, du⟩
  with_reducible refine g_name ?_
  walk_at "go"
  refine ⟨p, q, ms, a', b', rfl, pen, by omega, fun one a2 b2 H8 l1 l2 u8 pen th1 => ?_⟩
  walk_at "go"
  refine ⟨p, q, ms, a2, b2, rfl, pen, by omega, fun two a3 b3 H9 l3 l4 u9 pen th2 => ?_⟩
  have th1 := th1.same (But.del u9)
  have du := du.same (But.del (u8.trans u9))
  walk_at "go"
  refine ⟨one, two, rfl, fun ra rows1 H10 s10 e10 pr1 => ?_⟩
  walk_at "go"
  refine ⟨one, rfl, fun rb rows2 H11 s11 e11 pr2 => ?_⟩
  have z1 := paired_len pr1
  have z2 := paired_len pr2
  refine' addU_l (s11 _ _ e10) e11 ?z ?_
  case z => rw [List.length_map, List.length_map, z1, z2]; exact Nat.le_of_ble_eq_true rfl
  intro rr nr
  with_reducible refine g_name ?_
  refine step fun H12 s12 => ?_
  have e12 := s12 _ _ upd_same
  rw [← List.map_append] at e12
  have up11 := s11.trans ((same_upd nr).trans s12)
  have up := s10.trans up11
  have pr := paired_app (paired_mono (fun _ _ h => RowOk.same up11 h) pr1) (paired_mono (fun _ _ h => RowOk.same ((same_upd nr).trans s12) h) pr2)
  have du12 := (du.same del_le).same up
  have th1' := (th1.same del_le).same up
  have th2' := (th2.same del_le).same up
  clear pr1 pr2 z1 z2
  refine g_for (n := 18) (by decide) (fun k σ H => ∃ x7 x8 x9 x10, σ = [some (.ref a0), some (.ref p), some (.ref v5), some (.int (0 + (i : Int))), some one, some two, some (.ref rr), x7, x8, x9, x10, x11] ∧ Same H12 H) ⟨_, _, _, _, rfl, Same.refl _⟩ ?_ ?_
  · rintro k σ H13 hk ⟨y7, y8, y9, y10, rfl, s13⟩
    obtain ⟨⟨C, ys⟩, hc⟩ : ∃ c, (rowsOf [c0, c1, c2, c3, c4, c5, c6, c7, c8, c9, c10, c11, c12, c13, c14, c15, c16, c17] one two)[k]? = some c := ⟨_, List.getElem?_eq_getElem (show k < (rowsOf [c0, c1, c2, c3, c4, c5, c6, c7, c8, c9, c10, c11, c12, c13, c14, c15, c16, c17] one two).length from hk)⟩
    obtain ⟨row, hrow, ok⟩ := paired_at pr hc
    have hcs : ([c0, c1, c2, c3, c4, c5, c6, c7, c8, c9, c10, c11, c12, c13, c14, c15, c16, c17] : List Addr)[k]? = some C := by
      have h : (rowsOf [c0, c1, c2, c3, c4, c5, c6, c7, c8, c9, c10, c11, c12, c13, c14, c15, c16, c17] one two).map Prod.fst = [c0, c1, c2, c3, c4, c5, c6, c7, c8, c9, c10, c11, c12, c13, c14, c15, c16, c17] := rfl
      rw [← h, List.getElem?_map, hc]
      rfl
    have hyl : ys.length ≤ 2 := by
      have h : ∀ c ∈ rowsOf [c0, c1, c2, c3, c4, c5, c6, c7, c8, c9, c10, c11, c12, c13, c14, c15, c16, c17] one two, c.2.length ≤ 2 := by
        simp [rowsOf]
      exact h _ (List.mem_of_getElem? hc)
    have hys : ∀ y ∈ ys, y = one ∨ y = two := by
      have h : ∀ c ∈ rowsOf [c0, c1, c2, c3, c4, c5, c6, c7, c8, c9, c10, c11, c12, c13, c14, c15, c16, c17] one two, ∀ y ∈ c.2, y = one ∨ y = two := by
        simp [rowsOf]
      exact h _ (List.mem_of_getElem? hc)
    obtain ⟨T, kd, bs⟩ := M.one k C hcs
    obtain ⟨ea, ta, da, r1, r2, r3, r4⟩ := ok.same s13
    with_reducible refine g_name ?_
    walk_at "go"
    refine ix_l (v := .ref row) (.inl (.inl (s13 _ _ e12))) (by rw [Int.zero_add, atI_nat, List.getElem?_map, hrow]; rfl) ?_
    refine ⟨row, _, rfl, .inl (.inl r1), rfl, ?_⟩
    refine ⟨_, _, rfl, g_name ⟨_, _, rfl, g_name ⟨_, _, rfl, g_name ⟨rfl, ?_⟩⟩⟩⟩
    obtain ⟨ds, q1, q2, q3⟩ := things_all (K := K) (H := H13) (ys := ys) (fun y hy => (hys y hy).elim (fun z => z ▸ th1'.same s13) fun z => z ▸ th2'.same s13)
    walk_at "go"
    refine repr_ds r3 q1 q2 (by omega) ?_
    walk_at "go"
    refine repr_ds r4 q1 q2 (by omega) ?_
    refine eqU_self ?_
    walk_at "go"
    simp only [Bool.false_eq_true, if_false]
    walk_at "go"
    refine ⟨ea, C, onek k, rfl, r2, T, kd, fun kr H14 s14 ek => ?_⟩
    rw [hits_onek k hk] at ek
    walk_at "go"
    refine g_small (show 1 ≤ 1000 by decide) fun kl nkl => ?_
    refine step2 fun H15 t15 => ?_
    have s15 := s13.trans (s14.trans ((same_upd (o := .lst [.int (0 + (k : Int))]) nkl).trans t15))
    refine neU_ints (ns := [(k : Int)]) (.inl (.inl (t15 _ _ (same_upd nkl _ _ ek)))) (.inl (.inl (by rw [t15 _ _ upd_same, Int.zero_add]; rfl))) ?_
    walk_at "go"
    simp only [Bool.false_eq_true, if_false]
    walk_at "go"
    refine ⟨ea, C, BB k, rfl, r2.same (s14.trans ((same_upd nkl).trans t15)), T, bs, fun br H16 s16 eb => ?_⟩
    walk_at "go"
    obtain ⟨dl, ed, hdd⟩ := du12.same (s15.trans s16)
    obtain ⟨d, ed1, ed2⟩ := hdd k hk
    refine ix_l (v := .ref d) (.inl (.inl ed)) (by rw [Int.zero_add, atI_nat, ed1]) ?_
    refine neU_bls (ns := BB k) (.inl (.inl eb)) (.inl (.inl ed2)) ?_
    walk_at "go"
    simp only [Bool.false_eq_true, if_false]
    walk_at "go"
    exact ⟨_, _, _, _, rfl, s15.trans s16⟩
  · rintro σ H13 ⟨y7, y8, y9, y10, rfl, s13⟩
    walk_at "go"
    refine ⟨one, two, rfl, th1'.same s13, th2'.same s13, fun H14 s14 => ?_⟩
    walk_at "go"
    simp only [Bool.not_true, Bool.false_eq_true, if_false]
    walk_at "go"
    intro pl npl
    walk_at "go"
    refine step3 fun H15 t15 => ?_
    have s15 := s13.trans (s14.trans ((same_upd (o := exo pl cL none) npl).trans t15))
    have xa : ExAt H15 pl cL := ⟨none, t15 _ _ upd_same, fun _ e => (nomatch e)⟩
    refine ⟨pl, cL, List.replicate 18 false, rfl, xa, M.top.1, M.top.2.1, fun kr H16 s16 ek => ?_⟩
    rw [hits_none] at ek
    walk_at "go"
    refine g_small (show 0 ≤ 1000 by decide) fun kl nkl => ?_
    refine step2 fun H17 t17 => ?_
    have s17 := s16.trans ((same_upd (o := .lst []) nkl).trans t17)
    refine neU_ints (ns := []) (.inl (.inl (t17 _ _ (same_upd nkl _ _ ek)))) (.inl (.inl (t17 _ _ upd_same))) ?_
    walk_at "go"
    simp only [Bool.false_eq_true, if_false]
    walk_at "go"
    refine g_isX (cv := .type "ValueError") (xa.same s17) M.top.1 G (fun u h => h) M.top.2.2 ?_
    walk_at "go"
    simp only [Bool.not_true, Bool.false_eq_true, if_false]
    walk_at "go"
    have fin := up.trans (s15.trans s17)
    exact ⟨_, _, _, _, _, _, _, _, _, a3, b3, rfl, ⟨fin _ _ pen.pen, fin _ _ pen.cells, pen.a0, pen.a1, pen.b0⟩, by omega, du.same (But.del (Same.but fin p))⟩
end
/-! ### what the top has written -/
theorem Keys.store : StoreFacts "KeyError" [.type "KeyError", .type "LookupError", .type "Exception", .type "BaseException", .type "object"] "object.__setattr__" "object" :=
  ⟨by kernel_rfl,
   .of (n := "__setattr__") (owner := "object") (by rw [typeLookup_type]; rw [builtinLookup_eq_fast]; kernel_rfl) (by decide +kernel)
     (by decide +kernel) (by decide +kernel)
     (by first | exact Or.inl (by decide +kernel) | exact Or.inr (by decide +kernel)) (by rw [isSubtype_type] <;> kernel_rfl),
   PySem.F.entry_object_sa, by decide +kernel, by decide +kernel, by decide +kernel, fun _ _ _ => (by unfold argsOk; kernel_rfl), fun _ => (by kernel_rfl)⟩
theorem exk_mk {K : W.Frag} {C N : Addr} {B newId initId B2 : String} {bmB bm bm2 : List Value} {nm q : Str} {bs : List Value} {hdct : Bool} {sn : List Str} {sub : List Value} {ab : Bool} {col : Option Bool} {dd : Option Addr} {k0 k1 k2 k3 k5 : Option Value}
    (F : ExcBaseFacts B newId initId bmB) (S : StoreFacts B2 bm2 "object.__setattr__" "object") (lk : K.lookup C = some (excClassObj nm q C N bs bm hdct sn sub ab col dd k0 k1 k2 k3 k5 newId)) (own : bm.contains (.type B) = true) (att : bm.contains (.type "AttributeError") = false) (nam : bm.contains (.type "NameError") = false)
    (ov : W.excOver K C bm2 = true) (sa : W.findIn K (.ref C) "__setattr__" = some (some (.builtin "object.__setattr__"))) (hd : W.hasDictIn K C = true) (ga : W.findIn K (.ref C) "__getattribute__" = some (some (.builtin "BaseException.__getattribute__")))
    (gg : W.findIn K (.ref C) "__getattr__" = some none) (ex : W.subIn K (.ref C) (.type "BaseException") = some true) (cl : W.findIn K (.ref C) "__class__" = some (some (.builtin "object.__class__"))) (ob : W.mroIn K C (.type "object") = some true) (kp : W.keepIn K (.ref C) = true) : ExK K C :=
  ⟨⟨B, newId, initId, bmB, bm, nm, q, N, bs, hdct, sn, sub, ab, col, dd, k0, k1, k2, k3, k5, F, ⟨own, att, nam⟩, lk⟩, ⟨B2, bm2, S, ov⟩, sa, hd, ga, gg, ex, cl, ob, kp⟩
section
variable {K : W.Frag} {h : Heap} {mg : Str → Option Value} {x q f g : Str} {st : Stmt} {C f1 : Addr} {oc kV dc pm cd ct : Value} {od an : Option Addr} {sl : Array (Option Value)} {p1 p2 p3 p4 p5 p6 p7 p8 : Pos}
theorem exm1 (X : K.In h) (G : h.Ns mainGlobals mg) (T : ExK K C) (aC : W.nsIn K mainGlobals x = some (some (.ref C))) (a1 : W.findIn K (.ref C) "__init__" = some (some (.ref f1))) (t1 : W.typeIn K (.ref f1) = some (.type "function"))
    (l1 : K.lookup f1 = some ⟨oc, od, .func (W.fnOf "__init__" q (defArgs st) (defBody st) (defScope st) .none kV dc pm an cd ct), sl⟩) (c1 : W.codeIn K cd q = true) (k1 : W.keepIn K (.ref f1) = true) (ht : W.takerIn K C f = some none)
    (S : FnScope ["self", f] ["self", f] (defScope st)) (hb : defBody st = [.Assign [.Attribute (.Name "self" p1) f p2] (.Name f p3) p4]) (bo : BindOk (W.fnOf "__init__" q (defArgs st) (defBody st) (defScope st) .none kV dc pm an cd ct) [f])
    (hd : (f == ("__debug__" : Str)) = false) (hcd : (f == ("__classdict__" : Str)) = false) (P : Program) (w : World) (base : Heap) : ExM P w K mg base x C [f] :=
  ⟨T, W.mg_of X G aC, f1, _, a1, t1, ini1 (fun_mk l1 c1 k1) S hb T ht hd hcd, bo⟩
theorem exm2 (X : K.In h) (G : h.Ns mainGlobals mg) (T : ExK K C) (aC : W.nsIn K mainGlobals x = some (some (.ref C))) (a1 : W.findIn K (.ref C) "__init__" = some (some (.ref f1))) (t1 : W.typeIn K (.ref f1) = some (.type "function"))
    (l1 : K.lookup f1 = some ⟨oc, od, .func (W.fnOf "__init__" q (defArgs st) (defBody st) (defScope st) .none kV dc pm an cd ct), sl⟩) (c1 : W.codeIn K cd q = true) (k1 : W.keepIn K (.ref f1) = true) (ht : W.takerIn K C f = some none) (ht2 : W.takerIn K C g = some none)
    (S : FnScope ["self", f, g] ["self", f, g] (defScope st)) (hb : defBody st = [.Assign [.Attribute (.Name "self" p1) f p2] (.Name f p3) p4, .Assign [.Attribute (.Name "self" p5) g p6] (.Name g p7) p8]) (bo : BindOk (W.fnOf "__init__" q (defArgs st) (defBody st) (defScope st) .none kV dc pm an cd ct) [f, g])
    (hd : (f == ("__debug__" : Str)) = false) (hcd : (f == ("__classdict__" : Str)) = false) (hd2 : (g == ("__debug__" : Str)) = false) (hcd2 : (g == ("__classdict__" : Str)) = false) (P : Program) (w : World) (base : Heap) : ExM P w K mg base x C [f, g] :=
  ⟨T, W.mg_of X G aC, f1, _, a1, t1, ini2 (fun_mk l1 c1 k1) S hb T ht ht2 hd hcd hd2 hcd2, bo⟩
end

/-- a def of the text as the top has written it -/
def DefAt (K : W.Frag) (x : Str) (st : Stmt) : Prop := ∃ (f : Addr) (oc kV doc pm cdv ct : Value) (od an : Option Addr) (osl : Array (Option Value)), W.nsIn K mainGlobals x = some (some (.ref f)) ∧ K.lookup f = some ⟨oc, od, .func (W.fnOf x x (defArgs st) (defBody st) (defScope st) .none kV doc pm an cdv ct), osl⟩ ∧ W.codeIn K cdv x = true ∧ W.keepIn K (.ref f) = true
theorem defat_mk {K : W.Frag} {x : Str} {st : Stmt} {f : Addr} {oc kV doc pm cdv ct : Value} {od an : Option Addr} {osl : Array (Option Value)} (a : W.nsIn K mainGlobals x = some (some (.ref f))) (l : K.lookup f = some ⟨oc, od, .func (W.fnOf x x (defArgs st) (defBody st) (defScope st) .none kV doc pm an cdv ct), osl⟩) (c : W.codeIn K cdv x = true) (k : W.keepIn K (.ref f) = true) : DefAt K x st :=
  ⟨f, oc, kV, doc, pm, cdv, ct, od, an, osl, a, l, c, k⟩
theorem all18 {R : Nat → Addr → Prop} {c0 c1 c2 c3 c4 c5 c6 c7 c8 c9 c10 c11 c12 c13 c14 c15 c16 c17 : Addr} (h0 : R 0 c0) (h1 : R 1 c1) (h2 : R 2 c2) (h3 : R 3 c3) (h4 : R 4 c4) (h5 : R 5 c5) (h6 : R 6 c6) (h7 : R 7 c7) (h8 : R 8 c8) (h9 : R 9 c9) (h10 : R 10 c10) (h11 : R 11 c11) (h12 : R 12 c12) (h13 : R 13 c13) (h14 : R 14 c14) (h15 : R 15 c15) (h16 : R 16 c16) (h17 : R 17 c17) (k : Nat) (C : Addr) (h : [c0, c1, c2, c3, c4, c5, c6, c7, c8, c9, c10, c11, c12, c13, c14, c15, c16, c17][k]? = some C) : R k C := by
  by_cases hk : k < 18
  · rcases lt18 hk with rfl | rfl | rfl | rfl | rfl | rfl | rfl | rfl | rfl | rfl | rfl | rfl | rfl | rfl | rfl | rfl | rfl | rfl <;> (cases h; assumption)
  · rw [List.getElem?_eq_none (show [c0, c1, c2, c3, c4, c5, c6, c7, c8, c9, c10, c11, c12, c13, c14, c15, c16, c17].length ≤ k from Nat.le_of_not_lt hk)] at h
    cases h
theorem all_mk {l : W.OpenLaw} {w : World} {K : W.Frag} {h : Heap} {mg : Str → Option Value} {fa cL c0 c1 c2 c3 c4 c5 c6 c7 c8 c9 c10 c11 c12 c13 c14 c15 c16 c17 : Addr} (X : K.In h) (G : h.Ns mainGlobals mg) (hfa : mg "law" = some (.ref fa))
    (x0 : ∀ (P : Program) (w : World) (base : Heap), ExM P w K mg base "InvalidMachine" c0 ["reason"])
    (t0_0 : W.findIn K (.ref c0) "reason" = some none)
    (x1 : ∀ (P : Program) (w : World) (base : Heap), ExM P w K mg base "InvalidCode" c1 ["reason", "row"])
    (t1_0 : W.findIn K (.ref c1) "reason" = some none)
    (t1_1 : W.findIn K (.ref c1) "row" = some none)
    (x2 : ∀ (P : Program) (w : World) (base : Heap), ExM P w K mg base "InvalidWay" c2 ["index"])
    (t2_0 : W.findIn K (.ref c2) "index" = some none)
    (x3 : ∀ (P : Program) (w : World) (base : Heap), ExM P w K mg base "InvalidBreaks" c3 ["index"])
    (t3_0 : W.findIn K (.ref c3) "index" = some none)
    (x4 : ∀ (P : Program) (w : World) (base : Heap), ExM P w K mg base "InvalidMap" c4 ["index"])
    (t4_0 : W.findIn K (.ref c4) "index" = some none)
    (x5 : ∀ (P : Program) (w : World) (base : Heap), ExM P w K mg base "InvalidText" c5 ["line", "word"])
    (t5_0 : W.findIn K (.ref c5) "line" = some none)
    (t5_1 : W.findIn K (.ref c5) "word" = some none)
    (x6 : ∀ (P : Program) (w : World) (base : Heap), ExM P w K mg base "InvalidLimit" c6 ["value"])
    (t6_0 : W.findIn K (.ref c6) "value" = some none)
    (x7 : ∀ (P : Program) (w : World) (base : Heap), ExM P w K mg base "Clash" c7 ["way", "name"])
    (t7_0 : W.findIn K (.ref c7) "way" = some none)
    (t7_1 : W.findIn K (.ref c7) "name" = some none)
    (x8 : ∀ (P : Program) (w : World) (base : Heap), ExM P w K mg base "UnknownCommand" c8 ["line"])
    (t8_0 : W.findIn K (.ref c8) "line" = some none)
    (x9 : ∀ (P : Program) (w : World) (base : Heap), ExM P w K mg base "NoName" c9 ["name"])
    (t9_0 : W.findIn K (.ref c9) "name" = some none)
    (x10 : ∀ (P : Program) (w : World) (base : Heap), ExM P w K mg base "NoPoint" c10 ["point"])
    (t10_0 : W.findIn K (.ref c10) "point" = some none)
    (x11 : ∀ (P : Program) (w : World) (base : Heap), ExM P w K mg base "NoRow" c11 ["row"])
    (t11_0 : W.findIn K (.ref c11) "row" = some none)
    (x12 : ∀ (P : Program) (w : World) (base : Heap), ExM P w K mg base "NoStep" c12 ["step"])
    (t12_0 : W.findIn K (.ref c12) "step" = some none)
    (x13 : ∀ (P : Program) (w : World) (base : Heap), ExM P w K mg base "NothingToUndo" c13 ["count"])
    (t13_0 : W.findIn K (.ref c13) "count" = some none)
    (x14 : ExP K mg "Ended" c14)
    (x15 : ∀ (P : Program) (w : World) (base : Heap), ExM P w K mg base "HeldGap" c15 ["row"])
    (t15_0 : W.findIn K (.ref c15) "row" = some none)
    (x16 : ∀ (P : Program) (w : World) (base : Heap), ExM P w K mg base "NoWay" c16 ["row"])
    (t16_0 : W.findIn K (.ref c16) "row" = some none)
    (x17 : ∀ (P : Program) (w : World) (base : Heap), ExM P w K mg base "TooMany" c17 ["most"])
    (t17_0 : W.findIn K (.ref c17) "most" = some none)
    (xL : ExP K mg "LandError" cL)
    (G0 : ExA K)
    (kd0 : KindsIs K [c0, c1, c2, c3, c4, c5, c6, c7, c8, c9, c10, c11, c12, c13, c14, c15, c16, c17] c0 (onek 0)) (bs0 : BasesIs K cL c0 (BB 0))
    (kd1 : KindsIs K [c0, c1, c2, c3, c4, c5, c6, c7, c8, c9, c10, c11, c12, c13, c14, c15, c16, c17] c1 (onek 1)) (bs1 : BasesIs K cL c1 (BB 1))
    (kd2 : KindsIs K [c0, c1, c2, c3, c4, c5, c6, c7, c8, c9, c10, c11, c12, c13, c14, c15, c16, c17] c2 (onek 2)) (bs2 : BasesIs K cL c2 (BB 2))
    (kd3 : KindsIs K [c0, c1, c2, c3, c4, c5, c6, c7, c8, c9, c10, c11, c12, c13, c14, c15, c16, c17] c3 (onek 3)) (bs3 : BasesIs K cL c3 (BB 3))
    (kd4 : KindsIs K [c0, c1, c2, c3, c4, c5, c6, c7, c8, c9, c10, c11, c12, c13, c14, c15, c16, c17] c4 (onek 4)) (bs4 : BasesIs K cL c4 (BB 4))
    (kd5 : KindsIs K [c0, c1, c2, c3, c4, c5, c6, c7, c8, c9, c10, c11, c12, c13, c14, c15, c16, c17] c5 (onek 5)) (bs5 : BasesIs K cL c5 (BB 5))
    (kd6 : KindsIs K [c0, c1, c2, c3, c4, c5, c6, c7, c8, c9, c10, c11, c12, c13, c14, c15, c16, c17] c6 (onek 6)) (bs6 : BasesIs K cL c6 (BB 6))
    (kd7 : KindsIs K [c0, c1, c2, c3, c4, c5, c6, c7, c8, c9, c10, c11, c12, c13, c14, c15, c16, c17] c7 (onek 7)) (bs7 : BasesIs K cL c7 (BB 7))
    (kd8 : KindsIs K [c0, c1, c2, c3, c4, c5, c6, c7, c8, c9, c10, c11, c12, c13, c14, c15, c16, c17] c8 (onek 8)) (bs8 : BasesIs K cL c8 (BB 8))
    (kd9 : KindsIs K [c0, c1, c2, c3, c4, c5, c6, c7, c8, c9, c10, c11, c12, c13, c14, c15, c16, c17] c9 (onek 9)) (bs9 : BasesIs K cL c9 (BB 9))
    (kd10 : KindsIs K [c0, c1, c2, c3, c4, c5, c6, c7, c8, c9, c10, c11, c12, c13, c14, c15, c16, c17] c10 (onek 10)) (bs10 : BasesIs K cL c10 (BB 10))
    (kd11 : KindsIs K [c0, c1, c2, c3, c4, c5, c6, c7, c8, c9, c10, c11, c12, c13, c14, c15, c16, c17] c11 (onek 11)) (bs11 : BasesIs K cL c11 (BB 11))
    (kd12 : KindsIs K [c0, c1, c2, c3, c4, c5, c6, c7, c8, c9, c10, c11, c12, c13, c14, c15, c16, c17] c12 (onek 12)) (bs12 : BasesIs K cL c12 (BB 12))
    (kd13 : KindsIs K [c0, c1, c2, c3, c4, c5, c6, c7, c8, c9, c10, c11, c12, c13, c14, c15, c16, c17] c13 (onek 13)) (bs13 : BasesIs K cL c13 (BB 13))
    (kd14 : KindsIs K [c0, c1, c2, c3, c4, c5, c6, c7, c8, c9, c10, c11, c12, c13, c14, c15, c16, c17] c14 (onek 14)) (bs14 : BasesIs K cL c14 (BB 14))
    (kd15 : KindsIs K [c0, c1, c2, c3, c4, c5, c6, c7, c8, c9, c10, c11, c12, c13, c14, c15, c16, c17] c15 (onek 15)) (bs15 : BasesIs K cL c15 (BB 15))
    (kd16 : KindsIs K [c0, c1, c2, c3, c4, c5, c6, c7, c8, c9, c10, c11, c12, c13, c14, c15, c16, c17] c16 (onek 16)) (bs16 : BasesIs K cL c16 (BB 16))
    (kd17 : KindsIs K [c0, c1, c2, c3, c4, c5, c6, c7, c8, c9, c10, c11, c12, c13, c14, c15, c16, c17] c17 (onek 17)) (bs17 : BasesIs K cL c17 (BB 17))
    (kdL : KindsIs K [c0, c1, c2, c3, c4, c5, c6, c7, c8, c9, c10, c11, c12, c13, c14, c15, c16, c17] cL (List.replicate 18 false)) (vL : W.kitOne K (.ref cL) (.type "ValueError") = some true)
    (d__law_pen : DefAt K "_law_pen" sPen)
    (d__law_draw : DefAt K "_law_draw" sDraw)
    (d__law_thing : DefAt K "_law_thing" sThing)
    (d__law_bases : DefAt K "_law_bases" sBases)
    (d__law_kinds : DefAt K "_law_kinds" sKinds)
    (d__law_made : DefAt K "_law_made" sMade)
    (d__law_more : DefAt K "_law_more" sMore)
    (d__law_named : DefAt K "_law_named" sNamed)
    (d_law : DefAt K "law" sLaw)
    (z_int : W.nsIn K mainGlobals "int" = some none)
    (z_len : W.nsIn K mainGlobals "len" = some none)
    (z_abs : W.nsIn K mainGlobals "abs" = some none)
    (z_list : W.nsIn K mainGlobals "list" = some none)
    (z_range : W.nsIn K mainGlobals "range" = some none)
    (z_isinstance : W.nsIn K mainGlobals "isinstance" = some none)
    (z_repr : W.nsIn K mainGlobals "repr" = some none)
    (z_ValueError : W.nsIn K mainGlobals "ValueError" = some none)
    (z_KeyError : W.nsIn K mainGlobals "KeyError" = some none)
    (z_IndexError : W.nsIn K mainGlobals "IndexError" = some none)
    (z_LookupError : W.nsIn K mainGlobals "LookupError" = some none)
    (z_RuntimeError : W.nsIn K mainGlobals "RuntimeError" = some none)
    (z_OverflowError : W.nsIn K mainGlobals "OverflowError" = some none) :
    ∃ fd : FuncData, (∀ (s : Shared) (v : Value), BindsTo s fd ⟨[v], []⟩ [("_law_script", v)]) ∧ ∀ base : Heap, K.In base → base.Ns mainGlobals mg → (∃ m, base.Ns sysModules m) → FnG l.prog w K mg base CX0 4 fa fd ["_law_script"] (spLaw K) := by
  have m_int := W.mg_none_of X G z_int
  have m_len := W.mg_none_of X G z_len
  have m_abs := W.mg_none_of X G z_abs
  have m_list := W.mg_none_of X G z_list
  have m_range := W.mg_none_of X G z_range
  have m_isinstance := W.mg_none_of X G z_isinstance
  have m_repr := W.mg_none_of X G z_repr
  have m_ValueError := W.mg_none_of X G z_ValueError
  have m_KeyError := W.mg_none_of X G z_KeyError
  have m_IndexError := W.mg_none_of X G z_IndexError
  have m_LookupError := W.mg_none_of X G z_LookupError
  have m_RuntimeError := W.mg_none_of X G z_RuntimeError
  have m_OverflowError := W.mg_none_of X G z_OverflowError
  obtain ⟨f_law_pen, oc_law_pen, kV_law_pen, dc_law_pen, pm_law_pen, cd_law_pen, ct_law_pen, od_law_pen, an_law_pen, sl_law_pen, a_law_pen, l_law_pen, c_law_pen, k_law_pen⟩ := d__law_pen
  obtain ⟨f_law_draw, oc_law_draw, kV_law_draw, dc_law_draw, pm_law_draw, cd_law_draw, ct_law_draw, od_law_draw, an_law_draw, sl_law_draw, a_law_draw, l_law_draw, c_law_draw, k_law_draw⟩ := d__law_draw
  obtain ⟨f_law_thing, oc_law_thing, kV_law_thing, dc_law_thing, pm_law_thing, cd_law_thing, ct_law_thing, od_law_thing, an_law_thing, sl_law_thing, a_law_thing, l_law_thing, c_law_thing, k_law_thing⟩ := d__law_thing
  obtain ⟨f_law_bases, oc_law_bases, kV_law_bases, dc_law_bases, pm_law_bases, cd_law_bases, ct_law_bases, od_law_bases, an_law_bases, sl_law_bases, a_law_bases, l_law_bases, c_law_bases, k_law_bases⟩ := d__law_bases
  obtain ⟨f_law_kinds, oc_law_kinds, kV_law_kinds, dc_law_kinds, pm_law_kinds, cd_law_kinds, ct_law_kinds, od_law_kinds, an_law_kinds, sl_law_kinds, a_law_kinds, l_law_kinds, c_law_kinds, k_law_kinds⟩ := d__law_kinds
  obtain ⟨f_law_made, oc_law_made, kV_law_made, dc_law_made, pm_law_made, cd_law_made, ct_law_made, od_law_made, an_law_made, sl_law_made, a_law_made, l_law_made, c_law_made, k_law_made⟩ := d__law_made
  obtain ⟨f_law_more, oc_law_more, kV_law_more, dc_law_more, pm_law_more, cd_law_more, ct_law_more, od_law_more, an_law_more, sl_law_more, a_law_more, l_law_more, c_law_more, k_law_more⟩ := d__law_more
  obtain ⟨f_law_named, oc_law_named, kV_law_named, dc_law_named, pm_law_named, cd_law_named, ct_law_named, od_law_named, an_law_named, sl_law_named, a_law_named, l_law_named, c_law_named, k_law_named⟩ := d__law_named
  obtain ⟨flaw, oclaw, kVlaw, dclaw, pmlaw, cdlaw, ctlaw, odlaw, anlaw, sllaw, alaw, llaw, claw, klaw⟩ := d_law
  have e := hfa.symm.trans (W.mg_of X G alaw)
  cases e
  have F_law_pen := fun_mk (st := sPen) l_law_pen c_law_pen k_law_pen
  have b_law_pen := F_law_pen.binds (ps := ["_law_script"]) fun _ _ _ _ _ _ us hl => match us, hl with | [_], _ => rfl
  have F_law_draw := fun_mk (st := sDraw) l_law_draw c_law_draw k_law_draw
  have b_law_draw := F_law_draw.binds (ps := ["_law_pen_here", "_law_many"]) fun _ _ _ _ _ _ us hl => match us, hl with | [_, _], _ => rfl
  have F_law_thing := fun_mk (st := sThing) l_law_thing c_law_thing k_law_thing
  have b_law_thing := F_law_thing.binds (ps := ["_law_pen_here"]) fun _ _ _ _ _ _ us hl => match us, hl with | [_], _ => rfl
  have F_law_bases := fun_mk (st := sBases) l_law_bases c_law_bases k_law_bases
  have b_law_bases := F_law_bases.binds (ps := ["_law_error"]) fun _ _ _ _ _ _ us hl => match us, hl with | [_], _ => rfl
  have F_law_kinds := fun_mk (st := sKinds) l_law_kinds c_law_kinds k_law_kinds
  have b_law_kinds := F_law_kinds.binds (ps := ["_law_error"]) fun _ _ _ _ _ _ us hl => match us, hl with | [_], _ => rfl
  have F_law_made := fun_mk (st := sMade) l_law_made c_law_made k_law_made
  have b_law_made := F_law_made.binds (ps := ["_law_one", "_law_two"]) fun _ _ _ _ _ _ us hl => match us, hl with | [_, _], _ => rfl
  have F_law_more := fun_mk (st := sMore) l_law_more c_law_more k_law_more
  have b_law_more := F_law_more.binds (ps := ["_law_one"]) fun _ _ _ _ _ _ us hl => match us, hl with | [_], _ => rfl
  have F_law_named := fun_mk (st := sNamed) l_law_named c_law_named k_law_named
  have b_law_named := F_law_named.binds (ps := ["_law_one", "_law_two"]) fun _ _ _ _ _ _ us hl => match us, hl with | [_, _], _ => rfl
  have Flaw := fun_mk (st := sLaw) llaw claw klaw
  refine ⟨W.fnOf "law" "law" (defArgs sLaw) (defBody sLaw) (defScope sLaw) .none kVlaw dclaw pmlaw anlaw cdlaw ctlaw, fun s v => .of_eq rfl, fun base _ _ hs => ?_⟩
  obtain ⟨ms, hs⟩ := hs
  have C_law_pen : CalG l.prog w K mg base CX0 1 "_law_pen" _ := ⟨f_law_pen, _, _, ok_pen F_law_pen m_list, W.mg_of X G a_law_pen, k_law_pen, b_law_pen⟩
  have C_law_draw : CalG l.prog w K mg base CX0 1 "_law_draw" _ := ⟨f_law_draw, _, _, ok_draw F_law_draw m_int m_len m_abs, W.mg_of X G a_law_draw, k_law_draw, b_law_draw⟩
  have C_law_thing : CalG l.prog w K mg base CX0 2 "_law_thing" _ := ⟨f_law_thing, _, _, ok_thing F_law_thing C_law_draw, W.mg_of X G a_law_thing, k_law_thing, b_law_thing⟩
  have C_law_bases : CalG l.prog w K mg base CX0 1 "_law_bases" _ := ⟨f_law_bases, _, _, ok_bases F_law_bases G0 xL.nm m_isinstance m_ValueError m_KeyError m_IndexError m_LookupError m_RuntimeError m_OverflowError, W.mg_of X G a_law_bases, k_law_bases, b_law_bases⟩
  have C_law_kinds : CalG l.prog w K mg base CX0 1 "_law_kinds" _ := ⟨f_law_kinds, _, _, ok_kinds F_law_kinds G0 (x0 l.prog w base).nm (x1 l.prog w base).nm (x2 l.prog w base).nm (x3 l.prog w base).nm (x4 l.prog w base).nm (x5 l.prog w base).nm (x6 l.prog w base).nm (x7 l.prog w base).nm (x8 l.prog w base).nm (x9 l.prog w base).nm (x10 l.prog w base).nm (x11 l.prog w base).nm (x12 l.prog w base).nm (x13 l.prog w base).nm x14.nm (x15 l.prog w base).nm (x16 l.prog w base).nm (x17 l.prog w base).nm m_isinstance m_range, W.mg_of X G a_law_kinds, k_law_kinds, b_law_kinds⟩
  have C_law_made : CalG l.prog w K mg base CX0 3 "_law_made" _ := ⟨f_law_made, _, _, ok_made F_law_made (x0 l.prog w base) t0_0 (x1 l.prog w base) t1_0 t1_1 (x2 l.prog w base) t2_0 (x3 l.prog w base) t3_0 (x4 l.prog w base) t4_0 (x5 l.prog w base) t5_0 t5_1 (x6 l.prog w base) t6_0 (x7 l.prog w base) t7_0 t7_1 (x8 l.prog w base) t8_0, W.mg_of X G a_law_made, k_law_made, b_law_made⟩
  have C_law_more : CalG l.prog w K mg base CX0 3 "_law_more" _ := ⟨f_law_more, _, _, ok_more F_law_more (x9 l.prog w base) t9_0 (x10 l.prog w base) t10_0 (x11 l.prog w base) t11_0 (x12 l.prog w base) t12_0 (x13 l.prog w base) t13_0 x14 (x15 l.prog w base) t15_0 (x16 l.prog w base) t16_0 (x17 l.prog w base) t17_0, W.mg_of X G a_law_more, k_law_more, b_law_more⟩
  have C_law_named : CalG l.prog w K mg base CX0 3 "_law_named" _ := ⟨f_law_named, _, _, ok_named F_law_named m_repr hs (x0 l.prog w base) t0_0 (x1 l.prog w base) t1_0 t1_1 (x2 l.prog w base) t2_0 (x3 l.prog w base) t3_0 (x4 l.prog w base) t4_0 (x5 l.prog w base) t5_0 t5_1 (x6 l.prog w base) t6_0 (x7 l.prog w base) t7_0 t7_1 (x8 l.prog w base) t8_0 (x9 l.prog w base) t9_0 (x10 l.prog w base) t10_0 (x11 l.prog w base) t11_0 (x12 l.prog w base) t12_0 (x13 l.prog w base) t13_0 (x15 l.prog w base) t15_0 (x16 l.prog w base) t16_0 (x17 l.prog w base) t17_0, W.mg_of X G a_law_named, k_law_named, b_law_named⟩
  have M : Classes K [c0, c1, c2, c3, c4, c5, c6, c7, c8, c9, c10, c11, c12, c13, c14, c15, c16, c17] cL := ⟨all18 ⟨(x0 l.prog w base).ex, kd0, bs0⟩ ⟨(x1 l.prog w base).ex, kd1, bs1⟩ ⟨(x2 l.prog w base).ex, kd2, bs2⟩ ⟨(x3 l.prog w base).ex, kd3, bs3⟩ ⟨(x4 l.prog w base).ex, kd4, bs4⟩ ⟨(x5 l.prog w base).ex, kd5, bs5⟩ ⟨(x6 l.prog w base).ex, kd6, bs6⟩ ⟨(x7 l.prog w base).ex, kd7, bs7⟩ ⟨(x8 l.prog w base).ex, kd8, bs8⟩ ⟨(x9 l.prog w base).ex, kd9, bs9⟩ ⟨(x10 l.prog w base).ex, kd10, bs10⟩ ⟨(x11 l.prog w base).ex, kd11, bs11⟩ ⟨(x12 l.prog w base).ex, kd12, bs12⟩ ⟨(x13 l.prog w base).ex, kd13, bs13⟩ ⟨x14.ex, kd14, bs14⟩ ⟨(x15 l.prog w base).ex, kd15, bs15⟩ ⟨(x16 l.prog w base).ex, kd16, bs16⟩ ⟨(x17 l.prog w base).ex, kd17, bs17⟩, xL.ex, kdL, vL⟩
  exact ok_law Flaw hs G0 M xL m_repr m_range m_isinstance m_ValueError C_law_pen C_law_thing C_law_made C_law_more C_law_kinds C_law_bases C_law_named
end L2.My
open L2 L2.My PySem PySem.W PySem.Spec PyProof.Rows
set_option maxRecDepth 100000 in
set_option maxHeartbeats 0 in
theorem PySem.Challenge.cw_latelands_k01_errors_holds : PySem.Challenge.rw_latelands_k01_errors.Holds := by
  w_on; o_law; k_head; (case hw => w_witness2)
  k_fill
  refine L2.My.top_g (l := PySem.Challenge.rw_latelands_k01_errors) (n := 63) (k := 4) (x := "_law_script") (sp := L2.My.spLaw) ?hi rfl (by decide) rfl ⟨rfl, by decide, by decide⟩ (fun w h Y => PySem.W.kIn_of Y) ?F (fun K H a ns hl hO hS => ⟨a, ns, rfl, hS, fun _ => rfl⟩)
  case hi => decide +kernel
  case F =>
    intro w mg fa h KX G hmg
    refine' all_mk (cL := 24) (c0 := 44) (c1 := 63) (c2 := 82) (c3 := 101) (c4 := 120) (c5 := 139) (c6 := 158) (c7 := 177) (c8 := 196) (c9 := 215) (c10 := 235) (c11 := 255) (c12 := 275) (c13 := 295) (c14 := 308) (c15 := 328) (c16 := 348) (c17 := 368) KX G hmg ?x0 ?t0_0 ?x1 ?t1_0 ?t1_1 ?x2 ?t2_0 ?x3 ?t3_0 ?x4 ?t4_0 ?x5 ?t5_0 ?t5_1 ?x6 ?t6_0 ?x7 ?t7_0 ?t7_1 ?x8 ?t8_0 ?x9 ?t9_0 ?x10 ?t10_0 ?x11 ?t11_0 ?x12 ?t12_0 ?x13 ?t13_0 ?x14 ?x15 ?t15_0 ?x16 ?t16_0 ?x17 ?t17_0 ?xL ?G0 ?kd0 ?bs0 ?kd1 ?bs1 ?kd2 ?bs2 ?kd3 ?bs3 ?kd4 ?bs4 ?kd5 ?bs5 ?kd6 ?bs6 ?kd7 ?bs7 ?kd8 ?bs8 ?kd9 ?bs9 ?kd10 ?bs10 ?kd11 ?bs11 ?kd12 ?bs12 ?kd13 ?bs13 ?kd14 ?bs14 ?kd15 ?bs15 ?kd16 ?bs16 ?kd17 ?bs17 ?kdL ?vL ?d__law_pen ?d__law_draw ?d__law_thing ?d__law_bases ?d__law_kinds ?d__law_made ?d__law_more ?d__law_named ?d_law ?z_int ?z_len ?z_abs ?z_list ?z_range ?z_isinstance ?z_repr ?z_ValueError ?z_KeyError ?z_IndexError ?z_LookupError ?z_RuntimeError ?z_OverflowError
    (case x0 =>
      intro P0 w0 base0
      refine' exm1 (st := inClass (top 2) 0) (q := "InvalidMachine.__init__") KX G ?m44T ?m44aC ?m44a1 ?m44t1 ?m44l1 ?m44c1 ?m44k1 ?m44ht ?m44S ?m44hb ?m44bo ?m44hd ?m44hcd P0 w0 base0
      (case m44T =>
        refine' exk_mk (C := 44) PySem.F.excBase_ValueError PySem.F.store_ValueError ?e44lk ?e44own ?e44att ?e44nam ?e44ov ?e44sa ?e44hd ?e44ga ?e44gg ?e44ex ?e44cl ?e44ob ?e44kp
        (case e44lk => k_is)
        (case e44own => decide +kernel)
        (case e44att => decide +kernel)
        (case e44nam => decide +kernel)
        (case e44ov => kernel_rfl)
        (case e44sa => k_is)
        (case e44hd => k_is)
        (case e44ga => k_is)
        (case e44gg => k_is)
        (case e44ex => k_is)
        (case e44cl => k_is)
        (case e44ob => kernel_rfl)
        (case e44kp => k_is))
      (case m44aC => k_is)
      (case m44a1 => k_is)
      (case m44t1 => k_is)
      (case m44l1 => k_is)
      (case m44c1 => k_is)
      (case m44k1 => k_is)
      (case m44ht => k_is)
      (case m44S => exact ⟨rfl, rfl, rfl, by decide +kernel, rfl, by decide +kernel, by decide +kernel⟩)
      (case m44hb => rfl)
      (case m44bo => exact ⟨fun s self us hl => match us, hl with | [_], _ => .of_eq rfl, fun s self w k e => (by cases e; exact .of_eq rfl), fun s self w1 w2 f g e => (by cases e)⟩)
      (case m44hd => decide +kernel)
      (case m44hcd => decide +kernel))
    (case t0_0 => k_is)
    (case x1 =>
      intro P0 w0 base0
      refine' exm2 (st := inClass (top 3) 0) (q := "InvalidCode.__init__") KX G ?m63T ?m63aC ?m63a1 ?m63t1 ?m63l1 ?m63c1 ?m63k1 ?m63ht ?m63ht2 ?m63S ?m63hb ?m63bo ?m63hd ?m63hcd ?m63hd2 ?m63hcd2 P0 w0 base0
      (case m63T =>
        refine' exk_mk (C := 63) PySem.F.excBase_ValueError PySem.F.store_ValueError ?e63lk ?e63own ?e63att ?e63nam ?e63ov ?e63sa ?e63hd ?e63ga ?e63gg ?e63ex ?e63cl ?e63ob ?e63kp
        (case e63lk => k_is)
        (case e63own => decide +kernel)
        (case e63att => decide +kernel)
        (case e63nam => decide +kernel)
        (case e63ov => kernel_rfl)
        (case e63sa => k_is)
        (case e63hd => k_is)
        (case e63ga => k_is)
        (case e63gg => k_is)
        (case e63ex => k_is)
        (case e63cl => k_is)
        (case e63ob => kernel_rfl)
        (case e63kp => k_is))
      (case m63aC => k_is)
      (case m63a1 => k_is)
      (case m63t1 => k_is)
      (case m63l1 => k_is)
      (case m63c1 => k_is)
      (case m63k1 => k_is)
      (case m63ht => k_is)
      (case m63ht2 => k_is)
      (case m63S => exact ⟨rfl, rfl, rfl, by decide +kernel, rfl, by decide +kernel, by decide +kernel⟩)
      (case m63hb => rfl)
      (case m63bo => exact ⟨fun s self us hl => match us, hl with | [_, _], _ => .of_eq rfl, fun s self w k e => (by cases e), fun s self w1 w2 f g e => (by cases e; exact .of_eq rfl)⟩)
      (case m63hd => decide +kernel)
      (case m63hcd => decide +kernel)
      (case m63hd2 => decide +kernel)
      (case m63hcd2 => decide +kernel))
    (case t1_0 => k_is)
    (case t1_1 => k_is)
    (case x2 =>
      intro P0 w0 base0
      refine' exm1 (st := inClass (top 4) 0) (q := "InvalidWay.__init__") KX G ?m82T ?m82aC ?m82a1 ?m82t1 ?m82l1 ?m82c1 ?m82k1 ?m82ht ?m82S ?m82hb ?m82bo ?m82hd ?m82hcd P0 w0 base0
      (case m82T =>
        refine' exk_mk (C := 82) PySem.F.excBase_ValueError PySem.F.store_ValueError ?e82lk ?e82own ?e82att ?e82nam ?e82ov ?e82sa ?e82hd ?e82ga ?e82gg ?e82ex ?e82cl ?e82ob ?e82kp
        (case e82lk => k_is)
        (case e82own => decide +kernel)
        (case e82att => decide +kernel)
        (case e82nam => decide +kernel)
        (case e82ov => kernel_rfl)
        (case e82sa => k_is)
        (case e82hd => k_is)
        (case e82ga => k_is)
        (case e82gg => k_is)
        (case e82ex => k_is)
        (case e82cl => k_is)
        (case e82ob => kernel_rfl)
        (case e82kp => k_is))
      (case m82aC => k_is)
      (case m82a1 => k_is)
      (case m82t1 => k_is)
      (case m82l1 => k_is)
      (case m82c1 => k_is)
      (case m82k1 => k_is)
      (case m82ht => k_is)
      (case m82S => exact ⟨rfl, rfl, rfl, by decide +kernel, rfl, by decide +kernel, by decide +kernel⟩)
      (case m82hb => rfl)
      (case m82bo => exact ⟨fun s self us hl => match us, hl with | [_], _ => .of_eq rfl, fun s self w k e => (by cases e; exact .of_eq rfl), fun s self w1 w2 f g e => (by cases e)⟩)
      (case m82hd => decide +kernel)
      (case m82hcd => decide +kernel))
    (case t2_0 => k_is)
    (case x3 =>
      intro P0 w0 base0
      refine' exm1 (st := inClass (top 5) 0) (q := "InvalidBreaks.__init__") KX G ?m101T ?m101aC ?m101a1 ?m101t1 ?m101l1 ?m101c1 ?m101k1 ?m101ht ?m101S ?m101hb ?m101bo ?m101hd ?m101hcd P0 w0 base0
      (case m101T =>
        refine' exk_mk (C := 101) PySem.F.excBase_ValueError PySem.F.store_ValueError ?e101lk ?e101own ?e101att ?e101nam ?e101ov ?e101sa ?e101hd ?e101ga ?e101gg ?e101ex ?e101cl ?e101ob ?e101kp
        (case e101lk => k_is)
        (case e101own => decide +kernel)
        (case e101att => decide +kernel)
        (case e101nam => decide +kernel)
        (case e101ov => kernel_rfl)
        (case e101sa => k_is)
        (case e101hd => k_is)
        (case e101ga => k_is)
        (case e101gg => k_is)
        (case e101ex => k_is)
        (case e101cl => k_is)
        (case e101ob => kernel_rfl)
        (case e101kp => k_is))
      (case m101aC => k_is)
      (case m101a1 => k_is)
      (case m101t1 => k_is)
      (case m101l1 => k_is)
      (case m101c1 => k_is)
      (case m101k1 => k_is)
      (case m101ht => k_is)
      (case m101S => exact ⟨rfl, rfl, rfl, by decide +kernel, rfl, by decide +kernel, by decide +kernel⟩)
      (case m101hb => rfl)
      (case m101bo => exact ⟨fun s self us hl => match us, hl with | [_], _ => .of_eq rfl, fun s self w k e => (by cases e; exact .of_eq rfl), fun s self w1 w2 f g e => (by cases e)⟩)
      (case m101hd => decide +kernel)
      (case m101hcd => decide +kernel))
    (case t3_0 => k_is)
    (case x4 =>
      intro P0 w0 base0
      refine' exm1 (st := inClass (top 6) 0) (q := "InvalidMap.__init__") KX G ?m120T ?m120aC ?m120a1 ?m120t1 ?m120l1 ?m120c1 ?m120k1 ?m120ht ?m120S ?m120hb ?m120bo ?m120hd ?m120hcd P0 w0 base0
      (case m120T =>
        refine' exk_mk (C := 120) PySem.F.excBase_ValueError PySem.F.store_ValueError ?e120lk ?e120own ?e120att ?e120nam ?e120ov ?e120sa ?e120hd ?e120ga ?e120gg ?e120ex ?e120cl ?e120ob ?e120kp
        (case e120lk => k_is)
        (case e120own => decide +kernel)
        (case e120att => decide +kernel)
        (case e120nam => decide +kernel)
        (case e120ov => kernel_rfl)
        (case e120sa => k_is)
        (case e120hd => k_is)
        (case e120ga => k_is)
        (case e120gg => k_is)
        (case e120ex => k_is)
        (case e120cl => k_is)
        (case e120ob => kernel_rfl)
        (case e120kp => k_is))
      (case m120aC => k_is)
      (case m120a1 => k_is)
      (case m120t1 => k_is)
      (case m120l1 => k_is)
      (case m120c1 => k_is)
      (case m120k1 => k_is)
      (case m120ht => k_is)
      (case m120S => exact ⟨rfl, rfl, rfl, by decide +kernel, rfl, by decide +kernel, by decide +kernel⟩)
      (case m120hb => rfl)
      (case m120bo => exact ⟨fun s self us hl => match us, hl with | [_], _ => .of_eq rfl, fun s self w k e => (by cases e; exact .of_eq rfl), fun s self w1 w2 f g e => (by cases e)⟩)
      (case m120hd => decide +kernel)
      (case m120hcd => decide +kernel))
    (case t4_0 => k_is)
    (case x5 =>
      intro P0 w0 base0
      refine' exm2 (st := inClass (top 7) 0) (q := "InvalidText.__init__") KX G ?m139T ?m139aC ?m139a1 ?m139t1 ?m139l1 ?m139c1 ?m139k1 ?m139ht ?m139ht2 ?m139S ?m139hb ?m139bo ?m139hd ?m139hcd ?m139hd2 ?m139hcd2 P0 w0 base0
      (case m139T =>
        refine' exk_mk (C := 139) PySem.F.excBase_ValueError PySem.F.store_ValueError ?e139lk ?e139own ?e139att ?e139nam ?e139ov ?e139sa ?e139hd ?e139ga ?e139gg ?e139ex ?e139cl ?e139ob ?e139kp
        (case e139lk => k_is)
        (case e139own => decide +kernel)
        (case e139att => decide +kernel)
        (case e139nam => decide +kernel)
        (case e139ov => kernel_rfl)
        (case e139sa => k_is)
        (case e139hd => k_is)
        (case e139ga => k_is)
        (case e139gg => k_is)
        (case e139ex => k_is)
        (case e139cl => k_is)
        (case e139ob => kernel_rfl)
        (case e139kp => k_is))
      (case m139aC => k_is)
      (case m139a1 => k_is)
      (case m139t1 => k_is)
      (case m139l1 => k_is)
      (case m139c1 => k_is)
      (case m139k1 => k_is)
      (case m139ht => k_is)
      (case m139ht2 => k_is)
      (case m139S => exact ⟨rfl, rfl, rfl, by decide +kernel, rfl, by decide +kernel, by decide +kernel⟩)
      (case m139hb => rfl)
      (case m139bo => exact ⟨fun s self us hl => match us, hl with | [_, _], _ => .of_eq rfl, fun s self w k e => (by cases e), fun s self w1 w2 f g e => (by cases e; exact .of_eq rfl)⟩)
      (case m139hd => decide +kernel)
      (case m139hcd => decide +kernel)
      (case m139hd2 => decide +kernel)
      (case m139hcd2 => decide +kernel))
    (case t5_0 => k_is)
    (case t5_1 => k_is)
    (case x6 =>
      intro P0 w0 base0
      refine' exm1 (st := inClass (top 8) 0) (q := "InvalidLimit.__init__") KX G ?m158T ?m158aC ?m158a1 ?m158t1 ?m158l1 ?m158c1 ?m158k1 ?m158ht ?m158S ?m158hb ?m158bo ?m158hd ?m158hcd P0 w0 base0
      (case m158T =>
        refine' exk_mk (C := 158) PySem.F.excBase_ValueError PySem.F.store_ValueError ?e158lk ?e158own ?e158att ?e158nam ?e158ov ?e158sa ?e158hd ?e158ga ?e158gg ?e158ex ?e158cl ?e158ob ?e158kp
        (case e158lk => k_is)
        (case e158own => decide +kernel)
        (case e158att => decide +kernel)
        (case e158nam => decide +kernel)
        (case e158ov => kernel_rfl)
        (case e158sa => k_is)
        (case e158hd => k_is)
        (case e158ga => k_is)
        (case e158gg => k_is)
        (case e158ex => k_is)
        (case e158cl => k_is)
        (case e158ob => kernel_rfl)
        (case e158kp => k_is))
      (case m158aC => k_is)
      (case m158a1 => k_is)
      (case m158t1 => k_is)
      (case m158l1 => k_is)
      (case m158c1 => k_is)
      (case m158k1 => k_is)
      (case m158ht => k_is)
      (case m158S => exact ⟨rfl, rfl, rfl, by decide +kernel, rfl, by decide +kernel, by decide +kernel⟩)
      (case m158hb => rfl)
      (case m158bo => exact ⟨fun s self us hl => match us, hl with | [_], _ => .of_eq rfl, fun s self w k e => (by cases e; exact .of_eq rfl), fun s self w1 w2 f g e => (by cases e)⟩)
      (case m158hd => decide +kernel)
      (case m158hcd => decide +kernel))
    (case t6_0 => k_is)
    (case x7 =>
      intro P0 w0 base0
      refine' exm2 (st := inClass (top 9) 0) (q := "Clash.__init__") KX G ?m177T ?m177aC ?m177a1 ?m177t1 ?m177l1 ?m177c1 ?m177k1 ?m177ht ?m177ht2 ?m177S ?m177hb ?m177bo ?m177hd ?m177hcd ?m177hd2 ?m177hcd2 P0 w0 base0
      (case m177T =>
        refine' exk_mk (C := 177) PySem.F.excBase_ValueError PySem.F.store_ValueError ?e177lk ?e177own ?e177att ?e177nam ?e177ov ?e177sa ?e177hd ?e177ga ?e177gg ?e177ex ?e177cl ?e177ob ?e177kp
        (case e177lk => k_is)
        (case e177own => decide +kernel)
        (case e177att => decide +kernel)
        (case e177nam => decide +kernel)
        (case e177ov => kernel_rfl)
        (case e177sa => k_is)
        (case e177hd => k_is)
        (case e177ga => k_is)
        (case e177gg => k_is)
        (case e177ex => k_is)
        (case e177cl => k_is)
        (case e177ob => kernel_rfl)
        (case e177kp => k_is))
      (case m177aC => k_is)
      (case m177a1 => k_is)
      (case m177t1 => k_is)
      (case m177l1 => k_is)
      (case m177c1 => k_is)
      (case m177k1 => k_is)
      (case m177ht => k_is)
      (case m177ht2 => k_is)
      (case m177S => exact ⟨rfl, rfl, rfl, by decide +kernel, rfl, by decide +kernel, by decide +kernel⟩)
      (case m177hb => rfl)
      (case m177bo => exact ⟨fun s self us hl => match us, hl with | [_, _], _ => .of_eq rfl, fun s self w k e => (by cases e), fun s self w1 w2 f g e => (by cases e; exact .of_eq rfl)⟩)
      (case m177hd => decide +kernel)
      (case m177hcd => decide +kernel)
      (case m177hd2 => decide +kernel)
      (case m177hcd2 => decide +kernel))
    (case t7_0 => k_is)
    (case t7_1 => k_is)
    (case x8 =>
      intro P0 w0 base0
      refine' exm1 (st := inClass (top 10) 0) (q := "UnknownCommand.__init__") KX G ?m196T ?m196aC ?m196a1 ?m196t1 ?m196l1 ?m196c1 ?m196k1 ?m196ht ?m196S ?m196hb ?m196bo ?m196hd ?m196hcd P0 w0 base0
      (case m196T =>
        refine' exk_mk (C := 196) PySem.F.excBase_ValueError PySem.F.store_ValueError ?e196lk ?e196own ?e196att ?e196nam ?e196ov ?e196sa ?e196hd ?e196ga ?e196gg ?e196ex ?e196cl ?e196ob ?e196kp
        (case e196lk => k_is)
        (case e196own => decide +kernel)
        (case e196att => decide +kernel)
        (case e196nam => decide +kernel)
        (case e196ov => kernel_rfl)
        (case e196sa => k_is)
        (case e196hd => k_is)
        (case e196ga => k_is)
        (case e196gg => k_is)
        (case e196ex => k_is)
        (case e196cl => k_is)
        (case e196ob => kernel_rfl)
        (case e196kp => k_is))
      (case m196aC => k_is)
      (case m196a1 => k_is)
      (case m196t1 => k_is)
      (case m196l1 => k_is)
      (case m196c1 => k_is)
      (case m196k1 => k_is)
      (case m196ht => k_is)
      (case m196S => exact ⟨rfl, rfl, rfl, by decide +kernel, rfl, by decide +kernel, by decide +kernel⟩)
      (case m196hb => rfl)
      (case m196bo => exact ⟨fun s self us hl => match us, hl with | [_], _ => .of_eq rfl, fun s self w k e => (by cases e; exact .of_eq rfl), fun s self w1 w2 f g e => (by cases e)⟩)
      (case m196hd => decide +kernel)
      (case m196hcd => decide +kernel))
    (case t8_0 => k_is)
    (case x9 =>
      intro P0 w0 base0
      refine' exm1 (st := inClass (top 11) 0) (q := "NoName.__init__") KX G ?m215T ?m215aC ?m215a1 ?m215t1 ?m215l1 ?m215c1 ?m215k1 ?m215ht ?m215S ?m215hb ?m215bo ?m215hd ?m215hcd P0 w0 base0
      (case m215T =>
        refine' exk_mk (C := 215) PySem.F.excBase_LookupError Keys.store ?e215lk ?e215own ?e215att ?e215nam ?e215ov ?e215sa ?e215hd ?e215ga ?e215gg ?e215ex ?e215cl ?e215ob ?e215kp
        (case e215lk => k_is)
        (case e215own => decide +kernel)
        (case e215att => decide +kernel)
        (case e215nam => decide +kernel)
        (case e215ov => kernel_rfl)
        (case e215sa => k_is)
        (case e215hd => k_is)
        (case e215ga => k_is)
        (case e215gg => k_is)
        (case e215ex => k_is)
        (case e215cl => k_is)
        (case e215ob => kernel_rfl)
        (case e215kp => k_is))
      (case m215aC => k_is)
      (case m215a1 => k_is)
      (case m215t1 => k_is)
      (case m215l1 => k_is)
      (case m215c1 => k_is)
      (case m215k1 => k_is)
      (case m215ht => k_is)
      (case m215S => exact ⟨rfl, rfl, rfl, by decide +kernel, rfl, by decide +kernel, by decide +kernel⟩)
      (case m215hb => rfl)
      (case m215bo => exact ⟨fun s self us hl => match us, hl with | [_], _ => .of_eq rfl, fun s self w k e => (by cases e; exact .of_eq rfl), fun s self w1 w2 f g e => (by cases e)⟩)
      (case m215hd => decide +kernel)
      (case m215hcd => decide +kernel))
    (case t9_0 => k_is)
    (case x10 =>
      intro P0 w0 base0
      refine' exm1 (st := inClass (top 12) 0) (q := "NoPoint.__init__") KX G ?m235T ?m235aC ?m235a1 ?m235t1 ?m235l1 ?m235c1 ?m235k1 ?m235ht ?m235S ?m235hb ?m235bo ?m235hd ?m235hcd P0 w0 base0
      (case m235T =>
        refine' exk_mk (C := 235) PySem.F.excBase_LookupError Keys.store ?e235lk ?e235own ?e235att ?e235nam ?e235ov ?e235sa ?e235hd ?e235ga ?e235gg ?e235ex ?e235cl ?e235ob ?e235kp
        (case e235lk => k_is)
        (case e235own => decide +kernel)
        (case e235att => decide +kernel)
        (case e235nam => decide +kernel)
        (case e235ov => kernel_rfl)
        (case e235sa => k_is)
        (case e235hd => k_is)
        (case e235ga => k_is)
        (case e235gg => k_is)
        (case e235ex => k_is)
        (case e235cl => k_is)
        (case e235ob => kernel_rfl)
        (case e235kp => k_is))
      (case m235aC => k_is)
      (case m235a1 => k_is)
      (case m235t1 => k_is)
      (case m235l1 => k_is)
      (case m235c1 => k_is)
      (case m235k1 => k_is)
      (case m235ht => k_is)
      (case m235S => exact ⟨rfl, rfl, rfl, by decide +kernel, rfl, by decide +kernel, by decide +kernel⟩)
      (case m235hb => rfl)
      (case m235bo => exact ⟨fun s self us hl => match us, hl with | [_], _ => .of_eq rfl, fun s self w k e => (by cases e; exact .of_eq rfl), fun s self w1 w2 f g e => (by cases e)⟩)
      (case m235hd => decide +kernel)
      (case m235hcd => decide +kernel))
    (case t10_0 => k_is)
    (case x11 =>
      intro P0 w0 base0
      refine' exm1 (st := inClass (top 13) 0) (q := "NoRow.__init__") KX G ?m255T ?m255aC ?m255a1 ?m255t1 ?m255l1 ?m255c1 ?m255k1 ?m255ht ?m255S ?m255hb ?m255bo ?m255hd ?m255hcd P0 w0 base0
      (case m255T =>
        refine' exk_mk (C := 255) PySem.F.excBase_IndexError PySem.F.store_IndexError ?e255lk ?e255own ?e255att ?e255nam ?e255ov ?e255sa ?e255hd ?e255ga ?e255gg ?e255ex ?e255cl ?e255ob ?e255kp
        (case e255lk => k_is)
        (case e255own => decide +kernel)
        (case e255att => decide +kernel)
        (case e255nam => decide +kernel)
        (case e255ov => kernel_rfl)
        (case e255sa => k_is)
        (case e255hd => k_is)
        (case e255ga => k_is)
        (case e255gg => k_is)
        (case e255ex => k_is)
        (case e255cl => k_is)
        (case e255ob => kernel_rfl)
        (case e255kp => k_is))
      (case m255aC => k_is)
      (case m255a1 => k_is)
      (case m255t1 => k_is)
      (case m255l1 => k_is)
      (case m255c1 => k_is)
      (case m255k1 => k_is)
      (case m255ht => k_is)
      (case m255S => exact ⟨rfl, rfl, rfl, by decide +kernel, rfl, by decide +kernel, by decide +kernel⟩)
      (case m255hb => rfl)
      (case m255bo => exact ⟨fun s self us hl => match us, hl with | [_], _ => .of_eq rfl, fun s self w k e => (by cases e; exact .of_eq rfl), fun s self w1 w2 f g e => (by cases e)⟩)
      (case m255hd => decide +kernel)
      (case m255hcd => decide +kernel))
    (case t11_0 => k_is)
    (case x12 =>
      intro P0 w0 base0
      refine' exm1 (st := inClass (top 14) 0) (q := "NoStep.__init__") KX G ?m275T ?m275aC ?m275a1 ?m275t1 ?m275l1 ?m275c1 ?m275k1 ?m275ht ?m275S ?m275hb ?m275bo ?m275hd ?m275hcd P0 w0 base0
      (case m275T =>
        refine' exk_mk (C := 275) PySem.F.excBase_IndexError PySem.F.store_IndexError ?e275lk ?e275own ?e275att ?e275nam ?e275ov ?e275sa ?e275hd ?e275ga ?e275gg ?e275ex ?e275cl ?e275ob ?e275kp
        (case e275lk => k_is)
        (case e275own => decide +kernel)
        (case e275att => decide +kernel)
        (case e275nam => decide +kernel)
        (case e275ov => kernel_rfl)
        (case e275sa => k_is)
        (case e275hd => k_is)
        (case e275ga => k_is)
        (case e275gg => k_is)
        (case e275ex => k_is)
        (case e275cl => k_is)
        (case e275ob => kernel_rfl)
        (case e275kp => k_is))
      (case m275aC => k_is)
      (case m275a1 => k_is)
      (case m275t1 => k_is)
      (case m275l1 => k_is)
      (case m275c1 => k_is)
      (case m275k1 => k_is)
      (case m275ht => k_is)
      (case m275S => exact ⟨rfl, rfl, rfl, by decide +kernel, rfl, by decide +kernel, by decide +kernel⟩)
      (case m275hb => rfl)
      (case m275bo => exact ⟨fun s self us hl => match us, hl with | [_], _ => .of_eq rfl, fun s self w k e => (by cases e; exact .of_eq rfl), fun s self w1 w2 f g e => (by cases e)⟩)
      (case m275hd => decide +kernel)
      (case m275hcd => decide +kernel))
    (case t12_0 => k_is)
    (case x13 =>
      intro P0 w0 base0
      refine' exm1 (st := inClass (top 15) 0) (q := "NothingToUndo.__init__") KX G ?m295T ?m295aC ?m295a1 ?m295t1 ?m295l1 ?m295c1 ?m295k1 ?m295ht ?m295S ?m295hb ?m295bo ?m295hd ?m295hcd P0 w0 base0
      (case m295T =>
        refine' exk_mk (C := 295) PySem.F.excBase_LookupError PySem.F.store_LookupError ?e295lk ?e295own ?e295att ?e295nam ?e295ov ?e295sa ?e295hd ?e295ga ?e295gg ?e295ex ?e295cl ?e295ob ?e295kp
        (case e295lk => k_is)
        (case e295own => decide +kernel)
        (case e295att => decide +kernel)
        (case e295nam => decide +kernel)
        (case e295ov => kernel_rfl)
        (case e295sa => k_is)
        (case e295hd => k_is)
        (case e295ga => k_is)
        (case e295gg => k_is)
        (case e295ex => k_is)
        (case e295cl => k_is)
        (case e295ob => kernel_rfl)
        (case e295kp => k_is))
      (case m295aC => k_is)
      (case m295a1 => k_is)
      (case m295t1 => k_is)
      (case m295l1 => k_is)
      (case m295c1 => k_is)
      (case m295k1 => k_is)
      (case m295ht => k_is)
      (case m295S => exact ⟨rfl, rfl, rfl, by decide +kernel, rfl, by decide +kernel, by decide +kernel⟩)
      (case m295hb => rfl)
      (case m295bo => exact ⟨fun s self us hl => match us, hl with | [_], _ => .of_eq rfl, fun s self w k e => (by cases e; exact .of_eq rfl), fun s self w1 w2 f g e => (by cases e)⟩)
      (case m295hd => decide +kernel)
      (case m295hcd => decide +kernel))
    (case t13_0 => k_is)
    (case x14 =>
      refine' ⟨?p308ex, W.mg_of KX G ?p308nm, _, _, _, _, PySem.F.excBase_RuntimeError, ?p308q, ?p308i⟩
      (case p308ex =>
        refine' exk_mk (C := 308) PySem.F.excBase_RuntimeError PySem.F.store_RuntimeError ?e308lk ?e308own ?e308att ?e308nam ?e308ov ?e308sa ?e308hd ?e308ga ?e308gg ?e308ex ?e308cl ?e308ob ?e308kp
        (case e308lk => k_is)
        (case e308own => decide +kernel)
        (case e308att => decide +kernel)
        (case e308nam => decide +kernel)
        (case e308ov => kernel_rfl)
        (case e308sa => k_is)
        (case e308hd => k_is)
        (case e308ga => k_is)
        (case e308gg => k_is)
        (case e308ex => k_is)
        (case e308cl => k_is)
        (case e308ob => kernel_rfl)
        (case e308kp => k_is))
      (case p308nm => k_is)
      (case p308q => kernel_rfl)
      (case p308i => k_is))
    (case x15 =>
      intro P0 w0 base0
      refine' exm1 (st := inClass (top 17) 0) (q := "HeldGap.__init__") KX G ?m328T ?m328aC ?m328a1 ?m328t1 ?m328l1 ?m328c1 ?m328k1 ?m328ht ?m328S ?m328hb ?m328bo ?m328hd ?m328hcd P0 w0 base0
      (case m328T =>
        refine' exk_mk (C := 328) PySem.F.excBase_RuntimeError PySem.F.store_RuntimeError ?e328lk ?e328own ?e328att ?e328nam ?e328ov ?e328sa ?e328hd ?e328ga ?e328gg ?e328ex ?e328cl ?e328ob ?e328kp
        (case e328lk => k_is)
        (case e328own => decide +kernel)
        (case e328att => decide +kernel)
        (case e328nam => decide +kernel)
        (case e328ov => kernel_rfl)
        (case e328sa => k_is)
        (case e328hd => k_is)
        (case e328ga => k_is)
        (case e328gg => k_is)
        (case e328ex => k_is)
        (case e328cl => k_is)
        (case e328ob => kernel_rfl)
        (case e328kp => k_is))
      (case m328aC => k_is)
      (case m328a1 => k_is)
      (case m328t1 => k_is)
      (case m328l1 => k_is)
      (case m328c1 => k_is)
      (case m328k1 => k_is)
      (case m328ht => k_is)
      (case m328S => exact ⟨rfl, rfl, rfl, by decide +kernel, rfl, by decide +kernel, by decide +kernel⟩)
      (case m328hb => rfl)
      (case m328bo => exact ⟨fun s self us hl => match us, hl with | [_], _ => .of_eq rfl, fun s self w k e => (by cases e; exact .of_eq rfl), fun s self w1 w2 f g e => (by cases e)⟩)
      (case m328hd => decide +kernel)
      (case m328hcd => decide +kernel))
    (case t15_0 => k_is)
    (case x16 =>
      intro P0 w0 base0
      refine' exm1 (st := inClass (top 18) 0) (q := "NoWay.__init__") KX G ?m348T ?m348aC ?m348a1 ?m348t1 ?m348l1 ?m348c1 ?m348k1 ?m348ht ?m348S ?m348hb ?m348bo ?m348hd ?m348hcd P0 w0 base0
      (case m348T =>
        refine' exk_mk (C := 348) PySem.F.excBase_RuntimeError PySem.F.store_RuntimeError ?e348lk ?e348own ?e348att ?e348nam ?e348ov ?e348sa ?e348hd ?e348ga ?e348gg ?e348ex ?e348cl ?e348ob ?e348kp
        (case e348lk => k_is)
        (case e348own => decide +kernel)
        (case e348att => decide +kernel)
        (case e348nam => decide +kernel)
        (case e348ov => kernel_rfl)
        (case e348sa => k_is)
        (case e348hd => k_is)
        (case e348ga => k_is)
        (case e348gg => k_is)
        (case e348ex => k_is)
        (case e348cl => k_is)
        (case e348ob => kernel_rfl)
        (case e348kp => k_is))
      (case m348aC => k_is)
      (case m348a1 => k_is)
      (case m348t1 => k_is)
      (case m348l1 => k_is)
      (case m348c1 => k_is)
      (case m348k1 => k_is)
      (case m348ht => k_is)
      (case m348S => exact ⟨rfl, rfl, rfl, by decide +kernel, rfl, by decide +kernel, by decide +kernel⟩)
      (case m348hb => rfl)
      (case m348bo => exact ⟨fun s self us hl => match us, hl with | [_], _ => .of_eq rfl, fun s self w k e => (by cases e; exact .of_eq rfl), fun s self w1 w2 f g e => (by cases e)⟩)
      (case m348hd => decide +kernel)
      (case m348hcd => decide +kernel))
    (case t16_0 => k_is)
    (case x17 =>
      intro P0 w0 base0
      refine' exm1 (st := inClass (top 19) 0) (q := "TooMany.__init__") KX G ?m368T ?m368aC ?m368a1 ?m368t1 ?m368l1 ?m368c1 ?m368k1 ?m368ht ?m368S ?m368hb ?m368bo ?m368hd ?m368hcd P0 w0 base0
      (case m368T =>
        refine' exk_mk (C := 368) PySem.F.excBase_OverflowError PySem.F.store_OverflowError ?e368lk ?e368own ?e368att ?e368nam ?e368ov ?e368sa ?e368hd ?e368ga ?e368gg ?e368ex ?e368cl ?e368ob ?e368kp
        (case e368lk => k_is)
        (case e368own => decide +kernel)
        (case e368att => decide +kernel)
        (case e368nam => decide +kernel)
        (case e368ov => kernel_rfl)
        (case e368sa => k_is)
        (case e368hd => k_is)
        (case e368ga => k_is)
        (case e368gg => k_is)
        (case e368ex => k_is)
        (case e368cl => k_is)
        (case e368ob => kernel_rfl)
        (case e368kp => k_is))
      (case m368aC => k_is)
      (case m368a1 => k_is)
      (case m368t1 => k_is)
      (case m368l1 => k_is)
      (case m368c1 => k_is)
      (case m368k1 => k_is)
      (case m368ht => k_is)
      (case m368S => exact ⟨rfl, rfl, rfl, by decide +kernel, rfl, by decide +kernel, by decide +kernel⟩)
      (case m368hb => rfl)
      (case m368bo => exact ⟨fun s self us hl => match us, hl with | [_], _ => .of_eq rfl, fun s self w k e => (by cases e; exact .of_eq rfl), fun s self w1 w2 f g e => (by cases e)⟩)
      (case m368hd => decide +kernel)
      (case m368hcd => decide +kernel))
    (case t17_0 => k_is)
    (case xL =>
      refine' ⟨?p24ex, W.mg_of KX G ?p24nm, _, _, _, _, PySem.F.excBase_ValueError, ?p24q, ?p24i⟩
      (case p24ex =>
        refine' exk_mk (C := 24) PySem.F.excBase_ValueError PySem.F.store_ValueError ?e24lk ?e24own ?e24att ?e24nam ?e24ov ?e24sa ?e24hd ?e24ga ?e24gg ?e24ex ?e24cl ?e24ob ?e24kp
        (case e24lk => k_is)
        (case e24own => decide +kernel)
        (case e24att => decide +kernel)
        (case e24nam => decide +kernel)
        (case e24ov => kernel_rfl)
        (case e24sa => k_is)
        (case e24hd => k_is)
        (case e24ga => k_is)
        (case e24gg => k_is)
        (case e24ex => k_is)
        (case e24cl => k_is)
        (case e24ob => kernel_rfl)
        (case e24kp => k_is))
      (case p24nm => k_is)
      (case p24q => kernel_rfl)
      (case p24i => k_is))
    (case G0 => refine' ⟨?g1, ?g2⟩; (case g1 => k_is); (case g2 => k_is))
    (case kd0 => unfold KindsIs; kernel_rfl)
    (case bs0 => unfold BasesIs; kernel_rfl)
    (case kd1 => unfold KindsIs; kernel_rfl)
    (case bs1 => unfold BasesIs; kernel_rfl)
    (case kd2 => unfold KindsIs; kernel_rfl)
    (case bs2 => unfold BasesIs; kernel_rfl)
    (case kd3 => unfold KindsIs; kernel_rfl)
    (case bs3 => unfold BasesIs; kernel_rfl)
    (case kd4 => unfold KindsIs; kernel_rfl)
    (case bs4 => unfold BasesIs; kernel_rfl)
    (case kd5 => unfold KindsIs; kernel_rfl)
    (case bs5 => unfold BasesIs; kernel_rfl)
    (case kd6 => unfold KindsIs; kernel_rfl)
    (case bs6 => unfold BasesIs; kernel_rfl)
    (case kd7 => unfold KindsIs; kernel_rfl)
    (case bs7 => unfold BasesIs; kernel_rfl)
    (case kd8 => unfold KindsIs; kernel_rfl)
    (case bs8 => unfold BasesIs; kernel_rfl)
    (case kd9 => unfold KindsIs; kernel_rfl)
    (case bs9 => unfold BasesIs; kernel_rfl)
    (case kd10 => unfold KindsIs; kernel_rfl)
    (case bs10 => unfold BasesIs; kernel_rfl)
    (case kd11 => unfold KindsIs; kernel_rfl)
    (case bs11 => unfold BasesIs; kernel_rfl)
    (case kd12 => unfold KindsIs; kernel_rfl)
    (case bs12 => unfold BasesIs; kernel_rfl)
    (case kd13 => unfold KindsIs; kernel_rfl)
    (case bs13 => unfold BasesIs; kernel_rfl)
    (case kd14 => unfold KindsIs; kernel_rfl)
    (case bs14 => unfold BasesIs; kernel_rfl)
    (case kd15 => unfold KindsIs; kernel_rfl)
    (case bs15 => unfold BasesIs; kernel_rfl)
    (case kd16 => unfold KindsIs; kernel_rfl)
    (case bs16 => unfold BasesIs; kernel_rfl)
    (case kd17 => unfold KindsIs; kernel_rfl)
    (case bs17 => unfold BasesIs; kernel_rfl)
    (case kdL => unfold KindsIs; kernel_rfl)
    (case vL => kernel_rfl)
    (case d__law_pen =>
      refine' defat_mk ?q_law_pena ?q_law_penl ?q_law_penc ?q_law_penk
      (case q_law_pena => k_is)
      (case q_law_penl => k_is)
      (case q_law_penc => k_is)
      (case q_law_penk => k_is))
    (case d__law_draw =>
      refine' defat_mk ?q_law_drawa ?q_law_drawl ?q_law_drawc ?q_law_drawk
      (case q_law_drawa => k_is)
      (case q_law_drawl => k_is)
      (case q_law_drawc => k_is)
      (case q_law_drawk => k_is))
    (case d__law_thing =>
      refine' defat_mk ?q_law_thinga ?q_law_thingl ?q_law_thingc ?q_law_thingk
      (case q_law_thinga => k_is)
      (case q_law_thingl => k_is)
      (case q_law_thingc => k_is)
      (case q_law_thingk => k_is))
    (case d__law_bases =>
      refine' defat_mk ?q_law_basesa ?q_law_basesl ?q_law_basesc ?q_law_basesk
      (case q_law_basesa => k_is)
      (case q_law_basesl => k_is)
      (case q_law_basesc => k_is)
      (case q_law_basesk => k_is))
    (case d__law_kinds =>
      refine' defat_mk ?q_law_kindsa ?q_law_kindsl ?q_law_kindsc ?q_law_kindsk
      (case q_law_kindsa => k_is)
      (case q_law_kindsl => k_is)
      (case q_law_kindsc => k_is)
      (case q_law_kindsk => k_is))
    (case d__law_made =>
      refine' defat_mk ?q_law_madea ?q_law_madel ?q_law_madec ?q_law_madek
      (case q_law_madea => k_is)
      (case q_law_madel => k_is)
      (case q_law_madec => k_is)
      (case q_law_madek => k_is))
    (case d__law_more =>
      refine' defat_mk ?q_law_morea ?q_law_morel ?q_law_morec ?q_law_morek
      (case q_law_morea => k_is)
      (case q_law_morel => k_is)
      (case q_law_morec => k_is)
      (case q_law_morek => k_is))
    (case d__law_named =>
      refine' defat_mk ?q_law_nameda ?q_law_namedl ?q_law_namedc ?q_law_namedk
      (case q_law_nameda => k_is)
      (case q_law_namedl => k_is)
      (case q_law_namedc => k_is)
      (case q_law_namedk => k_is))
    (case d_law =>
      refine' defat_mk ?qlawa ?qlawl ?qlawc ?qlawk
      (case qlawa => k_is)
      (case qlawl => k_is)
      (case qlawc => k_is)
      (case qlawk => k_is))
    (case z_int => k_is)
    (case z_len => k_is)
    (case z_abs => k_is)
    (case z_list => k_is)
    (case z_range => k_is)
    (case z_isinstance => k_is)
    (case z_repr => k_is)
    (case z_ValueError => k_is)
    (case z_KeyError => k_is)
    (case z_IndexError => k_is)
    (case z_LookupError => k_is)
    (case z_RuntimeError => k_is)
    (case z_OverflowError => k_is)
