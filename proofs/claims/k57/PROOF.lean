import PyProof.Rows.All
import Wide.All
import OpenK.AllK
import Wide.FinOn
import HandS.ForMost
import HandS.Exc
import HandS.Wide
import PyProof.ReprRoads
import HandS.ExcInit
import KE.KExcInit
import KE.KExcIs
import HandS.Defaults
import HandS.IsInst
import HandS.Codes
import HandS.ExcValue
import HandS.ExcOwn
import HandS.FStr
import HandS.ClsMeth
import HandS.SlotsOwn
import HandS.Walk
import HandS.OwnEq
import OpenK.KOps
import PyProof.InstEq
import HandS.WordsExc
import KE.SortData
import KE.DataMinMax
import KE.DataAny
import KE.DataCmp
import KE.DataFind
import HandS.Text
import HandS.TupAny
import HandS.Deep
import HandS.TupLe
import HandS.More
import HandS.Nested
import KE.KSuper
import HandS.Style
import HandS.SetBool
import HandS.DictComp
import HandS.Strs
import HandS.SetKeys
import HandS.SetFor
import HandS.TupSets
import HandS.Small
import HandS.Zip
import PyProof.ReprText
import PySem.Challenge.RW_latelands_k57_cover_papers_looked_at
set_option Elab.async false
set_option linter.all false
set_option maxRecDepth 100000
set_option maxHeartbeats 16000000
/-! Contracts of defs that know that no repr runs around them -/
namespace L2.My
open PySem PySem.Spec PyProof.Rows

def Quiet (A : Around) : Prop := A.guards = some []

structure FnG (P : Program) (w : World) (K : W.Frag) (mg : Str → Option Value) (base : Heap) (CX : CXT) (k : Nat) (f : Addr) (fd : FuncData) (ps : List Str) (sp : Sp) : Prop where
  many : ∀ vs H Q E, sp vs H Q E → vs.length = ps.length
  runs : ∀ (A : Around) (outer : List Env) (s : Shared) (H : Hp) (args : Args) (us : List Value) (vs : List V) (Q : VK) (E : XK),
    Room k A → Quiet A → Env0 P w K mg base A outer s H → BindsTo s fd args (ps.zip us) → Vals vs us → sp vs H Q E →
      codeAny (model P w) A (.call (.ref f) args) (CR CX outer P w H s Q E) s

section
variable {P : Program} {w : World} {K : W.Frag} {mg : Str → Option Value} {base : Heap} {CX : CXT} {j k : Nat} {f : Addr} {fd : FuncData} {ps : List Str} {sp : Sp}
theorem FnG.of (F : FnOk P w K mg base CX k f fd ps sp) : FnG P w K mg base CX k f fd ps sp :=
  ⟨F.len, fun A outer s H args us vs Q E hr _ => F.run A outer s H args us vs Q E hr⟩
theorem FnG.up (F : FnG P w K mg base CX j f fd ps sp) (h : j ≤ k) : FnG P w K mg base CX k f fd ps sp :=
  ⟨F.many, fun A outer s H args us vs Q E hr => F.runs A outer s H args us vs Q E (hr.mono h)⟩
theorem FnG.weak {sp' : Sp} (F : FnG P w K mg base CX k f fd ps sp) (h : ∀ vs H Q E, sp' vs H Q E → sp vs H Q E) : FnG P w K mg base CX k f fd ps sp' :=
  ⟨fun vs H Q E q => F.many vs H Q E (h _ _ _ _ q), fun A outer s H args us vs Q E hr hq he hb hv hs => F.runs A outer s H args us vs Q E hr hq he hb hv (h _ _ _ _ hs)⟩
end

/-- a def of the module by its name, with its promise -/
structure CalG (P : Program) (w : World) (K : W.Frag) (mg : Str → Option Value) (base : Heap) (CX : CXT) (k : Nat) (x : Str) (sp : Sp) : Prop where
  ex : ∃ (f : Addr) (fd : FuncData) (ps : List Str), FnG P w K mg base CX k f fd ps sp ∧ mg x = some (.ref f) ∧ W.keepIn K (.ref f) = true ∧ Binds K fd ps []

section
variable {X : Cx} {CX : CXT} {j k : Nat} {f : Addr} {fd : FuncData} {ps : List Str} {sp : Sp} {E : XK} {x : Str} {p pos : Pos} {e : Expr} {es : List Expr} {t : TA}
theorem goes {pins : List (Addr × Obj)} {σ : St} {H : Hp} {s : Shared} {Q : VK} {us : List Value} {vs : List V} (F : FnG X.prog X.w X.K X.mg X.base CX k f fd ps sp) (hr : Room k X.A) (hq : Quiet X.A)
    (hb : Binds X.K fd ps []) (hx : Passes CX X E) (I : Inv X pins σ H s) (r : Vals vs us) (h : sp vs H Q E) :
    wpAny (model X.prog X.w) X.A (call (.ref f) us) (EP X pins σ Q) X.xe s := by
  have hl : (us ++ []).length = ps.length := by
    rw [List.append_nil, ← r.length]
    exact F.many vs H Q E h
  have b := hb s us I.kIn hl
  rw [List.append_nil] at b
  have main := F.runs X.A X.stack s H ⟨us, []⟩ us vs Q E hr hq I.env0 b r h
  refine wpAny_call (codeAny_mono main ?_)
  intro res s' z
  match res, z with
  | .error er, z => exact hx pins σ H s er s' I z
  | .ok (.ret u), z => exact I.after z
theorem pe_g (c : CalG X.prog X.w X.K X.mg X.base CX j x sp) (hr : Room k X.A) (hjk : j ≤ k) (hq : Quiet X.A) (hx : Passes CX X E) (hg : Gl X x) (ha : PA X (e :: es) t)
    (hdb : (x == ("__debug__" : Str)) = false := by decide) (he : starEach (e :: es) X.env = (false, eval e X.env) :: starEach es X.env := by rfl) (hpl : (backTo pos (starEach es X.env)).any (·.1) = false := by rfl) :
    PE X (.Call (.Name x p) (e :: es) [] pos) (tCall sp [] E t) := by
  obtain ⟨f, fd, ps, F, hm, hk, hb⟩ := c.ex
  constructor
  intro pins s σ H Q I h
  refine wpAny_Call_Name_kw (ld_glob I hg hm ?_ hdb)
  refine W.callWith_K (h₀ := X.base) I.ok.mod.kin hk (thn (ha.run pos pins s σ H _ I h) ?_) he hpl
  rintro us s1 ⟨vs, H1, I1, r, q⟩
  rw [List.append_nil] at q
  exact ⟨I1.kIn, goes (F.up hjk) hr hq hb hx I1 r q⟩
theorem pe_g0 (c : CalG X.prog X.w X.K X.mg X.base CX j x sp) (hr : Room k X.A) (hjk : j ≤ k) (hq : Quiet X.A) (hx : Passes CX X E) (hg : Gl X x) (hdb : (x == ("__debug__" : Str)) = false := by decide) :
    PE X (.Call (.Name x p) [] [] pos) (tCall sp [] E tNil) := by
  obtain ⟨f, fd, ps, F, hm, hk, hb⟩ := c.ex
  constructor
  intro pins s σ H Q I h
  refine wpAny_Call_Name_kw (ld_glob I hg hm ?_ hdb)
  exact W.callWith_K0 I.kIn hk (goes (us := []) (F.up hjk) hr hq hb hx I .nil h)
end

/-- a def of the text by its body -/
theorem body_g {CX : CXT} {P : Program} {w : World} {K : W.Frag} {mg : Str → Option Value} {base : Heap} {x qual : Str} {st : Stmt} {f : Addr} {fd : FuncData} {N ps : List Str} {k : Nat} {sp : Sp}
    (F : Fun K x qual st f fd) (S : FnScope N ps (defScope st)) (many : ∀ vs H Q E, sp vs H Q E → vs.length = ps.length)
    (hbody : ∀ (cdv : Value) (A : Around) (outer : List Env) (s : Shared) (H : Hp) (vs : List V) (Q : VK) (E : XK), Room k (A.deeper (envOfC qual (defScope st) s.heap.objs.size f cdv)) → Quiet (A.deeper (envOfC qual (defScope st) s.heap.objs.size f cdv)) → sp vs H Q E →
      ∃ t, PSs (cxOf CX P w K mg base N qual (defScope st) f cdv A outer s H E) (defBody st) t ∧ t { nx := fun _ H' => Q .non H', rt := Q } (start N vs) H) :
    FnG P w K mg base CX (k + 1) f fd ps sp := by
  obtain ⟨oc, od, kV, doc, pm, an, cdv, ct, osl, rfl, lk, hcd⟩ := F.ex
  refine ⟨many, ?_⟩
  intro A outer s H args us vs Q E hr hq e0 hb r hsp
  have hk0 : ∀ b o, base.get? b = some o → s.heap.get? b = some o := fun b o e => (e0.bs b o e).1
  have KX : K.In s.heap := e0.mod.kin.keeps hk0
  have lim : s.heap.NoLimit := e0.mod.nolimit.keeps hk0
  have hkind : ∀ y ∈ ps.zip us, (defScope st).names.lookup y.1 = some .local ∨ ((defScope st).names.lookup y.1 = some .cell ∧ ((cellsFrom (s.heap.objs.size + 1) (defScope st).names []).lookup y.1).isSome = true) := by
    rintro ⟨n, v⟩ hy
    cases S.par n (List.of_mem_zip hy).1 with
    | inl q => exact .inl q
    | inr q => exact .inr ⟨q, W.cellsFrom_some _ _ _ (.inl q)⟩
  refine codeAny_call_function hr.depth (KX _ _ lk) rfl S.co S.gen rfl (W.codeRec_of KX hcd) (hb _ _ _ _ (wpAny_newFunctionEnv_cells S.kind hkind ?_))
  rintro env rfl s1 x
  refine ⟨lim.keeps x.toInCall.keep, codeAny_func ?_⟩
  obtain ⟨t, ht, hq'⟩ := hbody cdv A outer s H vs Q E (hr.deeper _) hq hsp
  have I := inv_start (CX := CX) (E := E) S hr.hd e0 (many _ _ _ _ hsp) r x
  refine wpAny_mono (ht.run [] s1 (start N vs) H _ I hq') ?_ (fun e s' hs => hs)
  intro fl s' hs
  match fl, hs with
  | .ret u, ⟨v, σ', H', J, rv, q⟩ => exact (⟨v, H', J.os, J.bare, J.base, J.hok, rv, q⟩ : CE outer P w H s Q u s')
  | .next, ⟨σ', H', J, q⟩ => exact (⟨.non, H', J.os, J.bare, J.base, J.hok, rfl, q⟩ : CE outer P w H s Q .none s')
  | .brk, ⟨_, _, _, q⟩ => exact q.elim
  | .cont, ⟨_, _, _, q⟩ => exact q.elim
/-- the same where nothing is raised out of it -/
theorem body_g0 {P : Program} {w : World} {K : W.Frag} {mg : Str → Option Value} {base : Heap} {x qual : Str} {st : Stmt} {f : Addr} {fd : FuncData} {N ps : List Str} {k : Nat} {sp : Sp}
    (F : Fun K x qual st f fd) (S : FnScope N ps (defScope st)) (many : ∀ vs H Q E, sp vs H Q E → vs.length = ps.length)
    (hbody : ∀ (cdv : Value) (A : Around) (outer : List Env) (s : Shared) (H : Hp) (vs : List V) (Q : VK) (E : XK), Room k (A.deeper (envOfC qual (defScope st) s.heap.objs.size f cdv)) → Quiet (A.deeper (envOfC qual (defScope st) s.heap.objs.size f cdv)) → sp vs H Q E →
      ∃ t, PSs (cxOf CX0 P w K mg base N qual (defScope st) f cdv A outer s H E).nox (defBody st) t ∧ t { nx := fun _ H' => Q .non H', rt := Q } (start N vs) H) :
    FnG P w K mg base CX0 (k + 1) f fd ps sp :=
  body_g F S many fun cdv A outer s H vs Q E hr hq hsp =>
    let ⟨t, h, q⟩ := hbody cdv A outer s H vs Q E hr hq hsp
    ⟨t, h.nox, q⟩
end L2.My
/-! The end of a law over FnG -/
namespace L2.My
open PySem PySem.Spec PyProof.Rows

theorem seen_as {P : Program} {w : World} {K : W.Frag} {mg mb : Str → Option Value} {k : Nat} {fa a : Addr} {fd : FuncData} {x : Str} {sp : Sp} {s1 : Shared} {vs : List Value} {H : Hp}
    (KX : K.In s1.heap) (hns : s1.heap.Ns mainGlobals mg) (hb : s1.heap.Ns builtinsNs mb) (hbb : ∀ x : Str, x ≠ "__name__" → mb x = bootBuiltins x) (hlim : s1.heap.NoLimit) (hg : s1.gens = #[])
    (ha : s1.heap.get? a = some { cls := .type "list", data := .seq vs.toArray }) (hr : Room k callerA)
    (hsys : ∃ m, s1.heap.Ns sysModules m) (F : ∀ base : Heap, K.In base → base.Ns mainGlobals mg → (∃ m, base.Ns sysModules m) → FnG P w K mg base CX0 k fa fd [x] sp) (hbind : ∀ (s : Shared) (u : Value), BindsTo s fd ⟨[u], []⟩ [(x, u)])
    (hO : Only H) (hok : HOk P w H s1.heap) (hA : ∀ b, H b ≠ none → b = a) (hK : H a ≠ none → K.lookup a = none) (q : sp [.ref a] H (fun v _ => v = .bl true) fun _ _ _ => False) :
    codeAny (model P w) callerA (.call (.ref fa) ⟨[.ref a], []⟩) (fun r s' => r = .ok (.ret (.bool true)) ∧ OldK s1.heap s'.heap ∧ s'.os = s1.os ∧ AllBare s'.gens) s1 := by
  -- a tracked place is the script's
  have only : ∀ {b : Addr} {u : HO}, H b = some u → b = a := by
    intro b u e
    exact hA b (by rw [e]; exact (fun z => by cases z))
  have laid : ∀ {b : Addr} {o : Obj}, s1.heap.get? b = some o → (b = a → False) → (hidT s1.heap H).get? b = some o := by
    intro b o e ne
    cases h : H b with
    | none => exact hidT_get e h
    | some u => exact (ne (only h)).elim
  have dict : ∀ {b : Addr} {m : Str → Option Value}, s1.heap.Ns b m → (hidT s1.heap H).Ns b m := by
    rintro b m ⟨o, es, ep, e, d, r⟩
    refine ⟨o, es, ep, laid e (fun z => ?_), d, r⟩
    rw [z, ha] at e
    have e' := Option.some.inj e
    rw [← e'] at d
    exact Data.noConfusion d
  have part : K.In (hidT s1.heap H) := by
    intro b o e
    cases h : H b with
    | none => exact hidT_get (KX b o e) h
    | some u =>
      obtain rfl := only h
      rw [hK (by rw [h]; exact (fun z => by cases z))] at e
      cases e
  have md : Mod K mg (hidT s1.heap H) := ⟨part, dict hns, ⟨mb, dict hb, hbb⟩, hlim.elim fun mc z => ⟨mc, dict z.1, z.2⟩⟩
  have env : Env0 P w K mg (hidT s1.heap H) callerA [] s1 H := ⟨rfl, md, fun b o => of_hidT, Nat.le_of_eq (hidT_size _ _), trivial, (fun b z => (nomatch z)), hok, .of_eq hg⟩
  have run := (F _ part (dict hns) (hsys.elim fun m z => ⟨m, dict z⟩)).runs callerA [] s1 H ⟨[.ref a], []⟩ [.ref a] [.ref a] _ _ hr rfl env (hbind s1 (.ref a)) (.cons rfl .nil) q
  refine codeAny_mono run ?_
  intro r s2 z
  match r, z with
  | .ok (.ret u), ⟨v, H2, os, bare, un, hok2, rv, ev⟩ =>
    have ev' : v = .bl true := ev
    subst ev'
    have eu : u = Value.bool true := rv
    subst eu
    refine ⟨rfl, OldK.of_keep (fun b o e => ?_), os, bare⟩
    cases h : H b with
    | none => exact un.keep b o e h (fun z => nomatch z) (fun z => nomatch z)
    | some u =>
      cases hO b with
      | inl y => rw [h] at y; cases y
      | inr y =>
        obtain ⟨ob, xs, y⟩ := y
        have e1 := (hok b _ y).1
        have e2 := (hok2 b _ (un.frzs b ob _ y)).1
        rw [e1] at e
        rw [← Option.some.inj e]
        exact e2

theorem top_g {l : W.OpenLaw} {n k : Nat} {q : Program} {loose : List Str} {XP : (Str → Option Value) → Heap → Prop} {YP : World → Heap → Prop} {d : DefRec} {K : Params → W.Frag} {sp : W.Frag → Sp} {x : Str}
    (hi : importsNone q = true) (hn : l.most = some n) (hn2 : n ≤ sizeLine) (hdf : d.params.defaults = []) (hr : Room k callerA)
    (hY : ∀ (w : World) (h : Heap), YP w h → (K w.params).In h)
    (F : ∀ (w : World) (mg : Str → Option Value) (fa : Addr) (h : Heap), (K w.params).In h → h.Ns mainGlobals mg → mg d.name = some (.ref fa) →
      ∃ fd : FuncData, (∀ (s : Shared) (u : Value), BindsTo s fd ⟨[u], []⟩ [(x, u)]) ∧ ∀ base : Heap, (K w.params).In base → base.Ns mainGlobals mg → (∃ m, base.Ns sysModules m) → FnG l.prog w (K w.params) mg base CX0 k fa fd [x] (sp (K w.params)))
    (hsp : ∀ (K : W.Frag) (H : Hp) (a : Addr) (ns : List Int), ns.length ≤ n → Only H → SqL K H a (ns.map V.int) → sp K [.ref a] H (fun v _ => v = .bl true) fun _ _ _ => False) :
    W.WalkO q loose XP YP l.row.toRowW d [] (fun f vs => PySem.call f vs) := by
  refine Att.attach_call hn hdf ?_
  intro w s0 s1 mg mb fa o pm cd doc a vs ns G Y ho hd hcd hmg hobj hints hlen hg
  have KX := hY w _ Y
  obtain ⟨fd, hb, hF⟩ := F w mg fa _ KX G.T.g hmg
  have rv := vals_ints hints
  have hs : ∃ m, s1.heap.Ns sysModules m := (G.T.seer hi).mods.elim fun m z => ⟨m, z.1⟩
  have lenV := hints.length
  have small : ns.length ≤ sizeLine := Nat.le_trans hlen hn2
  cases hk : (K w.params).lookup a with
  | some ob =>
    have e := KX a ob hk
    rw [hobj] at e
    obtain rfl := Option.some.inj e
    refine seen_as (H := fun _ => none) KX G.T.g G.T.b G.T.builtins G.T.nolimit hg hobj hr hs hF hb (fun _ => .inl rfl) (fun b u z => by cases (show (none : Option HO) = some u from z)) (fun b z => absurd rfl z) (fun z => absurd rfl z) (hsp _ _ _ _ hlen (fun _ => .inl rfl) ?_)
    exact .inr ⟨_, vs.toArray, _, hk, rfl, rfl, rfl, by rw [List.size_toArray, lenV]; exact small, by simpa using rv⟩
  | none =>
    let H : Hp := fun b => if b = a then some (.frz { cls := .type "list", data := .seq vs.toArray } (.lst (ns.map V.int))) else none
    have at_a : H a = some (.frz { cls := .type "list", data := .seq vs.toArray } (.lst (ns.map V.int))) := if_pos rfl
    have off : ∀ b, b ≠ a → H b = none := fun b z => if_neg z
    have hO : Only H := fun b => by
      by_cases z : b = a
      · rw [z]; exact .inr ⟨_, _, at_a⟩
      · exact .inl (off b z)
    refine seen_as (H := H) KX G.T.g G.T.b G.T.builtins G.T.nolimit hg hobj hr hs hF hb hO (fun b u z => ?_) (fun b z => ?_) (fun _ => hk) (hsp _ _ _ _ hlen hO (.inl (.inr ⟨_, at_a⟩)))
    · by_cases y : b = a
      · subst y
        rw [at_a] at z
        obtain rfl := Option.some.inj z
        exact ⟨hobj, by rw [List.length_map]; exact small, vs, _, rv, hobj⟩
      · rw [off b y] at z
        cases z
    · by_cases y : b = a
      · exact y
      · exact absurd (off b y) z
end L2.My
/-! Data at any depth, dicts too; repr of it -/
namespace L2.My
open PySem PySem.Spec PyProof.Rows

def keyD : Key → PyData
  | .inl i => .int i
  | .inr x => .str x
mutual
inductive Dq (K : W.Frag) (H : Hp) : V → PyData → Prop
  | non : Dq K H .non .none
  | bl (b : Bool) : Dq K H (.bl b) (.bool b)
  | int (i : Int) : Dq K H (.int i) (.int i)
  | str (x : Str) : Dq K H (.str x) (.str x)
  | lst {a : Addr} {xs : List V} {ds : List PyData} : SqL K H a xs → DqAll K H xs ds → Dq K H (.ref a) (.list ds)
  | tup {a : Addr} {xs : List V} {ds : List PyData} : SqT K H a xs → DqAll K H xs ds → Dq K H (.ref a) (.tuple ds)
  | dic {a : Addr} {kvs : List (Key × V)} {ds : List (PyData × PyData)} : H a = some (.dK kvs) → DqKv K H kvs ds → Dq K H (.ref a) (.dict ds)
inductive DqAll (K : W.Frag) (H : Hp) : List V → List PyData → Prop
  | nil : DqAll K H [] []
  | cons {v : V} {vs : List V} {d : PyData} {ds : List PyData} : Dq K H v d → DqAll K H vs ds → DqAll K H (v :: vs) (d :: ds)
inductive DqKv (K : W.Frag) (H : Hp) : List (Key × V) → List (PyData × PyData) → Prop
  | nil : DqKv K H [] []
  | cons {k : Key} {v : V} {r : List (Key × V)} {d : PyData} {ds : List (PyData × PyData)} : Dq K H v d → DqKv K H r ds → DqKv K H ((k, v) :: r) ((keyD k, d) :: ds)
end

section
variable {X : Cx} {pins : List (Addr × Obj)} {σ : St} {H : Hp} {s : Shared}
theorem apart_sys {m : Str → Option Value} {a : Addr} {o : Obj} {its : Array Value} {n : Nat} (hs : X.base.Ns sysModules m) (I : Inv X pins σ H s) (ho : s.heap.get? a = some o) (hd : o.data = .seq its n) : a ≠ sysModules := by
  obtain ⟨ob, es, ep, e, d, _⟩ := hs
  intro z
  have e2 := I.bk _ _ e
  rw [← z, ho] at e2
  rw [Option.some.inj e2, d] at hd
  cases hd
theorem key_reads {w : World} {prog : Program} {h : Heap} {k : Key} {v : Value} (e : (mixKind prog w).is k v = true) : Reads h v (keyD k) [] := by
  rcases keyIs_shape (show keyIs k v = true from e) with ⟨i, t, rfl, rfl⟩ | ⟨x, t, rfl, rfl⟩
  · exact .int i t
  · exact .str x t
/-- the keys of a dict read -/
theorem keys_read {prog : Program} {w : World} {h : Heap} : ∀ {es : List DictEntry} {kvs : List (Key × Value)}, Pairs (mixKind prog w) es kvs → ReadsAll h (es.map (·.key)) (kvs.map fun p => keyD p.1) []
  | _, _, .nil => .nil
  | _, _, .cons h1 _ h3 => ReadsAll.cons (as := []) (bs := []) (key_reads h1) (keys_read h3)
theorem vals_of {prog : Program} {w : World} : ∀ {es : List DictEntry} {kvs : List (Key × Value)}, Pairs (mixKind prog w) es kvs → es.map (·.val) = kvs.map (·.2)
  | _, _, .nil => rfl
  | _, _, .cons _ h2 h3 => by rw [List.map_cons, List.map_cons, h2, vals_of h3]
mutual
theorem Dq.reads {m : Str → Option Value} (hs : X.base.Ns sysModules m) (I : Inv X pins σ H s) : ∀ (d : PyData) (v : V) (u : Value), Dq X.K H v d → RelV v u → ∃ as, Reads s.heap u d as ∧ sysModules ∉ as
  | .none, _, _, h, r => by
    cases h; cases r
    exact ⟨_, .none, fun z => (nomatch z)⟩
  | .bool b, _, _, h, r => by
    cases h; cases r
    exact ⟨_, .bool b, fun z => (nomatch z)⟩
  | .int i, _, _, h, r => by
    cases h
    obtain ⟨t, rfl⟩ := r
    exact ⟨_, .int i t, fun z => (nomatch z)⟩
  | .str x, _, _, h, r => by
    cases h
    obtain ⟨t, rfl⟩ := r
    exact ⟨_, .str x t, fun z => (nomatch z)⟩
  | .list ds, _, _, h, r => by
    cases h with
    | lst hl ha =>
      cases r
      obtain ⟨its, rv, ⟨o, n, ho, hc, _, hd⟩, _⟩ := I.list hl
      obtain ⟨as, hr, no⟩ := Dq.readsAll hs I ds _ its ha rv
      refine ⟨_, Reads.list ho hc hd hr, fun z => ?_⟩
      rcases List.mem_cons.mp z with e | e
      · exact apart_sys hs I ho hd e.symm
      · exact no e
  | .tuple ds, _, _, h, r => by
    cases h with
    | tup ht ha =>
      cases r
      obtain ⟨its, rv, ⟨o, ho, hc, n, hd⟩, _⟩ := I.tuple ht
      obtain ⟨as, hr, no⟩ := Dq.readsAll hs I ds _ its ha rv
      exact ⟨_, Reads.tuple ho hc hd hr, no⟩
  | .dict ds, _, _, h, r => by
    cases h with
    | dic hd ha =>
      cases r
      obtain ⟨_, lo, vs, kv, o, es, ep, ho, hc, hdat, _, hp, _⟩ := I.hok _ _ hd
      obtain ⟨as, hr, no, ek⟩ := Dq.readsKv hs I ds _ vs ha kv
      refine ⟨_, Reads.dict (as := []) ho hc.1 hdat ?_ (by rw [vals_of hp]; exact hr), fun z => ?_⟩
      · rw [ek]
        exact keys_read hp
      · rcases List.mem_cons.mp (show sysModules ∈ _ :: as from z) with e | e
        · rw [← e] at lo
          exact absurd lo (by decide)
        · exact no e
theorem Dq.readsAll {m : Str → Option Value} (hs : X.base.Ns sysModules m) (I : Inv X pins σ H s) : ∀ (ds : List PyData) (vs : List V) (us : List Value), DqAll X.K H vs ds → Vals vs us → ∃ as, ReadsAll s.heap us ds as ∧ sysModules ∉ as
  | [], _, _, h, r => by
    cases h; cases r
    exact ⟨_, .nil, fun z => (nomatch z)⟩
  | d :: ds, _, _, h, r => by
    cases h with
    | cons h1 h2 =>
      cases r with
      | cons r1 r2 =>
        obtain ⟨as, q1, n1⟩ := Dq.reads hs I d _ _ h1 r1
        obtain ⟨bs, q2, n2⟩ := Dq.readsAll hs I ds _ _ h2 r2
        exact ⟨_, .cons q1 q2, fun z => (List.mem_append.mp z).elim n1 n2⟩
theorem Dq.readsKv {m : Str → Option Value} (hs : X.base.Ns sysModules m) (I : Inv X pins σ H s) : ∀ (ds : List (PyData × PyData)) (vs : List (Key × V)) (us : List (Key × Value)), DqKv X.K H vs ds → KV vs us →
    ∃ as, ReadsAll s.heap (us.map (·.2)) (ds.map (·.2)) as ∧ sysModules ∉ as ∧ ds.map (·.1) = us.map fun p => keyD p.1
  | [], _, _, h, r => by
    cases h; cases r
    exact ⟨_, .nil, fun z => (nomatch z), rfl⟩
  | (e, d) :: ds, _, _, h, r => by
    cases h with
    | cons h1 h2 =>
      cases r with
      | @cons _ q _ qs r1 r2 =>
        obtain ⟨as, q1, n1⟩ := Dq.reads hs I d _ _ h1 r1.2
        obtain ⟨bs, q2, n2, ek⟩ := Dq.readsKv hs I ds _ _ h2 r2
        have r11 := r1.1
        dsimp only at r11
        refine ⟨_, .cons q1 q2, fun z => (List.mem_append.mp z).elim n1 n2, ?_⟩
        rw [List.map_cons, List.map_cons, ek, ← r11]
end
end

section
variable {X : Cx} {m : Str → Option Value}
/-- repr(x) of a list, a tuple, a dict of data -/
def rRepr (K : W.Frag) : List V → Hp → VK → Prop := fun xs H Q => ∃ (a : Addr) (d : PyData), xs = [.ref a] ∧ Dq K H (.ref a) d ∧ d.showable = true ∧ d.depth ≤ 60 ∧ d.shown.length ≤ sizeLine ∧ Q (.str d.shown) H
theorem call_repr (hs : X.base.Ns sysModules m) (hq : Quiet X.A) (hu : X.A.units + 64 < cLine) : CallR X (.builtin "repr") (rRepr X.K) := by
  intro pins s σ H xs us Q I r h
  obtain ⟨a, d, rfl, hd, h1, h2, h3, q⟩ := h
  cases r with
  | cons r0 r1 =>
    cases r1
    obtain rfl := r0
    obtain ⟨as, hr, no⟩ := Dq.reads hs I d _ _ hd rfl
    refine repr_of_reads' hr h1 (fun _ => no) hq (by omega) (fun _ _ e => e) (fun h' u tk hk => ?_) h3
    exact ⟨.str d.shown, H, I.kept hk, ⟨u, rfl⟩, q⟩
end
end L2.My
/-! Making an instance of an own exception class with an own __init__, over any built-in base (KeyError too, whose maker is LookupError's) -/
namespace PySem.Mine
open PySem.W PySem.Calls PyProof.Rows PySem.HandSPX

/-- what must be known of the bases: the maker's own class is among them, AttributeError and NameError are not -/
structure Ring (B : String) (bm : List Value) : Prop where
  own : bm.contains (.type B) = true
  att : bm.contains (.type "AttributeError") = false
  nam : bm.contains (.type "NameError") = false

section
variable {prog : Program} {w : World} {A : Around} {E : Value → Shared → Prop} {R : Result → Shared → Prop} {h : Heap} {g : Array GenState} {d : Drawn} {t : Nat} {os : OsState}
variable {nm q : Str} {C N : Addr} {bs bm bmB : List Value} {hdct : Bool} {sn : List Str} {sub : List Value} {ab : Bool} {col : Option Bool} {dd : Option Addr} {k0 k1 k2 k3 k5 : Option Value} {B newId initId : String}

theorem own_in (r : Ring B bm) : (Value.ref C :: bm).contains (.type B) = true := by
  rw [List.contains_cons, r.own, Bool.or_true]
theorem att_out (r : Ring B bm) : (Value.ref C :: bm).contains (.type "AttributeError") = false := by
  rw [List.contains_cons, r.att]; rfl
theorem nam_out (r : Ring B bm) : (Value.ref C :: bm).contains (.type "NameError") = false := by
  rw [List.contains_cons, r.nam]; rfl

theorem checked {M : Model} (F : ExcBaseFacts B newId initId bmB) (r : Ring B bm) {rest : List Value} {kw : List (Str × Value)} {Q : Unit → Shared → Prop}
    (hC : h.get? C = some (excClassObj nm q C N bs bm hdct sn sub ab col dd k0 k1 k2 k3 k5 newId)) (z : Q () ⟨h, g, d, t, os⟩) :
    wpAny M A (checkBuiltinCall newId ⟨.ref C :: rest, kw⟩) Q E ⟨h, g, d, t, os⟩ := by
  have i := own_in (C := C) r
  have star := F.noStar
  simp only [checkBuiltinCall, F.newKind, F.newSplit, F.newRow]
  repeat (first
    | refine wpAny_loadPart_at hC ?_
    | (refine wpAny_isSubtype_exc hC ?_; rw [i])
    | refine wpAny_staticBase_exc hC ?_
    | refine wpAny_madeBy_exc hC ?_
    | simp only [bne_self_eq_false, Bool.false_eq_true, if_false]
    | wp_step)
  exact z

theorem fresh_exc (F : ExcBaseFacts B newId initId bmB) (r : Ring B bm) {rest : List Value} {kw : List (Str × Value)} (small : rest.length ≤ sizeLine)
    (hC : h.get? C = some (excClassObj nm q C N bs bm hdct sn sub ab col dd k0 k1 k2 k3 k5 newId))
    (z : R (.ok (.ret (.ref (h.objs.size + 1)))) ⟨(h.push (W.kdv_tup rest)).push (excO C h.objs.size), g, d, t, os⟩) :
    codeAny (model prog w) A (.builtin newId ⟨.ref C :: rest, kw⟩) R ⟨h, g, d, t, os⟩ := by
  have e := F.ends
  have i1 := own_in (C := C) r
  have i2 := att_out (C := C) r
  have i3 := nam_out (C := C) r
  refine codeAny_builtinAt F.entry ?_
  unfold Builtin.«BaseException.__new__»
  refine wpAt_bind ?_
  show wpAt _ _ _ (stack >>= _) _ _ _
  refine wpAt_bind (wpAt_stack fun p below => wpAt_of_wpAny ?_)
  wp_walk
  refine wpAt_of_wpAny ?_
  rw [F.owner]
  repeat (first
    | with_reducible refine wpAny_madeHere_exc F.canon hC ?_
    | with_reducible refine wpAny_loadPart_at hC ?_
    | (with_reducible refine wpAny_isSubtype_exc hC ?_; first | rw [i1] | rw [i2] | rw [i3])
    | wp_step)
  show R _ _
  rw [Heap.size_push]
  exact z

theorem made_typed (F : ExcBaseFacts B newId initId bmB) (r : Ring B bm) {rest : List Value} {kw : List (Str × Value)} {fI : Addr} {Q : Fin → Shared → Prop} (small : rest.length ≤ sizeLine)
    (hC : h.get? C = some (excClassObj nm q C N bs bm hdct sn sub ab col dd k0 k1 k2 k3 k5 newId))
    (hi : W.Looks (model prog w) h (typeLookup (.ref C) "__init__") (some (.ref fI)))
    (hb : ∀ self, W.Looks (model prog w) h (bindSpecial (.ref fI) self) (.ref fI, [self]))
    (z : codeAny (model prog w) A (.call (.ref fI) ⟨.ref (h.objs.size + 1) :: rest, kw⟩)
      (fun r s' => match r with
        | .ok (.ret v) => v = .none ∧ Q (.done (.ret (.ref (h.objs.size + 1)))) s'
        | .ok _ => False
        | .error e => E e s')
      ⟨(h.push (W.kdv_tup rest)).push (excO C h.objs.size), g, d, t, os⟩) :
    wpAny (model prog w) A (Builtin.«type.__call__» ⟨.ref C :: rest, kw⟩) Q E ⟨h, g, d, t, os⟩ := by
  repeat (first
    | with_reducible refine wpAny_loadPart_at hC ?_
    | with_reducible refine wpAny_madeBy_exc hC ?_
    | wp_step)
  refine codeAny_call_builtin_code (Code.quiet_builtin _ F.quiet) (checked F r hC ?_)
  refine fresh_exc F r small hC ?_
  show wpAny _ _ _ _ _ _
  have keep : ∀ b o, h.get? b = some o → ((h.push (W.kdv_tup rest)).push (excO C h.objs.size)).get? b = some o :=
    fun b o e => Heap.get?_push_of_some _ (Heap.get?_push_of_some _ e)
  have c1 := keep _ _ hC
  have x1 : ((h.push (W.kdv_tup rest)).push (excO C h.objs.size)).get? (h.objs.size + 1) = some (excO C h.objs.size) := by
    heap_get
  have cc : (Value.ref C :: bm).contains (.ref C) = true := by
    simp
  have j1 := hi.keeps keep
  have j2 := (hb (.ref (h.objs.size + 1))).keeps keep
  unfold isInstance
  repeat (first
    | with_reducible refine wpAny_loadPart_at x1 ?_
    | (with_reducible refine wpAny_isSubtype_exc c1 ?_; rw [cc])
    | wp_step)
  show wpAny _ _ (typeLookup (.ref C) _) _ _ _
  refine j1.at ?_
  refine wpAny_holding (wpAny_bind (j2.at ?_))
  refine wpAny_bind (wpAny_call (codeAny_mono z ?_))
  intro res s' y
  match res, y with
  | .error _, y => exact y
  | .ok (.ret _), ⟨rfl, y⟩ =>
    first
      | exact wpAny_pure (wpAny_pure y)
      | (wp_walk; exact y)

/-- C(..) of an own exception class with an own __init__ -/
theorem called (F : ExcBaseFacts B newId initId bmB) (r : Ring B bm) {rest : List Value} {kw : List (Str × Value)} {fI : Addr} (small : rest.length ≤ sizeLine)
    (hC : h.get? C = some (excClassObj nm q C N bs bm hdct sn sub ab col dd k0 k1 k2 k3 k5 newId))
    (hi : W.Looks (model prog w) h (typeLookup (.ref C) "__init__") (some (.ref fI)))
    (hb : ∀ self, W.Looks (model prog w) h (bindSpecial (.ref fI) self) (.ref fI, [self]))
    (z : codeAny (model prog w) (A.under (.builtin "type.__call__" ⟨.ref C :: rest, kw⟩)) (.call (.ref fI) ⟨.ref (h.objs.size + 1) :: rest, kw⟩) (W.InitBack (h.objs.size + 1) R)
      ⟨(h.push (W.kdv_tup rest)).push (excO C h.objs.size), g, d, t, os⟩) :
    codeAny (model prog w) A (.call (.ref C) ⟨rest, kw⟩) R ⟨h, g, d, t, os⟩ := by
  have f1 := tc_lookup
  have f2 := tc_bind (.ref C)
  have ty : (⟨h, g, d, t, os⟩ : Shared).TypeIs (.ref C) "type" := ⟨_, hC, rfl⟩
  refine codeAny_of_tree ?_
  show wpAny _ _ (callAny (.ref C) _) _ _ _
  repeat (any_goals (first
    | assumption
    | with_reducible refine wpAny_loadPart_at hC ?_
    | wp_step))
  refine ⟨rfl, ?_⟩
  refine codeAny_call_builtin_at (Code.quiet_builtin _ (by decide +kernel)) entry_typeCall (wpAny_check_type_call_sub hC (made_typed F r small hC hi hb ?_))
  refine codeAny_mono z ?_
  intro res s' y
  match res, y with
  | .error _, y => exact y
  | .ok (.ret _), y => exact y
end
end PySem.Mine
/-! Own exceptions as values: made, their fields stored and read, isinstance -/
namespace L2.My
open PySem PySem.Spec PyProof.Rows Builtin.ObjectAttr

/-- what the written part says of an own exception class -/
structure ExK (K : W.Frag) (C : Addr) : Prop where
  made : ∃ (B newId initId : String) (bmB bm : List Value) (nm q : Str) (N : Addr) (bs : List Value) (hdct : Bool) (sn : List Str) (sub : List Value) (ab : Bool) (col : Option Bool) (dd : Option Addr) (k0 k1 k2 k3 k5 : Option Value),
    ExcBaseFacts B newId initId bmB ∧ Mine.Ring B bm ∧ K.lookup C = some (excClassObj nm q C N bs bm hdct sn sub ab col dd k0 k1 k2 k3 k5 newId)
  over : ∃ (B : String) (bmB : List Value), StoreFacts B bmB "object.__setattr__" "object" ∧ W.excOver K C bmB = true
  sa : W.findIn K (.ref C) "__setattr__" = some (some (.builtin "object.__setattr__"))
  hd : W.hasDictIn K C = true
  ga : W.findIn K (.ref C) "__getattribute__" = some (some (.builtin "BaseException.__getattribute__"))
  gg : W.findIn K (.ref C) "__getattr__" = some none
  ex : W.subIn K (.ref C) (.type "BaseException") = some true
  cl : W.findIn K (.ref C) "__class__" = some (some (.builtin "object.__class__"))
  ob : W.mroIn K C (.type "object") = some true
  kp : W.keepIn K (.ref C) = true
structure ExA (K : W.Frag) : Prop where
  gt : W.specialIn K (.builtin "object.__class__") "__get__" = some (some (.builtin "getset_descriptor.__get__"))
  tk : W.takesIn K (.builtin "object.__class__") = some true

abbrev rec0 (C t1 : Addr) (d : Option Addr) : Obj := { cls := .ref C, dict := d, data := .fields #[.ref t1, .none, .none, .none, .bool false, .none] }

section
variable {X : Cx} {pins : List (Addr × Obj)} {σ : St} {H : Hp} {s : Shared} {a C dx : Addr} {f : Str} {y : V} {u : Value} {fs : List (Str × V)} {Q : Unit → Shared → Prop} {E : Value → Shared → Prop}

theorem upd_sw {H : Hp} {a b : Addr} {o p : HO} (h : a ≠ b) : upd (upd H a o) b p = upd (upd H b p) a o := by
  funext c
  by_cases ca : c = a
  · subst ca; rw [upd_ne h, upd_same, upd_same]
  · by_cases cb : c = b
    · subst cb; rw [upd_same, upd_ne ca, upd_same]
    · rw [upd_ne cb, upd_ne ca, upd_ne ca, upd_ne cb]

/-- self.f = y, the first field of an exception -/
theorem field_first (T : ExK X.K C) (I : Inv X pins σ H s) (e : H a = some (exo a C none)) (ht : W.takerIn X.K C f = some none) (ry : RelV y u)
    (z : ∀ dx s', H dx = none → dx ≠ a → Inv X pins σ (upd (upd H dx (exd dx [(f, y)])) a (exo a C (some dx))) s' → Q () s') : wpAny (model X.prog X.w) X.A (setAttr (.ref a) f u) Q E s := by
  obtain ⟨B, bmB, SF, ov⟩ := T.over
  obtain ⟨t1, ho⟩ := exo_at I.hok e
  have at0 : W.InstAt s.heap a (rec0 C t1 none) C none := ⟨ho, rfl, rfl, trivial⟩
  refine W.set_plain I.kIn at0 T.sa ?_
  have I0 := I.tok (s.toks + 1)
  refine W.osa_openX SF I0.kIn at0 ov ht fun b => ?_
  obtain ⟨cd, hc, hd'⟩ := W.any_some T.hd
  refine wpAny_bind (wpAny_pure (wpAny_bind (W.instanceDict_exc (c2 := .none) ho (W.looks_clsIn I0.kIn hc) hd' ?_)))
  show wpAny _ _ (storeInDict s.heap.objs.size (.str f s.toks) f u) _ _ _
  -- the dict is laid
  have fr : H s.heap.objs.size = none := I.hok.fresh (Nat.le_refl _)
  have ne : s.heap.objs.size ≠ a := Nat.ne_of_gt (Heap.lt_size ho)
  have ns0 : (s.heap.push (W.dictOf [] 0)).Ns1 s.heap.objs.size (fun _ => none) :=
    Heap.Ns1.of_empty ⟨_, #[], _, Heap.get?_push_size _ rfl, rfl, fun e he => absurd he (by simp), fun _ => rfl⟩
  have I1 : Inv X pins σ (upd H s.heap.objs.size (exd s.heap.objs.size [])) { s with heap := s.heap.push (W.dictOf [] 0), toks := s.toks + 1 } :=
    I.laid (fun b o q => Heap.get?_push_of_some _ q) (Nat.le_refl _) (exd_ok ns0 fun g => True.intro)
  -- the exception gets it
  have oa : (s.heap.push (W.dictOf [] 0)).get? a = some (rec0 C t1 none) := Heap.get?_push_of_some _ ho
  have e1 : upd H s.heap.objs.size (exd s.heap.objs.size []) a = some (exo a C none) := by rw [upd_ne (Ne.symm ne)]; exact e
  have oa2 : ((s.heap.push (W.dictOf [] 0)).update a fun o => { o with dict := some s.heap.objs.size }).get? a = some (rec0 C t1 (some s.heap.objs.size)) := Heap.get?_update_self _ oa rfl
  have I2 := I1.write (t' := s.toks + 1) (x := a) (e := a) (o := exo a C (some s.heap.objs.size)) (h' := (s.heap.push (W.dictOf [] 0)).update a fun o => { o with dict := some s.heap.objs.size })
    (by rw [e1]; exact True.intro) (.inl rfl) (fun b o hb q => (Heap.get?_update_ne _ _ _ _ hb).trans q) ⟨_, oa2⟩ (exo_ok oa2)
  have ns2 : ((s.heap.push (W.dictOf [] 0)).update a fun o => { o with dict := some s.heap.objs.size }).Ns1 s.heap.objs.size (fun _ => none) :=
    ns0.at fun o q => (Heap.get?_update_ne _ _ _ _ ne).trans q
  refine OEX.store_in_old (ns := []) ns2 Within.nil (Nat.zero_le _) fun h' tk' hn hs => ?_
  have ex2 : upd (upd H s.heap.objs.size (exd s.heap.objs.size [])) a (exo a C (some s.heap.objs.size)) s.heap.objs.size = some (exd s.heap.objs.size []) := by rw [upd_ne ne, upd_same]
  have I3 := I2.write (t' := tk') (x := s.heap.objs.size) (e := s.heap.objs.size) (o := exd s.heap.objs.size [(f, y)]) (h' := h') (by rw [ex2]; exact True.intro) (.inl rfl) (fun b o hb q => (hs.2 b hb).trans q)
    (by obtain ⟨o, _, _, q, _⟩ := hn; exact ⟨o, q⟩) (exd_ok hn (relO_put (fs := []) ry fun g => True.intro))
  rw [upd_sw (Ne.symm ne), upd_upd] at I3
  exact z _ _ fr ne I3

/-- self.f = y, a further field -/
theorem field_more (T : ExK X.K C) (I : Inv X pins σ H s) (e : H a = some (exo a C (some dx))) (ed : H dx = some (exd dx fs)) (hl : fs.length ≤ 900) (ht : W.takerIn X.K C f = some none) (ry : RelV y u)
    (z : ∀ s', Inv X pins σ (upd H dx (exd dx ((f, y) :: fs))) s' → Q () s') : wpAny (model X.prog X.w) X.A (setAttr (.ref a) f u) Q E s := by
  obtain ⟨B, bmB, SF, ov⟩ := T.over
  obtain ⟨t1, ho⟩ := exo_at I.hok e
  obtain ⟨mA, hns, rel⟩ := exd_at I.hok ed
  obtain ⟨oD, esD, nD, hoD, hdD, _⟩ := hns.count (within_of rel)
  have at0 : W.InstAt s.heap a (rec0 C t1 (some dx)) C (some oD) := ⟨ho, rfl, rfl, hoD⟩
  refine W.set_plain I.kIn at0 T.sa ?_
  have I0 := I.tok (s.toks + 1)
  refine W.osa_openX SF I0.kIn at0 ov ht fun b => ?_
  obtain ⟨cd, hc, hd'⟩ := W.any_some T.hd
  refine wpAny_bind (wpAny_pure (wpAny_bind (wpAny_bind (wpAny_loadPart ho (wpAny_bind ((W.looks_clsIn I0.kIn hc).here ?_))))))
  rw [hd']
  refine wpAny_pure (a := some dx) ?_
  refine OEX.store_in_old hns (within_of rel) (by rw [List.length_map]; omega) fun h' tk' hn hs => ?_
  have I3 := I0.write (t' := tk') (x := dx) (e := dx) (o := exd dx ((f, y) :: fs)) (h' := h') (by rw [ed]; exact True.intro) (.inl rfl) (fun b o hb q => (hs.2 b hb).trans q)
    (by obtain ⟨o, _, _, q, _⟩ := hn; exact ⟨o, q⟩) (exd_ok hn (relO_put ry rel))
  exact z _ I3
end
end L2.My
namespace L2.My
open PySem PySem.Spec PyProof.Rows

/-! ### self.f = e in an exception's __init__ -/
def tEfl (K : W.Frag) (f : Str) (to te : TE) : TS := fun D σ H => te σ H fun y H1 => to σ H1 fun x H2 => ∃ a C : Addr, x = .ref a ∧ ExK K C ∧ W.takerIn K C f = some none ∧
  ((H2 a = some (exo a C none) ∧ ∀ dx, H2 dx = none → dx ≠ a → D.nx σ (upd (upd H2 dx (exd dx [(f, y)])) a (exo a C (some dx)))) ∨
    ∃ (dx : Addr) (fs : List (Str × V)), H2 a = some (exo a C (some dx)) ∧ H2 dx = some (exd dx fs) ∧ fs.length ≤ 900 ∧ D.nx σ (upd H2 dx (exd dx ((f, y) :: fs))))
theorem ps_efl {X : Cx} {o e : Expr} {to te : TE} {f : Str} {p' pos : Pos} (ho : PE X o to) (he : PE X e te) (hs : swapsWith e (some (.Attribute o f p')) pos.line X.env = pure false := by rfl) : PS X (.Assign [.Attribute o f p'] e pos) (tEfl X.K f to te) := by
  constructor
  intro pins s σ H D I h
  refine plainObj_wpAny_Assign_Attribute (thn (he.run pins s σ H _ I h) fun v s1 r1 => ?_) hs
  obtain ⟨y, H1, I1, ry, h1⟩ := r1
  refine thn (ho.run pins s1 σ H1 _ I1 h1) fun u s2 r2 => ?_
  obtain ⟨x, H2, I2, rx, a, C, rfl, T, ht, q⟩ := r2
  obtain rfl : u = Value.ref a := rx
  cases q with
  | inl q => exact field_first T I2 q.1 ht ry fun dx s' n ne J => ⟨σ, _, J, q.2 dx n ne⟩
  | inr q =>
    obtain ⟨dx, fs, ea, ed, hl, q⟩ := q
    exact field_more T I2 ea ed hl ht ry fun s' J => ⟨σ, _, J, q⟩

/-! ### e.f of an exception -/
def tEget (K : W.Frag) (f : Str) (te : TE) : TE := fun σ H Q => te σ H fun x H1 => ∃ (a C dx : Addr) (fs : List (Str × V)) (v : V), x = .ref a ∧ ExK K C ∧ W.findIn K (.ref C) f = some none ∧ H1 a = some (exo a C (some dx)) ∧ H1 dx = some (exd dx fs) ∧ fs.lookup f = some v ∧ Q v H1
theorem pe_eget {X : Cx} {e : Expr} {te : TE} {f : Str} {pos : Pos} (he : PE X e te) (hb : attributeBase e f X.env (eval e X.env) = eval e X.env := by rfl) : PE X (.Attribute e f pos) (tEget X.K f te) := by
  constructor
  intro pins s σ H Q I h
  refine attr_of hb (thn (he.run pins s σ H _ I h) fun u s1 r => ?_)
  obtain ⟨x, H1, I1, rx, a, C, dx, fs, v, rfl, T, hno, ea, ed, l, q⟩ := r
  obtain rfl : u = Value.ref a := rx
  obtain ⟨t1, ho⟩ := exo_at I1.hok ea
  obtain ⟨mA, hns, hr⟩ := exd_at I1.hok ed
  obtain ⟨od, hd, hl⟩ := lookIn_ns hns
  obtain ⟨u, hu, ru⟩ := RelO.some_of (v := v) (o := mA f) (by rw [← l]; exact hr f)
  have J : W.InstAt s1.heap a (rec0 C t1 (some dx)) C (some od) := ⟨ho, rfl, rfl, hd⟩
  exact HandSPX.exc_get I1.kIn J T.ga T.gg T.ex (W.findObj_own T.hd hno rfl (by rw [hl, hu])) (handed_of ru) ⟨v, H1, I1.tok _, ru, q⟩

/-! ### isinstance of an exception -/
def rIsX (K : W.Frag) : List V → Hp → VK → Prop := fun xs H Q => ∃ (a C : Addr) (d : Option Addr) (c : V) (cv : Value) (b : Bool), xs = [.ref a, c] ∧ H a = some (exo a C d) ∧ (∀ dx, d = some dx → ∃ fs, H dx = some (exd dx fs)) ∧ ExK K C ∧ ExA K ∧
  (∀ u, RelV c u → u = cv) ∧ W.kitOne K (.ref C) cv = some b ∧ Q (.bl b) H
theorem call_isX {X : Cx} : CallR X (.builtin "isinstance") (rIsX X.K) := by
  intro pins s σ H xs us Q I r h
  obtain ⟨a, C, d, c, cv, b, rfl, ea, ed, T, G, hcv, e, q⟩ := h
  cases r with
  | cons rx rr =>
    cases rr with
    | cons rt rr =>
      cases rr
      obtain rfl := rx
      obtain rfl := hcv _ rt
      obtain ⟨t1, ho⟩ := exo_at I.hok ea
      have one : ∃ od, W.InstAt s.heap a (rec0 C t1 d) C od := by
        cases d with
        | none => exact ⟨none, ho, rfl, rfl, trivial⟩
        | some dx =>
          obtain ⟨fs, ed⟩ := ed dx rfl
          obtain ⟨mA, ⟨od, _, _, hd, _⟩, _⟩ := exd_at I.hok ed
          exact ⟨some od, ho, rfl, rfl, hd⟩
      obtain ⟨od, J⟩ := one
      have hcl : (W.clsIn X.K C).isSome = true := by
        obtain ⟨cd, hc, _⟩ := W.any_some T.hd
        rw [hc] <;> rfl
      exact W.kia_one (W.kitx_exc hcl T.ga T.gg T.ex T.cl G.gt G.tk T.ob) I.kIn J e (fun z => (nomatch z)) fun tk => ⟨.bl b, H, I.kept (t' := tk) fun _ _ z => z, rfl, q⟩
end L2.My
namespace L2.My
open PySem PySem.Spec PyProof.Rows

/-- what an __init__ that stores its parameters promises -/
def spIni (C : Addr) (fs : List Str) : Sp := fun vs H Q _ => ∃ (a : Addr) (ys : List V), vs = .ref a :: ys ∧ ys.length = fs.length ∧ H a = some (exo a C none) ∧
  ∀ dx, H dx = none → dx ≠ a → Q .non (upd (upd H dx (exd dx (fs.zip ys).reverse)) a (exo a C (some dx)))

/-- how the arguments of such an __init__ bind: by position, one by name, two by name the other way round -/
structure BindOk (fd : FuncData) (fs : List Str) : Prop where
  ps : ∀ (s : Shared) (self : Value) (us : List Value), us.length = fs.length → BindsTo s fd ⟨self :: us, []⟩ ((("self" : Str) :: fs).zip (self :: us))
  k1 : ∀ (s : Shared) (self w : Value) (k : Str), fs = [k] → BindsTo s fd ⟨[self], [(k, w)]⟩ [(("self" : Str), self), (k, w)]
  k2 : ∀ (s : Shared) (self w1 w2 : Value) (f g : Str), fs = [f, g] → BindsTo s fd ⟨[self], [(g, w2), (f, w1)]⟩ [(("self" : Str), self), (f, w1), (g, w2)]
/-- an own exception class of the module by its name: its fields, its __init__ -/
structure ExM (P : Program) (w : World) (K : W.Frag) (mg : Str → Option Value) (base : Heap) (x : Str) (C : Addr) (fs : List Str) : Prop where
  ex : ExK K C
  nm : mg x = some (.ref C)
  ini : ∃ (f1 : Addr) (fd : FuncData), W.findIn K (.ref C) "__init__" = some (some (.ref f1)) ∧ W.typeIn K (.ref f1) = some (.type "function") ∧ FnG P w K mg base CX0 1 f1 fd (("self" : Str) :: fs) (spIni C fs) ∧ BindOk fd fs

section
variable {X : Cx} {C : Addr} {x : Str} {fs : List Str}
theorem exo_laid_sw {H : Hp} {a dx : Addr} {o p q : HO} (h : dx ≠ a) : upd (upd (upd H a o) dx p) a q = upd (upd H dx p) a q := by
  rw [upd_sw (Ne.symm h), upd_upd]
theorem goes_ex {pins : List (Addr × Obj)} {σ : St} {H : Hp} {s : Shared} {Q : VK} {us : List Value} {kw : List (Str × Value)} {vs : List V} {os : List Value} (M : ExM X.prog X.w X.K X.mg X.base x C fs) (hr : Room 2 X.A) (hq : Quiet X.A) (I : Inv X pins σ H s)
    (r : Vals vs os) (hl : vs.length = fs.length) (hz : us.length ≤ sizeLine)
    (hb : ∀ fd : FuncData, BindOk fd fs → ∀ s self, BindsTo s fd ⟨self :: us, kw⟩ ((("self" : Str) :: fs).zip (self :: os)))
    (h : ∀ a dx, H a = none → H dx = none → dx ≠ a → Q (.ref a) (upd (upd H dx (exd dx (fs.zip vs).reverse)) a (exo a C (some dx)))) :
    wpAny (model X.prog X.w) X.A (call (.ref C) us kw) (EP X pins σ Q) X.xe s := by
  obtain ⟨B, newId, initId, bmB, bm, nm, q, N, bs, hdct, sn, sub, ab, col, dd, k0, k1, k2, k3, k5, F, ring, hC⟩ := M.ex.made
  obtain ⟨f1, fd, hi, ht, G, bind⟩ := M.ini
  obtain ⟨hp, g, dr, tk, os'⟩ := s
  have fresh : H (hp.objs.size + 1) = none := I.hok.fresh (Nat.le_succ _)
  have keep : ∀ b o, hp.get? b = some o → ((hp.push (W.kdv_tup us)).push (HandSPX.excO C hp.objs.size)).get? b = some o := fun b o e => Heap.get?_push_of_some _ (Heap.get?_push_of_some _ e)
  have there : ((hp.push (W.kdv_tup us)).push (HandSPX.excO C hp.objs.size)).get? (hp.objs.size + 1) = some (HandSPX.excO C hp.objs.size) := by heap_get
  have I2 : Inv X pins σ (upd H (hp.objs.size + 1) (exo (hp.objs.size + 1) C none)) ⟨(hp.push (W.kdv_tup us)).push (HandSPX.excO C hp.objs.size), g, dr, tk, os'⟩ :=
    I.laid (t' := tk) keep (Nat.le_succ _) (exo_ok there)
  have asks : spIni C fs (.ref (hp.objs.size + 1) :: vs) (upd H (hp.objs.size + 1) (exo (hp.objs.size + 1) C none)) (fun v H2 => v = .non ∧ Q (.ref (hp.objs.size + 1)) H2) (fun _ _ _ => False) := by
    refine ⟨_, vs, rfl, hl, upd_same, fun dx n ne => ⟨rfl, ?_⟩⟩
    rw [exo_laid_sw ne]
    rw [upd_ne ne] at n
    exact h _ dx fresh n ne
  refine wpAny_call (Mine.called F ring hz (I.kIn _ _ hC) (W.looks_findIn I.kIn hi) (fun self => W.bind_fn I.kIn self ht)
    (codeAny_mono (G.runs _ X.stack _ _ ⟨.ref (hp.objs.size + 1) :: us, kw⟩ (.ref (hp.objs.size + 1) :: os) _ _ (fun _ _ _ => False) (hr.make C us kw) ?_ (I2.env0.make C us kw) (hb fd bind _ _) (.cons (show RelV (.ref (hp.objs.size + 1)) (.ref (hp.objs.size + 1)) from rfl) r) asks) ?_))
  · unfold Quiet Around.under
    rw [show X.A.guards = some [] from hq]
    rfl
  · intro res s' z
    match res, z with
    | .ok (.ret u), z =>
      obtain ⟨v, H3, J, rv, ev, q3⟩ := I2.after z
      subst ev
      exact ⟨rv, .ref (hp.objs.size + 1), H3, J, rfl, q3⟩

def tExn (C : Addr) (fs : List Str) (t : TA) : TE := fun σ H Q => t σ H fun vs H1 => vs.length = fs.length ∧ ∀ a dx, H1 a = none → H1 dx = none → dx ≠ a → Q (.ref a) (upd (upd H1 dx (exd dx (fs.zip vs).reverse)) a (exo a C (some dx)))
/-- X(e, ..) -/
theorem pe_exn {e : Expr} {es : List Expr} {t : TA} {p pos : Pos} (M : ExM X.prog X.w X.K X.mg X.base x C fs) (hf : fs.length ≤ 100) (hr : Room 2 X.A) (hq : Quiet X.A) (hg : Gl X x) (ha : PA X (e :: es) t)
    (hdb : (x == ("__debug__" : Str)) = false := by decide) (he : starEach (e :: es) X.env = (false, eval e X.env) :: starEach es X.env := by rfl) (hpl : (backTo pos (starEach es X.env)).any (·.1) = false := by rfl) :
    PE X (.Call (.Name x p) (e :: es) [] pos) (tExn C fs t) := by
  constructor
  intro pins s σ H Q I h
  refine wpAny_Call_Name_kw (ld_glob I hg M.nm ?_ hdb)
  refine W.callWith_K (h₀ := X.base) I.ok.mod.kin M.ex.kp (thn (ha.run pos pins s σ H _ I h) ?_) he hpl
  rintro us s1 ⟨vs, H1, I1, r, hl, q⟩
  exact ⟨I1.kIn, goes_ex M hr hq I1 r hl (by rw [List.nil_append, ← r.length, hl, sizeLine_eq]; omega) (fun fd b s self => b.ps s self us (by rw [← r.length, hl])) q⟩
/-- X(k = e) -/
theorem pe_exk1 {k : Str} {e : Expr} {te : TE} {p pos kpos : Pos} (M : ExM X.prog X.w X.K X.mg X.base x C [k]) (hr : Room 2 X.A) (hq : Quiet X.A) (hg : Gl X x) (he : PE X e te) (hdb : (x == ("__debug__" : Str)) = false := by decide) :
    PE X (.Call (.Name x p) [] [⟨some k, e, kpos⟩] pos) (tExn C [k] (tCons te tNil)) := by
  constructor
  intro pins s σ H Q I h
  refine wpAny_Call_Name_kw (ld_glob I hg M.nm ?_ hdb)
  refine W.callWith_KW0 (h₀ := X.base) I.ok.mod.kin M.ex.kp rfl ?_
  refine thn ((pk_cons (nm := some k) (kpos := kpos) he pk_nil).run pos pins s σ H _ I h) ?_
  rintro ws s1 ⟨vs, H1, I1, r, hl, q⟩
  refine ⟨I1.kIn, ?_⟩
  match vs, hl with
  | [v], hl =>
    cases r with
    | cons r1 r2 =>
      cases r2
      exact goes_ex (us := []) M hr hq I1 (.cons r1 .nil) hl (Nat.zero_le _) (fun fd b s self => b.k1 s self _ k rfl) q
def tExr (C : Addr) (f g : Str) (t : TA) : TE := fun σ H Q => t σ H fun vs H2 => ∃ y x, vs = [y, x] ∧ ∀ a dx, H2 a = none → H2 dx = none → dx ≠ a → Q (.ref a) (upd (upd H2 dx (exd dx [(g, y), (f, x)])) a (exo a C (some dx)))
/-- X(g = e, f = e') where the fields are f, g -/
theorem pe_exk2 {f g : Str} {e e' : Expr} {te te' : TE} {p pos kpos kpos' : Pos} (M : ExM X.prog X.w X.K X.mg X.base x C [f, g]) (hfg : f ≠ g) (hr : Room 2 X.A) (hq : Quiet X.A) (hg : Gl X x) (he : PE X e te) (he' : PE X e' te') (hdb : (x == ("__debug__" : Str)) = false := by decide) :
    PE X (.Call (.Name x p) [] [⟨some g, e, kpos⟩, ⟨some f, e', kpos'⟩] pos) (tExr C f g (tCons te (tCons te' tNil))) := by
  constructor
  intro pins s σ H Q I h
  refine wpAny_Call_Name_kw (ld_glob I hg M.nm ?_ hdb)
  refine W.callWith_KW0 (h₀ := X.base) I.ok.mod.kin M.ex.kp rfl ?_
  refine thn ((pk_cons (nm := some g) (kpos := kpos) he (pk_cons (nm := some f) (kpos := kpos') he' pk_nil)).run pos pins s σ H _ I h) ?_
  rintro ws s1 ⟨vs, H1, I1, r, y, x, rfl, q⟩
  refine ⟨I1.kIn, ?_⟩
  cases r with
  | @cons _ w1 _ _ r1 r2 =>
    cases r2 with
    | @cons _ w2 _ _ r2 r3 =>
      cases r3
      exact goes_ex (us := []) (vs := [x, y]) (os := [w2, w1]) M hr hq I1 (.cons r2 (.cons r1 .nil)) rfl (Nat.zero_le _) (fun fd b s self => b.k2 s self _ _ f g rfl) q
end
end L2.My
namespace L2.My
open PySem PySem.Spec PyProof.Rows

theorem par_vis {N ps : List Str} {sc : Scope} (S : FnScope N ps sc) {x : Str} (h : x ∈ ps) : Vis sc x := by
  rcases S.par x h with e | e
  · exact .inl e
  · exact .inr (.inl e)
section
variable {P : Program} {w : World} {K : W.Frag} {mg : Str → Option Value} {base : Heap} {C f1 : Addr} {fd : FuncData} {q : Str} {st : Stmt} {f g : Str} {p1 p2 p3 p4 p5 p6 p7 p8 : Pos}
theorem ini1 (F : Fun K "__init__" q st f1 fd) (S : FnScope ["self", f] ["self", f] (defScope st)) (hb : defBody st = [.Assign [.Attribute (.Name "self" p1) f p2] (.Name f p3) p4]) (T : ExK K C) (ht : W.takerIn K C f = some none)
    (hd : (f == ("__debug__" : Str)) = false) (hcd : (f == ("__classdict__" : Str)) = false) : FnG P w K mg base CX0 1 f1 fd [("self" : Str), f] (spIni C [f]) := by
  refine body_g0 F S ?_ ?_
  · rintro vs H Q E ⟨a, ys, rfl, hl, _⟩
    rw [List.length_cons, hl]; rfl
  · rintro cdv A outer s H vs Q E hr hq ⟨a, ys, rfl, hl, ea, z⟩
    match ys, hl with
    | [y], _ =>
      rw [hb]
      refine ⟨_, pss_one (ps_efl (pv 0 rfl (par_vis S (by simp)) rfl rfl) (pv 1 rfl (par_vis S (by simp)) hd hcd)), ?_⟩
      exact ⟨_, rfl, _, rfl, a, C, rfl, T, ht, .inl ⟨ea, fun dx n ne => z dx n ne⟩⟩
theorem ini2 (F : Fun K "__init__" q st f1 fd) (S : FnScope ["self", f, g] ["self", f, g] (defScope st)) (hb : defBody st = [.Assign [.Attribute (.Name "self" p1) f p2] (.Name f p3) p4, .Assign [.Attribute (.Name "self" p5) g p6] (.Name g p7) p8])
    (T : ExK K C) (ht : W.takerIn K C f = some none) (ht2 : W.takerIn K C g = some none)
    (hd : (f == ("__debug__" : Str)) = false) (hcd : (f == ("__classdict__" : Str)) = false) (hd2 : (g == ("__debug__" : Str)) = false) (hcd2 : (g == ("__classdict__" : Str)) = false) : FnG P w K mg base CX0 1 f1 fd [("self" : Str), f, g] (spIni C [f, g]) := by
  refine body_g0 F S ?_ ?_
  · rintro vs H Q E ⟨a, ys, rfl, hl, _⟩
    rw [List.length_cons, hl]; rfl
  · rintro cdv A outer s H vs Q E hr hq ⟨a, ys, rfl, hl, ea, z⟩
    match ys, hl with
    | [y, y2], _ =>
      rw [hb]
      refine ⟨_, pss_cons (ps_efl (pv 0 rfl (par_vis S (by simp)) rfl rfl) (pv 1 rfl (par_vis S (by simp)) hd hcd)) (pss_one (ps_efl (pv 0 rfl (par_vis S (by simp)) rfl rfl) (pv 2 rfl (par_vis S (by simp)) hd2 hcd2))), ?_⟩
      refine ⟨_, rfl, _, rfl, a, C, rfl, T, ht, .inl ⟨ea, fun dx n ne => ?_⟩⟩
      refine ⟨_, rfl, _, rfl, a, C, rfl, T, ht2, .inr ⟨dx, [(f, y)], upd_same, by rw [upd_ne ne, upd_same], (by show 1 ≤ 900; decide), ?_⟩⟩
      have e : upd (upd (upd H dx (exd dx [(f, y)])) a (exo a C (some dx))) dx (exd dx [(g, y2), (f, y)]) = upd (upd H dx (exd dx [(g, y2), (f, y)])) a (exo a C (some dx)) := by
        rw [upd_sw (Ne.symm ne), upd_upd]
      show Q V.non (upd (upd (upd H dx (exd dx [(f, y)])) a (exo a C (some dx))) dx (exd dx [(g, y2), (f, y)]))
      rw [e]
      exact z dx n ne
end

/-- an own exception class without an own __init__ -/
structure ExP (K : W.Frag) (mg : Str → Option Value) (x : Str) (C : Addr) : Prop where
  ex : ExK K C
  nm : mg x = some (.ref C)
  ini : ∃ (B newId initId : String) (bmB : List Value), ExcBaseFacts B newId initId bmB ∧ W.excInitIn K C bmB newId = true ∧ W.findIn K (.ref C) "__init__" = some (some (.builtin initId))
/-- X() -/
theorem pe_exn0 {X : Cx} {C : Addr} {x : Str} {p pos : Pos} (M : ExP X.K X.mg x C) (hg : Gl X x) (hdb : (x == ("__debug__" : Str)) = false := by decide) :
    PE X (.Call (.Name x p) [] [] pos) (fun σ H Q => ∀ a, H a = none → Q (.ref a) (upd H a (exo a C none))) := by
  constructor
  intro pins s σ H Q I h
  refine wpAny_Call_Name_kw (ld_glob I hg M.nm ?_ hdb)
  refine W.callWith_K0 I.kIn M.ex.kp ?_
  obtain ⟨B, newId, initId, bmB, F, q, hi⟩ := M.ini
  obtain ⟨nm, N, qn, bs, bm, hdct, sn, sub, ab, col, dd, k0, k1, k2, k3, k5, hC, hT⟩ := W.excInit_of I.kIn q
  obtain ⟨hp, g, dr, tk, os⟩ := s
  refine W.call_B F hT hC (W.looks_findIn I.kIn hi) (Nat.zero_le _) fun h' k e t => ?_
  have n := I.hok.fresh (Nat.le_succ hp.objs.size)
  exact ⟨.ref (hp.objs.size + 1), _, I.laid (t' := tk) k (Nat.le_succ _) (exo_ok e), rfl, h _ n⟩
end L2.My
/-! Operators whose operands' kinds are seen in the reading; the reading step by step -/
namespace L2.My
open PySem PySem.Spec PyProof.Rows

/-! ### + of ints, texts, lists -/
def rAddU : R2 := fun x y H Q => (∃ i j, x = .int i ∧ y = .int j ∧ Q (.int (i + j)) H) ∨ (∃ i j : Str, x = .str i ∧ y = .str j ∧ i.length + j.length ≤ sizeLine ∧ Q (.str (i ++ j)) H) ∨ rCat x y H Q
theorem op_addU {X : Cx} : OpR X (binaryOp .Add) rAddU := by
  intro pins s σ H x y v u Q I rx ry h
  rcases h with h | h | h
  · exact op_add pins s σ H x y v u Q I rx ry h
  · exact op_add_str pins s σ H x y v u Q I rx ry h
  · exact op_cat pins s σ H x y v u Q I rx ry h
/-! ### * of ints (one below 2^64), of a list and an int -/
def rMulU : R2 := fun x y H Q => (∃ i j, x = .int i ∧ y = .int j ∧ CMul i j ∧ Q (.int (i * j)) H) ∨ rRep x y H Q
theorem op_mulU {X : Cx} : OpR X (binaryOp .Mult) rMulU := by
  intro pins s σ H x y v u Q I rx ry h
  rcases h with h | h
  · exact op_mul pins s σ H x y v u Q I rx ry h
  · exact op_rep pins s σ H x y v u Q I rx ry h
/-! ### x[i] of a list, a tuple, a text -/
theorem ix_U {X : Cx} : IxR X (rIx X.K) := ix_seq
/-! ### ==, != of scalars or of data -/
def rEqU (K : W.Frag) (b : Bool) : R2 := fun x y H Q => (scal x y = true ∧ Q (.bl (b == decide (x = y))) H) ∨ ∃ d e, Dp K H x d ∧ Dp K H y e ∧ SeqAt.shaped d = true ∧ SeqAt.shaped e = true ∧ Q (.bl (b == PyData.eqv d e)) H
theorem op_eqU {X : Cx} (hu : X.A.units + 64 < cLine) : OpR X (compareOp .Eq) (rEqU X.K true) := by
  intro pins s σ H x y v u Q I rx ry h
  rcases h with ⟨h1, h⟩ | ⟨d, e, h1, h2, h3, h4, h⟩
  · exact op_eq pins s σ H x y v u Q I rx ry ⟨h1, by simpa using h⟩
  · exact op_eqD hu pins s σ H x y v u Q I rx ry ⟨d, e, h1, h2, h3, h4, by simpa using h⟩
theorem op_neU {X : Cx} (hu : X.A.units + 64 < cLine) : OpR X (compareOp .NotEq) (rEqU X.K false) := by
  intro pins s σ H x y v u Q I rx ry h
  have e : ∀ b : Bool, (false == b) = !b := by decide
  rcases h with ⟨h1, h⟩ | ⟨d, e', h1, h2, h3, h4, h⟩
  · exact op_ne pins s σ H x y v u Q I rx ry ⟨h1, by rw [← e]; exact h⟩
  · exact op_neD hu pins s σ H x y v u Q I rx ry ⟨d, e', h1, h2, h3, h4, by rw [← e]; exact h⟩

/-! ### the reading, a step at a time -/
section
variable {X : Cx} {K : W.Frag} {σ : St} {H : Hp} {Q : VK} {ta tb : TE} {t : TA}
theorem g_var {i : Nat} {v : V} (e : σ[i]? = some (some v)) (h : Q v H) : tVar i σ H Q := ⟨v, e, h⟩
theorem g_c {v : V} (h : Q v H) : tC v σ H Q := h
theorem g_op {r : R2} (h : ta σ H fun x H1 => tb σ H1 fun y H2 => r x y H2 Q) : tOp r ta tb σ H Q := h
theorem g_un {r : V → Hp → VK → Prop} (h : ta σ H fun x H1 => r x H1 Q) : tUn r ta σ H Q := h
theorem g_nil {Q : List V → Hp → Prop} (h : Q [] H) : tNil σ H Q := h
theorem g_cons {Q : List V → Hp → Prop} (h : ta σ H fun x H1 => t σ H1 fun xs H2 => Q (x :: xs) H2) : tCons ta t σ H Q := h
theorem g_cb {r : List V → Hp → VK → Prop} (h : t σ H fun vs H1 => r vs H1 Q) : tCB r t σ H Q := h
theorem g_call {sp : Sp} {E : XK} (h : t σ H fun vs H1 => sp vs H1 Q E) : tCall sp [] E t σ H Q := by
  show t σ H fun vs H1 => sp (vs ++ []) H1 Q E
  simpa only [List.append_nil] using h
theorem g_tup (h : t σ H fun xs H1 => xs.length ≤ sizeLine ∧ ∀ p, H1 p = none → Q (.ref p) (upd H1 p (.tup xs))) : tTup t σ H Q := h
theorem g_lst (h : t σ H fun xs H1 => xs.length ≤ sizeLine ∧ ∀ p, H1 p = none → Q (.ref p) (upd H1 p (.lst xs))) : tLst t σ H Q := h
theorem g_small {n : Nat} {B : Prop} (h : n ≤ 1000) (b : B) : n ≤ sizeLine ∧ B := ⟨Nat.le_of_lt (small1000 h), b⟩
theorem g_tests {te : TE} {Q : Bool → Hp → Prop} (h : te σ H fun x H' => ∃ k, x = .bl k ∧ Q k H') : tTest te σ H Q := h
theorem g_bl {b : Bool} {Q : Bool → Prop} (h : Q b) : ∃ k, V.bl b = .bl k ∧ Q k := ⟨b, rfl, h⟩
theorem g_not {te : TT} {Q : Bool → Hp → Prop} (h : te σ H fun c H1 => Q (!c) H1) : tNot te σ H Q := h
theorem g_and {t u : TT} {Q : Bool → Hp → Prop} (h : t σ H fun c H1 => if c = true then u σ H1 Q else Q false H1) : tAnd t u σ H Q := h
theorem g_or {t u : TT} {Q : Bool → Hp → Prop} (h : t σ H fun c H1 => if c = true then Q true H1 else u σ H1 Q) : tOr t u σ H Q := h
theorem g_tB {te : TE} {Q : Bool → Hp → Prop} (h : te σ H fun x H1 => ∃ c, x = .bl c ∧ Q c H1) : tB te σ H Q := h
theorem g_eget {f : Str} (h : ta σ H fun x H1 => ∃ (a C dx : Addr) (fs : List (Str × V)) (v : V), x = .ref a ∧ ExK K C ∧ W.findIn K (.ref C) f = some none ∧ H1 a = some (exo a C (some dx)) ∧ H1 dx = some (exd dx fs) ∧ fs.lookup f = some v ∧ Q v H1) : tEget K f ta σ H Q := h
theorem g_exn {C : Addr} {fs : List Str} (h : t σ H fun vs H1 => vs.length = fs.length ∧ ∀ a dx, H1 a = none → H1 dx = none → dx ≠ a → Q (.ref a) (upd (upd H1 dx (exd dx (fs.zip vs).reverse)) a (exo a C (some dx)))) : tExn C fs t σ H Q := h
variable {D : Ends} {sa sb : TS} {g : TG} {gs : TGs}
theorem g_seq (h : sa { D with nx := sb D } σ H) : tSeq sa sb D σ H := h
theorem g_next (h : D.nx σ H) : tNext D σ H := h
theorem g_asg (h : ta σ H fun x H1 => g x σ H1 D.nx) : tAsg ta g D σ H := h
theorem g_name {i : Nat} {v : V} {Q : St → Hp → Prop} (h : Q (σ.set i (some v)) H) : gName i v σ H Q := h
theorem g_sub {v : V} {st : TSet} {Q : St → Hp → Prop} (h : ta σ H fun o H1 => tb σ H1 fun i H2 => st o i v H2 fun H3 => Q σ H3) : gSub ta tb st v σ H Q := h
theorem g_drop (h : ta σ H fun _ H1 => D.nx σ H1) : tDrop ta D σ H := h
theorem g_ret (h : ta σ H D.rt) : tRet ta D σ H := h
theorem g_retN (h : D.rt .non H) : tRetN D σ H := h
theorem g_ifs {c : TT} (h : c σ H fun b H1 => if b = true then sa D σ H1 else sb D σ H1) : tIfS c sa sb D σ H := h
theorem g_par {i j : Nat} (h : t σ H fun vs H1 => ∃ v w, vs = [v, w] ∧ D.nx ((σ.set i (some v)).set j (some w)) H1) : tPar i j t D σ H := h
theorem g_two {v w : V} {R : V → V → Prop} (h : R v w) : ∃ v' w', [v, w] = [v', w'] ∧ R v' w' := ⟨v, w, rfl, h⟩
-- the operators
theorem addU_i {i j : Int} (h : Q (.int (i + j)) H) : rAddU (.int i) (.int j) H Q := .inl ⟨i, j, rfl, rfl, h⟩
theorem addU_s {i j : Str} (l : i.length + j.length ≤ sizeLine) (h : Q (.str (i ++ j)) H) : rAddU (.str i) (.str j) H Q := .inr (.inl ⟨i, j, rfl, rfl, l, h⟩)
theorem addU_l {l b : Addr} {xs zs : List V} (e : H l = some (.lst xs)) (e2 : H b = some (.lst zs)) (z : xs.length + zs.length ≤ 1000) (h : ∀ p, H p = none → Q (.ref p) (upd H p (.lst (xs ++ zs)))) : rAddU (.ref l) (.ref b) H Q :=
  .inr (.inr ⟨l, b, xs, zs, rfl, rfl, e, e2, Nat.le_of_lt (small1000 z), h⟩)
theorem mulU_i {i j : Int} (c : CMul i j) (h : Q (.int (i * j)) H) : rMulU (.int i) (.int j) H Q := .inl ⟨i, j, rfl, rfl, c, h⟩
theorem mulU_l {l : Addr} {xs : List V} {k : Nat} (e : H l = some (.lst xs)) (hk : k ≤ 1000) (z : xs.length * k ≤ 1000) (h : ∀ p, H p = none → Q (.ref p) (upd H p (.lst (List.replicate k xs).flatten))) : rMulU (.ref l) (.int (k : Int)) H Q :=
  .inr ⟨l, k, xs, rfl, rfl, e, by omega, by omega, Nat.le_of_lt (small1000 (by simpa using z)), by simpa using h⟩
theorem rI0_i {f : Int → Int → V} {i j : Int} (h : Q (f i j) H) : rI0 f (.int i) (.int j) H Q := ⟨i, j, rfl, rfl, h⟩
theorem rI_i {C : Int → Int → Prop} {f : Int → Int → V} {i j : Int} (c : C i j) (h : Q (f i j) H) : rI C f (.int i) (.int j) H Q := ⟨i, j, rfl, rfl, c, h⟩
theorem ix_l {p : Addr} {xs : List V} {i : Int} {v : V} (e : SqL K H p xs) (a : atI xs i = some v) (h : Q v H) : rIx K (.ref p) (.int i) H Q := .inl ⟨p, xs, i, v, rfl, rfl, e, a, h⟩
theorem ix_t {p : Addr} {xs : List V} {i : Int} {v : V} (e : SqT K H p xs) (a : atI xs i = some v) (h : Q v H) : rIx K (.ref p) (.int i) H Q := .inr (.inl ⟨p, xs, i, v, rfl, rfl, e, a, h⟩)
theorem eqU_s {b : Bool} {x y : V} (s : scal x y = true) (h : Q (.bl (b == decide (x = y))) H) : rEqU K b x y H Q := .inl ⟨s, h⟩
theorem eqU_d {b : Bool} {x y : V} {d e : PyData} (h1 : Dp K H x d) (h2 : Dp K H y e) (s1 : SeqAt.shaped d = true) (s2 : SeqAt.shaped e = true) (h : Q (.bl (b == PyData.eqv d e)) H) : rEqU K b x y H Q := .inr ⟨d, e, h1, h2, s1, s2, h⟩
theorem setL {p : Addr} {xs : List V} {k : Int} {j : Nat} {v : V} {R : Hp → Prop} (e : H p = some (.lst xs)) (hk : ixN xs.length k = some j) (h : R (upd H p (.lst (xs.set j v)))) : rSetL (.ref p) (.int k) v H R := ⟨p, xs, k, j, rfl, rfl, e, hk, h⟩
theorem g_lenS {z : Str} (hz : z.length ≤ sizeLine) (h : Q (.int z.length) H) : (∃ x n, [V.str z] = [x] ∧ LenV K x H n ∧ Q (.int (n : Int)) H) := ⟨_, _, rfl, ⟨hz, rfl⟩, h⟩
end
end L2.My
namespace L2.My
open PySem PySem.Spec PyProof.Rows

theorem g_cut {σ : St} {H : Hp} {D : Ends} {t u : TS} (Mid : St → Hp → Prop) (h : t { D with nx := Mid } σ H) (h2 : ∀ σ' H', Mid σ' H' → u D σ' H') : C8.tCut t u D σ H := ⟨Mid, h, h2⟩
/-- all but p is as it was -/
def But (H H' : Hp) (p : Addr) : Prop := ∀ b o, b ≠ p → H b = some o → H' b = some o
theorem Same.but {H H' : Hp} (h : Same H H') (p : Addr) : But H H' p := fun b o _ e => h b o e
theorem same_upd {H : Hp} {p : Addr} {o : HO} (h : H p = none) : Same H (upd H p o) := fun b u e => by
  rw [upd_ne (ne_of_none e h)]
  exact e
theorem But.upd {H H' : Hp} {p : Addr} {o : HO} (h : But H H' p) : But H (L2.upd H' p o) p := fun b u n e => by
  rw [upd_ne n]
  exact h b u n e
theorem but_upd {H : Hp} {p : Addr} {o : HO} : But H (L2.upd H p o) p := fun b u n e => by
  rw [upd_ne n]
  exact e
theorem But.same {H H' H2 : Hp} {p : Addr} (h : But H H' p) (s : Same H' H2) : But H H2 p := fun b u n e => s b u (h b u n e)
theorem But.trans {H H' H2 : Hp} {p : Addr} (h : But H H' p) (s : But H' H2 p) : But H H2 p := fun b u n e => s b u n (h b u n e)

/-! ### lists of ints and bools as data -/
theorem dpAll_ints {K : W.Frag} {H : Hp} : ∀ ns : List Int, DpAll K H (ns.map V.int) (ns.map PyData.int)
  | [] => .nil
  | n :: r => .cons (.int n) (dpAll_ints r)
theorem dp_ints {K : W.Frag} {H : Hp} {a : Addr} {ns : List Int} (e : SqL K H a (ns.map V.int)) : Dp K H (.ref a) (.list (ns.map PyData.int)) := .lst e (dpAll_ints ns)
theorem dpAll_bls {K : W.Frag} {H : Hp} : ∀ ns : List Bool, DpAll K H (ns.map V.bl) (ns.map PyData.bool)
  | [] => .nil
  | n :: r => .cons (.bl n) (dpAll_bls r)
theorem dp_bls {K : W.Frag} {H : Hp} {a : Addr} {ns : List Bool} (e : SqL K H a (ns.map V.bl)) : Dp K H (.ref a) (.list (ns.map PyData.bool)) := .lst e (dpAll_bls ns)
theorem lay_all {α : Type} {f : α → PyData} (h : ∀ a, (f a).canLay0 = true) : ∀ ns : List α, PyData.canLayAll0 (ns.map f) = true
  | [] => by simp [PyData.canLayAll0]
  | n :: r => by simp [PyData.canLayAll0, h n, lay_all h r]
theorem depth_all {α : Type} {f : α → PyData} (h : ∀ a, (f a).depth = 0) : ∀ ns : List α, PyData.depthAll (ns.map f) = 0
  | [] => by simp [PyData.depthAll]
  | n :: r => by simp [PyData.depthAll, h n, depth_all h r]
theorem shaped_map {α : Type} {f : α → PyData} (h : ∀ a, (f a).canLay0 = true) (h2 : ∀ a, (f a).depth = 0) (ns : List α) : SeqAt.shaped (.list (ns.map f)) = true := by
  unfold SeqAt.shaped
  simp [PyData.canLay0, PyData.depth, lay_all h, depth_all h2]
theorem shaped_ints (ns : List Int) : SeqAt.shaped (.list (ns.map PyData.int)) = true := shaped_map (fun _ => by simp [PyData.canLay0]) (fun _ => by simp [PyData.depth]) ns
theorem shaped_bls (ns : List Bool) : SeqAt.shaped (.list (ns.map PyData.bool)) = true := shaped_map (fun _ => by simp [PyData.canLay0]) (fun _ => by simp [PyData.depth]) ns
theorem eqvAll_ints : ∀ ns ms : List Int, PyData.eqvAll (ns.map PyData.int) (ms.map PyData.int) = decide (ns = ms)
  | [], [] => by simp [PyData.eqvAll]
  | [], _ :: _ => by simp [PyData.eqvAll]
  | _ :: _, [] => by simp [PyData.eqvAll]
  | n :: r, m :: q => by
    simp only [List.map_cons, PyData.eqvAll, PyData.eqv, eqvAll_ints r q]
    by_cases h : n = m <;> by_cases h2 : r = q <;> simp [h, h2]
theorem eqv_ints (ns ms : List Int) : PyData.eqv (.list (ns.map PyData.int)) (.list (ms.map PyData.int)) = decide (ns = ms) := by
  rw [← eqvAll_ints]; simp [PyData.eqv]
theorem eqvAll_bls : ∀ ns ms : List Bool, PyData.eqvAll (ns.map PyData.bool) (ms.map PyData.bool) = decide (ns = ms)
  | [], [] => by simp [PyData.eqvAll]
  | [], _ :: _ => by simp [PyData.eqvAll]
  | _ :: _, [] => by simp [PyData.eqvAll]
  | n :: r, m :: q => by
    simp only [List.map_cons, PyData.eqvAll, PyData.eqv, eqvAll_bls r q]
    by_cases h : n = m <;> by_cases h2 : r = q <;> simp [h, h2]
theorem eqv_bls (ns ms : List Bool) : PyData.eqv (.list (ns.map PyData.bool)) (.list (ms.map PyData.bool)) = decide (ns = ms) := by
  rw [← eqvAll_bls]; simp [PyData.eqv]
/-- == and != of two lists of ints, of bools -/
theorem eqU_ints {K : W.Frag} {H : Hp} {Q : VK} {b : Bool} {p q : Addr} {ns ms : List Int} (e1 : SqL K H p (ns.map V.int)) (e2 : SqL K H q (ms.map V.int)) (h : Q (.bl (b == decide (ns = ms))) H) : rEqU K b (.ref p) (.ref q) H Q :=
  eqU_d (dp_ints e1) (dp_ints e2) (shaped_ints ns) (shaped_ints ms) (by rw [eqv_ints]; exact h)
theorem eqU_bls {K : W.Frag} {H : Hp} {Q : VK} {b : Bool} {p q : Addr} {ns ms : List Bool} (e1 : SqL K H p (ns.map V.bl)) (e2 : SqL K H q (ms.map V.bl)) (h : Q (.bl (b == decide (ns = ms))) H) : rEqU K b (.ref p) (.ref q) H Q :=
  eqU_d (dp_bls e1) (dp_bls e2) (shaped_bls ns) (shaped_bls ms) (by rw [eqv_bls]; exact h)

theorem pe_gref {X : Cx} {x : Str} {pos : Pos} {a : Addr} (hg : Gl X x) (hm : X.mg x = some (.ref a)) (hd : (x == ("__debug__" : Str)) = false := by decide) : PE X (.Name x pos) (tC (.ref a)) := pe_glob (v := .ref a) hg hm rfl hd
theorem pe_bty {X : Cx} {x : Str} {pos : Pos} (T : String) (hg : Gl X x) (hm : X.mg x = none) (hv : bootBuiltins x = some (.type T)) (hn : x ≠ "__name__" := by decide) (hd : (x == ("__debug__" : Str)) = false := by decide) : PE X (.Name x pos) (tC (.ty T)) := pe_bltn (v := .ty T) hg hm hv rfl hn hd
/-! ### calls of built-ins, by their values -/
def rInt1 : List V → Hp → VK → Prop := fun xs H Q => (∃ i, xs = [.int i] ∧ Q (.int i) H) ∨ ∃ k, xs = [.bl k] ∧ Q (.int (if k then 1 else 0)) H
def rAbs1 : List V → Hp → VK → Prop := fun xs H Q => ∃ i, xs = [.int i] ∧ Q (.int (if i < 0 then -i else i)) H
def rLen1 (K : W.Frag) : List V → Hp → VK → Prop := fun xs H Q => ∃ p ys, xs = [.ref p] ∧ (SqL K H p ys ∨ SqT K H p ys) ∧ Q (.int ys.length) H
def rList1 (K : W.Frag) : List V → Hp → VK → Prop := fun xs H Q => ∃ p ys, xs = [.ref p] ∧ (SqL K H p ys ∨ SqT K H p ys) ∧ ∀ l, H l = none → Q (.ref l) (upd H l (.lst ys))
section
variable {X : Cx} {K : W.Frag} {H : Hp} {Q : VK}
theorem c_int : CallR X (.type "int") rInt1 := call_int1
theorem c_abs : CallR X (.builtin "abs") rAbs1 := call_abs
theorem c_len : CallR X (.builtin "len") (rLen1 X.K) := call_len_seq
theorem c_list : CallR X (.type "list") (rList1 X.K) := call_list_of
theorem g_int {i : Int} (h : Q (.int i) H) : rInt1 [.int i] H Q := .inl ⟨i, rfl, h⟩
theorem g_intb {b : Bool} (h : Q (.int (if b = true then 1 else 0)) H) : rInt1 [.bl b] H Q := .inr ⟨b, rfl, h⟩
theorem g_abs {i : Int} (h : Q (.int (if i < 0 then -i else i)) H) : rAbs1 [.int i] H Q := ⟨i, rfl, h⟩
theorem g_len {p : Addr} {ys : List V} (e : SqL K H p ys) (h : Q (.int (ys.length : Nat)) H) : rLen1 K [.ref p] H Q := ⟨p, ys, rfl, .inl e, h⟩
theorem g_lent {p : Addr} {ys : List V} (e : SqT K H p ys) (h : Q (.int (ys.length : Nat)) H) : rLen1 K [.ref p] H Q := ⟨p, ys, rfl, .inr e, h⟩
theorem g_list {p : Addr} {ys : List V} (e : SqL K H p ys) (h : ∀ l, H l = none → Q (.ref l) (upd H l (.lst ys))) : rList1 K [.ref p] H Q := ⟨p, ys, rfl, .inl e, h⟩
/-! ### slices, items, repr, isinstance, append -/
variable {σ : St} {te : TE} {tl th : TO} {r : V → Option Int → Option Int → Hp → VK → Prop}
theorem g_sl (h : te σ H fun x H1 => tl σ H1 fun l H2 => th σ H2 fun u H3 => r x l u H3 Q) : tSl r te tl th σ H Q := h
theorem g_nopart {R : Option Int → Hp → Prop} (h : R none H) : tNoPart σ H R := h
theorem g_part {R : Option Int → Hp → Prop} (h : te σ H fun x H1 => ∃ i, x = .int i ∧ R (some i) H1) : tPart te σ H R := h
theorem g_i {i : Int} {R : Int → Prop} (h : R i) : ∃ j, V.int i = .int j ∧ R j := ⟨i, rfl, h⟩
theorem slL {a : Addr} {xs : List V} {lo hi : Option Int} (e : SqL K H a xs) (h : ∀ p, H p = none → Q (.ref p) (upd H p (.lst (cutV xs lo hi)))) : rSlL K (.ref a) lo hi H Q := ⟨a, xs, rfl, e, h⟩
theorem g_repr {a : Addr} {d : PyData} (h : Dq K H (.ref a) d) (h1 : d.showable = true) (h2 : d.depth ≤ 60) (h3 : d.shown.length ≤ sizeLine) (q : Q (.str d.shown) H) : rRepr K [.ref a] H Q := ⟨a, d, rfl, h, h1, h2, h3, q⟩
theorem g_exr {C : Addr} {f g : Str} {t : TA} (h : t σ H fun vs H2 => ∃ y x, vs = [y, x] ∧ ∀ a dx, H2 a = none → H2 dx = none → dx ≠ a → Q (.ref a) (upd (upd H2 dx (exd dx [(g, y), (f, x)])) a (exo a C (some dx)))) : tExr C f g t σ H Q := h
theorem hush {R : Hp → Prop} {H0 Hx : Hp} {r : Addr} {o : HO} (s : Same H0 Hx) (e : Hx r = some o) (k : ∀ H', Same H0 H' → H' r = some o → R H') : R Hx := k Hx s e
theorem hush2 {R : Hp → Prop} {H0 Hx : Hp} {r r2 : Addr} {o o2 : HO} (s : Same H0 Hx) (e : Hx r = some o) (e2 : Hx r2 = some o2) (k : ∀ H', Same H0 H' → H' r = some o → H' r2 = some o2 → R H') : R Hx := k Hx s e e2
theorem g_disp {trs : List (TE × TE)} (h : ∀ p, H p = none → tPairs trs σ (upd H p (.dK [])) fun ps H2 => H2 p = some (.dK []) ∧ ∃ kvs : List (Key × V), ps = kvs.map (fun kv => (kV kv.1, kv.2)) ∧ kvs.length ≤ 15 ∧ Q (.ref p) (upd H2 p (.dK (mergeK [] kvs)))) : tDisp trs σ H Q := h
theorem g_pair {tk tv : TE} {r : List (TE × TE)} {R : List (V × V) → Hp → Prop} (h : tk σ H fun x H1 => tv σ H1 fun y H2 => tPairs r σ H2 fun ps H3 => R ((x, y) :: ps) H3) : tPairs ((tk, tv) :: r) σ H R := h
theorem g_pair0 {R : List (V × V) → Hp → Prop} (h : R [] H) : tPairs [] σ H R := h
theorem kv_str {H2 : Hp} {p : Addr} {k : Str} {y : V} (e : H2 p = some (.dK [])) (h : Q (.ref p) (upd H2 p (.dK [(Sum.inr k, y)]))) :
    H2 p = some (.dK []) ∧ ∃ kvs : List (Key × V), [(V.str k, y)] = kvs.map (fun kv => (kV kv.1, kv.2)) ∧ kvs.length ≤ 15 ∧ Q (.ref p) (upd H2 p (.dK (mergeK [] kvs))) := ⟨e, [(Sum.inr k, y)], rfl, by show 1 ≤ 15; decide, h⟩
/-- an exception of the class at C -/
def ExAt (H : Hp) (a C : Addr) : Prop := ∃ d : Option Addr, H a = some (exo a C d) ∧ ∀ dx, d = some dx → ∃ fs, H dx = some (exd dx fs)
theorem ExAt.same {H' : Hp} {a C : Addr} (s : Same H H') (h : ExAt H a C) : ExAt H' a C := by
  obtain ⟨d, e, r⟩ := h
  exact ⟨d, s _ _ e, fun dx z => (r dx z).elim fun fs q => ⟨fs, s _ _ q⟩⟩
theorem g_isX {a C : Addr} {c : V} {cv : Value} {b : Bool} (e : ExAt H a C) (T : ExK K C) (G : ExA K) (hc : ∀ u, RelV c u → u = cv) (k : W.kitOne K (.ref C) cv = some b) (h : Q (.bl b) H) : rIsX K [.ref a, c] H Q := by
  obtain ⟨d, e, r⟩ := e
  exact ⟨a, C, d, c, cv, b, rfl, e, r, T, G, hc, k, h⟩
theorem appL {l : Addr} {xs : List V} {y : V} (e : H l = some (.lst xs)) (z : xs.length < 1000) (h : Q .non (upd H l (.lst (xs ++ [y])))) : rAppend (.ref l) [y] H Q := ⟨l, xs, y, rfl, rfl, e, small1000 (Nat.le_of_lt z), h⟩
theorem g_bm {T : String} {ru : V → List V → Hp → VK → Prop} {t : TA} (h : te σ H fun x H1 => tyV K T x H1 ∧ t σ H1 fun xs H2 => ru x xs H2 Q) : tBM K T ru te t σ H Q := h
theorem ty_lst {l : Addr} {xs : List V} (e : H l = some (.lst xs)) : tyV K "list" (.ref l) H := Or.inl ⟨rfl, _, Or.inl (Or.inl e)⟩
end
end L2.My
/-! An exception that was caught and is kept: try: .. except X as n: suite, where the suite may give n away -/
namespace L2.My
open PySem PySem.Spec PyProof.Rows

/-- at e: an exception of the class, with its dict; whatever its record says -/
def exz (e : Addr) (cls : Value) (d : Option Addr) : HO := .ext fun h => ∃ (oe : Obj) (vs : Array Value), h.get? e = some oe ∧ Zc cls d oe ∧ oe.data = .fields vs
theorem exz_ok {P : Program} {w : World} {H : Hp} {h : Heap} {e : Addr} {cls : Value} {d : Option Addr} {oe : Obj} {vs : Array Value} (he : h.get? e = some oe) (hz : Zc cls d oe) (hd : oe.data = .fields vs) : ObjOk P w H h e (exz e cls d) :=
  ⟨⟨oe, vs, he, hz, hd⟩, ⟨_, he⟩, fun h1 h2 z k => by
    obtain ⟨o1, v1, q1, q2, q3⟩ := z
    exact ⟨o1, v1, k _ q1, q2, q3⟩⟩
theorem exz_at {P : Program} {w : World} {H : Hp} {h : Heap} {e : Addr} {cls : Value} {d : Option Addr} (hok : HOk P w H h) (he : H e = some (exz e cls d)) : ∃ (oe : Obj) (vs : Array Value), h.get? e = some oe ∧ Zc cls d oe ∧ oe.data = .fields vs := by
  have x : ObjOk P w H h e (.ext fun h => ∃ (oe : Obj) (vs : Array Value), h.get? e = some oe ∧ Zc cls d oe ∧ oe.data = .fields vs) := hok e _ he
  exact x.1

section
variable {X : Cx} {pins : List (Addr × Obj)} {σ : St} {H : Hp} {s sI s' : Shared} {B h4 : Heap} {a : Addr} {cls : Value} {d : Option Addr}
/-- the caught exception is a thing of ours from now on -/
theorem landedX (I : Inv X pins σ H sI) (nb : ∀ b o, sI.heap.get? b = some o → b ∉ frs X.stack → B.get? b = some o) (fl : HandSPX.FlyingZ B X.stack a (Zc cls d) h4) (up : sI.heap.UpToSlots h4) (na : H a = none) {g : Array GenState} {dr : Drawn} {t : Nat} {os : OsState} (ho : os = sI.os) (ag : AllBare g) :
    Inv X pins σ (upd H a (exz a cls d)) ⟨h4, g, dr, t, os⟩ := by
  obtain ⟨oe, vs, he, hz, hd⟩ := fl.there
  obtain ⟨G, g1, g2⟩ := restrict h4 fun b => decide (b ≠ a)
  have gk : ∀ {b : Addr}, b ≠ a → G.get? b = h4.get? b := fun {b} hb => g1 b (decide_eq_true hb)
  have ge : G.get? a = none := g2 a (by simp)
  have nB : ∀ {b : Addr} {o : Obj}, B.get? b = some o → b ≠ a := fun {b o} e z => by
    rw [z, fl.2.1] at e
    cases e
  have st : B.StaysIn G := fun b o e => (gk (nB e)).trans (fl.1 b o e)
  have up2 : sI.heap.UpToSlots G := fun b o e n => by
    obtain ⟨sl, q⟩ := up b o e n
    refine ⟨sl, (gk fun z => ?_).trans q⟩
    rw [z, he] at q
    have q2 := Option.some.inj q
    rw [q2] at hd
    exact n _ hd
  have J : Inv X pins σ H ⟨G, g, dr, t, os⟩ := Inv.landed (s' := ⟨G, g, dr, t, os⟩) I nb st up2 ho ag
  exact Inv.laidN (h' := h4) (t' := t) J (fun b u e => by
    by_cases hb : b = a
    · rw [hb, ge] at e
      cases e
    · exact (gk hb).symm.trans e) ge na (exz_ok he hz hd)
theorem toSuite (I : Inv X pins σ H s) (a : Addr) : Inv (X.suite a (X.pn ++ pins)) [] σ H s :=
  ⟨I.ok.suite _ _, I.os, I.bare, I.base, I.loc, I.cell, I.free, I.freeC, fun p hp => I.pin p (by rw [List.append_nil] at hp; exact hp), I.hok, I.len⟩
theorem offSuite {a : Addr} {pn' : List (Addr × Obj)} (I : Inv (X.suite a (X.pn ++ pins)) pn' σ H s) (ok : X.Ok) : Inv X pins σ H s :=
  ⟨ok, I.os, I.bare, I.base, I.loc, I.cell, I.free, I.freeC, fun p hp => I.pin p (List.mem_append_left _ hp), I.hok, I.len⟩
end

/-- what the clause wishes of an exception of the body; slot i is the name's -/
def wKeep (K : PySem.W.Frag) (c : Value) (i : Nat) (ts : Addr → Value → Option Addr → TS) (Wout : WX) (D : Ends) : WX := fun cls d σ H =>
  ∃ b, PySem.W.exmOne K cls c = some b ∧ (b = true → ∀ a, H a = none → ts a cls d { nx := fun σ' H' => D.nx (σ'.set i none) H', rt := D.rt, bk := fun σ' H' => D.bk (σ'.set i none) H', ct := fun σ' H' => D.ct (σ'.set i none) H' } (σ.set i (some (.ref a))) (upd H a (exz a cls d))) ∧
    (b = false → Wout cls d σ H)

section
variable {X : Cx} {x n : Str} {c : Value} {i : Nat} {body suite : List Stmt} {b₀ : Stmt} {np pos pos' : Pos} {tb : WX → TS} {ts : Addr → Value → Option Addr → TS} {Wout : WX}
theorem ps_try_keep (hs : X.stack = X.env :: X.outer) (hf : X.env.frame = some X.env.locals) (hN : X.N.Nodup) (hi : X.N[i]? = some n) (hln : X.env.kindOf n = some .local) (hc : Names X x c) (tk : Takes X Wout)
    (hb : ∀ (W : WX) (pn : List (Addr × Obj)) (xe : Value → Shared → Prop), Takes (X.tr pn xe) W → PassesOwn (model X.prog X.w) X.A X.env xe → PSs (X.tr pn xe) body (tb W))
    (hsu : ∀ (a : Addr) (cls : Value) (d : Option Addr) (pn : List (Addr × Obj)), PSs (X.suite a pn) (b₀ :: suite) (ts a cls d)) :
    PS X (.Try body [.ExceptHandler (some (.Name x np)) (some n) (b₀ :: suite) pos'] [] [] pos) (fun D σ H => tb (wKeep X.K c i ts Wout D) D σ H) := by
  constructor
  intro pins s σ H D I h
  have ok := I.ok
  have hfr : X.A.frames = some (X.env :: X.outer) := by rw [ok.frames, hs]
  have hloc : Loc X.env.scope n := .inl hln
  refine wpAny_Try_except ?_
  refine wpAny_mono ((hb (wKeep X.K c i ts Wout D) (X.pn ++ pins) (fun e s₁ => wpAny (model X.prog X.w) X.A (noteFrame e X.env) (fun _ s₂ => wpAny (model X.prog X.w) X.A (setFlight e none) (fun _ s₃ =>
    wpAny (model X.prog X.w) X.A (handleBy e X.env [.ExceptHandler (some (.Name x np)) (some n) (b₀ :: suite) pos']) (SP X pins D) X.xe s₃) X.xe s₂) X.xe s₁) (fun u s' xx => ?caught) PassesOwn.looking).run [] s σ H D (I.toTry _) h) (fun f s1 hsp => ?thru) (fun e s1 he => he)
  case thru =>
    match f, hsp with
    | .next, ⟨σ', H', J', q⟩ => exact wpAny_execs_nil ⟨σ', H', J'.ofTry ok, q⟩
    | .brk, ⟨σ', H', J', q⟩ => exact ⟨σ', H', J'.ofTry ok, q⟩
    | .cont, ⟨σ', H', J', q⟩ => exact ⟨σ', H', J'.ofTry ok, q⟩
    | .ret u, ⟨v, σ', H', J', r, q⟩ => exact ⟨v, σ', H', J'.ofTry ok, r, q⟩
  case caught =>
    obtain ⟨a, B, sI, pins', σ', H', cls, d, rfl, J', nb, up, sky, na, os, ag, b, hb1, hyes, hno⟩ := xx
    have J : Inv X pins σ' H' sI := J'.ofTry ok
    have sky' : Sky B (X.env :: X.outer) a (Zc cls d) X.env.locals s'.heap := by rw [← hs]; exact sky
    show wpAny (model X.prog X.w) X.A (noteFrame (.ref a) X.env) _ _ _
    refine Sky.land Zc.steady hfr hf sky' fun h3 fl3 up3 => ?_
    have J3 : Inv X pins σ' H' { s' with heap := h3 } := J.landed nb fl3.1 (up.trans up3) os ag
    obtain ⟨oe3, vs3, he3, hz3, hd3⟩ := fl3.there
    refine wpAny_handleBy_cons (codeAny_handlers_test ?_) (by intro q; cases q)
    have LT : PySem.W.Looks (model X.prog X.w) h3 (typeOf (.ref a)) cls := fun A Q E s k q => wpAny_typeOf_ref (k _ _ he3) (by rw [hz3.1]; exact q)
    have LM := PySem.W.exm_one (M := model X.prog X.w) (J3.kIn) LT hb1
    have S3 := toSuite J3 a
    have test : ∀ {Q : Value → Shared → Prop} {E : Value → Shared → Prop}, Q c { s' with heap := h3 } → wpAny (model X.prog X.w) (X.A.mark (some (.ref a))) (eval (.Name x np) X.env) Q E { s' with heap := h3 } := fun {Q E} q => by
      obtain ⟨hg, hdbg, hm | ⟨hm, hv, hnn⟩⟩ := hc
      · exact ld_glob (X := X.suite a (X.pn ++ pins)) S3 hg hm q hdbg
      · exact ld_blt (X := X.suite a (X.pn ++ pins)) S3 hg hm hv q hnn hdbg
    refine test (LM.here ?_)
    cases b with
    | true =>
      refine codeAny_handlers_suite_as ?_
      refine HandSPX.lands_againZ fl3 fun h4 fl4 up4 => ?_
      have J4 := landedX (h4 := h4) J nb (by rw [hs]; exact fl4) ((up.trans up3).trans up4) na (g := s'.gens) (dr := s'.drawn) (t := s'.toks) os ag
      have S4 := toSuite J4 a
      refine store_ok (X := X.suite a (X.pn ++ pins)) (v := .ref a) S4 hN hi hloc rfl (fun s5 S5 => ?_) (.inr hln)
      refine wpAny_mono ((hsu a cls d (X.pn ++ pins)).run [] s5 _ _ _ S5 (hyes rfl a na)) (fun f s6 hsp => ?_) (fun _ _ z => False.elim z)
      have end_ : ∀ {σ6 : St} {H6 : Hp} {Q : Shared → Prop}, Inv (X.suite a (X.pn ++ pins)) [] σ6 H6 s6 → (∀ s7, Inv X pins (σ6.set i none) H6 s7 → Q s7) →
          wpAny (model X.prog X.w) X.A (do bindName X.env n .none; unbindBehindTheSuite X.env n pos') (fun _ s7 => Q s7) X.xe s6 := fun {σ6 H6 Q} S6 hq => gone_ok (offSuite S6 ok) hN hi hln hq
      match f, hsp with
      | .next, ⟨σ6, H6, S6, q6⟩ => exact end_ S6 fun s7 J7 => ⟨_, _, J7, q6⟩
      | .brk, ⟨σ6, H6, S6, q6⟩ => exact end_ S6 fun s7 J7 => ⟨_, _, J7, q6⟩
      | .cont, ⟨σ6, H6, S6, q6⟩ => exact end_ S6 fun s7 J7 => ⟨_, _, J7, q6⟩
      | .ret u, ⟨v6, σ6, H6, S6, r6, q6⟩ => exact end_ S6 fun s7 J7 => ⟨_, _, _, J7, r6, q6⟩
    | false =>
      show wpAny _ X.A (handleBy (.ref a) X.env []) _ _ _
      refine wpAny_handleBy_nil ?_
      obtain ⟨k1, k2, k3, oe, vs, T, oT, ts', he, hz, hd, h1, hr⟩ := id fl3
      unfold PySem.passOn
      refine wpAny_bind (wpAny_field he hd h1 ?_)
      rw [if_neg (show ¬ ((Value.ref T == Value.none) = true) from by simp)]
      have fin : wpAny (model X.prog X.w) X.A (setFlight (.ref a) X.env.frame) (fun _ s4 => wpAny (model X.prog X.w) X.A (throw (.ref a) : Sem Flow) (SP X pins D) X.xe s4) X.xe { s' with heap := h3 } := by
        rw [hf]
        refine HandSPX.setFlight_upZ fl3 fun h4 hh4 up4 => wpAny_throw (tk _ _ ?_)
        exact ⟨a, B, sI, pins, σ', H', cls, d, rfl, J, nb, (up.trans up3).trans up4, .inr (.inr (by rw [hs]; exact hh4)), na, os, ag, hno rfl⟩
      first
        | exact wpAny_bind (wpAny_pure (wpAny_bind fin))
        | exact wpAny_bind fin
end
end L2.My
/-! A kept exception: its fields, isinstance -/
namespace L2.My
open PySem PySem.Spec PyProof.Rows

theorem xd_at {P : Program} {w : World} {H : Hp} {h : Heap} {d : Addr} {fs : List (Str × V)} (hok : HOk P w H h) (he : H d = some (.xd fs)) : ∃ mA, h.Ns1 d mA ∧ ∀ f, RelO (fs.lookup f) (mA f) := by
  obtain ⟨mA, hns, r⟩ := hok d _ he
  exact ⟨mA, hns, r⟩
def tZget (K : W.Frag) (f : Str) (te : TE) : TE := fun σ H Q => te σ H fun x H1 => ∃ (a C dx : Addr) (fs : List (Str × V)) (v : V), x = .ref a ∧ ExK K C ∧ W.findIn K (.ref C) f = some none ∧ H1 a = some (exz a (.ref C) (some dx)) ∧ H1 dx = some (.xd fs) ∧ fs.lookup f = some v ∧ Q v H1
theorem pe_zget {X : Cx} {e : Expr} {te : TE} {f : Str} {pos : Pos} (he : PE X e te) (hb : attributeBase e f X.env (eval e X.env) = eval e X.env := by rfl) : PE X (.Attribute e f pos) (tZget X.K f te) := by
  constructor
  intro pins s σ H Q I h
  refine attr_of hb (thn (he.run pins s σ H _ I h) fun u s1 r => ?_)
  obtain ⟨x, H1, I1, rx, a, C, dx, fs, v, rfl, T, hno, ea, ed, l, q⟩ := r
  obtain rfl : u = Value.ref a := rx
  obtain ⟨⟨oc, odt, dat, sl⟩, vs, ho, hz, hd0⟩ := exz_at I1.hok ea
  obtain ⟨z1, z2⟩ := hz
  dsimp only at z1 z2 hd0
  subst z1 z2 hd0
  obtain ⟨mA, hns, hr⟩ := xd_at I1.hok ed
  obtain ⟨od, hd, hl⟩ := lookIn_ns hns
  obtain ⟨u, hu, ru⟩ := RelO.some_of (v := v) (o := mA f) (by rw [← l]; exact hr f)
  have J : W.InstAt s1.heap a _ C (some od) := ⟨ho, rfl, rfl, hd⟩
  exact HandSPX.exc_get I1.kIn J T.ga T.gg T.ex (W.findObj_own T.hd hno rfl (by rw [hl, hu])) (handed_of ru) ⟨v, H1, I1.tok _, ru, q⟩

/-- isinstance of a kept exception -/
def rIsZ (K : W.Frag) : List V → Hp → VK → Prop := fun xs H Q => ∃ (a C : Addr) (dx : Addr) (fs : List (Str × V)) (c : V) (cv : Value) (b : Bool), xs = [.ref a, c] ∧ H a = some (exz a (.ref C) (some dx)) ∧ H dx = some (.xd fs) ∧ ExK K C ∧ ExA K ∧
  (∀ u, RelV c u → u = cv) ∧ W.kitOne K (.ref C) cv = some b ∧ Q (.bl b) H
theorem call_isZ {X : Cx} : CallR X (.builtin "isinstance") (rIsZ X.K) := by
  intro pins s σ H xs us Q I r h
  obtain ⟨a, C, dx, fs, c, cv, b, rfl, ea, ed, T, G, hcv, e, q⟩ := h
  cases r with
  | cons rx rr =>
    cases rr with
    | cons rt rr =>
      cases rr
      obtain rfl := rx
      obtain rfl := hcv _ rt
      obtain ⟨⟨oc, odt, dat, sl⟩, vs, ho, hz, hd0⟩ := exz_at I.hok ea
      obtain ⟨z1, z2⟩ := hz
      dsimp only at z1 z2 hd0
      subst z1 z2 hd0
      obtain ⟨mA, ⟨od, _, _, hd, _⟩, _⟩ := xd_at I.hok ed
      have J : W.InstAt s.heap a _ C (some od) := ⟨ho, rfl, rfl, hd⟩
      have hcl : (W.clsIn X.K C).isSome = true := by
        obtain ⟨cd, hc, _⟩ := W.any_some T.hd
        rw [hc] <;> rfl
      exact W.kia_one (W.kitx_exc hcl T.ga T.gg T.ex T.cl G.gt G.tk T.ob) I.kIn J e (fun z => (nomatch z)) fun tk => ⟨.bl b, H, I.kept (t' := tk) fun _ _ z => z, rfl, q⟩
end L2.My
/-! C.f(x, ..) where f is a def of the class C -/
namespace PySem.Mine
open PySem.W PySem.Calls PyProof.Rows
theorem fn_bare {prog : Program} {w : World} {K : W.Frag} {A : Around} {R : Result → Shared → Prop} {s : Shared} {f C : Addr} (X : K.In s.heap) (hp : typeIn K (.ref f) = some (.type "function"))
    (h : R (.ok (.ret (.ref f))) s) : codeAny (model prog w) A (.call (.builtin "function.__get__") ⟨[.ref f, .none, .ref C], []⟩) R s := by
  obtain ⟨o, ho, hc⟩ := Option.map_eq_some_iff.mp hp
  obtain ⟨hh, g, dr, t, os⟩ := s
  refine codeAny_call_builtin KF.slot_fn.plain KF.entry_fn (KF.slot_fn.check _ _ _ _ _ _ _ _ ⟨_, X _ _ ho, hc⟩ (KF.args_fn _ _ _) ?_)
  repeat k_node
  exact h
end PySem.Mine
namespace L2.My
open PySem PySem.Spec PyProof.Rows
/-- C.m is a def of the class -/
structure CFn (K : W.Frag) (C : Addr) (mc : Value) (m : Str) (f : Addr) : Prop where
  at_ : W.findCls K (.ref C) mc m = some (.get (.builtin "function.__get__") (.ref f) .none (.ref C))
  ty : W.typeIn K (.ref f) = some (.type "function")
  kp : W.keepIn K (.ref f) = true
section
variable {X : Cx} {C f : Addr} {mc : Value} {m : Str} {o e : Expr} {es : List Expr} {ta : TE} {t : TA} {CX : CXT} {k : Nat} {fd : FuncData} {ps : List Str} {sp : Sp} {ds : List Value} {dvs : List V} {E : XK} {apos pos : Pos} {pl : Sem Bool}
def tClsFn (C : Addr) (sp : Sp) (dvs : List V) (E : XK) (ta : TE) (t : TA) : TE := fun σ H Q => ta σ H fun x H1 => x = .ref C ∧ t σ H1 fun vs H2 => sp (vs ++ dvs) H2 Q E
theorem getfn_ok {pins : List (Addr × Obj)} {σ : St} {H : Hp} {s : Shared} {A : Around} {E' : Value → Shared → Prop} {Q : Value × List Value → Shared → Prop} (I : Inv X pins σ H s) (r : ClX.CRead X.K C mc) (c : CFn X.K C mc m f) (h : ∀ s', Inv X pins σ H s' → Q (.ref f, []) s') :
    wpAny (model X.prog X.w) A (getMethod (.ref C) m pl) Q E' s := by
  refine W.method_cls I.kIn r.ga (W.cls_bind I.kIn r.rd c.at_ ?_)
  refine wpAny_call (Mine.fn_bare (s := { s with toks := s.toks + 1 }) I.kIn c.ty (W.handed_on rfl ?_))
  exact h _ (I.tok _)
theorem pe_clsfn (he : PE X o ta) (r : ClX.CRead X.K C mc) (c : CFn X.K C mc m f) (F : FnOk X.prog X.w X.K X.mg X.base CX k f fd ps sp) (hr : Room k X.A) (hb : Binds X.K fd ps ds) (hd : Vals dvs ds) (hx : Passes CX X E) (ha : PA X (e :: es) t)
    (hst : starEach (e :: es) X.env = (false, eval e X.env) :: starEach es X.env := by rfl) (hpl : (backTo pos (starEach es X.env)).any (·.1) = false := by rfl)
    (ht : eval (.Call (.Attribute o m apos) (e :: es) [] pos) X.env = (do
      let ov ← eval o X.env
      standAt apos.atName
      let (g, first) ← holding [ov] (getMethod ov m pl)
      callWith pos g first (backTo pos (starEach (e :: es) X.env)) (backToKw pos (keywordEach [] X.env))) := by rfl) :
    PE X (.Call (.Attribute o m apos) (e :: es) [] pos) (tClsFn C sp dvs E ta t) := by
  constructor
  intro pins s σ H Q I h
  refine W.methodCall_KW (pl := pl) (thn (he.run pins s σ H _ I h) fun u s1 z => ?_) ht
  obtain ⟨x, H1, I1, rx, ex, q⟩ := z
  subst ex
  obtain rfl : u = Value.ref C := rx
  refine getfn_ok I1 r c fun s2 I2 => ?_
  refine W.callWith_K (h₀ := X.base) (first := []) I2.ok.mod.kin c.kp (thn (ha.run pos pins s2 σ H1 _ I2 q) ?_) hst hpl
  rintro us s3 ⟨vs, H2, I3, rv, q2⟩
  refine ⟨I3.kIn, ?_⟩
  show wpAny _ _ (call (.ref f) us) _ _ _
  exact run_fn F hr hb hd hx I3 rv q2
end
end L2.My
/-! == and != of own instances, by the text's own __eq__; the right side's first where its class is below the left's -/
namespace PySem.Mine
open PySem.W PySem.Calls PyProof.Rows
section
variable {prog : Program} {w : World} {A : Around} {E : Value → Shared → Prop} {s : Shared} {K : W.Frag} {x y C D f : Addr} {b tb : Value} {ox oy : Obj} {od oe : Option Obj} {op : CmpOp} {Q : Value → Shared → Prop}
/-- the answer of one side's try -/
abbrev Told (Q : Value → Shared → Prop) : Option Value → Shared → Prop := fun r s' => ∃ v, r = some v ∧ Q v s'
theorem try_own {name : Str} (X : K.In s.heap) (I : InstAt s.heap x ox C od) (hs : findIn K (.ref C) name = some (some (.ref f))) (hf : isFn K (.ref f) = true) (h : wpAny (model prog w) A (call (.ref f) [.ref x, b]) (W.CmpBack Q) E s) :
    wpAny (model prog w) A (tryCompare (.ref x) name b) (Told Q) E s := by
  unfold tryCompare
  refine wpAny_bind (ifBound_K X I hs hf (wpAny_mono h (fun v s' hv => ?_) fun _ _ e => e))
  cases v <;> first | exact hv.elim | exact wpAny_pure ⟨_, rfl, hv⟩
theorem rc_left (hu : A.units < cLine) (X : K.In s.heap) (I : InstAt s.heap x ox C od) (hb : Looks (model prog w) s.heap (typeOf b) tb) (hn : notFirst K C tb = true) (one : wpAny (model prog w) A (tryCompare (.ref x) (cmpInfo op).2.1 b) (Told Q) E s) :
    wpAny (model prog w) A (richCompare op (.ref x) b) Q E s := by
  unfold richCompare
  simp only [oneThing_ref]
  refine wpAny_holding (wpAny_bind (wpAny_cRoomFor hu (wpAny_bind (I.type.here (wpAny_bind (hb.here ?_))))))
  split
  · rename_i q
    have e : subIn K tb (.ref C) = some false := by
      rcases Bool.or_eq_true_iff.mp hn with e | e
      · rw [beq_iff_eq.mp e] at q; simp at q
      · exact beq_iff_eq.mp e
    refine wpAny_bind ((looks_subIn X e).here ?_)
    simp only [Bool.false_eq_true, if_false]
    refine wpAny_bind (wpAny_mono one (fun r s' z => ?_) fun _ _ e => e)
    obtain ⟨v, rfl, hq⟩ := z
    exact wpAny_pure hq
  · refine wpAny_bind (wpAny_pure ?_)
    simp only [Bool.false_eq_true, if_false]
    refine wpAny_bind (wpAny_mono one (fun r s' z => ?_) fun _ _ e => e)
    obtain ⟨v, rfl, hq⟩ := z
    exact wpAny_pure hq
theorem rc_right (hu : A.units < cLine) (X : K.In s.heap) (I : InstAt s.heap x ox C od) (J : InstAt s.heap y oy D oe) (ne : D ≠ C) (sub : subIn K (.ref D) (.ref C) = some true) (one : wpAny (model prog w) A (tryCompare (.ref y) (cmpInfo op).2.2 (.ref x)) (Told Q) E s) :
    wpAny (model prog w) A (richCompare op (.ref x) (.ref y)) Q E s := by
  unfold richCompare
  simp only [oneThing_ref]
  refine wpAny_holding (wpAny_bind (wpAny_cRoomFor hu (wpAny_bind (I.type.here (wpAny_bind (J.type.here ?_))))))
  split
  · refine wpAny_bind ((looks_subIn X sub).here ?_)
    simp only [if_true]
    refine wpAny_bind (wpAny_mono one (fun r s' z => ?_) fun _ _ e => e)
    obtain ⟨v, rfl, hq⟩ := z
    first
      | exact wpAny_pure (M := model prog w) (A := A) (E := E) hq
      | exact wpAny_bind (wpAny_pure (M := model prog w) (A := A) (E := E) (wpAny_pure hq))
  · rename_i q
    simp at q
    exact absurd q.symm ne
theorem try_ne (hu : A.in1.units < cLine) (X : K.In s.heap) (I : InstAt s.heap x ox C od) (hn : findIn K (.ref C) "__ne__" = some (some (.builtin "object.__ne__"))) (hm : mroIn K C (.type "object") = some true) (hs : findIn K (.ref C) "__eq__" = some (some (.ref f))) (hf : isFn K (.ref f) = true)
    (h : wpAny (model prog w) A.in1 (call (.ref f) [.ref x, b]) (fun v s' => ∃ k, v = .bool k ∧ Q (.bool (!k)) s') E s) :
    wpAny (model prog w) A (tryCompare (.ref x) "__ne__" b) (Told Q) E s := by
  have body : wpAny (model prog w) A (call (.builtin "object.__ne__") [.ref x, b]) (fun v s' => v ≠ .notImplemented ∧ Q v s') E s := by
    refine wpAny_call (codeAny_call_builtin F.slot_object_ne.plain F.cmpEntry_ne (check_slot (i := "object.__ne__") (owner := "object") (n := "__ne__") F.cmpKind_ne F.cmpSplit_ne (I.type.andThen (looks_mroIn X hm)) (F.cmpArgs_ne _ _) ?_))
    unfold Builtin.«object.__ne__»
    refine wpAny_bind (m := slotArgs "__ne__" 1 _) (wpAny_pure ?_)
    refine wpAny_bind (m := cRoomFor _ _) (wpAny_cRoomFor hu ?_)
    refine wpAny_bind (m := callSpecialIfBound? (.ref x) (Str.ofString "__eq__") _) (ifBound_K X I hs hf (wpAny_mono h (fun v s' hv => ?_) fun _ _ e => e))
    obtain ⟨k, rfl, q⟩ := hv
    refine wpAny_bind (m := truthy _) (wpAny_truthy_bool (wpAny_pure ?_))
    exact ⟨(fun z => nomatch z), q⟩
  unfold tryCompare
  simp only [callSpecialIfBound?, bindSpecialIfBound?]
  refine wpAny_bind (wpAny_holding (wpAny_bind (wpAny_bind (wpAny_bind (I.type.here ((looks_findIn X hn).here ?_))))))
  have fin : wpAny (model prog w) A (call (.builtin "object.__ne__") ([.ref x] ++ [b]) >>= fun v => pure (some v)) (fun r s' => ∃ v, r = some v ∧ v ≠ .notImplemented ∧ Q v s') E s :=
    wpAny_bind (wpAny_mono body (fun v s' z => wpAny_pure ⟨v, rfl, z⟩) fun _ _ e => e)
  have fin := wpAny_mono (Q' := fun a s' => wpAny (model prog w) A (match a with | some Value.notImplemented => (pure none : Sem (Option Value)) | none => pure none | some v => pure (some v)) (Told Q) E s') fin (fun r s' z => by
    obtain ⟨v, rfl, h1, q⟩ := z
    cases v <;> first | exact absurd rfl h1 | exact wpAny_pure ⟨_, rfl, q⟩) fun _ _ e => e
  refine wpAny_bind (wpAny_askSetting (wpAny_ite ?_))
  split
  · exact wpAny_bind ((Looks.of_pure (F.slot_object_ne.bind (.ref x))).here (wpAny_pure fin))
  · exact wpAny_tryCatch (wpAny_bind ((Looks.of_pure (F.slot_object_ne.bind (.ref x))).here (wpAny_pure fin)))
end
end PySem.Mine
/-! The rules over them: ==, !=, repr of own instances -/
namespace L2.My
open PySem PySem.Spec PyProof.Rows

/-- the kind of a right side -/
inductive RT (H : Hp) : V → Value → Prop
  | str (x : Str) : RT H (.str x) (.type "str")
  | ins {a C dx : Addr} {fs : List (Str × V)} (e : H a = some (.ins C dx fs)) : RT H (.ref a) (.ref C)
/-- the text's own __eq__ of the class at C keeps sp; != is object's -/
structure EqDef (P : Program) (w : World) (K : W.Frag) (mg : Str → Option Value) (base : Heap) (n : Nat) (C : Addr) (sp : Sp) : Prop where
  ex : ∃ (f : Addr) (fd : FuncData) (ps : List Str), W.findIn K (.ref C) "__eq__" = some (some (.ref f)) ∧ W.isFn K (.ref f) = true ∧ FnG P w K mg base (L2.CX P w) n f fd ps sp ∧ Binds K fd ps []
  ne : W.findIn K (.ref C) "__ne__" = some (some (.builtin "object.__ne__"))
  ob : W.mroIn K C (.type "object") = some true
abbrev BoolQ (pos : Bool) (Q : VK) : VK := fun v H => ∃ b, v = .bl b ∧ Q (.bl (pos == b)) H
def rEqO (K : W.Frag) (D : Addr → Sp → Prop) (pos : Bool) : R2 := fun x y H Q => ∃ (a C dx : Addr) (fs : List (Str × V)), x = .ref a ∧ H a = some (.ins C dx fs) ∧
  ((∃ (tb : Value) (sp : Sp), RT H y tb ∧ W.notFirst K C tb = true ∧ D C sp ∧ sp [x, y] H (BoolQ pos Q) E0) ∨
    ∃ (b C' dy : Addr) (gs : List (Str × V)) (sp : Sp), y = .ref b ∧ H b = some (.ins C' dy gs) ∧ C' ≠ C ∧ W.subIn K (.ref C') (.ref C) = some true ∧ D C' sp ∧ sp [y, x] H (BoolQ pos Q) E0)
section
variable {X : Cx} {n : Nat} {f : Addr} {fd : FuncData} {ps : List Str} {sp : Sp} {A : Around} {pins : List (Addr × Obj)} {σ : St} {H : Hp} {s : Shared} {Q : VK} {us : List Value} {vs : List V} {D : Addr → Sp → Prop}
theorem passE0 {X : Cx} : Passes (L2.CX X.prog X.w) X E0 := fun pins σ H s e s' I ⟨a, B, H', cls, d, _, _, _, _, _, _, _, q⟩ => q.elim
theorem run_at (F : FnG X.prog X.w X.K X.mg X.base (L2.CX X.prog X.w) n f fd ps sp) (hb : Binds X.K fd ps []) (hr : Room n A) (hq : Quiet A) (I : Inv X pins σ H s) (e0 : Env0 X.prog X.w X.K X.mg X.base A X.stack s H) (r : Vals vs us) (h : sp vs H Q E0) :
    wpAny (model X.prog X.w) A (call (.ref f) us) (EP X pins σ Q) X.xe s := by
  have hl : (us ++ []).length = ps.length := by
    rw [List.append_nil, ← r.length]
    exact F.many vs H Q E0 h
  have b := hb s us I.kIn hl
  rw [List.append_nil] at b
  refine wpAny_call (codeAny_mono (F.runs A X.stack s H ⟨us, []⟩ us vs Q E0 hr hq e0 b r h) fun res s' z => ?_)
  match res, z with
  | .error er, z => exact passE0 pins σ H s er s' I z
  | .ok (.ret u), z => exact I.after z
theorem op_eqO (hr : Room n X.A) (hq : Quiet X.A) (hD : ∀ C sp, D C sp → EqDef X.prog X.w X.K X.mg X.base n C sp) : OpR X (compareOp .Eq) (rEqO X.K D true) := by
  intro pins s σ H x y v u Q I rx ry h
  obtain ⟨a, C, dx, fs, rfl, ha, h⟩ := h
  obtain rfl : v = Value.ref a := rx
  obtain ⟨mA, J, _⟩ := ins_get I.hok ha
  obtain ⟨od, J, _⟩ := J.look
  show wpAny (model X.prog X.w) X.A (richCompare .Eq (.ref a) u) _ _ _
  have fin : ∀ {w' : Value} {s' : Shared}, EP X pins σ (BoolQ true Q) w' s' → W.CmpBack (EP X pins σ Q) w' s' := fun {w' s'} z => by
    obtain ⟨z', H', I', rz, b, rfl, q⟩ := z
    exact SlX.cmpback rz ⟨.bl b, H', I', rz, by cases b <;> exact q⟩
  rcases h with ⟨tb, sp, rt, hn, dc, q⟩ | ⟨b, C', dy, gs, sp, rfl, hb, ne, sub, dc, q⟩
  · obtain ⟨⟨f, fd, ps, hs, hf, F, hb⟩, _, _⟩ := hD _ _ dc
    have lk : W.Looks (model X.prog X.w) s.heap (typeOf u) tb := by
      cases rt with
      | str x =>
        obtain ⟨t, e⟩ := (show ∃ t, u = Value.str x t from ry)
        rw [e]
        exact W.Looks.of_pure rfl
      | ins e =>
        obtain rfl := (show u = Value.ref _ from ry)
        obtain ⟨mB, J', _⟩ := ins_get I.hok e
        obtain ⟨od', J', _⟩ := J'.look
        exact J'.type
    exact Mine.rc_left (op := .Eq) hr.units0 I.kIn J lk hn (Mine.try_own I.kIn J hs hf (wpAny_mono (run_at (vs := [.ref a, y]) F hb hr hq I I.env0 (.cons rfl (.cons ry .nil)) q) (fun _ _ z => fin z) fun _ _ e => e))
  · obtain ⟨⟨f, fd, ps, hs, hf, F, hbd⟩, _, _⟩ := hD _ _ dc
    obtain rfl := (show u = Value.ref _ from ry)
    obtain ⟨mB, J', _⟩ := ins_get I.hok hb
    obtain ⟨od', J', _⟩ := J'.look
    exact Mine.rc_right (op := .Eq) hr.units0 I.kIn J J' ne sub (Mine.try_own I.kIn J' hs hf (wpAny_mono (run_at (vs := [.ref b, .ref a]) F hbd hr hq I I.env0 (.cons ry (.cons rfl .nil)) q) (fun _ _ z => fin z) fun _ _ e => e))
theorem op_neO (hr : Room (n + 1) X.A) (hq : Quiet X.A) (hD : ∀ C sp, D C sp → EqDef X.prog X.w X.K X.mg X.base n C sp) : OpR X (compareOp .NotEq) (rEqO X.K D false) := by
  intro pins s σ H x y v u Q I rx ry h
  obtain ⟨a, C, dx, fs, rfl, ha, h⟩ := h
  obtain rfl : v = Value.ref a := rx
  obtain ⟨mA, J, _⟩ := ins_get I.hok ha
  obtain ⟨od, J, _⟩ := J.look
  show wpAny (model X.prog X.w) X.A (richCompare .NotEq (.ref a) u) _ _ _
  have hr1 : Room n X.A.in1 := hr.in1
  have hq1 : Quiet X.A.in1 := hq
  have fin : ∀ {w' : Value} {s' : Shared}, EP X pins σ (BoolQ false Q) w' s' → ∃ k, w' = .bool k ∧ EP X pins σ Q (.bool (!k)) s' := fun {w' s'} z => by
    obtain ⟨z', H', I', rz, b, rfl, q⟩ := z
    obtain rfl := (show w' = Value.bool b from rz)
    exact ⟨b, rfl, .bl (!b), H', I', rfl, by cases b <;> exact q⟩
  rcases h with ⟨tb, sp, rt, hn, dc, q⟩ | ⟨b, C', dy, gs, sp, rfl, hb, ne, sub, dc, q⟩
  · obtain ⟨⟨f, fd, ps, hs, hf, F, hb⟩, hne, hob⟩ := hD _ _ dc
    have lk : W.Looks (model X.prog X.w) s.heap (typeOf u) tb := by
      cases rt with
      | str x =>
        obtain ⟨t, e⟩ := (show ∃ t, u = Value.str x t from ry)
        rw [e]
        exact W.Looks.of_pure rfl
      | ins e =>
        obtain rfl := (show u = Value.ref _ from ry)
        obtain ⟨mB, J', _⟩ := ins_get I.hok e
        obtain ⟨od', J', _⟩ := J'.look
        exact J'.type
    exact Mine.rc_left (op := .NotEq) hr.units0 I.kIn J lk hn (Mine.try_ne hr1.units0 I.kIn J hne hob hs hf (wpAny_mono (run_at (vs := [.ref a, y]) F hb hr1 hq1 I I.env0.in1 (.cons rfl (.cons ry .nil)) q) (fun _ _ z => fin z) fun _ _ e => e))
  · obtain ⟨⟨f, fd, ps, hs, hf, F, hbd⟩, hne, hob⟩ := hD _ _ dc
    obtain rfl := (show u = Value.ref _ from ry)
    obtain ⟨mB, J', _⟩ := ins_get I.hok hb
    obtain ⟨od', J', _⟩ := J'.look
    exact Mine.rc_right (op := .NotEq) hr.units0 I.kIn J J' ne sub (Mine.try_ne hr1.units0 I.kIn J' hne hob hs hf (wpAny_mono (run_at (vs := [.ref b, .ref a]) F hbd hr1 hq1 I I.env0.in1 (.cons ry (.cons rfl .nil)) q) (fun _ _ z => fin z) fun _ _ e => e))

/-! ### repr of an own instance by the text's own __repr__ -/
structure ReprDef (P : Program) (w : World) (K : W.Frag) (mg : Str → Option Value) (base : Heap) (n : Nat) (C : Addr) (sp : Sp) : Prop where
  ex : ∃ (f : Addr) (fd : FuncData) (ps : List Str), W.findIn K (.ref C) "__repr__" = some (some (.ref f)) ∧ W.isFn K (.ref f) = true ∧ FnG P w K mg base (L2.CX P w) n f fd ps sp ∧ Binds K fd ps []
def rReprO (D : Addr → Sp → Prop) : List V → Hp → VK → Prop := fun xs H Q => ∃ (a C dx : Addr) (fs : List (Str × V)) (sp : Sp), xs = [.ref a] ∧ H a = some (.ins C dx fs) ∧ D C sp ∧ sp [.ref a] H (fun v H' => ∃ y, v = .str y ∧ Q (.str y) H') E0
theorem call_reprO (hr : Room (n + 1) X.A) (hq : Quiet X.A) (hD : ∀ C sp, D C sp → ReprDef X.prog X.w X.K X.mg X.base n C sp) : CallR X (.builtin "repr") (rReprO D) := by
  intro pins s σ H xs us Q I r h
  obtain ⟨a, C, dx, fs, sp, rfl, ha, dc, q⟩ := h
  cases r with
  | cons r0 r1 =>
    cases r1
    obtain rfl := r0
    obtain ⟨mA, J, _⟩ := ins_get I.hok ha
    obtain ⟨od, J, _⟩ := J.look
    obtain ⟨f, fd, ps, hs, hf, F, hb⟩ := (hD _ _ dc).ex
    obtain ⟨m, fr⟩ := I.fr
    have hr1 : Room n X.A.in1 := hr.in1
    have hq1 : Quiet X.A.in1 := hq
    refine W.repr_K hr1.units0 fr I.ok.mod.kin J hs hf (wpAny_mono (run_at (vs := [.ref a]) F hb hr1 hq1 I I.env0.in1 (.cons rfl .nil) q) (fun v s' z => ?_) fun _ _ e => e)
    obtain ⟨z', H', I', rz, y, rfl, q2⟩ := z
    obtain ⟨t, e⟩ := (show ∃ t, v = Value.str y t from rz)
    subst e
    exact ⟨.str y, H', I', ⟨t, rfl⟩, q2⟩
end
end L2.My
/-! repr of data of any kind and of own instances; isinstance of a kept exception and of the rest -/
namespace L2.My
open PySem PySem.Spec PyProof.Rows
def rReprA (K : W.Frag) (D : Addr → Sp → Prop) : List V → Hp → VK → Prop := fun xs H Q => (∃ (v : V) (d : PyData), xs = [v] ∧ Dq K H v d ∧ d.showable = true ∧ d.depth ≤ 60 ∧ d.shown.length ≤ sizeLine ∧ Q (.str d.shown) H) ∨ rReprO D xs H Q
section
variable {X : Cx} {m : Str → Option Value} {n : Nat} {D : Addr → Sp → Prop}
theorem call_reprA (hs : X.base.Ns sysModules m) (hq : Quiet X.A) (hr : Room (n + 1) X.A) (hD : ∀ C sp, D C sp → ReprDef X.prog X.w X.K X.mg X.base n C sp) : CallR X (.builtin "repr") (rReprA X.K D) := by
  intro pins s σ H xs us Q I r h
  rcases h with ⟨v, d, rfl, hd, h1, h2, h3, q⟩ | h
  · have hu : X.A.units + 64 < cLine := hr.units
    cases r with
    | cons r0 r1 =>
      cases r1
      have ok : ∀ {h' : Heap} {tk u : Nat}, (∀ b o, s.heap.get? b = some o → h'.get? b = some o) → EP X pins σ Q (.str d.shown u) { s with heap := h', toks := tk } := fun {h' tk u} hk => ⟨.str d.shown, H, I.kept hk, ⟨u, rfl⟩, q⟩
      cases hd with
      | non =>
        obtain rfl := r0
        simp only [PyData.shown] at ok h3
        exact PySem.P.repr_of_none (ok fun _ _ z => z)
      | bl b =>
        obtain rfl := r0
        simp only [PyData.shown] at ok h3
        refine PySem.P.repr_of_bool ?_
        cases b <;> exact ok fun _ _ z => z
      | int i =>
        obtain ⟨t, rfl⟩ := r0
        simp only [PyData.shown] at ok h3
        simp only [PyData.showable, decide_eq_true_eq] at h1
        exact PySem.P.repr_of_int h1 (ok fun _ _ z => z)
      | str x =>
        obtain ⟨t, rfl⟩ := r0
        simp only [PyData.shown] at ok h3
        exact PySem.P.repr_of_str (ok fun _ _ z => z) h3
      | lst e a => exact call_repr hs hq hu pins s σ H _ _ Q I (.cons r0 .nil) ⟨_, _, rfl, .lst e a, h1, h2, h3, q⟩
      | tup e a => exact call_repr hs hq hu pins s σ H _ _ Q I (.cons r0 .nil) ⟨_, _, rfl, .tup e a, h1, h2, h3, q⟩
      | dic e a => exact call_repr hs hq hu pins s σ H _ _ Q I (.cons r0 .nil) ⟨_, _, rfl, .dic e a, h1, h2, h3, q⟩
  · exact call_reprO hr hq hD pins s σ H xs us Q I r h
def rIsA (K : W.Frag) : List V → Hp → VK → Prop := fun xs H Q => rIsi K xs H Q ∨ rIsZ K xs H Q
theorem call_isA : CallR X (.builtin "isinstance") (rIsA X.K) := by
  intro pins s σ H xs us Q I r h
  rcases h with h | h
  · exact call_isi pins s σ H xs us Q I r h
  · exact call_isZ pins s σ H xs us Q I r h
end
end L2.My
/-! The pen of the laws; steps of readings; lists of data -/
namespace L2.My
open PySem PySem.Spec PyProof.Rows
structure PenAt (H : Hp) (p q : Addr) (ns : List Int) (at' big : Int) : Prop where
  pen : H p = some (.lst [.ref q, .int at', .int big])
  cells : H q = some (.lst (ns.map V.int))
  a0 : 0 ≤ at'
  a1 : at' ≤ 100000
  b0 : 0 ≤ big
def spDraw : Sp := fun vs H Q _ => ∃ (p q : Addr) (ns : List Int) (at' big many : Int), vs = [.ref p, .int many] ∧ 0 < many ∧ many.natAbs < 2 ^ 200 ∧ PenAt H p q ns at' big ∧ at' < 100000 ∧
  ∀ (d a2 b2 : Int) (H' : Hp), 0 ≤ d → d < many → at' ≤ a2 → a2 ≤ at' + 1 → 0 ≤ b2 → But H H' p → H' p = some (.lst [.ref q, .int a2, .int b2]) → Q (.int d) H'
theorem But.del {H H' : Hp} {p : Addr} (h : But H H' p) : Same (del H p) (del H' p) := fun b o e => by
  by_cases z : b = p
  · rw [z, del_same] at e; cases e
  · rw [del_ne z] at e ⊢
    exact h b o z e
theorem del_le {H : Hp} {p : Addr} : Same (del H p) H := fun b o e => by
  by_cases z : b = p
  · rw [z, del_same] at e; cases e
  · rw [del_ne z] at e
    exact e
theorem Rd.same {H H' : Hp} {a : Addr} {o : HO} (s : Same H H') (h : Rd H a o) : Rd H' a o := by
  rcases h with h | ⟨ob, h⟩
  · exact .inl (s _ _ h)
  · exact .inr ⟨ob, s _ _ h⟩
theorem SqL.same {K : W.Frag} {H H' : Hp} {a : Addr} {xs : List V} (s : Same H H') (h : SqL K H a xs) : SqL K H' a xs := h.imp (Rd.same s) id
theorem SqT.same {K : W.Frag} {H H' : Hp} {a : Addr} {xs : List V} (s : Same H H') (h : SqT K H a xs) : SqT K H' a xs := h.imp (Rd.same s) id
mutual
theorem Dq.same {K : W.Frag} {H H' : Hp} (s : Same H H') : ∀ {v : V} {d : PyData}, Dq K H v d → Dq K H' v d
  | _, _, .non => .non
  | _, _, .bl b => .bl b
  | _, _, .int i => .int i
  | _, _, .str x => .str x
  | _, _, .lst h1 h2 => .lst (SqL.same s h1) (DqAll.same s h2)
  | _, _, .tup h1 h2 => .tup (SqT.same s h1) (DqAll.same s h2)
  | _, _, .dic h1 h2 => .dic (s _ _ h1) (DqKv.same s h2)
theorem DqAll.same {K : W.Frag} {H H' : Hp} (s : Same H H') : ∀ {v : List V} {d : List PyData}, DqAll K H v d → DqAll K H' v d
  | _, _, .nil => .nil
  | _, _, .cons h1 h2 => .cons (Dq.same s h1) (DqAll.same s h2)
theorem DqKv.same {K : W.Frag} {H H' : Hp} (s : Same H H') : ∀ {v : List (Key × V)} {d : List (PyData × PyData)}, DqKv K H v d → DqKv K H' v d
  | _, _, .nil => .nil
  | _, _, .cons h1 h2 => .cons (Dq.same s h1) (DqKv.same s h2)
end
/-- a value that is data of a small text -/
def Thing (K : W.Frag) (H : Hp) (v : V) : Prop := ∃ d, Dq K H v d ∧ d.showable = true ∧ d.depth ≤ 3 ∧ d.shown.length ≤ 60
theorem Thing.same {K : W.Frag} {H H' : Hp} {v : V} (s : Same H H') : Thing K H v → Thing K H' v := fun ⟨d, h, r⟩ => ⟨d, h.same s, r⟩
theorem thing_int {K : W.Frag} {H : Hp} {i : Int} (h : i.natAbs < 10 ^ 9) : Thing K H (.int i) := by
  refine ⟨.int i, .int i, ?_, ?_, ?_⟩
  · simp only [PyData.showable, decide_eq_true_eq]
    exact PySem.Flt.log2_lt_of (by decide) (Nat.lt_of_lt_of_le h (Nat.le_trans (by decide : 10 ^ 9 ≤ 2 ^ 30) (Nat.pow_le_pow_right (by decide) (by decide))))
  · simp [PyData.depth]
  · exact Nat.le_trans (PyData.shown_int_le (Nat.lt_of_lt_of_le h (by decide))) (by decide)
def spPen (K : W.Frag) : Sp := fun vs H Q _ => ∃ (a : Addr) (ns : List Int), vs = [.ref a] ∧ SqL K H a (ns.map V.int) ∧
  ∀ (p q : Addr) (ms : List Int) (H' : Hp), Same H H' → H p = none → PenAt H' p q ms 0 0 → Q (.ref p) H'
theorem cut_ints (ns : List Int) (lo hi : Option Int) : ∃ ms : List Int, cutV (ns.map V.int) lo hi = ms.map V.int := by
  unfold cutV
  rw [← List.map_drop, ← List.map_take]
  exact ⟨_, rfl⟩
theorem PenAt.next {H H' : Hp} {p q : Addr} {ns : List Int} {a b a2 b2 : Int} (h : PenAt H p q ns a b) (s : But H H' p) (e : H' p = some (.lst [.ref q, .int a2, .int b2])) (h1 : a ≤ a2) (h2 : a2 ≤ 100000) (h3 : 0 ≤ b2) : PenAt H' p q ns a2 b2 := by
  have a0 := h.a0
  refine ⟨e, s _ _ (fun z => ?_) h.cells, by omega, h2, h3⟩
  have c := h.cells
  rw [z, h.pen] at c
  have c2 := Option.some.inj c
  injection c2 with c3
  cases ns with
  | nil => cases c3
  | cons n r => cases c3
theorem PenAt.same {H H' : Hp} {p q : Addr} {ns : List Int} {a b : Int} (h : PenAt H p q ns a b) (s : Same H H') : PenAt H' p q ns a b := ⟨s _ _ h.pen, s _ _ h.cells, h.a0, h.a1, h.b0⟩
theorem nth {xs : List V} {d : Int} (h0 : 0 ≤ d) (h1 : d < (xs.length : Int)) : ∃ v, v ∈ xs ∧ atI xs d = some v := by
  have lt : d.toNat < xs.length := by omega
  refine ⟨xs[d.toNat], List.getElem_mem lt, ?_⟩
  have e := atI_nat (xs := xs) (j := d.toNat) (v := xs[d.toNat]) (List.getElem?_eq_getElem lt)
  rw [Int.toNat_of_nonneg h0] at e
  exact e
theorem thing_of {K : W.Frag} {H : Hp} {v : V} {d : PyData} (h : Dq K H v d) (h1 : d.showable = true) (h2 : d.depth ≤ 3) (h3 : d.shown.length ≤ 60) : Thing K H v := ⟨d, h, h1, h2, h3⟩
/-- heaps that grow, r aside -/
theorem grow {H : Hp} {r a : Addr} {o u : HO} (hr : H r = some o) (ha : H a = none) : a ≠ r ∧ L2.upd H a u r = some o := ⟨Ne.symm (ne_of_none hr ha), by rw [upd_ne (ne_of_none hr ha)]; exact hr⟩
theorem del_at {H : Hp} {r a : Addr} {o : HO} (n : a ≠ r) (h : H a = some o) : del H r a = some o := by rw [del_ne n]; exact h
section
variable {K : W.Frag} {C a : Addr} {f g : Str} {io i2 : Nat} {σ : St} {H : Hp} {v v2 : V} {Q : VK} {fs : List (Str × V)}
def Sm (d : PyData) : Prop := d.showable = true ∧ d.depth ≤ 3 ∧ d.shown.length ≤ 60
theorem sm_all : ∀ ds : List PyData, (∀ d ∈ ds, Sm d) → PyData.showableAll ds = true ∧ PyData.depthAll ds ≤ 3 ∧ ((PyData.shownAll ds).map (·.length)).sum ≤ 60 * ds.length ∧ (PyData.shownAll ds).length = ds.length
  | [], _ => by simp [PyData.showableAll, PyData.depthAll, PyData.shownAll]
  | d :: r, h => by
    obtain ⟨h1, h2, h3, h4⟩ := sm_all r (fun x z => h x (List.mem_cons_of_mem _ z))
    obtain ⟨k1, k2, k3⟩ := h d (by simp)
    refine ⟨by simp [PyData.showableAll, h1, k1], ?_, ?_, by simp [PyData.shownAll, h4]⟩
    · simp only [PyData.depthAll]; omega
    · simp only [PyData.shownAll, List.map_cons, List.sum_cons, List.length_cons]; omega
theorem repr_ds {l : Addr} {vs : List V} {ds : List PyData} (e : H l = some (.lst vs)) (h : DqAll K H vs ds) (hs : ∀ d ∈ ds, Sm d) (n : ds.length ≤ 16) (q : Q (.str (PyData.shown (.list ds))) H) : rRepr K [.ref l] H Q := by
  obtain ⟨h1, h2, h3, h4⟩ := sm_all ds hs
  refine g_repr (.lst (.inl (.inl e)) h) (by simp only [PyData.showable]; exact h1) (by simp only [PyData.depth]; omega) ?_ q
  simp only [PyData.shown]
  refine Nat.le_trans (listText_len_le _) (Nat.le_trans ?_ (Nat.le_of_lt (small1000 (Nat.le_refl 1000))))
  rw [h4]
  omega
theorem step {R : Hp → Prop} {Hx : Hp} (k : ∀ H', Same Hx H' → R H') : R Hx := k Hx (Same.refl _)
theorem step2 {R : Hp → VK → Prop} {Hx : Hp} (k : ∀ H', Same Hx H' → R H' Q) : R Hx Q := k Hx (Same.refl _)
theorem eqU_self {b : Bool} {x : Str} (h : Q (.bl b) H) : rEqU K b (.str x) (.str x) H Q := by
  refine eqU_s (by simp [scal]) ?_
  rw [decide_eq_true rfl]
  cases b <;> exact h
theorem lk1 {r : List (Str × V)} : List.lookup g ((g, v) :: r) = some v := by simp [List.lookup]
theorem lk2 (fg : (f == g) = false) : List.lookup f [(g, v), (f, v2)] = some v2 := by simp [List.lookup, fg]
theorem g_set {te : TE} {i : Nat} {u : TS} {D : Ends} (h : te σ H fun v H1 => u D (σ.set i (some v)) H1) : tSeq (tAsg te (gName i)) u D σ H := h
end
theorem g_for {n : Nat} {g : TG} {tb u : TS} {D : Ends} {σ : St} {H : Hp} (hn : n < 2 ^ 62) (Pv : Nat → St → Hp → Prop) (h0 : Pv 0 σ H)
    (hs : ∀ i σ H, i < n → Pv i σ H → g (.int (0 + (i : Int))) σ H fun σ2 H2 => tb { D with nx := Pv (i + 1), ct := Pv (i + 1), bk := u D } σ2 H2) (hd : ∀ σ H, Pv n σ H → u D σ H) :
    tSeq (tFor (iRng1 (tCons (tC (.int (n : Int))) tNil)) g tb) u D σ H :=
  ⟨n, rfl, by omega, by omega, for_range Pv h0 hs hd⟩
theorem neU_ints {K : W.Frag} {H : Hp} {Q : VK} {p q : Addr} {ns : List Int} (e1 : SqL K H p (ns.map V.int)) (e2 : SqL K H q (ns.map V.int)) (h : Q (.bl false) H) : rEqU K false (.ref p) (.ref q) H Q :=
  eqU_ints e1 e2 (by rw [decide_eq_true rfl]; exact h)
theorem neU_bls {K : W.Frag} {H : Hp} {Q : VK} {p q : Addr} {ns : List Bool} (e1 : SqL K H p (ns.map V.bl)) (e2 : SqL K H q (ns.map V.bl)) (h : Q (.bl false) H) : rEqU K false (.ref p) (.ref q) H Q :=
  eqU_bls e1 e2 (by rw [decide_eq_true rfl]; exact h)
theorem step3 {R : Hp → VK → XK → Prop} {Hx : Hp} {Q : VK} {E : XK} (k : ∀ H', Same Hx H' → R H' Q E) : R Hx Q E := k Hx (Same.refl _)
theorem things_all {K : W.Frag} {H : Hp} : ∀ {ys : List V}, (∀ y ∈ ys, Thing K H y) → ∃ ds, DqAll K H ys ds ∧ (∀ d ∈ ds, Sm d) ∧ ds.length = ys.length
  | [], _ => ⟨[], .nil, by simp, rfl⟩
  | y :: r, h => by
    obtain ⟨d, h1, h2⟩ := h y (by simp)
    obtain ⟨ds, h3, h4, h5⟩ := things_all (ys := r) fun x z => h x (List.mem_cons_of_mem _ z)
    refine ⟨d :: ds, .cons h1 h3, ?_, by simp [h5]⟩
    intro x z
    rcases List.mem_cons.mp z with rfl | z
    · exact h2
    · exact h4 x z
theorem paired_at {α β : Type} {R : α → β → Prop} : ∀ {xs : List α} {ys : List β}, Paired R xs ys → ∀ {k : Nat} {y : β}, ys[k]? = some y → ∃ x, xs[k]? = some x ∧ R x y
  | _, _, .nil, k, y, h => by simp at h
  | _, _, .cons r rs, 0, y, h => by
    simp only [List.getElem?_cons_zero, Option.some.injEq] at h
    subst h
    exact ⟨_, rfl, r⟩
  | _, _, .cons r rs, k + 1, y, h => by
    simp only [List.getElem?_cons_succ] at h ⊢
    exact paired_at rs h
theorem paired_len {α β : Type} {R : α → β → Prop} : ∀ {xs : List α} {ys : List β}, Paired R xs ys → xs.length = ys.length
  | _, _, .nil => rfl
  | _, _, .cons _ rs => by rw [List.length_cons, List.length_cons, paired_len rs]
theorem paired_app {α β : Type} {R : α → β → Prop} : ∀ {xs xs2 : List α} {ys ys2 : List β}, Paired R xs ys → Paired R xs2 ys2 → Paired R (xs ++ xs2) (ys ++ ys2)
  | _, _, _, _, .nil, h => h
  | _, _, _, _, .cons r rs, h => .cons r (paired_app rs h)
theorem paired_mono {α β : Type} {R R' : α → β → Prop} (hm : ∀ a b, R a b → R' a b) : ∀ {xs : List α} {ys : List β}, Paired R xs ys → Paired R' xs ys
  | _, _, .nil => .nil
  | _, _, .cons r rs => .cons (hm _ _ r) (paired_mono hm rs)
theorem atI_nat {α : Type} {xs : List α} {k : Nat} : atI xs (k : Int) = xs[k]? := by
  have h : ixN xs.length (k : Int) = if k < xs.length then some k else none := by
    unfold ixN
    rw [if_pos (Int.natCast_nonneg k)]
    by_cases hk : k < xs.length
    · rw [if_pos hk, if_pos (by omega)]; simp
    · rw [if_neg hk, if_neg (by omega)]
  unfold atI
  rw [h]
  by_cases hk : k < xs.length
  · rw [if_pos hk]; rfl
  · rw [if_neg hk]; exact (List.getElem?_eq_none (by omega)).symm
section
variable {σ : St} {H : Hp} {Q : VK} {ta tb : TE}
theorem g_av (h : ta σ H fun x H1 => ∃ c, x = .bl c ∧ if c = true then tb σ H1 Q else Q (.bl false) H1) : tAndV ta tb σ H Q := h
theorem g_ov (h : ta σ H fun x H1 => ∃ c, x = .bl c ∧ if c = true then Q (.bl true) H1 else tb σ H1 Q) : tOrV ta tb σ H Q := h
theorem g_nv (h : ta σ H fun x H1 => ∃ c, x = .bl c ∧ Q (.bl (!c)) H1) : tNotV ta σ H Q := h
theorem g_bT {R S : Prop} (h : R) : ∃ c, V.bl true = .bl c ∧ if c = true then R else S := ⟨true, rfl, by rw [if_pos rfl]; exact h⟩
theorem g_bF {R S : Prop} (h : S) : ∃ c, V.bl false = .bl c ∧ if c = true then R else S := ⟨false, rfl, by rw [if_neg (by decide)]; exact h⟩
theorem g_bN {b : Bool} {R : Bool → Prop} (h : R (!b)) : ∃ c, V.bl b = .bl c ∧ R (!c) := ⟨b, rfl, h⟩
end
end L2.My
/-! raise X(e) of an own class whose __init__ stores its parameter; calls of defs by name -/
namespace L2.My
open PySem PySem.Spec PyProof.Rows
section
variable {P : Program} {w : World} {K : W.Frag} {mg : Str → Option Value} {base : Heap} {C f1 : Addr} {fd : FuncData} {q : Str} {st : Stmt} {f : Str} {p1 p2 p3 p4 : Pos}
theorem iniF1 (F : Fun K "__init__" q st f1 fd) (S : FnScope ["self", f] ["self", f] (defScope st)) (hb : defBody st = [.Assign [.Attribute (.Name "self" p1) f p2] (.Name f p3) p4]) (T : ExK K C) (ht : W.takerIn K C f = some none)
    (hd : (f == ("__debug__" : Str)) = false) (hcd : (f == ("__classdict__" : Str)) = false) : FnOk P w K mg base CX0 1 f1 fd [("self" : Str), f] (spIni C [f]) := by
  refine F.ok S ?_ ?_
  · rintro vs H Q E ⟨a, ys, rfl, hl, _⟩
    rw [List.length_cons, hl]; rfl
  · rintro cdv A outer s H vs Q E hr ⟨a, ys, rfl, hl, ea, z⟩
    match ys, hl with
    | [y], _ =>
      rw [hb]
      refine ⟨_, pss_one (ps_efl (pv 0 rfl (par_vis S (by simp)) rfl rfl) (pv 1 rfl (par_vis S (by simp)) hd hcd)), ?_⟩
      exact ⟨_, rfl, _, rfl, a, C, rfl, T, ht, .inl ⟨ea, fun dx n ne => z dx n ne⟩⟩
end
/-- an own class of exceptions over ValueError with one field, as a thing to raise -/
structure ExR (P : Program) (w : World) (K : W.Frag) (mg : Str → Option Value) (base : Heap) (x : Str) (C : Addr) (f : Str) : Prop where
  oex : OexC K C
  nm : mg x = some (.ref C)
  ini : ∃ (fI : Addr) (fd : FuncData), W.findIn K (.ref C) "__init__" = some (some (.ref fI)) ∧ W.typeIn K (.ref fI) = some (.type "function") ∧ FnOk P w K mg base CX0 1 fI fd [("self" : Str), f] (spIni C [f]) ∧ Binds K fd [("self" : Str), f] []
section
variable {X : Cx} {C : Addr} {x f : Str} {e : Expr} {te : TE} {p pos : Pos}
theorem pmk_exr (M : ExR X.prog X.w X.K X.mg X.base x C f) (hr : Room 2 X.A) (hg : Gl X x) (ha : PA X [e] (tCons te tNil)) (hdb : (x == ("__debug__" : Str)) = false := by decide)
    (hst : starEach [e] X.env = (false, eval e X.env) :: starEach [] X.env := by rfl) : PMk X (.Call (.Name x p) [e] [] pos) (tMkO C (spIni C [f]) [] (tCons te tNil)) := by
  obtain ⟨fI, fd, hi, ht, F, hb⟩ := M.ini
  exact pmk_oex M.oex hi ht F hr hb .nil pass0 hg M.nm ha hdb hst rfl
theorem mkO1 {σ : St} {H : Hp} {Q : XK} (mono : ∀ (R R' : VK), (∀ v H', R v H' → R' v H') → te σ H R → te σ H R') (h : te σ H fun y H1 => ∀ (d : Addr) (H' : Hp), Same H1 H' → H' d = some (.xd [(f, y)]) → Q (.ref C) (some d) H') : tMkO C (spIni C [f]) [] (tCons te tNil) σ H Q := by
  refine mono _ _ (fun y H1 z => ?_) h
  refine ⟨Nat.le_of_ble_eq_true rfl, fun a na => ⟨a, [y], rfl, rfl, upd_same, fun dx nd ne => ⟨rfl, dx, [(f, y)], upd_same, by rw [upd_ne ne, upd_same]; rfl, ?_, ?_⟩⟩⟩
  · rwa [upd_ne ne] at nd
  · have nd1 : H1 dx = none := by rwa [upd_ne ne] at nd
    refine z dx _ (fun b o e => ?_) (by rw [upd_same])
    have h1 := ne_of_none e na
    have h2 := ne_of_none e nd1
    rw [upd_ne h2, del_ne h1, upd_ne h1, upd_ne h2, upd_ne h1]
    exact e
end
/-- a def of the module by its name, with its promise -/
structure CalO (P : Program) (w : World) (K : W.Frag) (mg : Str → Option Value) (base : Heap) (CX : CXT) (k : Nat) (x : Str) (sp : Sp) : Prop where
  ex : ∃ (f : Addr) (fd : FuncData) (ps : List Str), FnOk P w K mg base CX k f fd ps sp ∧ mg x = some (.ref f) ∧ W.keepIn K (.ref f) = true ∧ Binds K fd ps []
theorem CalO.g {P : Program} {w : World} {K : W.Frag} {mg : Str → Option Value} {base : Heap} {CX : CXT} {k : Nat} {x : Str} {sp : Sp} (c : CalO P w K mg base CX k x sp) : CalG P w K mg base CX k x sp := by
  obtain ⟨f, fd, ps, F, r⟩ := c.ex
  exact ⟨f, fd, ps, .of F, r⟩
section
variable {X : Cx} {CX : CXT} {j k : Nat} {x : Str} {sp : Sp} {E : XK} {e : Expr} {es : List Expr} {t : TA} {p pos : Pos}
theorem pe_o (c : CalO X.prog X.w X.K X.mg X.base CX j x sp) (hr : Room k X.A) (hjk : j ≤ k) (hx : Passes CX X E) (hg : Gl X x) (ha : PA X (e :: es) t)
    (hdb : (x == ("__debug__" : Str)) = false := by decide) (he : starEach (e :: es) X.env = (false, eval e X.env) :: starEach es X.env := by rfl) (hpl : (backTo pos (starEach es X.env)).any (·.1) = false := by rfl) :
    PE X (.Call (.Name x p) (e :: es) [] pos) (tCall sp [] E t) := by
  obtain ⟨f, fd, ps, F, hm, hk, hb⟩ := c.ex
  exact pe_call F (hr.mono hjk) hg hm hk hb .nil hx ha hdb he hpl
end
end L2.My
/-! Data as trees: what a value of the heap reads as; masks; environments of data -/
namespace L2.DL
open L2 L2.My PySem PySem.Spec PyProof.Rows

/-- the hash of a tuple of ints -/
def hashT (k : List Int) : Int := reduceHash (Builtin.Tuple.tupleHashOf (k.map hashInt))
/-- a dict whose keys are tuples of ints: keys and where they stand; the values are not told -/
structure DT0 (h : Heap) (a : Addr) (L : List (List Int × Addr)) : Prop where
  ns : (a == sysModules) = false
  few : L.length ≤ sizeLine
  ob : ∃ (o : Obj) (es : Array DictEntry) (ep : Nat) (xs : List (List Int × Addr × Value)), h.get? a = some o ∧ o.ExactDict ∧ o.data = .dict es ep ∧ es.toList = xs.map (fun x => ⟨hashT x.1, .ref x.2.1, x.2.2⟩) ∧ L = xs.map (fun x => (x.1, x.2.1)) ∧ (xs.map (·.1)).Nodup
def DTO (a : Addr) (L : List (List Int × Addr)) : HO := .ext fun h => DT0 h a L
inductive D where
  | v (x : V)
  | tup (xs : List D)
  | lst (xs : List D)
  | dct (kvs : List (Key × D))
  | obj (C : Addr) (fs : List (Str × D))
  | exc (C : Addr) (fs : List (Str × D))
  | dtp (ks : List (List Int))
  deriving Inhabited
abbrev dI (i : Int) : D := .v (.int i)
abbrev dS (x : Str) : D := .v (.str x)
abbrev dB (b : Bool) : D := .v (.bl b)
abbrev dN : D := .v .non

mutual
inductive R (K : W.Frag) (G : Hp) : V → D → Prop
  | v (x : V) : R K G x (.v x)
  | tup {a : Addr} {xs : List V} {ds : List D} : SqT K G a xs → RAll K G xs ds → R K G (.ref a) (.tup ds)
  | lst {a : Addr} {xs : List V} {ds : List D} : G a = some (.lst xs) → RAll K G xs ds → R K G (.ref a) (.lst ds)
  | dct {a : Addr} {kvs : List (Key × V)} {ds : List (Key × D)} : G a = some (.dK kvs) → RKv K G kvs ds → R K G (.ref a) (.dct ds)
  | obj {a C dx : Addr} {fs : List (Str × V)} {ds : List (Str × D)} : G a = some (.ins C dx fs) → RFs K G fs ds → R K G (.ref a) (.obj C ds)
  | exc {a C dx : Addr} {fs : List (Str × V)} {ds : List (Str × D)} : G a = some (exz a (.ref C) (some dx)) → G dx = some (.xd fs) → RFs K G fs ds → R K G (.ref a) (.exc C ds)
  | dtp {a : Addr} {L : List (List Int × Addr)} {ks : List (List Int)} : G a = some (DTO a L) → (∀ q ∈ L, SqT K G q.2 (q.1.map V.int)) → ks = L.map (·.1) → R K G (.ref a) (.dtp ks)
inductive RAll (K : W.Frag) (G : Hp) : List V → List D → Prop
  | nil : RAll K G [] []
  | cons {v : V} {vs : List V} {d : D} {ds : List D} : R K G v d → RAll K G vs ds → RAll K G (v :: vs) (d :: ds)
inductive RKv (K : W.Frag) (G : Hp) : List (Key × V) → List (Key × D) → Prop
  | nil : RKv K G [] []
  | cons {k : Key} {v : V} {vs : List (Key × V)} {d : D} {ds : List (Key × D)} : R K G v d → RKv K G vs ds → RKv K G ((k, v) :: vs) ((k, d) :: ds)
inductive RFs (K : W.Frag) (G : Hp) : List (Str × V) → List (Str × D) → Prop
  | nil : RFs K G [] []
  | cons {k : Str} {v : V} {vs : List (Str × V)} {d : D} {ds : List (Str × D)} : R K G v d → RFs K G vs ds → RFs K G ((k, v) :: vs) ((k, d) :: ds)
end
section
variable {K : W.Frag} {G G' : Hp}
mutual
theorem R.same (s : Same G G') : ∀ {v : V} {d : D}, R K G v d → R K G' v d
  | _, _, .v x => .v x
  | _, _, .tup h1 h2 => .tup (SqT.same s h1) (RAll.same s h2)
  | _, _, .lst h1 h2 => .lst (s _ _ h1) (RAll.same s h2)
  | _, _, .dct h1 h2 => .dct (s _ _ h1) (RKv.same s h2)
  | _, _, .obj h1 h2 => .obj (s _ _ h1) (RFs.same s h2)
  | _, _, .exc h1 h2 h3 => .exc (s _ _ h1) (s _ _ h2) (RFs.same s h3)
  | _, _, .dtp h1 h2 h3 => .dtp (s _ _ h1) (fun q hq => SqT.same s (h2 q hq)) h3
theorem RAll.same (s : Same G G') : ∀ {v : List V} {d : List D}, RAll K G v d → RAll K G' v d
  | _, _, .nil => .nil
  | _, _, .cons h1 h2 => .cons (R.same s h1) (RAll.same s h2)
theorem RKv.same (s : Same G G') : ∀ {v : List (Key × V)} {d : List (Key × D)}, RKv K G v d → RKv K G' v d
  | _, _, .nil => .nil
  | _, _, .cons h1 h2 => .cons (R.same s h1) (RKv.same s h2)
theorem RFs.same (s : Same G G') : ∀ {v : List (Str × V)} {d : List (Str × D)}, RFs K G v d → RFs K G' v d
  | _, _, .nil => .nil
  | _, _, .cons h1 h2 => .cons (R.same s h1) (RFs.same s h2)
end
theorem RAll.len : ∀ {vs : List V} {ds : List D}, RAll K G vs ds → vs.length = ds.length
  | _, _, .nil => rfl
  | _, _, .cons _ t => by rw [List.length_cons, List.length_cons, RAll.len t]
theorem RAll.get : ∀ {vs : List V} {ds : List D} {i : Nat} {v : V}, RAll K G vs ds → vs[i]? = some v → ∃ d, ds[i]? = some d ∧ R K G v d
  | _, _, i, _, .nil, e => by simp at e
  | _, _, 0, _, .cons r _, e => by simp at e; subst e; exact ⟨_, by simp, r⟩
  | _, _, i + 1, v, .cons _ t, e => by
    obtain ⟨d, h1, h2⟩ := RAll.get (i := i) (v := v) t (by simpa using e)
    exact ⟨d, by simpa using h1, h2⟩
theorem RAll.getD : ∀ {vs : List V} {ds : List D} {i : Nat} {d : D}, RAll K G vs ds → ds[i]? = some d → ∃ v, vs[i]? = some v ∧ R K G v d
  | _, _, i, _, .nil, e => by simp at e
  | _, _, 0, _, .cons r _, e => by simp at e; subst e; exact ⟨_, by simp, r⟩
  | _, _, i + 1, v, .cons _ t, e => by
    obtain ⟨d, h1, h2⟩ := RAll.getD (i := i) (d := v) t (by simpa using e)
    exact ⟨d, by simpa using h1, h2⟩
theorem RAll.app : ∀ {vs ws : List V} {ds es : List D}, RAll K G vs ds → RAll K G ws es → RAll K G (vs ++ ws) (ds ++ es)
  | _, _, _, _, .nil, t => t
  | _, _, _, _, .cons h r, t => .cons h (RAll.app r t)
theorem RAll.take : ∀ {vs : List V} {ds : List D} (n : Nat), RAll K G vs ds → RAll K G (vs.take n) (ds.take n)
  | _, _, 0, _ => .nil
  | _, _, _ + 1, .nil => .nil
  | _, _, n + 1, .cons h r => .cons h (RAll.take n r)
theorem RAll.drop : ∀ {vs : List V} {ds : List D} (n : Nat), RAll K G vs ds → RAll K G (vs.drop n) (ds.drop n)
  | _, _, 0, r => r
  | _, _, _ + 1, .nil => .nil
  | _, _, n + 1, .cons _ r => RAll.drop n r
theorem RAll.set {v : V} {d : D} (h : R K G v d) : ∀ {vs : List V} {ds : List D} (n : Nat), RAll K G vs ds → RAll K G (vs.set n v) (ds.set n d)
  | _, _, _, .nil => .nil
  | _, _, 0, .cons _ r => .cons h r
  | _, _, n + 1, .cons q r => .cons q (RAll.set h n r)
theorem RAll.erase : ∀ {vs : List V} {ds : List D} (n : Nat), RAll K G vs ds → RAll K G (vs.eraseIdx n) (ds.eraseIdx n)
  | _, _, _, .nil => .nil
  | _, _, 0, .cons _ r => r
  | _, _, n + 1, .cons q r => .cons q (RAll.erase n r)
theorem RAll.rev {vs : List V} {ds : List D} (h : RAll K G vs ds) : RAll K G vs.reverse ds.reverse := by
  induction h using RAll.rec (motive_1 := fun _ _ _ => True) (motive_3 := fun _ _ _ => True) (motive_4 := fun _ _ _ => True) with
  | nil => exact .nil
  | cons a b _ ih => rw [List.reverse_cons, List.reverse_cons]; exact ih.app (.cons a .nil)
  | _ => trivial
/-- scalars: data that the heap does not matter to -/
theorem RAll.vs : ∀ {vs : List V} {xs : List V}, RAll K G vs (xs.map D.v) → vs = xs
  | _, [], h => by cases h; rfl
  | _, x :: xs, h => by
    cases h with
    | cons h1 h2 => cases h1; rw [RAll.vs h2]
theorem RAll.ofV : ∀ {xs : List V}, RAll K G xs (xs.map D.v)
  | [] => .nil
  | x :: xs => .cons (.v x) RAll.ofV
theorem RKv.keys : ∀ {vs : List (Key × V)} {ds : List (Key × D)}, RKv K G vs ds → vs.map (·.1) = ds.map (·.1)
  | _, _, .nil => rfl
  | _, _, .cons _ t => by rw [List.map_cons, List.map_cons, RKv.keys t]
theorem RKv.len {vs : List (Key × V)} {ds : List (Key × D)} (h : RKv K G vs ds) : vs.length = ds.length := by
  have := congrArg List.length h.keys
  simpa using this
end

/-! ### masks -/
abbrev Msk := Addr → Prop
noncomputable def cut (M : Msk) (H : Hp) : Hp := fun a => open Classical in if M a then none else H a
section
variable {M M' : Msk} {H H' : Hp} {a : Addr} {o : HO}
theorem cut_out (h : ¬ M a) : cut M H a = H a := by unfold cut; rw [if_neg h]
theorem cut_in (h : M a) : cut M H a = none := by unfold cut; rw [if_pos h]
theorem of_cut (h : cut M H a = some o) : ¬ M a ∧ H a = some o := by
  by_cases z : M a
  · rw [cut_in z] at h; cases h
  · rw [cut_out z] at h; exact ⟨z, h⟩
theorem cut_le : Same (cut M H) H := fun b o e => (of_cut e).2
theorem cut_mono (h : ∀ a, M' a → M a) : Same (cut M H) (cut M' H) := fun b o e => by
  obtain ⟨n, e⟩ := of_cut e
  rw [cut_out fun z => n (h b z)]
  exact e
theorem cut_step (h : ∀ a o, ¬ M a → H a = some o → H' a = some o) : Same (cut M H) (cut M H') := fun b o e => by
  obtain ⟨n, e⟩ := of_cut e
  rw [cut_out n]
  exact h b o n e
end

/-! ### what an object of one's own holds -/
inductive Cell where
  | lst (xs : List D)
  | dct (kvs : List (Key × D))
  | obj (C : Addr) (fs : List (Str × D))
def Cell.toD : Cell → D
  | .lst xs => .lst xs
  | .dct xs => .dct xs
  | .obj C xs => .obj C xs
def CellR (K : W.Frag) (G H : Hp) (a : Addr) : Cell → Prop
  | .lst xs => ∃ vs, H a = some (.lst vs) ∧ RAll K G vs xs
  | .dct xs => ∃ vs, H a = some (.dK vs) ∧ RKv K G vs xs
  | .obj C xs => ∃ dx vs, H a = some (.ins C dx vs) ∧ RFs K G vs xs
section
variable {K : W.Frag} {G G' H H' : Hp} {a : Addr} {c : Cell}
theorem CellR.move (s : Same G G') (k : ∀ o, H a = some o → H' a = some o) (h : CellR K G H a c) : CellR K G' H' a c := by
  cases c with
  | lst xs => obtain ⟨vs, e, r⟩ := h; exact ⟨vs, k _ e, RAll.same s r⟩
  | dct xs => obtain ⟨vs, e, r⟩ := h; exact ⟨vs, k _ e, RKv.same s r⟩
  | obj C xs => obtain ⟨dx, vs, e, r⟩ := h; exact ⟨dx, vs, k _ e, RFs.same s r⟩
theorem CellR.some (h : CellR K G H a c) : ∃ o, H a = some o := by
  cases c with
  | lst xs => obtain ⟨vs, e, r⟩ := h; exact ⟨_, e⟩
  | dct xs => obtain ⟨vs, e, r⟩ := h; exact ⟨_, e⟩
  | obj C xs => obtain ⟨dx, vs, e, r⟩ := h; exact ⟨_, e⟩
theorem CellR.there (h : CellR K G H a c) : H a ≠ none := by
  obtain ⟨o, e⟩ := h.some
  rw [e]
  exact fun z => by cases z
theorem CellR.strict {m : Msk} (n : ¬ m a) (h : CellR K (cut m H) H a c) : R K (cut m H) (.ref a) c.toD := by
  cases c with
  | lst xs => obtain ⟨vs, e, r⟩ := h; exact .lst (by rw [cut_out n]; exact e) r
  | dct xs => obtain ⟨vs, e, r⟩ := h; exact .dct (by rw [cut_out n]; exact e) r
  | obj C xs => obtain ⟨dx, vs, e, r⟩ := h; exact .obj (by rw [cut_out n]; exact e) r
end
/-! ### a value that is lent: its own object may be masked, what it holds is not -/
def RBo (K : W.Frag) (g o m : Msk) (H : Hp) (v : V) (d : D) : Prop := R K (cut m H) v d ∨ ∃ (a : Addr) (c : Cell), v = .ref a ∧ d = c.toD ∧ (o a ∧ ¬ g a) ∧ CellR K (cut m H) H a c
abbrev RB (K : W.Frag) (g m : Msk) (H : Hp) (v : V) (d : D) : Prop := RBo K g m m H v d
/-- a new object, which nothing else holds -/
def RF (K : W.Frag) (m : Msk) (H0 H : Hp) (v : V) (d : D) : Prop := ∃ (a : Addr) (c : Cell), v = .ref a ∧ d = c.toD ∧ H0 a = none ∧ CellR K (cut (fun b => m b ∨ b = a) H) H a c
/-- lent, strict, new -/
inductive Mo | b | s | f
  deriving DecidableEq
def RR (K : W.Frag) (g : Msk) : Mo → Msk → Hp → Hp → V → D → Prop
  | .b, m, _, H, v, d => RB K g m H v d
  | .s, m, _, H, v, d => R K (cut m H) v d
  | .f, m, H0, H, v, d => RF K m H0 H v d
section
variable {K : W.Frag} {g o m : Msk} {H0 H H' : Hp} {v : V} {d : D}
theorem RBo.sc {x : V} (h : RBo K g o m H v (.v x)) : v = x := by
  rcases h with h | ⟨_, c, _, e, _⟩
  · cases h; rfl
  · cases c <;> cases e
theorem RBo.lst {ds : List D} (h : RBo K g o m H v (.lst ds)) : ∃ a xs, v = .ref a ∧ H a = some (.lst xs) ∧ RAll K (cut m H) xs ds := by
  rcases h with h | ⟨a, c, rfl, e, _, h⟩
  · cases h with
    | lst h1 h2 => exact ⟨_, _, rfl, cut_le _ _ h1, h2⟩
  · cases c with
    | lst xs => cases e; obtain ⟨vs, h1, h2⟩ := h; exact ⟨a, vs, rfl, h1, h2⟩
    | _ => cases e
theorem RBo.tup {ds : List D} (h : RBo K g o m H v (.tup ds)) : ∃ a xs, v = .ref a ∧ SqT K H a xs ∧ RAll K (cut m H) xs ds := by
  rcases h with h | ⟨_, c, _, e, _⟩
  · cases h with
    | tup h1 h2 => exact ⟨_, _, rfl, SqT.same cut_le h1, h2⟩
  · cases c <;> cases e
theorem RBo.dct {ds : List (Key × D)} (h : RBo K g o m H v (.dct ds)) : ∃ a kvs, v = .ref a ∧ H a = some (.dK kvs) ∧ RKv K (cut m H) kvs ds := by
  rcases h with h | ⟨a, c, rfl, e, _, h⟩
  · cases h with
    | dct h1 h2 => exact ⟨_, _, rfl, cut_le _ _ h1, h2⟩
  · cases c with
    | dct xs => cases e; obtain ⟨vs, h1, h2⟩ := h; exact ⟨a, vs, rfl, h1, h2⟩
    | _ => cases e
theorem RBo.obj {C : Addr} {ds : List (Str × D)} (h : RBo K g o m H v (.obj C ds)) : ∃ a dx fs, v = .ref a ∧ H a = some (.ins C dx fs) ∧ RFs K (cut m H) fs ds := by
  rcases h with h | ⟨a, c, rfl, e, _, h⟩
  · cases h with
    | obj h1 h2 => exact ⟨_, _, _, rfl, cut_le _ _ h1, h2⟩
  · cases c with
    | obj C xs => cases e; obtain ⟨dx, vs, h1, h2⟩ := h; exact ⟨a, dx, vs, rfl, h1, h2⟩
    | _ => cases e
theorem RBo.step (hm : ∀ a, g a → m a) (s : ∀ a o, ¬ g a → H a = some o → H' a = some o) (h : RBo K g o m H v d) : RBo K g o m H' v d := by
  have c : Same (cut m H) (cut m H') := cut_step fun a u n e => s a u (fun z => n (hm a z)) e
  rcases h with h | ⟨a, k, e1, e2, n, h⟩
  · exact .inl (R.same c h)
  · exact .inr ⟨a, k, e1, e2, n, h.move c fun u e => s _ _ n.2 e⟩
theorem RBo.mono {o' : Msk} (h : ∀ a, o a → o' a) (r : RBo K g o m H v d) : RBo K g o' m H v d := by
  rcases r with r | ⟨a, k, e1, e2, n, r⟩
  · exact .inl r
  · exact .inr ⟨a, k, e1, e2, ⟨h a n.1, n.2⟩, r⟩
/-- the lent value elsewhere: what stood stands, and what was hidden is hidden -/
theorem RBo.carry {m' : Msk} (c : Same (cut m H) (cut m' H')) (k : ∀ a u, ¬ g a → o a → H a = some u → H' a = some u) (r : RBo K g o m H v d) : RBo K g o m' H' v d := by
  rcases r with r | ⟨a, q, e1, e2, n, r⟩
  · exact .inl (R.same c r)
  · exact .inr ⟨a, q, e1, e2, n, r.move c fun u e => k a u n.2 n.1 e⟩
theorem RF.strict (hm : ∀ a, m a → H0 a ≠ none) (h : RF K m H0 H v d) : R K (cut m H) v d := by
  obtain ⟨a, c, rfl, rfl, n, h⟩ := h
  have na : ¬ m a := fun z => hm a z n
  exact CellR.strict na (h.move (cut_mono fun b z => .inl z) fun _ e => e)
theorem RR.b {mo : Mo} (hm : ∀ a, m a → H0 a ≠ none) (h : RR K g mo m H0 H v d) : RB K g m H v d := by
  cases mo with
  | b => exact h
  | s => exact .inl h
  | f => exact .inl (RF.strict hm h)
theorem RR.from {H00 : Hp} {mo : Mo} (hk : ∀ a, H00 a ≠ none → H0 a ≠ none) (h : RR K g mo m H0 H v d) : RR K g mo m H00 H v d := by
  cases mo with
  | b => exact h
  | s => exact h
  | f =>
    obtain ⟨a, c, e1, e2, n, r⟩ := h
    exact ⟨a, c, e1, e2, Classical.byContradiction fun z => hk a z n, r⟩
end

/-! ### environments -/
inductive Slot where
  | no
  | d (x : D)
  | bor (x : D)
  | own (c : Cell)
abbrev Env := List Slot
def Slot.isOwn : Slot → Bool
  | .own _ => true
  | _ => false
def ownAt (ρ : Env) (i : Nat) : Prop := ∃ sl, ρ[i]? = some sl ∧ sl.isOwn = true
def mask (M : Msk) (α : Nat → Addr) (ρ : Env) : Msk := fun a => M a ∨ ∃ i, ownAt ρ i ∧ α i = a
def SlotR (K : W.Frag) (g o m : Msk) (H : Hp) (a : Addr) (σi : Option (Option V)) : Slot → Prop
  | .no => True
  | .d x => ∃ v, σi = some (some v) ∧ R K (cut m H) v x
  | .bor x => ∃ v, σi = some (some v) ∧ RBo K g o m H v x
  | .own c => σi = some (some (.ref a)) ∧ CellR K (cut m H) H a c
/-- what is kept beside data: its places, and what is true of them -/
structure Fr (S : Type) where
  M : Msk
  st : S → Hp → Prop
  loc : ∀ {s : S} {H H' : Hp}, (∀ a, M a → H' a = H a) → st s H → st s H'
  self : Option Addr := none
structure Ok {S : Type} (Γ : Fr S) (K : W.Frag) (M : Msk) (α : Nat → Addr) (σ : St) (H : Hp) (ρ : Env) : Prop where
  sub : ∀ a, Γ.M a → M a
  trk : ∀ a, M a → H a ≠ none
  out : ∀ i, ownAt ρ i → ¬ M (α i)
  inj : ∀ i j, ownAt ρ i → ownAt ρ j → α i = α j → i = j
  len : σ.length = ρ.length
  slot : ∀ i sl, ρ[i]? = some sl → SlotR K Γ.M M (mask M α ρ) H (α i) σ[i]? sl
  sf : ∀ a, Γ.self = some a → α 0 = a
structure Stp {S : Type} (Γ : Fr S) (H H' : Hp) : Prop where
  keep : ∀ a o, ¬ Γ.M a → H a = some o → H' a = some o
  trk : ∀ a, H a ≠ none → H' a ≠ none
section
variable {S : Type} {Γ : Fr S} {K : W.Frag} {M : Msk} {α : Nat → Addr} {σ : St} {H H' H2 : Hp} {ρ : Env} {s : S} {v : V} {d : D}
theorem Stp.refl : Stp Γ H H := ⟨fun _ _ _ e => e, fun _ e => e⟩
theorem Stp.trans (a : Stp Γ H H') (b : Stp Γ H' H2) : Stp Γ H H2 := ⟨fun c o n e => b.keep c o n (a.keep c o n e), fun c e => b.trk c (a.trk c e)⟩
theorem Stp.of (h : Same H H') : Stp Γ H H' := ⟨fun a o _ e => h a o e, fun a n e => by
  cases q : H a with
  | none => exact n q
  | some o => rw [h a o q] at e; cases e⟩
theorem Fr.same (hM : ∀ a, Γ.M a → H a ≠ none) (h : Same H H') (q : Γ.st s H) : Γ.st s H' := Γ.loc (fun a z => by
  cases e : H a with
  | none => exact absurd e (hM a z)
  | some o => exact h a o e) q
theorem Ok.mtrk (h : Ok Γ K M α σ H ρ) : ∀ a, mask M α ρ a → H a ≠ none := by
  rintro a (z | ⟨i, ⟨sl, e, o⟩, rfl⟩)
  · exact h.trk a z
  · have q := h.slot i sl e
    cases sl with
    | own c => exact q.2.there
    | _ => cases o
theorem Ok.frt (h : Ok Γ K M α σ H ρ) : ∀ a, Γ.M a → H a ≠ none := fun a z => h.trk a (h.sub a z)
theorem Stp.cut {m : Msk} (s : Stp Γ H H') (h : ∀ a, Γ.M a → m a) : Same (cut m H) (cut m H') := cut_step fun a o n e => s.keep a o (fun z => n (h a z)) e
theorem SlotR.step {o m : Msk} {a : Addr} {x : Option (Option V)} {sl : Slot} (s : Stp Γ H H') (hm : ∀ a, Γ.M a → m a) (na : sl.isOwn = true → ¬ Γ.M a) (h : SlotR K Γ.M o m H a x sl) : SlotR K Γ.M o m H' a x sl := by
  have c := s.cut hm
  cases sl with
  | no => trivial
  | d y => obtain ⟨v, e, r⟩ := h; exact ⟨v, e, R.same c r⟩
  | bor y => obtain ⟨v, e, r⟩ := h; exact ⟨v, e, RBo.step hm s.keep r⟩
  | own y => exact ⟨h.1, h.2.move c fun o e => s.keep _ _ (na rfl) e⟩
theorem Ok.msub (h : Ok Γ K M α σ H ρ) : ∀ a, Γ.M a → mask M α ρ a := fun a z => .inl (h.sub a z)
theorem Ok.step (h : Ok Γ K M α σ H ρ) (s : Stp Γ H H') : Ok Γ K M α σ H' ρ :=
  ⟨h.sub, fun a z => s.trk a (h.trk a z), h.out, h.inj, h.len, fun i sl e => SlotR.step s h.msub (fun o z => h.out i ⟨sl, e, o⟩ (h.sub _ z)) (h.slot i sl e), h.sf⟩
end
end L2.DL
/-! Readings over data: what an expression's reading does to trees -/
namespace L2.DL
open L2 L2.My PySem PySem.Spec PyProof.Rows

/-- an own exception: its class, its fields (none where its class has no own __init__) -/
structure Exn where
  C : Addr
  fs : Option (List (Str × D))
def XR (K : W.Frag) (m : Msk) (H : Hp) (c : Value) (dx : Option Addr) (x : Exn) : Prop := c = .ref x.C ∧ match x.fs with
  | none => dx = none
  | some ds => ∃ d fs, dx = some d ∧ ¬ m d ∧ H d = some (.xd fs) ∧ RFs K (cut m H) fs ds
abbrev TX (S : Type) := Env → S → (D → S → Prop) → (Exn → S → Prop) → Prop
abbrev TB (S : Type) := Env → S → (Bool → S → Prop) → (Exn → S → Prop) → Prop
abbrev TL (S : Type) := Env → S → (List D → S → Prop) → (Exn → S → Prop) → Prop
def ARel (K : W.Frag) (g : Msk) : List Mo → Msk → Hp → Hp → List V → List D → Prop
  | [], _, _, _, [], [] => True
  | o :: os, m, H0, H, v :: vs, d :: ds => RR K g o m H0 H v d ∧ ARel K g os m H0 H vs ds
  | _, _, _, _, _, _ => False
def opt {α : Type} (o : Option α) (Q : α → Prop) : Prop := match o with
  | some d => Q d
  | none => False
theorem opt_ex {α : Type} {o : Option α} {Q : α → Prop} (h : opt o Q) : ∃ d, o = some d ∧ Q d := by
  cases o with
  | none => exact h.elim
  | some d => exact ⟨d, rfl, h⟩

section
variable {S : Type}
/-- the link of a reading to data -/
def Ln (Γ : Fr S) (K : W.Frag) (E : XK) (mo : Mo) (t : TE) (T : TX S) : Prop :=
  ∀ {M : Msk} {α : Nat → Addr} {σ : St} {H : Hp} {ρ : Env} {s : S}, Ok Γ K M α σ H ρ → Γ.st s H → ∀ (QD : D → S → Prop) (QX : Exn → S → Prop) (Q : VK), T ρ s QD QX →
    (∀ v H' d s', Stp Γ H H' → Γ.st s' H' → RR K Γ.M mo (mask M α ρ) H H' v d → QD d s' → Q v H') →
    (∀ c dx H' x s', Stp Γ H H' → Γ.st s' H' → XR K (mask M α ρ) H' c dx x → QX x s' → E c dx H') → t σ H Q
def LnT (Γ : Fr S) (K : W.Frag) (E : XK) (t : TT) (T : TB S) : Prop :=
  ∀ {M : Msk} {α : Nat → Addr} {σ : St} {H : Hp} {ρ : Env} {s : S}, Ok Γ K M α σ H ρ → Γ.st s H → ∀ (QD : Bool → S → Prop) (QX : Exn → S → Prop) (Q : Bool → Hp → Prop), T ρ s QD QX →
    (∀ b H' s', Stp Γ H H' → Γ.st s' H' → QD b s' → Q b H') →
    (∀ c dx H' x s', Stp Γ H H' → Γ.st s' H' → XR K (mask M α ρ) H' c dx x → QX x s' → E c dx H') → t σ H Q
def LnA (Γ : Fr S) (K : W.Frag) (E : XK) (os : List Mo) (t : TA) (T : TL S) : Prop :=
  ∀ {M : Msk} {α : Nat → Addr} {σ : St} {H : Hp} {ρ : Env} {s : S}, Ok Γ K M α σ H ρ → Γ.st s H → ∀ (QD : List D → S → Prop) (QX : Exn → S → Prop) (Q : List V → Hp → Prop), T ρ s QD QX →
    (∀ vs H' ds s', Stp Γ H H' → Γ.st s' H' → ARel K Γ.M os (mask M α ρ) H H' vs ds → QD ds s' → Q vs H') →
    (∀ c dx H' x s', Stp Γ H H' → Γ.st s' H' → XR K (mask M α ρ) H' c dx x → QX x s' → E c dx H') → t σ H Q

/-- readings of values: one, two operands, lent; nothing that stands is changed -/
def P1 (K : W.Frag) (mo : Mo) (r : V → Hp → VK → Prop) (f : D → Option D) : Prop :=
  ∀ {g m : Msk} {H : Hp} {v : V} {d e : D} {Q : VK}, (∀ a, m a → H a ≠ none) → RB K g m H v d → f d = some e → (∀ v' H', Same H H' → RR K g mo m H H' v' e → Q v' H') → r v H Q
def P2 (K : W.Frag) (mo : Mo) (r : R2) (f : D → D → Option D) : Prop :=
  ∀ {g m : Msk} {H : Hp} {v u : V} {d c e : D} {Q : VK}, (∀ a, m a → H a ≠ none) → RB K g m H v d → RB K g m H u c → f d c = some e → (∀ v' H', Same H H' → RR K g mo m H H' v' e → Q v' H') → r v u H Q

/-! the readings over data -/
def xVar (mo : Mo) (i : Nat) : TX S := fun ρ s Q _ => match ρ[i]? with
  | some (.d x) => Q x s
  | some (.bor x) => (match mo, x with
    | .b, _ => Q x s
    | _, .v _ => Q x s
    | _, _ => False)
  | some (.own c) => (match mo with
    | .b => Q c.toD s
    | _ => False)
  | _ => False
def xC (d : D) : TX S := fun _ s Q _ => Q d s
def xOp (f : D → D → Option D) (A B : TX S) : TX S := fun ρ s Q X => A ρ s (fun x s1 => B ρ s1 (fun y s2 => opt (f x y) fun d => Q d s2) X) X
def xUn (f : D → Option D) (A : TX S) : TX S := fun ρ s Q X => A ρ s (fun x s1 => opt (f x) fun d => Q d s1) X
def xNil : TL S := fun _ s Q _ => Q [] s
def xCons (A : TX S) (B : TL S) : TL S := fun ρ s Q X => A ρ s (fun x s1 => B ρ s1 (fun xs s2 => Q (x :: xs) s2) X) X
def xTup (A : TL S) : TX S := fun ρ s Q X => A ρ s (fun xs s1 => xs.length ≤ sizeLine ∧ Q (.tup xs) s1) X
def xLst (A : TL S) : TX S := fun ρ s Q X => A ρ s (fun xs s1 => xs.length ≤ sizeLine ∧ Q (.lst xs) s1) X
def asB : D → Option Bool
  | .v (.bl b) => some b
  | _ => none
def xAnd (A B : TX S) : TX S := fun ρ s Q X => A ρ s (fun x s1 => opt (asB x) fun c => if c = true then B ρ s1 Q X else Q (dB false) s1) X
def xOr (A B : TX S) : TX S := fun ρ s Q X => A ρ s (fun x s1 => opt (asB x) fun c => if c = true then Q (dB true) s1 else B ρ s1 Q X) X
def xNot (A : TX S) : TX S := fun ρ s Q X => A ρ s (fun x s1 => opt (asB x) fun c => Q (dB (!c)) s1) X
def xIf (C : TB S) (A B : TX S) : TX S := fun ρ s Q X => C ρ s (fun c s1 => if c = true then A ρ s1 Q X else B ρ s1 Q X) X
def bTest (A : TX S) : TB S := fun ρ s Q X => A ρ s (fun x s1 => opt (asB x) fun c => Q c s1) X
def bAnd (A B : TB S) : TB S := fun ρ s Q X => A ρ s (fun c s1 => if c = true then B ρ s1 Q X else Q false s1) X
def bOr (A B : TB S) : TB S := fun ρ s Q X => A ρ s (fun c s1 => if c = true then Q true s1 else B ρ s1 Q X) X
def bNot (A : TB S) : TB S := fun ρ s Q X => A ρ s (fun c s1 => Q (!c) s1) X
def xChain (f f' : D → D → Option D) (A B C : TX S) : TX S := fun ρ s Q X => A ρ s (fun x s1 => B ρ s1 (fun y s2 => opt (f x y) fun d => opt (asB d) fun c => if c = true then C ρ s2 (fun z s3 => opt (f' y z) fun e => Q e s3) X else Q (dB false) s2) X) X

variable {Γ : Fr S} {K : W.Frag} {E : XK} {mo : Mo} {ta tb tc : TE} {A B C : TX S} {t u : TT} {T U : TB S} {tl : TA} {L : TL S} {os : List Mo}
theorem Ln.weak (h : Ln Γ K E .f ta A) : Ln Γ K E .s ta A := fun ok st QD QX Q q k kx => h ok st QD QX Q q (fun v H' d s' p st' r z => k v H' d s' p st' (RF.strict ok.mtrk r) z) kx
theorem Ln.lend (h : Ln Γ K E .s ta A) : Ln Γ K E .b ta A := fun ok st QD QX Q q k kx => h ok st QD QX Q q (fun v H' d s' p st' r z => k v H' d s' p st' (.inl r) z) kx

theorem ln_var {i : Nat} : Ln Γ K E .s (tVar i) (xVar .s i) := by
  intro M α σ H ρ s ok st QD QX Q q k kx
  unfold xVar at q
  split at q
  · rename_i x e
    obtain ⟨v, e1, r⟩ := ok.slot i _ e
    exact ⟨v, e1, k v H x s .refl st r q⟩
  · rename_i x e
    obtain ⟨v, e1, r⟩ := ok.slot i _ e
    split at q
    · rename_i z; cases z
    · rename_i y z
      obtain rfl := RBo.sc r
      exact ⟨_, e1, k _ H _ s .refl st (.v _) q⟩
    · exact q.elim
  · exact q.elim
  · exact q.elim
theorem ln_varb {i : Nat} : Ln Γ K E .b (tVar i) (xVar .b i) := by
  intro M α σ H ρ s ok st QD QX Q q k kx
  unfold xVar at q
  split at q
  · rename_i x e
    obtain ⟨v, e1, r⟩ := ok.slot i _ e
    exact ⟨v, e1, k v H x s .refl st (.inl r) q⟩
  · rename_i x e
    obtain ⟨v, e1, r⟩ := ok.slot i _ e
    exact ⟨v, e1, k v H x s .refl st (r.mono fun a z => .inl z) q⟩
  · rename_i c e
    obtain ⟨e1, r⟩ := ok.slot i _ e
    exact ⟨_, e1, k _ H _ s .refl st (.inr ⟨_, c, rfl, rfl, ⟨.inr ⟨i, ⟨_, e, rfl⟩, rfl⟩, fun z => ok.out i ⟨_, e, rfl⟩ (ok.sub _ z)⟩, r⟩) q⟩
  · exact q.elim
theorem ln_c {v : V} : Ln Γ K E .s (tC v) (xC (.v v)) := fun {_ _ _ H _ s} _ st _ _ _ q k _ => k v H _ s .refl st (.v v) q
theorem ln_op {r : R2} {f : D → D → Option D} (ha : Ln Γ K E .b ta A) (hb : Ln Γ K E .b tb B) (hr : P2 K mo r f) : Ln Γ K E mo (tOp r ta tb) (xOp f A B) := by
  intro M α σ H ρ s ok st QD QX Q q k kx
  refine ha ok st _ QX _ q (fun vx H1 x s1 p1 st1 rx q1 => ?_) kx
  refine hb (ok.step p1) st1 _ QX _ q1 (fun vy H2 y s2 p2 st2 ry q2 => ?_) (fun c dx H' x s' p st' r z => kx c dx H' x s' (p1.trans p) st' r z)
  obtain ⟨d, e, q3⟩ := opt_ex q2
  have p := p1.trans p2
  have ok2 := ok.step p
  exact hr ok2.mtrk (RBo.step ok.msub p2.keep rx) ry e fun v' H' sm r' => k v' H' d s2 (p.trans (Stp.of sm)) (Fr.same ok2.frt sm st2) (r'.from p.trk) q3
theorem ln_un {r : V → Hp → VK → Prop} {f : D → Option D} (ha : Ln Γ K E .b ta A) (hr : P1 K mo r f) : Ln Γ K E mo (tUn r ta) (xUn f A) := by
  intro M α σ H ρ s ok st QD QX Q q k kx
  refine ha ok st _ QX _ q (fun vx H1 x s1 p1 st1 rx q1 => ?_) kx
  obtain ⟨d, e, q3⟩ := opt_ex q1
  have ok2 := ok.step p1
  exact hr ok2.mtrk rx e fun v' H' sm r' => k v' H' d s1 (p1.trans (Stp.of sm)) (Fr.same ok2.frt sm st1) (r'.from p1.trk) q3
/-- a built-in of one, two arguments -/
theorem ln_cb1 {r : List V → Hp → VK → Prop} {f : D → Option D} (ha : Ln Γ K E .b ta A) (hr : P1 K mo (fun v => r [v]) f) : Ln Γ K E mo (tCB r (tCons ta tNil)) (xUn f A) := fun ok st QD QX Q q k kx => ln_un (r := fun v => r [v]) ha hr ok st QD QX Q q k kx
theorem ln_cb2 {r : List V → Hp → VK → Prop} {f : D → D → Option D} (ha : Ln Γ K E .b ta A) (hb : Ln Γ K E .b tb B) (hr : P2 K mo (fun v u => r [v, u]) f) : Ln Γ K E mo (tCB r (tCons ta (tCons tb tNil))) (xOp f A B) := fun ok st QD QX Q q k kx => ln_op (r := fun v u => r [v, u]) ha hb hr ok st QD QX Q q k kx

theorem ln_nil : LnA Γ K E [] tNil xNil := fun {_ _ _ H _ s} _ st _ _ _ q k _ => k [] H [] s .refl st trivial q
theorem ARel.step {g m : Msk} {H0 H H' : Hp} (hm : ∀ a, g a → m a) (st : ∀ a o, ¬ g a → H a = some o → H' a = some o) : ∀ {os : List Mo} {vs : List V} {ds : List D}, (∀ o ∈ os, o ≠ .f) → ARel K g os m H0 H vs ds → ARel K g os m H0 H' vs ds
  | [], [], [], _, _ => trivial
  | o :: os, v :: vs, d :: ds, ho, ⟨h, t⟩ => by
    refine ⟨?_, ARel.step hm st (fun o z => ho o (List.mem_cons_of_mem _ z)) t⟩
    cases o with
    | b => exact RBo.step hm st h
    | s => exact R.same (cut_step fun a o n e => st a o (fun z => n (hm a z)) e) h
    | f => exact absurd rfl (ho .f List.mem_cons_self)
theorem ARel.from {g m : Msk} {H00 H0 H : Hp} : ∀ {os : List Mo} {vs : List V} {ds : List D}, (∀ o ∈ os, o ≠ .f) → ARel K g os m H0 H vs ds → ARel K g os m H00 H vs ds
  | [], [], [], _, _ => trivial
  | o :: os, v :: vs, d :: ds, ho, ⟨h, t⟩ => by
    refine ⟨?_, ARel.from (fun o z => ho o (List.mem_cons_of_mem _ z)) t⟩
    cases o with
    | b => exact h
    | s => exact h
    | f => exact absurd rfl (ho .f List.mem_cons_self)
theorem ln_cons (ho : (mo :: os).all (fun o => match o with | .f => false | _ => true) = true) (ha : Ln Γ K E mo ta A) (hb : LnA Γ K E os tl L) : LnA Γ K E (mo :: os) (tCons ta tl) (xCons A L) := by
  have hno : ∀ o ∈ (mo :: os), o ≠ Mo.f := fun o z e => by
    have := List.all_eq_true.mp ho o z
    rw [e] at this
    cases this
  intro M α σ H ρ s ok st QD QX Q q k kx
  refine ha ok st _ QX _ q (fun vx H1 x s1 p1 st1 rx q1 => ?_) kx
  refine hb (ok.step p1) st1 _ QX _ q1 (fun vs H2 ds s2 p2 st2 ry q2 => ?_) (fun c dx H' x s' p st' r z => kx c dx H' x s' (p1.trans p) st' r z)
  have one : ARel K Γ.M [mo] (mask M α ρ) H H1 [vx] [x] := ⟨rx, trivial⟩
  have one' := ARel.step ok.msub p2.keep (fun o z => hno o (by have e : o = mo := (by simpa using z); subst e; exact List.mem_cons_self)) one
  exact k _ H2 (x :: ds) s2 (p1.trans p2) st2 ⟨one'.1, ARel.from (fun o z => hno o (List.mem_cons_of_mem _ z)) ry⟩ q2
theorem ARel.strict {g m : Msk} {H0 H : Hp} : ∀ {os : List Mo} {vs : List V} {ds : List D}, (∀ o ∈ os, o = .s) → ARel K g os m H0 H vs ds → RAll K (cut m H) vs ds
  | [], [], [], _, _ => .nil
  | o :: os, v :: vs, d :: ds, ho, ⟨h, t⟩ => by
    have e := ho o List.mem_cons_self
    subst e
    exact .cons h (ARel.strict (fun o z => ho o (List.mem_cons_of_mem _ z)) t)
/-- an object is laid: a tuple, a list -/
theorem lay_tup {m : Msk} {H : Hp} {p : Addr} {vs : List V} {ds : List D} (hm : ∀ a, m a → H a ≠ none) (hp : H p = none) (h : RAll K (cut m H) vs ds) : R K (cut m (upd H p (.tup vs))) (.ref p) (.tup ds) :=
  .tup (.inl (.inl (by rw [cut_out fun z => hm p z hp, upd_same]))) (RAll.same (cut_step fun a o _ e => same_upd hp a o e) h)
theorem lay_lst {m : Msk} {H : Hp} {p : Addr} {vs : List V} {ds : List D} (hm : ∀ a, m a → H a ≠ none) (hp : H p = none) (h : RAll K (cut m H) vs ds) : RF K m H (upd H p (.lst vs)) (.ref p) (.lst ds) := by
  refine ⟨p, .lst ds, rfl, rfl, hp, vs, upd_same, RAll.same (fun b o e => ?_) h⟩
  obtain ⟨n, e⟩ := of_cut e
  have ne := ne_of_none e hp
  rw [cut_out fun z => z.elim n ne, upd_ne ne]
  exact e
theorem ln_tup (ho : os.all (fun o => match o with | .s => true | _ => false) = true) (h : LnA Γ K E os tl L) : Ln Γ K E .s (tTup tl) (xTup L) := by
  have hno : ∀ o ∈ os, o = Mo.s := fun o z => by
    have := List.all_eq_true.mp ho o z
    cases o with
    | s => rfl
    | b => cases this
    | f => cases this
  intro M α σ H ρ s ok st QD QX Q q k kx
  refine h ok st _ QX _ q (fun vs H1 ds s1 p1 st1 r ⟨le, q1⟩ => ?_) kx
  have ra := ARel.strict hno r
  refine ⟨by rw [RAll.len ra]; exact le, fun p hp => ?_⟩
  have ok1 := ok.step p1
  have sm := same_upd (o := .tup vs) hp
  exact k _ _ _ s1 (p1.trans (Stp.of sm)) (Fr.same ok1.frt sm st1) (lay_tup ok1.mtrk hp ra) q1
theorem ln_lst (ho : os.all (fun o => match o with | .s => true | _ => false) = true) (h : LnA Γ K E os tl L) : Ln Γ K E .f (tLst tl) (xLst L) := by
  have hno : ∀ o ∈ os, o = Mo.s := fun o z => by
    have := List.all_eq_true.mp ho o z
    cases o with
    | s => rfl
    | b => cases this
    | f => cases this
  intro M α σ H ρ s ok st QD QX Q q k kx
  refine h ok st _ QX _ q (fun vs H1 ds s1 p1 st1 r ⟨le, q1⟩ => ?_) kx
  have ra := ARel.strict hno r
  refine ⟨by rw [RAll.len ra]; exact le, fun p hp => ?_⟩
  have ok1 := ok.step p1
  have sm := same_upd (o := .lst vs) hp
  exact k _ _ _ s1 (p1.trans (Stp.of sm)) (Fr.same ok1.frt sm st1) (RR.from (mo := .f) (g := Γ.M) p1.trk (lay_lst ok1.mtrk hp ra)) q1
theorem asB_sc {g m : Msk} {H : Hp} {v : V} {d : D} {c : Bool} (r : RB K g m H v d) (e : asB d = some c) : v = .bl c := by
  unfold asB at e
  split at e
  · cases e; exact RBo.sc r
  · cases e
theorem ln_and (ha : Ln Γ K E .b ta A) (hb : Ln Γ K E .b tb B) : Ln Γ K E .b (tAndV ta tb) (xAnd A B) := by
  intro M α σ H ρ s ok st QD QX Q q k kx
  refine ha ok st _ QX _ q (fun vx H1 x s1 p1 st1 rx q1 => ?_) kx
  obtain ⟨c, e, q2⟩ := opt_ex q1
  obtain rfl := asB_sc rx e
  refine ⟨c, rfl, ?_⟩
  cases c with
  | true =>
    rw [if_pos rfl] at q2 ⊢
    exact hb (ok.step p1) st1 QD QX _ q2 (fun v H' d s' p st' r z => k v H' d s' (p1.trans p) st' r z) (fun c dx H' x s' p st' r z => kx c dx H' x s' (p1.trans p) st' r z)
  | false =>
    rw [if_neg (by decide)] at q2 ⊢
    exact k _ H1 _ s1 p1 st1 (.inl (.v _)) q2
theorem ln_or (ha : Ln Γ K E .b ta A) (hb : Ln Γ K E .b tb B) : Ln Γ K E .b (tOrV ta tb) (xOr A B) := by
  intro M α σ H ρ s ok st QD QX Q q k kx
  refine ha ok st _ QX _ q (fun vx H1 x s1 p1 st1 rx q1 => ?_) kx
  obtain ⟨c, e, q2⟩ := opt_ex q1
  obtain rfl := asB_sc rx e
  refine ⟨c, rfl, ?_⟩
  cases c with
  | true =>
    rw [if_pos rfl] at q2 ⊢
    exact k _ H1 _ s1 p1 st1 (.inl (.v _)) q2
  | false =>
    rw [if_neg (by decide)] at q2 ⊢
    exact hb (ok.step p1) st1 QD QX _ q2 (fun v H' d s' p st' r z => k v H' d s' (p1.trans p) st' r z) (fun c dx H' x s' p st' r z => kx c dx H' x s' (p1.trans p) st' r z)
theorem ln_not (ha : Ln Γ K E .b ta A) : Ln Γ K E .s (tNotV ta) (xNot A) := by
  intro M α σ H ρ s ok st QD QX Q q k kx
  refine ha ok st _ QX _ q (fun vx H1 x s1 p1 st1 rx q1 => ?_) kx
  obtain ⟨c, e, q2⟩ := opt_ex q1
  obtain rfl := asB_sc rx e
  exact ⟨c, rfl, k _ H1 _ s1 p1 st1 (.v _) q2⟩
theorem ln_if (hc : LnT Γ K E t T) (ha : Ln Γ K E mo ta A) (hb : Ln Γ K E mo tb B) : Ln Γ K E mo (tIf t ta tb) (xIf T A B) := by
  intro M α σ H ρ s ok st QD QX Q q k kx
  refine hc ok st _ QX _ q (fun c H1 s1 p1 st1 q1 => ?_) kx
  cases c with
  | true =>
    rw [if_pos rfl] at q1 ⊢
    exact ha (ok.step p1) st1 QD QX _ q1 (fun v H' d s' p st' r z => k v H' d s' (p1.trans p) st' (r.from p1.trk) z) (fun c dx H' x s' p st' r z => kx c dx H' x s' (p1.trans p) st' r z)
  | false =>
    rw [if_neg (by decide)] at q1 ⊢
    exact hb (ok.step p1) st1 QD QX _ q1 (fun v H' d s' p st' r z => k v H' d s' (p1.trans p) st' (r.from p1.trk) z) (fun c dx H' x s' p st' r z => kx c dx H' x s' (p1.trans p) st' r z)
/-! tests -/
theorem lt_val (ha : Ln Γ K E .b ta A) : LnT Γ K E (tB ta) (bTest A) := by
  intro M α σ H ρ s ok st QD QX Q q k kx
  refine ha ok st _ QX _ q (fun vx H1 x s1 p1 st1 rx q1 => ?_) kx
  obtain ⟨c, e, q2⟩ := opt_ex q1
  obtain rfl := asB_sc rx e
  exact ⟨c, rfl, k _ H1 s1 p1 st1 q2⟩
theorem lt_test (ha : Ln Γ K E .b ta A) : LnT Γ K E (tTest ta) (bTest A) := by
  intro M α σ H ρ s ok st QD QX Q q k kx
  refine ha ok st _ QX _ q (fun vx H1 x s1 p1 st1 rx q1 => ?_) kx
  obtain ⟨c, e, q2⟩ := opt_ex q1
  obtain rfl := asB_sc rx e
  exact ⟨c, rfl, k _ H1 s1 p1 st1 q2⟩
theorem lt_not (ha : LnT Γ K E t T) : LnT Γ K E (tNot t) (bNot T) := fun ok st QD QX Q q k kx => ha ok st _ QX _ q (fun c H1 s1 p1 st1 q1 => k _ H1 s1 p1 st1 q1) kx
theorem lt_and (ha : LnT Γ K E t T) (hb : LnT Γ K E u U) : LnT Γ K E (tAnd t u) (bAnd T U) := by
  intro M α σ H ρ s ok st QD QX Q q k kx
  refine ha ok st _ QX _ q (fun c H1 s1 p1 st1 q1 => ?_) kx
  cases c with
  | true =>
    rw [if_pos rfl] at q1 ⊢
    exact hb (ok.step p1) st1 QD QX _ q1 (fun v H' s' p st' z => k v H' s' (p1.trans p) st' z) (fun c dx H' x s' p st' r z => kx c dx H' x s' (p1.trans p) st' r z)
  | false =>
    rw [if_neg (by decide)] at q1 ⊢
    exact k _ H1 s1 p1 st1 q1
theorem lt_or (ha : LnT Γ K E t T) (hb : LnT Γ K E u U) : LnT Γ K E (tOr t u) (bOr T U) := by
  intro M α σ H ρ s ok st QD QX Q q k kx
  refine ha ok st _ QX _ q (fun c H1 s1 p1 st1 q1 => ?_) kx
  cases c with
  | true =>
    rw [if_pos rfl] at q1 ⊢
    exact k _ H1 s1 p1 st1 q1
  | false =>
    rw [if_neg (by decide)] at q1 ⊢
    exact hb (ok.step p1) st1 QD QX _ q1 (fun v H' s' p st' z => k v H' s' (p1.trans p) st' z) (fun c dx H' x s' p st' r z => kx c dx H' x s' (p1.trans p) st' r z)
theorem ln_chain {r r' : R2} {f f' : D → D → Option D} (ha : Ln Γ K E .b ta A) (hb : Ln Γ K E .b tb B) (hc : Ln Γ K E .b tc C) (hr : P2 K .b r f) (hr' : P2 K mo r' f') (hmo : mo ≠ .f) : Ln Γ K E mo (tChain r r' ta tb tc) (xChain f f' A B C) := by
  intro M α σ H ρ s ok st QD QX Q q k kx
  refine ha ok st _ QX _ q (fun vx H1 x s1 p1 st1 rx q1 => ?_) kx
  refine hb (ok.step p1) st1 _ QX _ q1 (fun vy H2 y s2 p2 st2 ry q2 => ?_) (fun c dx H' x s' p st' r z => kx c dx H' x s' (p1.trans p) st' r z)
  obtain ⟨d, e, q3⟩ := opt_ex q2
  obtain ⟨c, e2, q4⟩ := opt_ex q3
  have p := p1.trans p2
  have ok2 := ok.step p
  refine hr ok2.mtrk (RBo.step ok.msub p2.keep rx) ry e fun v' H3 sm r' => ?_
  obtain rfl := asB_sc r' e2
  have p3 := p.trans (Stp.of (Γ := Γ) sm)
  have st3 := Fr.same ok2.frt sm st2
  refine ⟨c, rfl, ?_⟩
  cases c with
  | true =>
    rw [if_pos rfl] at q4 ⊢
    refine hc (ok.step p3) st3 _ QX _ q4 (fun vz H4 z s4 p4 st4 rz q5 => ?_) (fun c dx H' x s' p st' r z => kx c dx H' x s' (p3.trans p) st' r z)
    obtain ⟨d', e', q6⟩ := opt_ex q5
    have p5 := p3.trans p4
    have ok4 := ok.step p5
    exact hr' ok4.mtrk (RBo.step ok.msub p4.keep (RBo.step ok.msub (fun a o _ z => sm a o z) ry)) rz e' fun v' H' sm' r'' => k v' H' d' s4 (p5.trans (Stp.of sm')) (Fr.same ok4.frt sm' st4) (r''.from p5.trk) q6
  | false =>
    rw [if_neg (by decide)] at q4 ⊢
    refine k _ H3 _ s2 p3 st3 ?_ q4
    cases mo with
    | b => exact .inl (.v _)
    | s => exact .v _
    | f => exact absurd rfl hmo
end
end L2.DL
/-! Statements' readings over data; what a def promises of data -/
namespace L2.DL
open L2 L2.My PySem PySem.Spec PyProof.Rows

section
variable {S : Type} {Γ : Fr S} {K : W.Frag} {M : Msk} {α : Nat → Addr} {σ : St} {H H' H1 H2 : Hp} {ρ : Env} {s : S} {v : V} {d : D}
def wmask (Γ : Fr S) (α : Nat → Addr) (ρ : Env) : Msk := fun a => Γ.M a ∨ ∃ i, ownAt ρ i ∧ α i = a
abbrev Keep (w : Msk) (H H' : Hp) : Prop := ∀ a o, ¬ w a → H a = some o → H' a = some o
structure StS (w w' : Msk) (H H' : Hp) : Prop where
  keep : Keep w H H'
  new : ∀ a, w' a → w a ∨ H a = none
  trk : ∀ a, H a ≠ none → H' a ≠ none
theorem StS.trans {w w1 w2 : Msk} (a : StS w w1 H H1) (b : StS w1 w2 H1 H2) : StS w w2 H H2 := by
  refine ⟨fun c o n e => b.keep c o (fun z => ?_) (a.keep c o n e), fun c z => ?_, fun c e => b.trk c (a.trk c e)⟩
  · rcases a.new c z with z | z
    · exact n z
    · rw [z] at e; cases e
  · rcases b.new c z with z | z
    · exact a.new c z
    · exact .inr (Classical.byContradiction fun q => a.trk c q z)
theorem StS.of {w w' : Msk} (h : ∀ a, w' a → w a) (st : Stp Γ H H') (hg : ∀ a, Γ.M a → w a) : StS w w' H H' := ⟨fun a o n e => st.keep a o (fun z => n (hg a z)) e, fun a z => .inl (h a z), st.trk⟩
theorem own_set {i j : Nat} {sl : Slot} (h : ownAt (ρ.set i sl) j) : (j = i ∧ sl.isOwn = true) ∨ (j ≠ i ∧ ownAt ρ j) := by
  obtain ⟨u, e, o⟩ := h
  by_cases z : j = i
  · subst z
    by_cases l : j < ρ.length
    · rw [List.getElem?_set_self l] at e
      cases e
      exact .inl ⟨rfl, o⟩
    · rw [List.getElem?_eq_none (by simpa using Nat.le_of_not_lt l)] at e
      cases e
  · rw [List.getElem?_set_ne (Ne.symm z)] at e
    exact .inr ⟨z, u, e, o⟩
theorem Ok.put {i : Nat} {x : Option V} {sl : Slot} {a : Addr} {α' : Nat → Addr} (ok : Ok Γ K M α σ H ρ) (hα : α' = fun j => if j = i then a else α j) (hz : a = α i ∨ i ≠ 0) (trk : ∀ b, H b ≠ none → H' b ≠ none)
    (c : Same (cut (mask M α ρ) H) (cut (mask M α' (ρ.set i sl)) H')) (k : ∀ b o, ¬ Γ.M b → (M b ∨ ∃ j, j ≠ i ∧ ownAt ρ j ∧ α j = b) → H b = some o → H' b = some o)
    (out : sl.isOwn = true → ¬ M a ∧ ∀ j, j ≠ i → ownAt ρ j → α j ≠ a) (new : i < ρ.length → SlotR K Γ.M M (mask M α' (ρ.set i sl)) H' a (some x) sl) : Ok Γ K M α' (σ.set i x) H' (ρ.set i sl) := by
  have ai : α' i = a := by rw [hα]; simp
  have aj : ∀ j, j ≠ i → α' j = α j := fun j n => by rw [hα]; simp [n]
  refine ⟨ok.sub, fun b z => trk b (ok.trk b z), fun j hj => ?_, fun j l hj hl e => ?_, by rw [List.length_set, List.length_set]; exact ok.len, fun j u e => ?_, fun b z => by
    rcases hz with hz | hz
    · rw [← ok.sf b z, hα]
      by_cases q : 0 = i
      · simp [q, hz]
      · simp [q]
    · rw [← ok.sf b z, hα]
      simp [Ne.symm hz]⟩
  · rcases own_set hj with ⟨rfl, o⟩ | ⟨n, o⟩
    · rw [ai]; exact (out o).1
    · rw [aj j n]; exact ok.out j o
  · rcases own_set hj with ⟨rfl, o⟩ | ⟨n, o⟩
    · rcases own_set hl with ⟨rfl, o'⟩ | ⟨n', o'⟩
      · rfl
      · rw [ai, aj l n'] at e
        exact absurd e.symm ((out o).2 l n' o')
    · rcases own_set hl with ⟨rfl, o'⟩ | ⟨n', o'⟩
      · rw [ai, aj j n] at e
        exact absurd e ((out o').2 j n o)
      · rw [aj j n, aj l n'] at e
        exact ok.inj j l o o' e
  · by_cases z : j = i
    · subst z
      by_cases l : j < ρ.length
      · rw [List.getElem?_set_self l] at e
        cases e
        rw [ai, List.getElem?_set_self (by rw [ok.len]; exact l)]
        exact new l
      · rw [List.getElem?_eq_none (by simpa using Nat.le_of_not_lt l)] at e
        cases e
    · rw [List.getElem?_set_ne (Ne.symm z)] at e
      rw [aj j z, List.getElem?_set_ne (Ne.symm z)]
      have q := ok.slot j u e
      cases u with
      | no => trivial
      | d y => obtain ⟨v, e1, r⟩ := q; exact ⟨v, e1, R.same c r⟩
      | bor y =>
        obtain ⟨v, e1, r⟩ := q
        exact ⟨v, e1, RBo.carry c (fun b u n o e => k b u n (.inl o) e) r⟩
      | own y =>
        have oj : ownAt ρ j := ⟨_, e, rfl⟩
        exact ⟨q.1, q.2.move c fun o e => k _ _ (fun z => ok.out j oj (ok.sub _ z)) (.inr ⟨j, z, oj, rfl⟩) e⟩
theorem mask_set_sub {i : Nat} {sl : Slot} (h : sl.isOwn = false) : ∀ a, mask M α (ρ.set i sl) a → mask M α ρ a := by
  rintro a (z | ⟨j, o, rfl⟩)
  · exact .inl z
  · rcases own_set o with ⟨_, o'⟩ | ⟨n, o⟩
    · rw [h] at o'; cases o'
    · exact .inr ⟨j, o, rfl⟩
theorem wmask_set_sub {i : Nat} {sl : Slot} (h : sl.isOwn = false) : ∀ a, wmask Γ α (ρ.set i sl) a → wmask Γ α ρ a := by
  rintro a (z | ⟨j, o, rfl⟩)
  · exact .inl z
  · rcases own_set o with ⟨_, o'⟩ | ⟨n, o⟩
    · rw [h] at o'; cases o'
    · exact .inr ⟨j, o, rfl⟩
theorem self_upd {i : Nat} : α = fun j => if j = i then α i else α j := by
  funext j
  by_cases h : j = i
  · simp [h]
  · simp [h]
theorem Ok.setD {i : Nat} (ok : Ok Γ K M α σ H ρ) (r : R K (cut (mask M α ρ) H) v d) : Ok Γ K M α (σ.set i (some v)) H (ρ.set i (.d d)) :=
  ok.put (a := α i) self_upd (.inl rfl) (fun _ z => z) (cut_mono (mask_set_sub rfl)) (fun _ _ _ _ e => e) (fun z => by cases z) fun _ => ⟨v, rfl, R.same (cut_mono (mask_set_sub rfl)) r⟩
/-- slots are forgotten -/
theorem Ok.forget {ρ' : Env} (ok : Ok Γ K M α σ H ρ) (hl : ρ'.length = ρ.length) (h : ∀ (j : Nat) (sl : Slot), ρ'[j]? = some sl → sl = Slot.no ∨ ρ[j]? = some sl) : Ok Γ K M α σ H ρ' ∧ (∀ a, mask M α ρ' a → mask M α ρ a) ∧ (∀ a, wmask Γ α ρ' a → wmask Γ α ρ a) := by
  have own : ∀ j, ownAt ρ' j → ownAt ρ j := fun j ⟨sl, e, o⟩ => by
    rcases h j sl e with rfl | e'
    · cases o
    · exact ⟨sl, e', o⟩
  have mm : ∀ a, mask M α ρ' a → mask M α ρ a := fun a z => z.imp id fun ⟨j, o, e⟩ => ⟨j, own j o, e⟩
  refine ⟨⟨ok.sub, ok.trk, fun i o => ok.out i (own i o), fun i j a b => ok.inj i j (own i a) (own j b), by rw [hl]; exact ok.len, fun j sl e => ?_, ok.sf⟩, mm, fun a z => z.imp id fun ⟨j, o, e⟩ => ⟨j, own j o, e⟩⟩
  rcases h j sl e with rfl | e'
  · trivial
  · have q := ok.slot j sl e'
    have c : Same (cut (mask M α ρ) H) (cut (mask M α ρ') H) := cut_mono mm
    cases sl with
    | no => trivial
    | d y => obtain ⟨v, e1, r⟩ := q; exact ⟨v, e1, R.same c r⟩
    | bor y =>
      obtain ⟨v, e1, r⟩ := q
      exact ⟨v, e1, RBo.carry c (fun _ _ _ _ e => e) r⟩
    | own y => exact ⟨q.1, q.2.move c fun _ e => e⟩
/-- what was one's own is frozen -/
def frz (ρ : Env) : Env := ρ.map fun
  | .own c => .d c.toD
  | sl => sl
theorem Ok.frz (ok : Ok Γ K M α σ H ρ) : Ok Γ K M α σ H (frz ρ) ∧ ∀ j, ¬ ownAt (DL.frz ρ) j := by
  have no : ∀ j, ¬ ownAt (DL.frz ρ) j := by
    rintro j ⟨sl, e, o⟩
    unfold DL.frz at e
    rw [List.getElem?_map] at e
    cases q : ρ[j]? with
    | none => rw [q] at e; cases e
    | some u =>
      rw [q] at e
      cases e
      cases u <;> cases o
  have mm : ∀ a, mask M α (DL.frz ρ) a → mask M α ρ a := by
    rintro a (z | ⟨j, o, _⟩)
    · exact .inl z
    · exact absurd o (no j)
  refine ⟨⟨ok.sub, ok.trk, fun i o => absurd o (no i), fun i j a b => absurd a (no i), by unfold DL.frz; rw [List.length_map]; exact ok.len, fun j sl e => ?_, ok.sf⟩, no⟩
  have c : Same (cut (mask M α ρ) H) (cut (mask M α (DL.frz ρ)) H) := cut_mono mm
  unfold DL.frz at e
  rw [List.getElem?_map] at e
  cases q : ρ[j]? with
  | none => rw [q] at e; cases e
  | some u =>
    rw [q] at e
    have sl' := ok.slot j u q
    cases u with
    | no => cases e; trivial
    | d y => cases e; obtain ⟨v, e1, r⟩ := sl'; exact ⟨v, e1, R.same c r⟩
    | bor y =>
      cases e
      obtain ⟨v, e1, r⟩ := sl'
      exact ⟨v, e1, RBo.carry c (fun _ _ _ _ e => e) r⟩
    | own y =>
      cases e
      have na : ¬ mask M α (DL.frz ρ) (α j) := fun z => z.elim (ok.out j ⟨_, q, rfl⟩) fun ⟨i, o, _⟩ => no i o
      exact ⟨_, sl'.1, CellR.strict na (sl'.2.move c fun _ e => e)⟩
end

/-! ### what is wanted behind a statement -/
structure Post (S : Type) where
  nx : Env → S → Prop
  rt : D → S → Prop
  bk : Env → S → Prop := fun _ _ => False
  ct : Env → S → Prop := fun _ _ => False
  ex : Exn → S → Prop := fun _ _ => False
abbrev TP (S : Type) := Env → S → Post S → Prop
section
variable {S : Type}
def LnS (Γ : Fr S) (K : W.Frag) (E : XK) (t : TS) (T : TP S) : Prop :=
  ∀ {M : Msk} {α : Nat → Addr} {σ : St} {H : Hp} {ρ : Env} {s : S}, Ok Γ K M α σ H ρ → Γ.st s H → ∀ (P : Post S) (Dn : Ends), T ρ s P →
    (∀ σ' H' ρ' s' α', Ok Γ K M α' σ' H' ρ' → Γ.st s' H' → StS (wmask Γ α ρ) (wmask Γ α' ρ') H H' → P.nx ρ' s' → Dn.nx σ' H') →
    (∀ σ' H' ρ' s' α', Ok Γ K M α' σ' H' ρ' → Γ.st s' H' → StS (wmask Γ α ρ) (wmask Γ α' ρ') H H' → P.bk ρ' s' → Dn.bk σ' H') →
    (∀ σ' H' ρ' s' α', Ok Γ K M α' σ' H' ρ' → Γ.st s' H' → StS (wmask Γ α ρ) (wmask Γ α' ρ') H H' → P.ct ρ' s' → Dn.ct σ' H') →
    (∀ v H' d s', StS (wmask Γ α ρ) (fun _ => False) H H' → Γ.st s' H' → R K (cut M H') v d → P.rt d s' → Dn.rt v H') →
    (∀ c dx H' x s', StS (wmask Γ α ρ) (fun _ => False) H H' → Γ.st s' H' → XR K M H' c dx x → P.ex x s' → E c dx H') → t Dn σ H
variable {Γ : Fr S} {K : W.Frag} {E : XK} {mo : Mo} {ta tb tc : TE} {A B C : TX S} {t u : TS} {T U : TP S} {tt : TT} {TT' : TB S}
theorem XR.mono {m m' : Msk} {H : Hp} {c : Value} {dx : Option Addr} {x : Exn} (h : ∀ a, m' a → m a) (r : XR K m H c dx x) : XR K m' H c dx x := by
  obtain ⟨e, r⟩ := r
  refine ⟨e, ?_⟩
  cases q : x.fs with
  | none => rw [q] at r; exact r
  | some ds =>
    rw [q] at r
    obtain ⟨d, fs, e1, n, h1, h2⟩ := r
    exact ⟨d, fs, e1, fun z => n (h d z), h1, RFs.same (cut_mono h) h2⟩
theorem stS_stp {α : Nat → Addr} {ρ : Env} {H H' : Hp} (h : Stp Γ H H') : StS (wmask Γ α ρ) (wmask Γ α ρ) H H' := .of (fun _ z => z) h fun _ z => .inl z
theorem stS_end {α : Nat → Addr} {ρ : Env} {H H' : Hp} (h : Stp Γ H H') : StS (wmask Γ α ρ) (fun _ => False) H H' := .of (fun _ z => z.elim) h fun _ z => .inl z
def pNext : TP S := fun ρ s P => P.nx ρ s
def pSeq (T U : TP S) : TP S := fun ρ s P => T ρ s { P with nx := fun ρ' s' => U ρ' s' P }
def pCut (T U : TP S) : TP S := fun ρ s P => ∃ I : Env → S → Prop, T ρ s { P with nx := I } ∧ ∀ ρ' s', I ρ' s' → U ρ' s' P
def pDrop (A : TX S) : TP S := fun ρ s P => A ρ s (fun _ s1 => P.nx ρ s1) P.ex
def pSet (A : TX S) (i : Nat) : TP S := fun ρ s P => A ρ s (fun d s1 => P.nx (ρ.set i (.d d)) s1) P.ex
def ownOf : D → Option Cell
  | .lst xs => some (.lst xs)
  | .dct xs => some (.dct xs)
  | .obj C xs => some (.obj C xs)
  | _ => none
theorem ownOf_toD (c : Cell) : ownOf c.toD = some c := by cases c <;> rfl
def pOwn (A : TX S) (i : Nat) : TP S := fun ρ s P => A ρ s (fun d s1 => opt (ownOf d) fun c => P.nx (ρ.set i (.own c)) s1) P.ex
def pRet (A : TX S) : TP S := fun ρ s P => A (frz ρ) s P.rt P.ex
def pRetN : TP S := fun ρ s P => P.rt dN s
def pIf (C : TB S) (T U : TP S) : TP S := fun ρ s P => C ρ s (fun c s1 => if c = true then T ρ s1 P else U ρ s1 P) P.ex
def pBrk : TP S := fun ρ s P => P.bk ρ s
def pCnt : TP S := fun ρ s P => P.ct ρ s
theorem ls_next : LnS Γ K E tNext pNext := fun {_ α σ H ρ s} ok st P Dn q k _ _ _ _ => k σ H ρ s α ok st (stS_stp .refl) q
theorem ls_brk : LnS Γ K E tBreak pBrk := fun {_ α σ H ρ s} ok st P Dn q _ k _ _ _ => k σ H ρ s α ok st (stS_stp .refl) q
theorem ls_cnt : LnS Γ K E tCont pCnt := fun {_ α σ H ρ s} ok st P Dn q _ _ k _ _ => k σ H ρ s α ok st (stS_stp .refl) q
theorem ls_seq (h1 : LnS Γ K E t T) (h2 : LnS Γ K E u U) : LnS Γ K E (tSeq t u) (pSeq T U) := by
  intro M α σ H ρ s ok st P Dn q kn kb kc kr kx
  refine h1 ok st _ _ q (fun σ' H' ρ' s' α' ok' st' p z => ?_) kb kc kr kx
  exact h2 ok' st' P Dn z (fun σ2 H2 ρ2 s2 α2 o2 t2 p2 z2 => kn σ2 H2 ρ2 s2 α2 o2 t2 (p.trans p2) z2) (fun σ2 H2 ρ2 s2 α2 o2 t2 p2 z2 => kb σ2 H2 ρ2 s2 α2 o2 t2 (p.trans p2) z2)
    (fun σ2 H2 ρ2 s2 α2 o2 t2 p2 z2 => kc σ2 H2 ρ2 s2 α2 o2 t2 (p.trans p2) z2) (fun v H2 d s2 p2 t2 r z2 => kr v H2 d s2 (p.trans p2) t2 r z2) (fun c dx H2 x s2 p2 t2 r z2 => kx c dx H2 x s2 (p.trans p2) t2 r z2)
theorem ls_cut (h1 : LnS Γ K E t T) (h2 : LnS Γ K E u U) : LnS Γ K E (C8.tCut t u) (pCut T U) := by
  intro M α σ H ρ s ok st P Dn ⟨I, q1, q2⟩ kn kb kc kr kx
  refine ⟨fun σ' H' => ∃ ρ' s' α', Ok Γ K M α' σ' H' ρ' ∧ Γ.st s' H' ∧ StS (wmask Γ α ρ) (wmask Γ α' ρ') H H' ∧ I ρ' s', ?_, ?_⟩
  · exact h1 ok st _ _ q1 (fun σ' H' ρ' s' α' ok' st' p z => ⟨ρ', s', α', ok', st', p, z⟩) kb kc kr kx
  · rintro σ' H' ⟨ρ', s', α', ok', st', p, z⟩
    exact h2 ok' st' P Dn (q2 _ _ z) (fun σ2 H2 ρ2 s2 α2 o2 t2 p2 z2 => kn σ2 H2 ρ2 s2 α2 o2 t2 (p.trans p2) z2) (fun σ2 H2 ρ2 s2 α2 o2 t2 p2 z2 => kb σ2 H2 ρ2 s2 α2 o2 t2 (p.trans p2) z2)
      (fun σ2 H2 ρ2 s2 α2 o2 t2 p2 z2 => kc σ2 H2 ρ2 s2 α2 o2 t2 (p.trans p2) z2) (fun v H2 d s2 p2 t2 r z2 => kr v H2 d s2 (p.trans p2) t2 r z2) (fun c dx H2 x s2 p2 t2 r z2 => kx c dx H2 x s2 (p.trans p2) t2 r z2)
theorem ls_drop (ha : Ln Γ K E mo ta A) : LnS Γ K E (tDrop ta) (pDrop A) := by
  intro M α σ H ρ s ok st P Dn q kn kb kc kr kx
  exact ha ok st _ P.ex _ q (fun v H' d s' p st' r z => kn σ H' ρ s' α (ok.step p) st' (stS_stp p) z) (fun c dx H' x s' p st' r z => kx c dx H' x s' (stS_end p) st' (r.mono fun _ z => .inl z) z)
theorem ls_set {i : Nat} (ha : Ln Γ K E .s ta A) : LnS Γ K E (tAsg ta (gName i)) (pSet A i) := by
  intro M α σ H ρ s ok st P Dn q kn kb kc kr kx
  refine ha ok st _ P.ex _ q (fun v H' d s' p st' r z => ?_) (fun c dx H' x s' p st' r z => kx c dx H' x s' (stS_end p) st' (r.mono fun _ z => .inl z) z)
  exact kn _ H' _ s' α ((ok.step p).setD r) st' (.of (wmask_set_sub rfl) p fun _ z => .inl z) z
theorem ls_own {i : Nat} (hi0 : i ≠ 0) (ha : Ln Γ K E .f ta A) : LnS Γ K E (tAsg ta (gName i)) (pOwn A i) := by
  intro M α σ H ρ s ok st P Dn q kn kb kc kr kx
  refine ha ok st _ P.ex _ q (fun v H' d s' p st' r z => ?_) (fun c dx H' x s' p st' r z => kx c dx H' x s' (stS_end p) st' (r.mono fun _ z => .inl z) z)
  obtain ⟨c, e, z⟩ := opt_ex z
  generalize hsl : Slot.own c = sl at z
  have main : ∀ a, H a = none → v = .ref a → sl.isOwn = true → (∀ m' : Msk, (∀ b, m' b → mask M α ρ b ∨ b = a) → SlotR K Γ.M M m' H' a (some (some v)) sl) → Dn.nx (σ.set i (some v)) H' := by
    intro a na hv ho new
    have nM : ¬ M a := fun z => ok.trk a z na
    have nO : ∀ j, ownAt ρ j → α j ≠ a := fun j o e => ok.mtrk (α j) (.inr ⟨j, o, rfl⟩) (by rw [e]; exact na)
    have sub : ∀ b, mask M (fun j => if j = i then a else α j) (ρ.set i sl) b → mask M α ρ b ∨ b = a := by
      rintro b (z | ⟨j, o, rfl⟩)
      · exact .inl (.inl z)
      · by_cases hj : j = i
        · simp [hj]
        · simp only [hj, if_false]
          rcases own_set o with ⟨e, _⟩ | ⟨_, o⟩
          · exact absurd e hj
          · exact .inl (.inr ⟨j, o, rfl⟩)
    refine kn _ H' (ρ.set i sl) s' (fun j => if j = i then a else α j) (ok.put (a := a) rfl (.inr hi0) p.trk (fun b o e => ?_) (fun b o n _ e => p.keep b o n e) (fun _ => ⟨nM, fun j _ o => nO j o⟩) fun _ => new _ sub) st' ⟨fun b o n e => p.keep b o (fun z => n (.inl z)) e, ?_, p.trk⟩ z
    · obtain ⟨n, e⟩ := of_cut e
      have nb : b ≠ a := fun q => by rw [q, na] at e; cases e
      rw [cut_out fun z => (sub b z).elim n nb]
      exact p.keep b o (fun z => n (.inl (ok.sub b z))) e
    · rintro b (z | ⟨j, o, rfl⟩)
      · exact .inl (.inl z)
      · by_cases hj : j = i
        · simp only [hj, if_true]
          exact .inr na
        · simp only [hj, if_false]
          rcases own_set o with ⟨e, _⟩ | ⟨_, o⟩
          · exact absurd e hj
          · exact .inl (.inr ⟨j, o, rfl⟩)
  obtain ⟨a, c, hv, rfl, na, h⟩ := r
  rw [ownOf_toD] at e
  cases e
  subst hsl
  exact main a na hv rfl fun m' hm => ⟨by rw [hv], h.move (cut_mono hm) fun _ e => e⟩
theorem ls_ret (ha : Ln Γ K E .s ta A) : LnS Γ K E (tRet ta) (pRet A) := by
  intro M α σ H ρ s ok st P Dn q kn kb kc kr kx
  obtain ⟨ok', no⟩ := ok.frz
  have mm : ∀ a, M a → mask M α (frz ρ) a := fun a z => .inl z
  exact ha ok' st _ P.ex _ q (fun v H' d s' p st' r z => kr v H' d s' (stS_end p) st' (R.same (cut_mono mm) r) z) (fun c dx H' x s' p st' r z => kx c dx H' x s' (stS_end p) st' (r.mono mm) z)
theorem ls_retN : LnS Γ K E tRetN pRetN := fun {_ α σ H ρ s} ok st P Dn q _ _ _ k _ => k .non H dN s (stS_end .refl) st (.v _) q
theorem ls_if (hc : LnT Γ K E tt TT') (h1 : LnS Γ K E t T) (h2 : LnS Γ K E u U) : LnS Γ K E (tIfS tt t u) (pIf TT' T U) := by
  intro M α σ H ρ s ok st P Dn q kn kb kc kr kx
  refine hc ok st _ P.ex _ q (fun c H1 s1 p st1 z => ?_) (fun c dx H' x s' p st' r z => kx c dx H' x s' (stS_end p) st' (r.mono fun _ z => .inl z) z)
  have pp : StS (wmask Γ α ρ) (wmask Γ α ρ) H H1 := stS_stp p
  have go : ∀ {t : TS} {T : TP S}, LnS Γ K E t T → T ρ s1 P → t Dn σ H1 := fun h q =>
    h (ok.step p) st1 P Dn q (fun σ2 H2 ρ2 s2 α2 o2 t2 p2 z2 => kn σ2 H2 ρ2 s2 α2 o2 t2 (pp.trans p2) z2) (fun σ2 H2 ρ2 s2 α2 o2 t2 p2 z2 => kb σ2 H2 ρ2 s2 α2 o2 t2 (pp.trans p2) z2)
      (fun σ2 H2 ρ2 s2 α2 o2 t2 p2 z2 => kc σ2 H2 ρ2 s2 α2 o2 t2 (pp.trans p2) z2) (fun v H2 d s2 p2 t2 r z2 => kr v H2 d s2 (pp.trans p2) t2 r z2) (fun c dx H2 x s2 p2 t2 r z2 => kx c dx H2 x s2 (pp.trans p2) t2 r z2)
  cases c with
  | true => rw [if_pos rfl] at z ⊢; exact go h1 z
  | false => rw [if_neg (by decide)] at z ⊢; exact go h2 z
end
end L2.DL
/-! Targets, loops, comprehensions, calls over data -/
namespace L2.DL
open L2 L2.My PySem PySem.Spec PyProof.Rows

/-! ### targets -/
abbrev GD := D → Env → Option Env
abbrev GDs := List D → Env → Option Env
def gdN (i : Nat) : GD := fun d ρ => some (ρ.set i (.d d))
def gdNil : GDs := fun xs ρ => match xs with
  | [] => some ρ
  | _ => none
def gdCons (g : GD) (gs : GDs) : GDs := fun xs ρ => match xs with
  | x :: r => match g x ρ with
    | some ρ' => gs r ρ'
    | none => none
  | [] => none
def gdTup (n : Nat) (gs : GDs) : GD := fun d ρ => match d with
  | .tup xs => if xs.length = n then gs xs ρ else none
  | _ => none
section
variable {S : Type}
/-- ts: the slots that the target stores -/
def LnG (Γ : Fr S) (K : W.Frag) (ts : List Nat) (g : TG) (gd : GD) : Prop :=
  ∀ {M : Msk} {α : Nat → Addr} {σ : St} {H : Hp} {ρ ρ' : Env} {v : V} {d : D}, Ok Γ K M α σ H ρ → R K (cut (mask M α ρ) H) v d → gd d ρ = some ρ' → ∀ Q : St → Hp → Prop,
    (∀ σ', Ok Γ K M α σ' H ρ' → (∀ a, mask M α ρ' a → mask M α ρ a) → (∀ a, wmask Γ α ρ' a → wmask Γ α ρ a) → (∀ vs : List Nat, (∀ i ∈ ts, i ∈ vs) → wipe σ' vs = wipe σ vs) → Q σ' H) → g v σ H Q
def LnGs (Γ : Fr S) (K : W.Frag) (ts : List Nat) (g : TGs) (gd : GDs) : Prop :=
  ∀ {M : Msk} {α : Nat → Addr} {σ : St} {H : Hp} {ρ ρ' : Env} {v : List V} {d : List D}, Ok Γ K M α σ H ρ → RAll K (cut (mask M α ρ) H) v d → gd d ρ = some ρ' → ∀ Q : St → Hp → Prop,
    (∀ σ', Ok Γ K M α σ' H ρ' → (∀ a, mask M α ρ' a → mask M α ρ a) → (∀ a, wmask Γ α ρ' a → wmask Γ α ρ a) → (∀ vs : List Nat, (∀ i ∈ ts, i ∈ vs) → wipe σ' vs = wipe σ vs) → Q σ' H) → g v σ H Q
theorem set_none_set {σ : St} {i j : Nat} {x : Option V} (h : i ≠ j) : (σ.set i x).set j none = (σ.set j none).set i x := List.set_comm _ _ h
theorem wipe_set {σ : St} {i : Nat} {x : Option V} : ∀ {vs : List Nat}, i ∈ vs → wipe (σ.set i x) vs = wipe σ vs
  | [], h => by cases h
  | v :: vs, h => by
    unfold wipe
    by_cases e : i = v
    · subst e
      by_cases m : i ∈ vs
      · rw [wipe_set m]
      · have q : ∀ (us : List Nat), i ∉ us → wipe (σ.set i x) us = (wipe σ us).set i x := by
          intro us
          induction us with
          | nil => intro _; rfl
          | cons u r ih =>
            intro n
            unfold wipe
            rw [ih fun z => n (List.mem_cons_of_mem _ z), set_none_set fun z => n (by rw [z]; exact List.mem_cons_self)]
        rw [q vs m, List.set_set]
    · rcases List.mem_cons.mp h with z | m
      · exact absurd z e
      · rw [wipe_set m]
variable {Γ : Fr S} {K : W.Frag} {E : XK} {g : TG} {gd : GD} {gs : TGs} {gds : GDs} {ts us : List Nat}
theorem lg_name {i : Nat} : LnG Γ K [i] (gName i) (gdN i) := by
  intro M α σ H ρ ρ' v d ok r e Q k
  cases e
  exact k _ (ok.setD r) (mask_set_sub rfl) (wmask_set_sub rfl) fun vs h => wipe_set (h i List.mem_cons_self)
theorem lg_nil : LnGs Γ K [] gNil gdNil := by
  intro M α σ H ρ ρ' v d ok r e Q k
  cases r with
  | nil => cases e; exact ⟨rfl, k σ ok (fun _ z => z) (fun _ z => z) fun _ _ => rfl⟩
  | cons _ _ => cases e
theorem lg_cons (h1 : LnG Γ K ts g gd) (h2 : LnGs Γ K us gs gds) : LnGs Γ K (ts ++ us) (gCons g gs) (gdCons gd gds) := by
  intro M α σ H ρ ρ' v d ok r e Q k
  cases r with
  | nil => cases e
  | @cons x xs y ys r1 r2 =>
    unfold gdCons at e
    simp only at e
    split at e
    · rename_i ρ1 e1
      refine ⟨x, xs, rfl, h1 ok r1 e1 _ fun σ1 ok1 m1 w1 p1 => ?_⟩
      refine h2 ok1 (RAll.same (cut_mono m1) r2) e _ fun σ2 ok2 m2 w2 p2 => ?_
      exact k σ2 ok2 (fun a z => m1 a (m2 a z)) (fun a z => w1 a (w2 a z)) fun vs h => (p2 vs fun i z => h i (List.mem_append_right _ z)).trans (p1 vs fun i z => h i (List.mem_append_left _ z))
    · cases e
theorem lg_tup {n : Nat} (h : LnGs Γ K ts gs gds) : LnG Γ K ts (gTup K n gs) (gdTup n gds) := by
  intro M α σ H ρ ρ' v d ok r e Q k
  unfold gdTup at e
  split at e
  · rename_i xs
    split at e
    · rename_i hl
      cases r with
      | tup h1 h2 => exact ⟨_, _, rfl, SqT.same cut_le h1, by rw [RAll.len h2]; exact hl, h ok h2 e Q k⟩
    · cases e
  · cases e
variable {ta tb : TE} {A B : TX S} {t u : TS} {T U : TP S} {tt : TT} {C : TB S} {os : List Mo} {tl : TA} {L : TL S}
def pAsg (A : TX S) (gd : GD) : TP S := fun ρ s P => A ρ s (fun d s1 => opt (gd d ρ) fun ρ' => P.nx ρ' s1) P.ex
theorem ls_asg (ha : Ln Γ K E .s ta A) (hg : LnG Γ K ts g gd) : LnS Γ K E (tAsg ta g) (pAsg A gd) := by
  intro M α σ H ρ s ok st P Dn q kn kb kc kr kx
  refine ha ok st _ P.ex _ q (fun v H' d s' p st' r z => ?_) (fun c dx H' x s' p st' r z => kx c dx H' x s' (stS_end p) st' (r.mono fun _ z => .inl z) z)
  obtain ⟨ρ', e, z⟩ := opt_ex z
  exact hg (ok.step p) r e _ fun σ' ok' mm ww _ => kn σ' H' ρ' s' α ok' st' (.of ww p fun _ z => .inl z) z
def pPar (L : TL S) (i j : Nat) : TP S := fun ρ s P => L ρ s (fun ds s1 => match ds with
  | [x, y] => P.nx ((ρ.set i (.d x)).set j (.d y)) s1
  | _ => False) P.ex
theorem ARel.len {gM m : Msk} {H0 H : Hp} : ∀ {os : List Mo} {vs : List V} {ds : List D}, ARel K gM os m H0 H vs ds → vs.length = os.length ∧ ds.length = os.length
  | [], [], [], _ => ⟨rfl, rfl⟩
  | o :: os, v :: vs, d :: ds, h => by
    obtain ⟨a, b⟩ := ARel.len h.2
    exact ⟨by simp [a], by simp [b]⟩
  | [], _ :: _, _, h => by cases h
  | [], [], _ :: _, h => by cases h
  | _ :: _, [], _, h => by cases h
  | _ :: _, _ :: _, [], h => by cases h
theorem two {β : Type} {xs : List β} (h : xs.length = 2) : ∃ a b, xs = [a, b] := by
  match xs, h with
  | [a, b], _ => exact ⟨a, b, rfl⟩
theorem ls_par {i j : Nat} (h : LnA Γ K E [.s, .s] tl L) : LnS Γ K E (tPar i j tl) (pPar L i j) := by
  intro M α σ H ρ s ok st P Dn q kn kb kc kr kx
  refine h ok st _ P.ex _ q (fun vs H' ds s' p st' r z => ?_) (fun c dx H' x s' p st' r z => kx c dx H' x s' (stS_end p) st' (r.mono fun _ z => .inl z) z)
  obtain ⟨l1, l2⟩ := ARel.len r
  obtain ⟨v, w, rfl⟩ := two l1
  obtain ⟨x, y, rfl⟩ := two l2
  obtain ⟨r1, r2, _⟩ := r
  have ok1 := (ok.step p).setD (i := i) r1
  have ok2 := ok1.setD (i := j) (R.same (cut_mono (mask_set_sub rfl)) r2)
  exact ⟨v, w, rfl, kn _ H' _ s' α ok2 st' (.of (fun a z => wmask_set_sub rfl a (wmask_set_sub rfl a z)) p fun _ z => .inl z) z⟩

/-! ### what is walked -/
structure JOk (K : W.Frag) (w m : Msk) (H0 : Hp) (J : It) (ds : List D) : Prop where
  go : ∀ i H, i < ds.length → Keep w H0 H → J.go i H
  yld : ∀ (i : Nat) (H : Hp) (x : V) (H' : Hp) (d : D) (m' : Msk), ds[i]? = some d → Keep w H0 H → (∀ b, m' b → m b ∨ H0 b = none) → (∀ a, m' a → H a ≠ none) → J.yld i H x H' → Same H H' ∧ R K (cut m' H') x d
  stop : ∀ H, Keep w H0 H → J.stop ds.length H
/-- st: a statement's walk (what is one's own may change meanwhile), else a comprehension's -/
def LnI (Γ : Fr S) (K : W.Frag) (E : XK) (stm : Bool) (wi : TI) (T : TL S) : Prop :=
  ∀ {M : Msk} {α : Nat → Addr} {σ : St} {H : Hp} {ρ : Env} {s : S}, Ok Γ K M α σ H ρ → Γ.st s H → ∀ (QD : List D → S → Prop) (QX : Exn → S → Prop) (Q : It → Hp → Prop), T ρ s QD QX →
    (∀ J H' ds s', Stp Γ H H' → Γ.st s' H' → JOk K (if stm = true then wmask Γ α ρ else Γ.M) (mask M α ρ) H' J ds → QD ds s' → Q J H') →
    (∀ c dx H' x s', Stp Γ H H' → Γ.st s' H' → XR K (mask M α ρ) H' c dx x → QX x s' → E c dx H') → wi σ H Q
theorem keep_R {w m m' : Msk} {H0 H : Hp} {v : V} {d : D} (hw : ∀ a, w a → m a) (k : Keep w H0 H) (hm : ∀ b, m' b → m b ∨ H0 b = none) (r : R K (cut m H0) v d) : R K (cut m' H) v d := by
  refine R.same (fun b o e => ?_) r
  obtain ⟨n, e⟩ := of_cut e
  rw [cut_out fun z => (hm b z).elim n fun q => by rw [q] at e; cases e]
  exact k b o (fun z => n (hw b z)) e
/-- a list that stands where nothing changes meanwhile -/
theorem jok_list {w m : Msk} {H0 : Hp} {a : Addr} {xs : List V} {ds : List D} (hw : ∀ a, w a → m a) (na : ¬ w a) (h : H0 a = some (.lst xs)) (r : RAll K (cut m H0) xs ds) : JOk K w m H0 (Itl K a) ds := by
  have at' : ∀ {H}, Keep w H0 H → SqL K H a xs := fun k => .inl (.inl (k a _ na h))
  have len := RAll.len r
  refine ⟨fun i H hi k => ⟨xs, _, at' k, List.getElem?_eq_getElem (by rw [len]; exact hi)⟩, fun i H x H' d m' e k hm _ y => ?_, fun H k => ⟨xs, at' k, by omega⟩⟩
  obtain ⟨rfl, y⟩ := y
  obtain ⟨v, e1, r1⟩ := RAll.getD r e
  have q := y xs (at' k)
  rw [e1] at q
  cases q
  exact ⟨Same.refl _, keep_R hw k hm r1⟩
theorem keep_T {w : Msk} {H0 H : Hp} {a : Addr} {xs : List V} (na : ¬ w a) (k : Keep w H0 H) (h : SqT K H0 a xs) : SqT K H a xs := by
  rcases h with (h | ⟨o, h⟩) | h
  · exact .inl (.inl (k a _ na h))
  · exact .inl (.inr ⟨o, k a _ na h⟩)
  · exact .inr h
theorem jok_tup {w m : Msk} {H0 : Hp} {a : Addr} {xs : List V} {ds : List D} (hw : ∀ a, w a → m a) (h : SqT K (cut m H0) a xs) (r : RAll K (cut m H0) xs ds) : JOk K w m H0 (Itt K a) ds := by
  have at' : ∀ {H}, Keep w H0 H → SqT K H a xs := fun {H} k => by
    rcases h with (h | ⟨o, h⟩) | h
    · obtain ⟨n, h⟩ := of_cut h
      exact .inl (.inl (k a _ (fun z => n (hw a z)) h))
    · obtain ⟨n, h⟩ := of_cut h
      exact .inl (.inr ⟨o, k a _ (fun z => n (hw a z)) h⟩)
    · exact .inr h
  have len := RAll.len r
  refine ⟨fun i H hi k => ⟨xs, _, at' k, List.getElem?_eq_getElem (by rw [len]; exact hi)⟩, fun i H x H' d m' e k hm _ y => ?_, fun H k => ⟨xs, at' k, by omega⟩⟩
  obtain ⟨rfl, y⟩ := y
  obtain ⟨v, e1, r1⟩ := RAll.getD r e
  have q := y xs (at' k)
  rw [e1] at q
  cases q
  exact ⟨Same.refl _, keep_R hw k hm r1⟩
theorem jok_rng {w m : Msk} {H0 : Hp} {lo : Int} {n : Nat} : JOk K w m H0 (Itr lo n) ((List.range n).map fun (i : Nat) => dI (lo + (i : Int))) := by
  refine ⟨fun i H hi _ => (show i < n by simpa using hi), fun i H x H' d m' e _ _ _ y => ?_, fun H _ => by show n ≤ _; simp⟩
  obtain ⟨rfl, rfl⟩ := y
  rw [List.getElem?_map] at e
  cases q : (List.range n)[i]? with
  | none => rw [q] at e; cases e
  | some j =>
    rw [q] at e
    obtain ⟨hi, ej⟩ := List.getElem?_eq_some_iff.mp q
    simp at ej
    subst ej
    cases e
    exact ⟨Same.refl _, .v _⟩
def iSeq (K : W.Frag) (t : TE) : TI := fun σ H R => t σ H fun x H1 => (∃ a, x = .ref a ∧ (((∃ xs, SqL K H1 a xs) ∧ R (Itl K a) H1) ∨ ((∃ xs, SqT K H1 a xs) ∧ R (Itt K a) H1))) ∨ ∃ z, x = .str z ∧ R (Its z) H1
theorem pi_seq {X : Cx} {tg l : Expr} {t : TE} (h : PE X l t) : PI X tg l (iSeq X.K t) := by
  refine ⟨fun pins s σ H R I q => ?_⟩
  refine thn (h.run pins s σ H _ I q) fun v s1 ⟨x, H1, I1, r1, q1⟩ => ?_
  rcases q1 with ⟨a, e, q1⟩ | ⟨z, e, q1⟩
  · subst e
    cases r1
    have new : ∀ b, b ∈ [s1.heap.objs.size] → FpOk X pins H1 b := fun b hb => by
      have e : b = s1.heap.objs.size := by simpa using hb
      subst e
      exact I1.fpOk (Nat.le_refl _) (I1.hok.fresh (Nat.le_refl _))
    rcases q1 with ⟨⟨xs, hq⟩, q⟩ | ⟨⟨xs, hq⟩, q⟩
    · obtain ⟨its, rv, p, hz⟩ := I1.list hq
      refine wpAny_pyIter_list p.isList ?_
      exact ⟨s1.heap.objs.size, [s1.heap.objs.size], _, _, H1, rfl, I1.kept (t' := s1.toks) fun b o e => Heap.get?_push_of_some _ e, turn_list a _, ⟨_, Heap.get?_push_size _ rfl, rfl, rfl⟩, new, q⟩
    · obtain ⟨its, rv, p, hz⟩ := I1.tuple hq
      refine wpAny_pyIter_tuple (show s1.heap.IsTuple a its.toArray from p) ?_
      exact ⟨s1.heap.objs.size, [s1.heap.objs.size], _, _, H1, rfl, I1.kept (t' := s1.toks) fun b o e => Heap.get?_push_of_some _ e, turn_tuple a _, ⟨_, Heap.get?_push_size _ rfl, rfl, rfl⟩, new, q⟩
  · subst e
    obtain ⟨t, rfl⟩ := r1
    cases ha : z.cps.all (· < 128)
    · exact wpAny_pyIter_wide ha (pi_one (tk := s1.toks) I1 _ (turn_str _ z t "str_iterator" (.inr rfl)) ⟨_, Heap.get?_push_size _ rfl, rfl, rfl⟩ q1)
    · exact wpAny_pyIter_ascii ha (pi_one (tk := s1.toks) I1 _ (turn_str _ z t "str_ascii_iterator" (.inl rfl)) ⟨_, Heap.get?_push_size _ rfl, rfl, rfl⟩ q1)
def asSeq : D → Option (List D)
  | .lst xs => some xs
  | .tup xs => some xs
  | _ => none
def asIt : D → Option (List D)
  | .lst xs => some xs
  | .tup xs => some xs
  | .v (.str z) => some (z.cps.toList.map fun c => dS ⟨#[c]⟩)
  | _ => none
def xSeq (A : TX S) : TL S := fun ρ s Q X => A ρ s (fun d s1 => opt (asIt d) fun ds => Q ds s1) X
theorem jok_str {w m : Msk} {H0 : Hp} {z : Str} : JOk K w m H0 (Its z) (z.cps.toList.map fun c => dS ⟨#[c]⟩) := by
  refine ⟨fun i H hi _ => (show i < z.cps.size by simpa using hi), fun i H x H' d m' e _ _ _ y => ?_, fun H _ => (show z.cps.size ≤ _ by simp)⟩
  obtain ⟨rfl, c, hc, rfl⟩ := y
  rw [List.getElem?_map] at e
  have hc' : z.cps.toList[i]? = some c := by rw [Array.getElem?_toList]; exact hc
  rw [hc'] at e
  cases e
  exact ⟨Same.refl _, .v _⟩
theorem wm_m {M : Msk} {α : Nat → Addr} {σ : St} {H : Hp} {ρ : Env} (ok : Ok Γ K M α σ H ρ) {stm : Bool} : ∀ a, (if stm = true then wmask Γ α ρ else Γ.M) a → mask M α ρ a := by
  intro a z
  cases stm with
  | true => exact z.imp (ok.sub a) id
  | false => exact .inl (ok.sub a z)
theorem li_seq {stm : Bool} (ha : Ln Γ K E .s ta A) : LnI Γ K E stm (iSeq K ta) (xSeq A) := by
  intro M α σ H ρ s ok st QD QX Q q k kx
  refine ha ok st _ QX _ q (fun v H' d s' p st' r z => ?_) kx
  obtain ⟨ds, e, z⟩ := opt_ex z
  have ok' := ok.step p
  cases r with
  | lst h1 h2 =>
    cases e
    obtain ⟨n, h1⟩ := of_cut h1
    exact .inl ⟨_, rfl, .inl ⟨⟨_, .inl (.inl h1)⟩, k _ H' _ s' p st' (jok_list (wm_m ok') (fun y => n (wm_m ok' _ y)) h1 h2) z⟩⟩
  | tup h1 h2 =>
    cases e
    exact .inl ⟨_, rfl, .inr ⟨⟨_, SqT.same cut_le h1⟩, k _ H' _ s' p st' (jok_tup (wm_m ok') h1 h2) z⟩⟩
  | v => cases v <;> first | (cases e; exact .inr ⟨_, rfl, k _ H' _ s' p st' jok_str z⟩) | cases e
  | dct => cases e
  | obj => cases e
  | exc => cases e
  | dtp => cases e
/-- a lent list in a comprehension -/
theorem li_seqb (ha : Ln Γ K E .b ta A) : LnI Γ K E false (iSeq K ta) (xSeq A) := by
  intro M α σ H ρ s ok st QD QX Q q k kx
  refine ha ok st _ QX _ q (fun v H' d s' p st' r z => ?_) kx
  obtain ⟨ds, e, z⟩ := opt_ex z
  have ok' := ok.step p
  rcases r with r | ⟨a, c, rfl, rfl, n, h⟩
  · cases r with
    | lst h1 h2 =>
      cases e
      obtain ⟨n, h1⟩ := of_cut h1
      exact .inl ⟨_, rfl, .inl ⟨⟨_, .inl (.inl h1)⟩, k _ H' _ s' p st' (jok_list (wm_m ok' (stm := false)) (fun y => n (ok'.msub _ y)) h1 h2) z⟩⟩
    | tup h1 h2 =>
      cases e
      exact .inl ⟨_, rfl, .inr ⟨⟨_, SqT.same cut_le h1⟩, k _ H' _ s' p st' (jok_tup (wm_m ok' (stm := false)) h1 h2) z⟩⟩
    | v => cases v <;> first | (cases e; exact .inr ⟨_, rfl, k _ H' _ s' p st' jok_str z⟩) | cases e
    | dct => cases e
    | obj => cases e
    | exc => cases e
    | dtp => cases e
  · cases c with
    | lst xs =>
      cases e
      obtain ⟨vs, h1, h2⟩ := h
      exact .inl ⟨_, rfl, .inl ⟨⟨_, .inl (.inl h1)⟩, k _ H' _ s' p st' (jok_list (wm_m ok' (stm := false)) n.2 h1 h2) z⟩⟩
    | _ => cases e
/-- a parameter that is lent, walked by a statement -/
def xSeqP (i : Nat) : TL S := fun ρ s Q _ => match ρ[i]? with
  | some (.d x) => opt (asIt x) fun ds => Q ds s
  | some (.bor x) => opt (asIt x) fun ds => Q ds s
  | _ => False
theorem li_seqp {i : Nat} : LnI Γ K E true (iSeq K (tVar i)) (xSeqP i) := by
  intro M α σ H ρ s ok st QD QX Q q k kx
  unfold xSeqP at q
  have strict : ∀ {v d}, σ[i]? = some (some v) → R K (cut (mask M α ρ) H) v d → (opt (asIt d) fun ds => QD ds s) → iSeq K (tVar i) σ H Q := by
    intro v d e r z
    obtain ⟨ds, e', z⟩ := opt_ex z
    cases r with
    | lst h1 h2 =>
      cases e'
      obtain ⟨n, h1⟩ := of_cut h1
      exact ⟨_, e, .inl ⟨_, rfl, .inl ⟨⟨_, .inl (.inl h1)⟩, k _ H _ s .refl st (jok_list (wm_m ok (stm := true)) (fun y => n (wm_m ok (stm := true) _ y)) h1 h2) z⟩⟩⟩
    | tup h1 h2 =>
      cases e'
      exact ⟨_, e, .inl ⟨_, rfl, .inr ⟨⟨_, SqT.same cut_le h1⟩, k _ H _ s .refl st (jok_tup (wm_m ok (stm := true)) h1 h2) z⟩⟩⟩
    | v => cases v <;> first | (cases e'; exact ⟨_, e, .inr ⟨_, rfl, k _ H _ s .refl st jok_str z⟩⟩) | cases e'
    | dct => cases e'
    | obj => cases e'
    | exc => cases e'
    | dtp => cases e'
  split at q
  · rename_i x e
    obtain ⟨v, e1, r⟩ := ok.slot i _ e
    exact strict e1 r q
  · rename_i x e
    obtain ⟨v, e1, r⟩ := ok.slot i _ e
    rcases r with r | ⟨a, c, rfl, rfl, n, h⟩
    · exact strict e1 r q
    · have na : ¬ wmask Γ α ρ a := fun z => z.elim n.2 fun ⟨j, o, e⟩ => ok.out j o (by rw [e]; exact n.1)
      cases c with
      | lst xs =>
        obtain ⟨vs, h1, h2⟩ := h
        exact ⟨_, e1, .inl ⟨_, rfl, .inl ⟨⟨_, .inl (.inl h1)⟩, k _ H _ s .refl st (jok_list (wm_m ok (stm := true)) na h1 h2) q⟩⟩⟩
      | _ => exact q.elim
  · exact q.elim
def rngD (lo hi : Int) : List D := (List.range (hi - lo).toNat).map fun (i : Nat) => dI (lo + (i : Int))
def inR (i : Int) : Bool := decide (-(2 ^ 62) ≤ i) && decide (i < 2 ^ 62)
def xRng1 (A : TX S) : TL S := fun ρ s Q X => A ρ s (fun d s1 => match d with
  | .v (.int j) => inR j = true ∧ Q (rngD 0 j) s1
  | _ => False) X
theorem li_rng1 {stm : Bool} (ha : Ln Γ K E .b ta A) : LnI Γ K E stm (iRng1 (tCons ta tNil)) (xRng1 A) := by
  intro M α σ H ρ s ok st QD QX Q q k kx
  refine ha ok st _ QX _ q (fun v H' d s' p st' r z => ?_) kx
  split at z
  · obtain rfl := RBo.sc r
    simp only [inR, Bool.and_eq_true, decide_eq_true_eq] at z
    refine ⟨_, rfl, z.1.1, z.1.2, k _ H' _ s' p st' jok_rng ?_⟩
    have := z.2
    unfold rngD at this
    simpa using this
  · exact z.elim
def xRng2 (A B : TX S) : TL S := fun ρ s Q X => A ρ s (fun d s1 => B ρ s1 (fun c s2 => match d, c with
  | .v (.int i), .v (.int j) => inR i = true ∧ inR j = true ∧ Q (rngD i j) s2
  | _, _ => False) X) X
theorem li_rng2 {stm : Bool} (ha : Ln Γ K E .b ta A) (hb : Ln Γ K E .b tb B) : LnI Γ K E stm (iRng2 (tCons ta (tCons tb tNil))) (xRng2 A B) := by
  intro M α σ H ρ s ok st QD QX Q q k kx
  refine ha ok st _ QX _ q (fun v H1 d s1 p1 st1 r z => ?_) kx
  refine hb (ok.step p1) st1 _ QX _ z (fun u H' c s' p st' r' z => ?_) (fun c dx H' x s' p st' r z => kx c dx H' x s' (p1.trans p) st' r z)
  split at z
  · obtain rfl := RBo.sc r
    obtain rfl := RBo.sc r'
    simp only [inR, Bool.and_eq_true, decide_eq_true_eq] at z
    exact ⟨_, _, rfl, ⟨z.1.1, z.1.2, z.2.1.1, z.2.1.2⟩, k _ H' _ s' (p1.trans p) st' jok_rng z.2.2⟩
  · exact z.elim

/-! ### for, while -/
def backSlot : Slot → Slot → Slot
  | .no, _ => .no
  | _, b => b
def back (ρ ρ' : Env) : Env := List.zipWith backSlot ρ ρ'
theorem back_ok {M : Msk} {α : Nat → Addr} {σ : St} {H : Hp} {ρ ρ' : Env} (hl : ρ'.length = ρ.length) (ok : Ok Γ K M α σ H ρ') : Ok Γ K M α σ H (back ρ ρ') ∧ (∀ a, mask M α (back ρ ρ') a → mask M α ρ' a) ∧ (∀ a, wmask Γ α (back ρ ρ') a → wmask Γ α ρ' a) := by
  refine ok.forget (by unfold back; rw [List.length_zipWith]; omega) fun j sl e => ?_
  unfold back at e
  rw [List.getElem?_zipWith] at e
  cases q : ρ[j]? with
  | none => rw [q] at e; cases e
  | some a =>
    cases q' : ρ'[j]? with
    | none => rw [q, q'] at e; cases e
    | some b =>
      rw [q, q'] at e
      cases e
      cases a <;> first | exact .inl rfl | exact .inr rfl
theorem back_len {ρ ρ' : Env} (hl : ρ'.length = ρ.length) : (back ρ ρ').length = ρ.length := by unfold back; rw [List.length_zipWith]; omega
def forT (gd : GD) (T : TP S) (P : Post S) : List D → Env → S → Prop
  | [], ρ, s => P.nx ρ s
  | d :: r, ρ, s => opt (gd d ρ) fun ρ1 => T ρ1 s { P with nx := fun ρ' s' => ρ'.length = ρ.length ∧ forT gd T P r (back ρ ρ') s', ct := fun ρ' s' => ρ'.length = ρ.length ∧ forT gd T P r (back ρ ρ') s', bk := fun ρ' s' => ρ'.length = ρ.length ∧ P.nx (back ρ ρ') s' }
def pFor (I : TL S) (gd : GD) (T : TP S) : TP S := fun ρ s P => I ρ s (fun ds s1 => forT gd T P ds ρ s1) P.ex
theorem mask_wm {M : Msk} {α α' : Nat → Addr} {ρ ρ' : Env} {H H' : Hp} (h : StS (wmask Γ α ρ) (wmask Γ α' ρ') H H') (hs : ∀ a, Γ.M a → M a) : ∀ a, mask M α' ρ' a → mask M α ρ a ∨ H a = none := by
  rintro a (z | z)
  · exact .inl (.inl z)
  · rcases h.new a (.inr z) with q | q
    · exact .inl (q.imp (hs a) id)
    · exact .inr q
theorem ls_for {wi : TI} {I : TL S} (hi : LnI Γ K E true wi I) (hg : LnG Γ K ts g gd) (hb : LnS Γ K E t T) : LnS Γ K E (tFor wi g t) (pFor I gd T) := by
  intro M α σ H ρ s ok st P Dn q kn kb kc kr kx
  refine hi ok st (fun ds s1 => forT gd T P ds ρ s1) P.ex _ q ?_ (fun c dx H' x s' p st' r z => kx c dx H' x s' (stS_end p) st' (r.mono fun _ z => .inl z) z)
  intro J H1 ds s1 p st1 jok q1
  have p0 : StS (wmask Γ α ρ) (wmask Γ α ρ) H H1 := stS_stp p
  have ok1 := ok.step p
  refine ⟨fun i m σ' H' => m = ds.length - i ∧ i ≤ ds.length ∧ ∃ ρ' s' α', Ok Γ K M α' σ' H' ρ' ∧ Γ.st s' H' ∧ StS (wmask Γ α ρ) (wmask Γ α' ρ') H1 H' ∧ forT gd T P (ds.drop i) ρ' s', ⟨_, rfl, Nat.zero_le _, ρ, s1, α, ok1, st1, stS_stp .refl, q1⟩, ?_⟩
  rintro i m σ' H' ⟨rfl, hi', ρ', s', α', ok', st', pp, z⟩
  by_cases lt : i < ds.length
  · have e : ds.drop i = ds[i] :: ds.drop (i + 1) := List.drop_eq_getElem_cons lt
    rw [e] at z
    unfold forT at z
    obtain ⟨ρ1, e1, z⟩ := opt_ex z
    refine .inr ⟨jok.go i H' lt pp.keep, _, fun σ2 H2 w => ⟨ds.length - (i + 1), by omega, w⟩, fun x H2 y => ?_⟩
    obtain ⟨sm, rx⟩ := jok.yld i H' x H2 ds[i] (mask M α' ρ') (List.getElem?_eq_getElem lt) pp.keep (mask_wm pp ok.sub) ok'.mtrk y
    have ok2 := ok'.step (Stp.of (Γ := Γ) sm)
    have st2 := Fr.same ok'.frt sm st'
    have lenE : ρ1.length = ρ'.length ∨ True := .inr trivial
    refine hg ok2 rx e1 _ fun σ2 ok3 mm ww _ => ?_
    have pb : StS (wmask Γ α ρ) (wmask Γ α' ρ1) H1 H2 := pp.trans ((stS_stp (Γ := Γ) (α := α') (ρ := ρ') (Stp.of sm)).trans (.of ww .refl fun _ z => .inl z))
    refine hb ok3 st2 _ _ z (fun σ3 H3 ρ3 s3 α3 o3 t3 p3 z3 => ?_) (fun σ3 H3 ρ3 s3 α3 o3 t3 p3 z3 => ?_) (fun σ3 H3 ρ3 s3 α3 o3 t3 p3 z3 => ?_) (fun v H3 d s3 p3 t3 r z3 => kr v H3 d s3 (p0.trans (pb.trans p3)) t3 r z3) (fun c dx H3 x s3 p3 t3 r z3 => kx c dx H3 x s3 (p0.trans (pb.trans p3)) t3 r z3)
    · obtain ⟨hl, z3⟩ := z3
      obtain ⟨o4, m4, w4⟩ := back_ok hl o3
      exact ⟨rfl, lt, _, s3, α3, o4, t3, pb.trans (p3.trans (.of w4 .refl fun _ z => .inl z)), z3⟩
    · obtain ⟨hl, z3⟩ := z3
      obtain ⟨o4, m4, w4⟩ := back_ok hl o3
      exact kn σ3 H3 _ s3 α3 o4 t3 (p0.trans (pb.trans (p3.trans (.of w4 .refl fun _ z => .inl z)))) z3
    · obtain ⟨hl, z3⟩ := z3
      obtain ⟨o4, m4, w4⟩ := back_ok hl o3
      exact ⟨rfl, lt, _, s3, α3, o4, t3, pb.trans (p3.trans (.of w4 .refl fun _ z => .inl z)), z3⟩
  · have e : i = ds.length := by omega
    subst e
    rw [List.drop_length] at z
    exact .inl ⟨jok.stop H' pp.keep, kn σ' H' ρ' s' α' ok' st' (p0.trans pp) z⟩
def pWhile (C : TB S) (T : TP S) : TP S := fun ρ s P => ∃ W : Nat → Env → S → Prop, (∃ m, W m ρ s) ∧ ∀ m ρ s, W m ρ s → C ρ s (fun b s1 => if b = true then T ρ s1 { P with
    nx := fun ρ' s' => ρ'.length = ρ.length ∧ ∃ m', m' < m ∧ W m' (back ρ ρ') s', ct := fun ρ' s' => ρ'.length = ρ.length ∧ ∃ m', m' < m ∧ W m' (back ρ ρ') s', bk := fun ρ' s' => ρ'.length = ρ.length ∧ P.nx (back ρ ρ') s' } else P.nx ρ s1) P.ex
theorem ls_while (hc : LnT Γ K E tt C) (hb : LnS Γ K E t T) : LnS Γ K E (tWhile tt t) (pWhile C T) := by
  intro M α σ H ρ s ok st P Dn ⟨W, ⟨m0, w0⟩, turn⟩ kn kb kc kr kx
  refine ⟨fun m σ' H' => ∃ ρ' s' α', Ok Γ K M α' σ' H' ρ' ∧ Γ.st s' H' ∧ StS (wmask Γ α ρ) (wmask Γ α' ρ') H H' ∧ W m ρ' s', ⟨m0, ρ, s, α, ok, st, stS_stp .refl, w0⟩, ?_⟩
  rintro m σ' H' ⟨ρ', s', α', ok', st', pp, w⟩
  refine hc ok' st' _ P.ex _ (turn m ρ' s' w) (fun b H1 s1 p1 st1 z => ?_) (fun c dx H3 x s3 p3 t3 r z3 => kx c dx H3 x s3 (pp.trans (stS_end p3)) t3 (r.mono fun _ z => .inl z) z3)
  have p2 : StS (wmask Γ α ρ) (wmask Γ α' ρ') H H1 := pp.trans (stS_stp p1)
  have ok1 := ok'.step p1
  cases b with
  | true =>
    rw [if_pos rfl] at z ⊢
    refine ⟨_, fun σ2 H2 w => w, ?_⟩
    refine hb ok1 st1 _ _ z (fun σ3 H3 ρ3 s3 α3 o3 t3 p3 z3 => ?_) (fun σ3 H3 ρ3 s3 α3 o3 t3 p3 z3 => ?_) (fun σ3 H3 ρ3 s3 α3 o3 t3 p3 z3 => ?_) (fun v H3 d s3 p3 t3 r z3 => kr v H3 d s3 (p2.trans p3) t3 r z3) (fun c dx H3 x s3 p3 t3 r z3 => kx c dx H3 x s3 (p2.trans p3) t3 r z3)
    · obtain ⟨hl, m', lt, z3⟩ := z3
      obtain ⟨o4, m4, w4⟩ := back_ok hl o3
      exact ⟨m', lt, _, s3, α3, o4, t3, p2.trans (p3.trans (.of w4 .refl fun _ z => .inl z)), z3⟩
    · obtain ⟨hl, z3⟩ := z3
      obtain ⟨o4, m4, w4⟩ := back_ok hl o3
      exact kn σ3 H3 _ s3 α3 o4 t3 (p2.trans (p3.trans (.of w4 .refl fun _ z => .inl z))) z3
    · obtain ⟨hl, m', lt, z3⟩ := z3
      obtain ⟨o4, m4, w4⟩ := back_ok hl o3
      exact ⟨m', lt, _, s3, α3, o4, t3, p2.trans (p3.trans (.of w4 .refl fun _ z => .inl z)), z3⟩
  | false =>
    rw [if_neg (by decide)] at z ⊢
    exact kn σ' H1 ρ' s1 α' ok1 st1 p2 z
end
end L2.DL
/-! Comprehensions, calls, own lists that change; a def's promise over data -/
namespace L2.DL
open L2 L2.My PySem PySem.Spec PyProof.Rows

/-! ### a comprehension's environment -/
def wipeE (ρ : Env) : List Nat → Env
  | [] => ρ
  | v :: vs => (wipeE ρ vs).set v .no
def lendS : Slot → Slot
  | .own c => .bor c.toD
  | sl => sl
def inE (ρ : Env) (vs : List Nat) : Env := (wipeE ρ vs).map lendS
theorem wipeE_len (ρ : Env) : ∀ vs : List Nat, (wipeE ρ vs).length = ρ.length
  | [] => rfl
  | v :: vs => by unfold wipeE; rw [List.length_set, wipeE_len ρ vs]
theorem wipeE_at {ρ : Env} {j : Nat} {sl : Slot} : ∀ {vs : List Nat}, (wipeE ρ vs)[j]? = some sl → sl = Slot.no ∨ (j ∉ vs ∧ ρ[j]? = some sl)
  | [], h => .inr ⟨by simp, h⟩
  | v :: vs, h => by
    unfold wipeE at h
    by_cases e : v = j
    · subst e
      by_cases l : v < (wipeE ρ vs).length
      · rw [List.getElem?_set_self l] at h; cases h; exact .inl rfl
      · rw [List.getElem?_eq_none (by simpa using l)] at h; cases h
    · rw [List.getElem?_set_ne e] at h
      rcases wipeE_at h with h | ⟨h1, h2⟩
      · exact .inl h
      · exact .inr ⟨by simp only [List.mem_cons, not_or]; exact ⟨fun z => e z.symm, h1⟩, h2⟩
theorem wipe_ne {σ : St} {j : Nat} : ∀ {vs : List Nat}, j ∉ vs → (wipe σ vs)[j]? = σ[j]?
  | [], _ => rfl
  | v :: vs, h => by
    unfold wipe
    simp only [List.mem_cons, not_or] at h
    rw [List.getElem?_set_ne fun z => h.1 z.symm, wipe_ne h.2]
theorem wipe_stay {τ : St} : ∀ {us : List Nat}, (∀ u ∈ us, τ.set u none = τ) → wipe τ us = τ
  | [], _ => rfl
  | u :: r, h => by
    unfold wipe
    rw [wipe_stay fun i z => h i (List.mem_cons_of_mem _ z)]
    exact h u List.mem_cons_self
theorem wipe_mem {σ : St} {u : Nat} : ∀ {ws : List Nat}, u ∈ ws → (wipe σ ws).set u none = wipe σ ws
  | [], z => by cases z
  | w :: ws, z => by
    unfold wipe
    by_cases e : w = u
    · subst e; rw [List.set_set]
    · rw [List.set_comm _ _ e]
      rcases List.mem_cons.mp z with q | q
      · exact absurd q.symm e
      · rw [wipe_mem q]
theorem wipe_wipe {σ : St} {vs : List Nat} : wipe (wipe σ vs) vs = wipe σ vs := wipe_stay fun u z => wipe_mem z
section
variable {S : Type} {Γ : Fr S} {K : W.Frag} {E : XK} {g : TG} {gd : GD} {ts : List Nat} {ta tb te : TE} {A B : TX S} {t u : TS} {T U : TP S} {tt : TT} {C : TB S} {os : List Mo} {tl : TA} {L : TL S} {mo : Mo}
theorem Ok.inner {M : Msk} {α : Nat → Addr} {σ : St} {H H' : Hp} {ρ : Env} {D0 : Addr} {vs : List Nat} (ok : Ok Γ K M α σ H ρ) (hD : H D0 = none) (hD' : H' D0 ≠ none) (k : ∀ a o, ¬ Γ.M a → a ≠ D0 → H a = some o → H' a = some o) (tr : ∀ a, H a ≠ none → H' a ≠ none) :
    Ok Γ K (fun b => mask M α ρ b ∨ b = D0) α (wipe σ vs) H' (inE ρ vs) ∧ (∀ i, ¬ ownAt (inE ρ vs) i) := by
  have no : ∀ j, ¬ ownAt (inE ρ vs) j := by
    rintro j ⟨sl, e, o⟩
    unfold inE at e
    rw [List.getElem?_map] at e
    cases q : (wipeE ρ vs)[j]? with
    | none => rw [q] at e; cases e
    | some u =>
      rw [q] at e
      cases e
      cases u <;> cases o
  refine ⟨⟨fun a z => .inl (ok.msub a z), fun a z => ?_, fun i o => absurd o (no i), fun i j a b => absurd a (no i), ?_, fun j sl e => ?_, ok.sf⟩, no⟩
  · rcases z with z | rfl
    · exact tr a (ok.mtrk a z)
    · exact hD'
  · unfold inE
    rw [List.length_map, wipeE_len, wipe_length]
    exact ok.len
  · have mm : ∀ a, mask (fun b => mask M α ρ b ∨ b = D0) α (inE ρ vs) a → mask M α ρ a ∨ a = D0 := by
      rintro a (z | ⟨i, o, _⟩)
      · exact z
      · exact absurd o (no i)
    have c : Same (cut (mask M α ρ) H) (cut (mask (fun b => mask M α ρ b ∨ b = D0) α (inE ρ vs)) H') := fun b o e => by
      obtain ⟨n, e⟩ := of_cut e
      have ne : b ≠ D0 := ne_of_none e hD
      rw [cut_out fun z => (mm b z).elim n ne]
      exact k b o (fun z => n (ok.msub b z)) ne e
    unfold inE at e
    rw [List.getElem?_map] at e
    cases q : (wipeE ρ vs)[j]? with
    | none => rw [q] at e; cases e
    | some u =>
      rw [q] at e
      cases e
      rcases wipeE_at q with rfl | ⟨nj, q⟩
      · trivial
      · rw [wipe_ne nj]
        have sl' := ok.slot j u q
        cases u with
        | no => trivial
        | d y => obtain ⟨v, e1, r⟩ := sl'; exact ⟨v, e1, R.same c r⟩
        | bor y =>
          obtain ⟨v, e1, r⟩ := sl'
          exact ⟨v, e1, RBo.mono (fun a z => .inl (.inl z)) (RBo.carry c (fun b u n o e => k b u n (ne_of_none e hD) e) r)⟩
        | own y =>
          have oj : ownAt ρ j := ⟨_, q, rfl⟩
          have ng : ¬ Γ.M (α j) := fun z => ok.out j oj (ok.sub _ z)
          exact ⟨_, sl'.1, .inr ⟨α j, y, rfl, rfl, ⟨.inl (.inr ⟨j, oj, rfl⟩), ng⟩, sl'.2.move c fun o e => k _ _ ng (ne_of_none e hD) e⟩⟩
def bYes : TB S := fun _ s Q _ => Q true s
theorem lt_yes : LnT Γ K E tYes bYes := fun {_ _ _ H _ s} _ st _ _ _ q k _ => k true H s .refl st q
def lcT (gd : GD) (C : TB S) (A : TX S) (ρ : Env) (Q : D → S → Prop) : List D → List D → S → Prop
  | [], acc, s => Q (.lst acc) s
  | d :: r, acc, s => opt (gd d ρ) fun ρ1 => C ρ1 s (fun b s1 => if b = true then A ρ1 s1 (fun y s2 => acc.length < sizeLine ∧ lcT gd C A ρ Q r (acc ++ [y]) s2) (fun _ _ => False) else lcT gd C A ρ Q r acc s1) (fun _ _ => False)
def xLc (I : TL S) (gd : GD) (C : TB S) (A : TX S) (vs : List Nat) : TX S := fun ρ s Q X => I ρ s (fun ds s1 => lcT gd C A (inE ρ vs) Q ds [] s1) X
theorem ln_lc {wi : TI} {I : TL S} {vs : List Nat} (hts : ts.all (fun i => vs.contains i) = true) (hi : LnI Γ K E false wi I) (hg : LnG Γ K ts g gd) (hc : LnT Γ K E0 tt C) (ha : Ln Γ K E0 .s te A) : Ln Γ K E .f (tLc wi g tt te vs) (xLc I gd C A vs) := by
  intro M α σ H ρ s ok st QD QX Q q k kx
  refine hi ok st _ QX _ q (fun J H1 ds s1 p1 st1 jok q1 => ?_) kx
  intro D0 nD
  have ok1 := ok.step p1
  have tsv : ∀ i ∈ ts, i ∈ vs := fun i z => by
    have := List.all_eq_true.mp hts i z
    simpa using this
  have gD : ¬ Γ.M D0 := fun z => ok1.frt D0 z nD
  refine ⟨fun i m H' => m = ds.length - i ∧ i ≤ ds.length ∧ ∃ acc ws s', H' D0 = some (.lst ws) ∧ RAll K (cut (fun b => mask M α ρ b ∨ b = D0) H') ws acc ∧ Γ.st s' H' ∧ (∀ a o, ¬ Γ.M a → a ≠ D0 → H1 a = some o → H' a = some o) ∧ (∀ a, H1 a ≠ none → H' a ≠ none) ∧ lcT gd C A (inE ρ vs) QD (ds.drop i) acc s', ⟨_, rfl, Nat.zero_le _, [], [], s1, upd_same, .nil, Fr.same ok1.frt (same_upd nD) st1, fun a o _ _ e => same_upd nD a o e, (Stp.of (Γ := Γ) (same_upd nD)).trk, q1⟩, ?_⟩
  rintro i m H' ⟨rfl, hi', acc, ws, s', hD', ra, st', kp, tr, z⟩
  have kG : Keep Γ.M H1 H' := fun a o n e => kp a o n (ne_of_none e nD) e
  by_cases lt : i < ds.length
  · have e : ds.drop i = ds[i] :: ds.drop (i + 1) := List.drop_eq_getElem_cons lt
    rw [e] at z
    unfold lcT at z
    obtain ⟨ρ1, e1, z⟩ := opt_ex z
    obtain ⟨okI, noI⟩ := ok1.inner (vs := vs) nD (by rw [hD']; exact fun z => by cases z) kp tr
    refine .inr ⟨jok.go i H' lt kG, _, fun H2 w => ⟨ds.length - (i + 1), by omega, w⟩, fun x H2 y => ?_⟩
    have mI : ∀ b, mask (fun b => mask M α ρ b ∨ b = D0) α (inE ρ vs) b → mask M α ρ b ∨ b = D0 := by
      rintro a (z | ⟨i, o, _⟩)
      · exact z
      · exact absurd o (noI i)
    obtain ⟨sm, rx⟩ := jok.yld i H' x H2 ds[i] _ (List.getElem?_eq_getElem lt) kG (fun b z => (mI b z).imp id fun e => by rw [e]; exact nD) okI.mtrk y
    have pI := Stp.of (Γ := Γ) sm
    refine hg (okI.step pI) rx e1 _ fun σ2 ok2 mm ww pw => ⟨(pw vs tsv).trans wipe_wipe, ?_⟩
    refine hc ok2 (Fr.same okI.frt sm st') _ _ _ z (fun b H3 s3 p3 st3 z => ?_) (fun c dx H' x s' p st' r z => z.elim)
    have p3' := pI.trans p3
    have D3 : H3 D0 = some (.lst ws) := p3'.keep _ _ gD hD'
    cases b with
    | true =>
      rw [if_pos rfl] at z ⊢
      refine ha (ok2.step p3) st3 _ _ _ z (fun v H4 d s4 p4 st4 r z => ?_) (fun c dx H' x s' p st' r z => z.elim)
      have p4' := p3'.trans p4
      have D4 : H4 D0 = some (.lst ws) := p4'.keep _ _ gD hD'
      refine ⟨ws, D4, by rw [RAll.len ra]; exact z.1, rfl, lt, acc ++ [d], ws ++ [v], s4, upd_same, ?_, ?_, ?_, ?_, z.2⟩
      · have c1 : Same (cut (fun b => mask M α ρ b ∨ b = D0) H4) (cut (fun b => mask M α ρ b ∨ b = D0) (upd H4 D0 (.lst (ws ++ [v])))) := fun b o e => by
          obtain ⟨n, e⟩ := of_cut e
          rw [cut_out n, upd_ne fun z => n (.inr z)]
          exact e
        have c0 : Same (cut (fun b => mask M α ρ b ∨ b = D0) H') (cut (fun b => mask M α ρ b ∨ b = D0) H4) := p4'.cut fun a z => .inl (ok.msub a z)
        refine RAll.app (RAll.same c1 (RAll.same c0 ra)) (.cons (R.same c1 (R.same (cut_mono fun a z => .inl z) r)) .nil)
      · exact Γ.loc (fun a z => by rw [upd_ne fun e => gD (by rw [← e]; exact z)]) st4
      · intro a o n ne e
        rw [upd_ne ne]
        exact p4'.keep a o n (kp a o n ne e)
      · intro a z
        by_cases ne : a = D0
        · rw [ne, upd_same]; exact fun q => by cases q
        · rw [upd_ne ne]; exact p4'.trk a (tr a z)
    | false =>
      rw [if_neg (by decide)] at z ⊢
      exact ⟨rfl, lt, acc, ws, s3, D3, RAll.same (p3'.cut fun a z => .inl (ok.msub a z)) ra, st3, fun a o n ne e => p3'.keep a o n (kp a o n ne e), fun a z => p3'.trk a (tr a z), z⟩
  · have e : i = ds.length := by omega
    subst e
    rw [List.drop_length] at z
    refine .inl ⟨jok.stop H' kG, k _ H' _ s' ⟨fun a o n e => kG a o n (p1.keep a o n e), fun a z => tr a (p1.trk a z)⟩ st' ⟨D0, .lst acc, rfl, rfl, Classical.byContradiction fun q => p1.trk D0 q nD, ws, hD', ra⟩ z⟩

/-! ### lists of one's own that change -/
theorem set_same {σ : St} {i : Nat} {x : Option V} (h : σ[i]? = some x) : σ.set i x = σ := by
  obtain ⟨l, e⟩ := List.getElem?_eq_some_iff.mp h
  subst e
  exact List.set_getElem_self l
theorem Ok.turnC {M : Msk} {α : Nat → Addr} {σ : St} {H : Hp} {ρ : Env} {i : Nat} {c c' : Cell} {u : HO} (ok : Ok Γ K M α σ H ρ) (e : ρ[i]? = some (.own c)) (r : ∀ m' H', Same (cut (mask M α ρ) H) (cut m' H') → H' (α i) = some u → CellR K (cut m' H') H' (α i) c') :
    Ok Γ K M α σ (upd H (α i) u) (ρ.set i (.own c')) ∧ StS (wmask Γ α ρ) (wmask Γ α (ρ.set i (.own c'))) H (upd H (α i) u) := by
  have oi : ownAt ρ i := ⟨_, e, rfl⟩
  obtain ⟨e1, _⟩ := ok.slot i _ e
  have own' : ∀ j, ownAt (ρ.set i (.own c')) j → ownAt ρ j := fun j o => by
    rcases own_set o with ⟨rfl, _⟩ | ⟨_, o⟩
    · exact oi
    · exact o
  have mm : ∀ a, mask M α (ρ.set i (.own c')) a → mask M α ρ a := fun a z => z.imp id fun ⟨j, o, q⟩ => ⟨j, own' j o, q⟩
  have tr : ∀ b, H b ≠ none → upd H (α i) u b ≠ none := fun b z => by
    by_cases q : b = α i
    · rw [q, upd_same]; exact fun z => by cases z
    · rw [upd_ne q]; exact z
  have cc : Same (cut (mask M α ρ) H) (cut (mask M α (ρ.set i (.own c'))) (upd H (α i) u)) := fun b o q => by
    obtain ⟨n, q⟩ := of_cut q
    rw [cut_out fun z => n (mm b z), upd_ne fun z => n (.inr ⟨i, oi, z.symm⟩)]
    exact q
  have put := ok.put (x := some (.ref (α i))) (sl := .own c') (a := α i) (H' := upd H (α i) u) (i := i) self_upd (.inl rfl) tr cc (fun b o n z q => by
    rw [upd_ne fun y => ?_]
    · exact q
    · rcases z with z | ⟨j, nj, oj, z⟩
      · exact ok.out i oi (by rw [← y]; exact z)
      · exact nj (ok.inj j i oj oi (z.trans y))) (fun _ => ⟨ok.out i oi, fun j nj oj z => nj (ok.inj j i oj oi z)⟩) fun _ => ⟨rfl, r _ _ cc upd_same⟩
  rw [set_same e1] at put
  refine ⟨put, ⟨fun a o n q => ?_, fun a z => .inl (z.imp id fun ⟨j, o, q⟩ => ⟨j, own' j o, q⟩), tr⟩⟩
  rw [upd_ne fun z => n (.inr ⟨i, oi, z.symm⟩)]
  exact q
theorem Ok.turn {M : Msk} {α : Nat → Addr} {σ : St} {H : Hp} {ρ : Env} {i : Nat} {xs ys : List D} {ws : List V} (ok : Ok Γ K M α σ H ρ) (e : ρ[i]? = some (.own (.lst xs))) (r : RAll K (cut (mask M α ρ) H) ws ys) :
    Ok Γ K M α σ (upd H (α i) (.lst ws)) (ρ.set i (.own (.lst ys))) ∧ StS (wmask Γ α ρ) (wmask Γ α (ρ.set i (.own (.lst ys)))) H (upd H (α i) (.lst ws)) :=
  ok.turnC e fun m' H' s e => ⟨ws, e, RAll.same s r⟩
def ownL (ρ : Env) (i : Nat) : Option (List D) := match ρ[i]? with
  | some (.own (.lst xs)) => some xs
  | _ => none
theorem ownL_at {ρ : Env} {i : Nat} {xs : List D} (h : ownL ρ i = some xs) : ρ[i]? = some (.own (.lst xs)) := by
  unfold ownL at h
  split at h
  · rename_i ys e; cases h; exact e
  · cases h
def pApp (i : Nat) (A : TX S) : TP S := fun ρ s P => A ρ s (fun d s1 => opt (ownL ρ i) fun xs => xs.length < sizeLine ∧ P.nx (ρ.set i (.own (.lst (xs ++ [d])))) s1) P.ex
theorem tyV_lst {H : Hp} {a : Addr} {xs : List V} (h : H a = some (.lst xs)) : tyV K "list" (.ref a) H := .inl ⟨rfl, _, .inl (.inl h)⟩
theorem own_var {M : Msk} {α : Nat → Addr} {σ : St} {H : Hp} {ρ : Env} {i : Nat} {xs : List D} (ok : Ok Γ K M α σ H ρ) (e : ρ[i]? = some (.own (.lst xs))) : σ[i]? = some (some (.ref (α i))) ∧ ∃ vs, H (α i) = some (.lst vs) ∧ RAll K (cut (mask M α ρ) H) vs xs := ok.slot i _ e
theorem T_own {M : Msk} {α : Nat → Addr} {σ : St} {H : Hp} {ρ : Env} (ok : Ok Γ K M α σ H ρ) {i : Nat} (h : ∃ xs, ρ[i]? = some (.own (.lst xs))) : tyV K "list" (.ref (α i)) H := by
  obtain ⟨xs, e⟩ := h
  obtain ⟨_, vs, h1, _⟩ := own_var ok e
  exact tyV_lst h1
/-- the list must be one's own already when the method is asked for -/
def onOwn (i : Nat) (T : TP S) : TP S := fun ρ s P => (ownL ρ i).isSome = true ∧ T ρ s P
theorem ls_append {i : Nat} (ha : Ln Γ K E .s ta A) : LnS Γ K E (tDrop (tBM K "list" rAppend (tVar i) (tCons ta tNil))) (onOwn i (pApp i A)) := by
  intro M α σ H ρ s ok st P Dn ⟨hs, q⟩ kn kb kc kr kx
  obtain ⟨xs, e⟩ := Option.isSome_iff_exists.mp hs
  have e' := ownL_at e
  obtain ⟨e1, vs, h1, r1⟩ := own_var ok e'
  refine ⟨_, e1, tyV_lst h1, ?_⟩
  refine ha ok st _ P.ex _ q (fun v H' d s' p st' r z => ?_) (fun c dx H' x s' p st' r z => kx c dx H' x s' (stS_end p) st' (r.mono fun _ z => .inl z) z)
  rw [e] at z
  have ok' := ok.step p
  obtain ⟨_, vs', h1', r1'⟩ := own_var ok' e'
  obtain ⟨o2, p2⟩ := ok'.turn e' (RAll.app r1' (.cons r .nil))
  refine ⟨_, vs', v, rfl, rfl, h1', by rw [RAll.len r1']; exact z.1, ?_⟩
  exact kn σ _ _ s' α o2 (Γ.loc (fun a y => by rw [upd_ne fun e => ok.out i ⟨_, e', rfl⟩ (ok.sub _ (by rw [← e]; exact y))]) st') ((stS_stp p).trans p2) z.2
def pExt (i : Nat) (A : TX S) : TP S := fun ρ s P => A ρ s (fun d s1 => match d with
  | .lst ys => opt (ownL ρ i) fun xs => xs.length + ys.length ≤ sizeLine ∧ P.nx (ρ.set i (.own (.lst (xs ++ ys)))) s1
  | _ => False) P.ex
theorem ls_extend {i : Nat} (ha : Ln Γ K E .s ta A) : LnS Γ K E (tDrop (tBM K "list" rExtend (tVar i) (tCons ta tNil))) (onOwn i (pExt i A)) := by
  intro M α σ H ρ s ok st P Dn ⟨hs, q⟩ kn kb kc kr kx
  obtain ⟨xs, e⟩ := Option.isSome_iff_exists.mp hs
  have e' := ownL_at e
  obtain ⟨e1, vs, h1, r1⟩ := own_var ok e'
  refine ⟨_, e1, tyV_lst h1, ?_⟩
  refine ha ok st _ P.ex _ q (fun v H' d s' p st' r z => ?_) (fun c dx H' x s' p st' r z => kx c dx H' x s' (stS_end p) st' (r.mono fun _ z => .inl z) z)
  rw [e] at z
  cases r with
  | lst h2 r2 =>
    have ok' := ok.step p
    obtain ⟨_, vs', h1', r1'⟩ := own_var ok' e'
    obtain ⟨o2, p2⟩ := ok'.turn e' (RAll.app r1' r2)
    refine ⟨_, _, vs', _, rfl, rfl, h1', (of_cut h2).2, by rw [RAll.len r1', RAll.len r2]; exact z.1, ?_⟩
    exact kn σ _ _ s' α o2 (Γ.loc (fun a y => by rw [upd_ne fun e => ok.out i ⟨_, e', rfl⟩ (ok.sub _ (by rw [← e]; exact y))]) st') ((stS_stp p).trans p2) z.2
  | _ => exact z.elim
/-- x = xs.pop() -/
def pPop (i : Nat) (gd : GD) : TP S := fun ρ s P => opt (ownL ρ i) fun xs => opt xs.getLast? fun d => opt (gd d (ρ.set i (.own (.lst xs.dropLast)))) fun ρ' => P.nx ρ' s
theorem RAll.dropLast {G : Hp} : ∀ {vs : List V} {ds : List D}, RAll K G vs ds → RAll K G vs.dropLast ds.dropLast := fun {vs ds} h => by
  rw [List.dropLast_eq_take, List.dropLast_eq_take, RAll.len h]
  exact RAll.take _ h
theorem ls_pop {i : Nat} (hg : LnG Γ K ts g gd) : LnS Γ K E (tAsg (tBM0 K "list" rPop (tVar i)) g) (pPop i gd) := by
  intro M α σ H ρ s ok st P Dn q kn kb kc kr kx
  obtain ⟨xs, e, q⟩ := opt_ex q
  obtain ⟨d, el, q⟩ := opt_ex q
  obtain ⟨ρ', eg, q⟩ := opt_ex q
  have e' := ownL_at e
  obtain ⟨e1, vs, h1, r1⟩ := own_var ok e'
  obtain ⟨o2, p2⟩ := ok.turn e' (RAll.dropLast r1)
  have eL : xs[xs.length - 1]? = some d := by rw [← el, List.getLast?_eq_getElem?]
  obtain ⟨v, ev, rv⟩ := RAll.getD r1 eL
  rw [← RAll.len r1] at ev
  refine ⟨_, e1, tyV_lst h1, _, vs, v, rfl, rfl, h1, ev, ?_⟩
  have mm : ∀ a, mask M α (ρ.set i (.own (.lst xs.dropLast))) a → mask M α ρ a := fun a z => z.imp id fun ⟨j, o, y⟩ => by
    rcases own_set o with ⟨rfl, _⟩ | ⟨_, o⟩
    · exact ⟨j, ⟨_, e', rfl⟩, y⟩
    · exact ⟨j, o, y⟩
  have rv' : R K (cut (mask M α (ρ.set i (.own (.lst xs.dropLast)))) (upd H (α i) (.lst vs.dropLast))) v d := R.same (fun b o q => by
    obtain ⟨n, q⟩ := of_cut q
    rw [cut_out fun z => n (mm b z), upd_ne fun z => n (.inr ⟨i, ⟨_, e', rfl⟩, z.symm⟩)]
    exact q) rv
  refine hg o2 rv' eg _ fun σ' o3 m3 w3 _ => kn σ' _ ρ' s α o3 (Γ.loc (fun a y => by rw [upd_ne fun e => ok.out i ⟨_, e', rfl⟩ (ok.sub _ (by rw [← e]; exact y))]) st) (p2.trans (.of w3 (.refl (Γ := Γ)) fun _ z => .inl z)) q
def asI : D → Option Int
  | .v (.int i) => some i
  | _ => none
theorem asI_sc {g m : Msk} {H : Hp} {v : V} {d : D} {c : Int} (r : RB K g m H v d) (e : asI d = some c) : v = .int c := by
  unfold asI at e
  split at e
  · cases e; exact RBo.sc r
  · cases e
/-- xs[k] = e -/
def pSetAt (i : Nat) (A B : TX S) : TP S := fun ρ s P => A ρ s (fun d s1 => B ρ s1 (fun k s2 => opt (ownL ρ i) fun xs => opt (asI k) fun k => opt (ixN xs.length k) fun j => P.nx (ρ.set i (.own (.lst (xs.set j d)))) s2) P.ex) P.ex
theorem ls_setAt {i : Nat} (ha : Ln Γ K E .s ta A) (hb : Ln Γ K E .b tb B) : LnS Γ K E (tAsg ta (gSub (tVar i) tb rSetL)) (onOwn i (pSetAt i A B)) := by
  intro M α σ H ρ s ok st P Dn ⟨hs, q⟩ kn kb kc kr kx
  obtain ⟨xs, e⟩ := Option.isSome_iff_exists.mp hs
  have e' := ownL_at e
  refine ha ok st _ P.ex _ q (fun v H1 d s1 p1 st1 r1 z => ?_) (fun c dx H' x s' p st' r z => kx c dx H' x s' (stS_end p) st' (r.mono fun _ z => .inl z) z)
  refine ⟨_, (own_var (ok.step p1) e').1, ?_⟩
  refine hb (ok.step p1) st1 _ P.ex _ z (fun u H2 k s2 p2 st2 r2 z => ?_) (fun c dx H' x s' p st' r z => kx c dx H' x s' (stS_end (p1.trans p)) st' (r.mono fun _ z => .inl z) z)
  rw [e] at z
  obtain ⟨n, en, z⟩ := opt_ex (show opt (asI k) _ from z)
  · obtain rfl := asI_sc r2 en
    obtain ⟨j, ej, z⟩ := opt_ex z
    have p := p1.trans p2
    have ok' := ok.step p
    obtain ⟨_, vs, h1, rr⟩ := own_var ok' e'
    have rd : R K (cut (mask M α ρ) H2) v d := R.same (p2.cut ok.msub) r1
    obtain ⟨o3, p3⟩ := ok'.turn e' (RAll.set rd j rr)
    refine ⟨_, vs, n, j, rfl, rfl, h1, by rw [RAll.len rr]; exact ej, ?_⟩
    exact kn σ _ _ s2 α o3 (Γ.loc (fun a y => by rw [upd_ne fun e => ok.out i ⟨_, e', rfl⟩ (ok.sub _ (by rw [← e]; exact y))]) st2) ((stS_stp p).trans p3) z

/-! ### defs -/
/-- what a def does to data alone: nothing that stands is changed -/
abbrev Fn := List D → Option (Except Exn D)
def spF (K : W.Frag) (os : List Mo) (F : Fn) : Sp := fun vs H Q E => ∃ (S : Type) (Γ : Fr S) (M : Msk) (s : S) (ds : List D), (∀ a, Γ.M a → M a) ∧ (∀ a, M a → H a ≠ none) ∧ ARel K Γ.M os M H H vs ds ∧ Γ.st s H ∧
  opt (F ds) fun r => match r with
    | .ok d => ∀ v H', Stp Γ H H' → Γ.st s H' → R K (cut M H') v d → Q v H'
    | .error x => ∀ c dx H', Stp Γ H H' → Γ.st s H' → XR K M H' c dx x → E c dx H'
def xCall (F : Fn) (L : TL S) : TX S := fun ρ s Q X => L ρ s (fun ds s1 => opt (F ds) fun r => match r with
  | .ok d => Q d s1
  | .error x => X x s1) X
theorem ln_call {F : Fn} (ho : os.all (fun o => match o with | .f => false | _ => true) = true) (h : LnA Γ K E os tl L) : Ln Γ K E .s (tCall (spF K os F) [] E tl) (xCall F L) := by
  intro M α σ H ρ s ok st QD QX Q q k kx
  refine h ok st _ QX _ q (fun vs H1 ds s1 p1 st1 r z => ?_) kx
  obtain ⟨y, e, z⟩ := opt_ex z
  have ok1 := ok.step p1
  have hno : ∀ o ∈ os, o ≠ Mo.f := fun o z e => by
    have := List.all_eq_true.mp ho o z
    rw [e] at this
    cases this
  show spF K os F (vs ++ []) H1 Q E
  rw [List.append_nil]
  refine ⟨S, Γ, mask M α ρ, s1, ds, ok.msub, ok1.mtrk, ARel.from hno r, st1, ?_⟩
  rw [e]
  cases y with
  | ok d => exact fun v H' p st' r => k v H' d s1 (p1.trans p) st' r z
  | error x => exact fun c dx H' p st' r => kx c dx H' x s1 (p1.trans p) st' r z
def startD : List Mo → List D → Env
  | .b :: os, d :: ds => .bor d :: startD os ds
  | _ :: os, d :: ds => .d d :: startD os ds
  | _, _ => []
def envD (os : List Mo) (n : Nat) (ds : List D) : Env := startD os ds ++ List.replicate (n - ds.length) .no
/-- the same without the object that is being made -/
abbrev Fr.cl {S : Type} (Γ : Fr S) : Fr S := ⟨Γ.M, Γ.st, Γ.loc, none⟩
theorem startD_own : ∀ {os : List Mo} {ds : List D} {i : Nat}, ¬ ownAt (startD os ds) i
  | [], ds, i, ⟨_, e, _⟩ => by unfold startD at e; simp at e
  | .b :: os, [], i, ⟨_, e, _⟩ => by unfold startD at e; simp at e
  | .s :: os, [], i, ⟨_, e, _⟩ => by unfold startD at e; simp at e
  | .f :: os, [], i, ⟨_, e, _⟩ => by unfold startD at e; simp at e
  | .b :: os, d :: ds, 0, ⟨_, e, o⟩ => by unfold startD at e; simp at e; subst e; cases o
  | .s :: os, d :: ds, 0, ⟨_, e, o⟩ => by unfold startD at e; simp at e; subst e; cases o
  | .f :: os, d :: ds, 0, ⟨_, e, o⟩ => by unfold startD at e; simp at e; subst e; cases o
  | .b :: os, d :: ds, i + 1, ⟨_, e, o⟩ => by unfold startD at e; exact startD_own ⟨_, (by simpa using e), o⟩
  | .s :: os, d :: ds, i + 1, ⟨_, e, o⟩ => by unfold startD at e; exact startD_own ⟨_, (by simpa using e), o⟩
  | .f :: os, d :: ds, i + 1, ⟨_, e, o⟩ => by unfold startD at e; exact startD_own ⟨_, (by simpa using e), o⟩
theorem startD_slot {M : Msk} {H : Hp} {a : Addr} : ∀ {os : List Mo} {vs : List V} {ds : List D}, (∀ o ∈ os, o ≠ .f) → ARel K Γ.M os M H H vs ds → (startD os ds).length = vs.length ∧ ∀ (i : Nat) (sl : Slot), (startD os ds)[i]? = some sl → ∃ v, vs[i]? = some v ∧ SlotR K Γ.M M M H a (some (some v)) sl
  | [], [], [], _, _ => ⟨rfl, fun i sl e => by unfold startD at e; simp at e⟩
  | o :: os, v :: vs, d :: ds, ho, ⟨h, t⟩ => by
    obtain ⟨l, q⟩ := startD_slot (a := a) (fun o z => ho o (List.mem_cons_of_mem _ z)) t
    cases o with
    | f => exact absurd rfl (ho .f List.mem_cons_self)
    | s =>
      refine ⟨by unfold startD; simp [l], fun i sl e => ?_⟩
      unfold startD at e
      cases i with
      | zero => simp at e; subst e; exact ⟨v, rfl, v, rfl, h⟩
      | succ i => exact q i sl (by simpa using e)
    | b =>
      refine ⟨by unfold startD; simp [l], fun i sl e => ?_⟩
      unfold startD at e
      cases i with
      | zero => simp at e; subst e; exact ⟨v, rfl, v, rfl, h⟩
      | succ i => exact q i sl (by simpa using e)
theorem ok_start {M : Msk} {H : Hp} {N : List Str} {vs : List V} {ds : List D} (hsf : Γ.self = none) (ho : ∀ o ∈ os, o ≠ .f) (h1 : ∀ a, Γ.M a → M a) (h2 : ∀ a, M a → H a ≠ none) (r : ARel K Γ.M os M H H vs ds) : Ok Γ K M (fun _ => 0) (start N vs) H (envD os N.length ds) ∧ ∀ i, ¬ ownAt (envD os N.length ds) i := by
  obtain ⟨l1, l2⟩ := ARel.len r
  obtain ⟨sl, q⟩ := startD_slot (a := 0) ho r
  have get : ∀ (i : Nat) (s : Slot), (envD os N.length ds)[i]? = some s → s = .no ∨ (startD os ds)[i]? = some s := fun i s e => by
    unfold envD at e
    by_cases h : i < (startD os ds).length
    · rw [List.getElem?_append_left h] at e
      exact .inr e
    · rw [List.getElem?_append_right (by omega), List.getElem?_replicate] at e
      split at e
      · cases e; exact .inl rfl
      · cases e
  have no : ∀ i, ¬ ownAt (envD os N.length ds) i := fun i ⟨s, e, o⟩ => by
    rcases get i s e with rfl | e
    · cases o
    · exact startD_own ⟨s, e, o⟩
  refine ⟨⟨h1, h2, fun i o => absurd o (no i), fun i j a b => absurd a (no i), ?_, fun i s e => ?_, fun a z => by rw [hsf] at z; cases z⟩, no⟩
  · unfold start envD
    rw [List.length_append, List.length_append, List.length_map, List.length_replicate, List.length_replicate, sl]
    omega
  · rcases get i s e with rfl | e
    · trivial
    · obtain ⟨v, ev, rs⟩ := q i s e
      have es : (start N vs)[i]? = some (some v) := by
        unfold start
        rw [List.getElem?_append_left (by rw [List.length_map]; exact (List.getElem?_eq_some_iff.mp ev).1), List.getElem?_map, ev]
        rfl
      rw [es]
      have mm : ∀ a, mask M (fun _ => 0) (envD os N.length ds) a → M a := by
        rintro a (z | ⟨j, o, _⟩)
        · exact z
        · exact absurd o (no j)
      have c : Same (cut M H) (cut (mask M (fun _ => 0) (envD os N.length ds)) H) := cut_mono mm
      cases s with
      | no => trivial
      | d y => obtain ⟨v, e1, r⟩ := rs; exact ⟨v, e1, R.same c r⟩
      | bor y =>
        obtain ⟨v, e1, r⟩ := rs
        exact ⟨v, e1, RBo.carry c (fun _ _ _ _ e => e) r⟩
      | own y => exact absurd ⟨_, e, rfl⟩ startD_own
end
/-- what a def's body is to reach -/
def postF {S : Type} (s : S) (r : Except Exn D) : Post S where
  nx := fun _ s' => r = .ok dN ∧ s' = s
  rt := fun d s' => r = .ok d ∧ s' = s
  ex := fun x s' => r = .error x ∧ s' = s
/-- THE RULE for a def over data alone -/
theorem fn_data {P : Program} {w : World} {K : W.Frag} {mg : Str → Option Value} {base : Heap} {x qual : Str} {st : Stmt} {f : Addr} {fd : FuncData} {N ps : List Str} {k : Nat} {os : List Mo} {F : Fn}
    (Fd : Fun K x qual st f fd) (Sc : FnScope N ps (defScope st)) (hl : os.length = ps.length) (ho : os.all (fun o => match o with | .f => false | _ => true) = true)
    (hbody : ∀ (cdv : Value) (A : Around) (outer : List PySem.Env) (s : Shared) (H : Hp) (E : XK), Room k (A.deeper (envOfC qual (defScope st) s.heap.objs.size f cdv)) → Quiet (A.deeper (envOfC qual (defScope st) s.heap.objs.size f cdv)) →
      ∃ t, PSs (cxOf (L2.CX P w) P w K mg base N qual (defScope st) f cdv A outer s H E) (defBody st) t ∧
        ∀ (S : Type) (Γ : Fr S), ∃ T : TP S, LnS Γ K E t T ∧ ∀ (ds : List D) (r : Except Exn D) (s : S), F ds = some r → T (envD os N.length ds) s (postF s r)) :
    FnG P w K mg base (L2.CX P w) (k + 1) f fd ps (spF K os F) := by
  have hno : ∀ o ∈ os, o ≠ Mo.f := fun o z e => by
    have := List.all_eq_true.mp ho o z
    rw [e] at this
    cases this
  refine body_g Fd Sc (fun vs H Q E ⟨S, Γ, M, s, ds, _, _, r, _⟩ => by rw [(ARel.len r).1]; exact hl) ?_
  rintro cdv A outer s H vs Q E hr hq ⟨S, Γ, M, s0, ds, h1, h2, r, st0, q⟩
  obtain ⟨t, ht, hT⟩ := hbody cdv A outer s H E hr hq
  obtain ⟨T, lt, main⟩ := hT S Γ.cl
  obtain ⟨y, e, q⟩ := opt_ex q
  obtain ⟨ok, no⟩ := ok_start (Γ := Γ.cl) (N := N) rfl hno h1 h2 r
  have back' : ∀ {w : Msk} {H' : Hp}, StS (wmask Γ.cl (fun _ => 0) (envD os N.length ds)) w H H' → Stp Γ H H' := fun p => ⟨fun a o n e => p.keep a o (fun z => z.elim n fun ⟨j, o, _⟩ => no j o) e, p.trk⟩
  refine ⟨t, ht, lt ok st0 _ _ (main ds y s0 e) (fun σ' H' ρ' s' α' ok' st' p z => ?_) (fun _ _ _ _ _ _ _ _ z => z.elim) (fun _ _ _ _ _ _ _ _ z => z.elim) (fun v H' d s' p st' r' z => ?_) (fun c dx H' x s' p st' r' z => ?_)⟩
  · obtain ⟨z1, z2⟩ := z
    subst z1 z2
    exact q .non H' (back' p) st' (.v _)
  · obtain ⟨z1, z2⟩ := z
    subst z1 z2
    exact q v H' (back' p) st' r'
  · obtain ⟨z1, z2⟩ := z
    subst z1 z2
    exact q c dx H' (back' p) st' r'
end L2.DL
/-! Operators and built-ins over data -/
namespace L2.DL
open L2 L2.My PySem PySem.Spec PyProof.Rows

/-! ### plain data -/
mutual
def toPy : D → Option PyData
  | .v .non => some .none
  | .v (.bl b) => some (.bool b)
  | .v (.int i) => some (.int i)
  | .v (.str x) => some (.str x)
  | .v _ => none
  | .tup xs => (toPyAll xs).map .tuple
  | .lst xs => (toPyAll xs).map .list
  | .dct _ => none
  | .obj _ _ => none
  | .exc _ _ => none
  | .dtp _ => none
def toPyAll : List D → Option (List PyData)
  | [] => some []
  | x :: r => match toPy x, toPyAll r with
    | some a, some b => some (a :: b)
    | _, _ => none
end
section
variable {K : W.Frag} {G : Hp}
mutual
theorem py_dp : ∀ {d : D} {v : V} {p : PyData}, R K G v d → toPy d = some p → Dp K G v p
  | .v x, _, p, .v _, e => by
    cases x with
    | non => simp only [toPy, Option.some.injEq] at e; subst e; exact .non
    | bl b => simp only [toPy, Option.some.injEq] at e; subst e; exact .bl b
    | int i => simp only [toPy, Option.some.injEq] at e; subst e; exact .int i
    | str x => simp only [toPy, Option.some.injEq] at e; subst e; exact .str x
    | byt _ => simp [toPy] at e
    | flt _ => simp [toPy] at e
    | ref _ => simp [toPy] at e
    | ty _ => simp [toPy] at e
  | .tup xs, _, p, .tup h1 h2, e => by
    simp only [toPy, Option.map_eq_some_iff] at e
    obtain ⟨ps, e, rfl⟩ := e
    exact .tup h1 (py_dps h2 e)
  | .lst xs, _, p, .lst h1 h2, e => by
    simp only [toPy, Option.map_eq_some_iff] at e
    obtain ⟨ps, e, rfl⟩ := e
    exact .lst (.inl (.inl h1)) (py_dps h2 e)
  | .dct _, _, p, _, e => by simp [toPy] at e
  | .obj _ _, _, p, _, e => by simp [toPy] at e
  | .exc _ _, _, p, _, e => by simp [toPy] at e
  | .dtp _, _, p, _, e => by simp [toPy] at e
theorem py_dps : ∀ {ds : List D} {vs : List V} {ps : List PyData}, RAll K G vs ds → toPyAll ds = some ps → DpAll K G vs ps
  | [], _, ps, .nil, e => by simp only [toPyAll, Option.some.injEq] at e; subst e; exact .nil
  | d :: ds, _, ps, .cons h1 h2, e => by
    simp only [toPyAll] at e
    split at e
    · rename_i a b e1 e2
      cases e
      exact .cons (py_dp h1 e1) (py_dps h2 e2)
    · cases e
end
mutual
theorem Dp.same {H H' : Hp} (s : Same H H') : ∀ {v : V} {d : PyData}, Dp K H v d → Dp K H' v d
  | _, _, .non => .non
  | _, _, .bl b => .bl b
  | _, _, .int i => .int i
  | _, _, .str x => .str x
  | _, _, .lst h1 h2 => .lst (SqL.same s h1) (DpAll.same s h2)
  | _, _, .tup h1 h2 => .tup (SqT.same s h1) (DpAll.same s h2)
theorem DpAll.same {H H' : Hp} (s : Same H H') : ∀ {v : List V} {d : List PyData}, DpAll K H v d → DpAll K H' v d
  | _, _, .nil => .nil
  | _, _, .cons h1 h2 => .cons (Dp.same s h1) (DpAll.same s h2)
end
theorem rb_dp {g m : Msk} {H : Hp} {v : V} {d : D} {p : PyData} (r : RB K g m H v d) (e : toPy d = some p) : Dp K H v p := by
  rcases r with r | ⟨a, c, rfl, rfl, _, h⟩
  · exact Dp.same cut_le (py_dp r e)
  · cases c with
    | lst xs =>
      obtain ⟨vs, h1, h2⟩ := h
      simp only [Cell.toD, toPy, Option.map_eq_some_iff] at e
      obtain ⟨ps, e, rfl⟩ := e
      exact .lst (.inl (.inl h1)) (DpAll.same cut_le (py_dps h2 e))
    | _ => simp [Cell.toD, toPy] at e
end
mutual
theorem toPy_plain : ∀ {d : D} {p : PyData}, toPy d = some p → p.plain = true
  | .v x, p, e => by
    cases x <;> simp only [toPy, Option.some.injEq, reduceCtorEq] at e <;> subst e <;> rfl
  | .tup xs, p, e => by
    simp only [toPy, Option.map_eq_some_iff] at e
    obtain ⟨ps, e, rfl⟩ := e
    rw [PyData.plain]; exact toPy_plains e
  | .lst xs, p, e => by
    simp only [toPy, Option.map_eq_some_iff] at e
    obtain ⟨ps, e, rfl⟩ := e
    rw [PyData.plain]; exact toPy_plains e
  | .dct _, p, e => by simp [toPy] at e
  | .obj _ _, p, e => by simp [toPy] at e
  | .exc _ _, p, e => by simp [toPy] at e
  | .dtp _, p, e => by simp [toPy] at e
theorem toPy_plains : ∀ {ds : List D} {ps : List PyData}, toPyAll ds = some ps → PyData.plainAll ps = true
  | [], ps, e => by simp only [toPyAll, Option.some.injEq] at e; subst e; rfl
  | d :: ds, ps, e => by
    simp only [toPyAll] at e
    split at e
    · rename_i a b e1 e2
      cases e
      rw [PyData.plainAll, toPy_plain e1, toPy_plains e2]; rfl
    · cases e
end

/-! ### ==, !=, in -/
section
variable {X : Cx}
def rEqP (K : W.Frag) (b : Bool) : R2 := fun x y H Q => ∃ d e, Dp K H x d ∧ Dp K H y e ∧ d.plain = true ∧ e.plain = true ∧ min d.depth e.depth ≤ 60 ∧ Q (.bl (b == PyData.eqv d e)) H
theorem op_eqP (hu : X.A.units + 64 < cLine) : OpR X (compareOp .Eq) (rEqP X.K true) := by
  intro pins s σ H x y v u Q I rx ry ⟨d, e, h1, h2, p1, p2, l, h⟩
  obtain ⟨as, r1⟩ := Dp.reads I d x v h1 rx
  obtain ⟨bs, r2⟩ := Dp.reads I e y u h2 ry
  exact SeqAt.eq_plain r1 r2 p1 p2 (by omega) ⟨.bl _, H, I, rfl, by simpa using h⟩
theorem op_neP (hu : X.A.units + 64 < cLine) : OpR X (compareOp .NotEq) (rEqP X.K false) := by
  intro pins s σ H x y v u Q I rx ry ⟨d, e, h1, h2, p1, p2, l, h⟩
  obtain ⟨as, r1⟩ := Dp.reads I d x v h1 rx
  obtain ⟨bs, r2⟩ := Dp.reads I e y u h2 ry
  have eb : ∀ b : Bool, (false == b) = !b := by decide
  exact SeqAt.ne_plain r1 r2 p1 p2 (by omega) ⟨.bl _, H, I, rfl, by rw [← eb]; exact h⟩
def rInP (K : W.Frag) (b : Bool) : R2 := fun x y H Q => ∃ d es, Dp K H x d ∧ (Dp K H y (.list es) ∨ Dp K H y (.tuple es)) ∧ d.plain = true ∧ PyData.plainAll es = true ∧ min (PyData.depthAll es) d.depth ≤ 60 ∧ Q (.bl (b == es.any fun z => PyData.eqv z d)) H
theorem op_inP (hu : X.A.units + 64 < cLine) : OpR X (compareOp .In) (rInP X.K true) := by
  intro pins s σ H x y v u Q I rx ry ⟨d, es, h1, h2, p1, p2, l, h⟩
  obtain ⟨as, r1⟩ := Dp.reads I d x v h1 rx
  rcases h2 with h2 | h2
  · obtain ⟨bs, r2⟩ := Dp.reads I _ y u h2 ry
    exact SeqAt.in_list_data r2 r1 p2 p1 (by omega) ⟨.bl _, H, I, rfl, by simpa using h⟩
  · obtain ⟨bs, r2⟩ := Dp.reads I _ y u h2 ry
    exact SeqAt.in_tuple_data r2 r1 p2 p1 (by omega) ⟨.bl _, H, I, rfl, by simpa using h⟩
theorem op_notInP (hu : X.A.units + 64 < cLine) : OpR X (compareOp .NotIn) (rInP X.K false) := by
  intro pins s σ H x y v u Q I rx ry ⟨d, es, h1, h2, p1, p2, l, h⟩
  obtain ⟨as, r1⟩ := Dp.reads I d x v h1 rx
  have eb : ∀ b : Bool, (false == b) = !b := by decide
  rcases h2 with h2 | h2
  · obtain ⟨bs, r2⟩ := Dp.reads I _ y u h2 ry
    exact SeqAt.notIn_list_data r2 r1 p2 p1 (by omega) ⟨.bl _, H, I, rfl, by rw [← eb]; exact h⟩
  · obtain ⟨bs, r2⟩ := Dp.reads I _ y u h2 ry
    exact SeqAt.notIn_tuple_data r2 r1 p2 p1 (by omega) ⟨.bl _, H, I, rfl, by rw [← eb]; exact h⟩
end
def eqD (b : Bool) (x y : D) : Option D := match toPy x, toPy y with
  | some d, some e => if min d.depth e.depth ≤ 60 then some (dB (b == PyData.eqv d e)) else none
  | _, _ => none
def inD (b : Bool) (x y : D) : Option D := match toPy x, asSeq y with
  | some d, some ys => (match toPyAll ys with
    | some es => if min (PyData.depthAll es) d.depth ≤ 60 then some (dB (b == es.any fun z => PyData.eqv z d)) else none
    | none => none)
  | _, _ => none
section
variable {K : W.Frag}
theorem sc_out {mo : Mo} {g m : Msk} {H : Hp} {x : V} (h : mo ≠ .f) : RR K g mo m H H x (.v x) := by
  cases mo with
  | b => exact .inl (.v x)
  | s => exact .v x
  | f => exact absurd rfl h
theorem p2_eq {b : Bool} : P2 K .s (rEqP K b) (eqD b) := by
  intro g m H v u d c e Q hm r1 r2 he k
  unfold eqD at he
  split at he
  · rename_i p q e1 e2
    split at he
    · rename_i l
      cases he
      exact ⟨p, q, rb_dp r1 e1, rb_dp r2 e2, toPy_plain e1, toPy_plain e2, l, k _ H (Same.refl _) (.v _)⟩
    · cases he
  · cases he
theorem p2_in {b : Bool} : P2 K .s (rInP K b) (inD b) := by
  intro g m H v u d c e Q hm r1 r2 he k
  unfold inD at he
  split at he
  · rename_i p ys e1 e2
    split at he
    · rename_i es e3
      split at he
      · rename_i l
        cases he
        refine ⟨p, es, rb_dp r1 e1, ?_, toPy_plain e1, toPy_plains e3, l, k _ H (Same.refl _) (.v _)⟩
        unfold asSeq at e2
        split at e2
        · cases e2; exact .inl (rb_dp r2 (by simp [toPy, e3]))
        · cases e2; exact .inr (rb_dp r2 (by simp [toPy, e3]))
        · cases e2
      · cases he
    · cases he
  · cases he
/-! ### numbers -/
def ii (f : Int → Int → Option D) (x y : D) : Option D := match x, y with
  | .v (.int i), .v (.int j) => f i j
  | _, _ => none
theorem ii_ex {f : Int → Int → Option D} {x y : D} {e : D} (h : ii f x y = some e) : ∃ i j, x = dI i ∧ y = dI j ∧ f i j = some e := by
  unfold ii at h
  split at h
  · exact ⟨_, _, rfl, rfl, h⟩
  · cases h
theorem p2_rI0 {g : Int → Int → V} : P2 K .s (rI0 g) (ii fun i j => some (.v (g i j))) := by
  intro g' m H v u d c e Q hm r1 r2 he k
  obtain ⟨i, j, rfl, rfl, q⟩ := ii_ex he
  cases q
  exact ⟨i, j, RBo.sc r1, RBo.sc r2, k _ H (Same.refl _) (.v _)⟩
theorem p2_rI {C : Int → Int → Prop} {Cb : Int → Int → Bool} {g : Int → Int → V} (hc : ∀ i j, Cb i j = true → C i j) : P2 K .s (rI C g) (ii fun i j => if Cb i j = true then some (.v (g i j)) else none) := by
  intro g' m H v u d c e Q hm r1 r2 he k
  obtain ⟨i, j, rfl, rfl, q⟩ := ii_ex he
  split at q
  · rename_i z
    cases q
    exact ⟨i, j, RBo.sc r1, RBo.sc r2, hc i j z, k _ H (Same.refl _) (.v _)⟩
  · cases q
def divB (_ j : Int) : Bool := decide (0 < j) && decide (j.natAbs.log2 < 9000)
theorem divB_ok : ∀ i j, divB i j = true → CDivW i j := fun i j h => by simpa [divB, CDivW] using h
def modB (_ j : Int) : Bool := decide (0 < j)
theorem modB_ok : ∀ i j, modB i j = true → 0 < j := fun i j h => by simpa [modB] using h
def powB (i j : Int) : Bool := decide (0 ≤ j) && decide (j ≤ 1000000) && decide (i.natAbs < 2 ^ 64)
theorem powB_ok : ∀ i j, powB i j = true → CPow i j := fun i j h => by
  simp only [powB, Bool.and_eq_true, decide_eq_true_eq] at h
  exact ⟨h.1.1, h.1.2, h.2⟩
def mulB (i j : Int) : Bool := (decide (-(2 ^ 64) < i) && decide (i < 2 ^ 64)) || (decide (-(2 ^ 64) < j) && decide (j < 2 ^ 64))
theorem mulB_ok : ∀ i j, mulB i j = true → CMul i j := fun i j h => by
  simp only [mulB, Bool.and_eq_true, Bool.or_eq_true, decide_eq_true_eq] at h
  exact h
theorem p2_div : P2 K .s (rI CDivW fun i j => .int (i / j)) (ii fun i j => if divB i j = true then some (dI (i / j)) else none) := p2_rI divB_ok
theorem p2_mod : P2 K .s (rI (fun _ j => 0 < j) fun i j => .int (i % j)) (ii fun i j => if modB i j = true then some (dI (i % j)) else none) := p2_rI modB_ok
theorem p2_pow : P2 K .s (rI CPow fun i j => .int (i ^ j.toNat)) (ii fun i j => if powB i j = true then some (dI (i ^ j.toNat)) else none) := p2_rI powB_ok
/-! ### + -/
def rAddD (K : W.Frag) : R2 := fun x y H Q => rAddU x y H Q ∨ rCatA K x y H Q
theorem op_addD {X : Cx} : OpR X (binaryOp .Add) (rAddD X.K) := OpR.or op_addU op_catA
def addD (x y : D) : Option D := match x, y with
  | .v (.int i), .v (.int j) => some (dI (i + j))
  | .v (.str a), .v (.str b) => if a.length + b.length ≤ sizeLine then some (dS (a ++ b)) else none
  | .lst xs, .lst ys => if xs.length + ys.length ≤ sizeLine then some (.lst (xs ++ ys)) else none
  | .tup xs, .tup ys => if xs.length + ys.length ≤ sizeLine then some (.tup (xs ++ ys)) else none
  | _, _ => none
def addL (x y : D) : Option D := match x, y with
  | .lst xs, .lst ys => if xs.length + ys.length ≤ sizeLine then some (.lst (xs ++ ys)) else none
  | _, _ => none
theorem p2_addL : P2 K .f (rAddD K) addL := by
  intro g m H v u d c e Q hm r1 r2 he k
  unfold addL at he
  split at he
  · rename_i xs ys
    split at he
    · rename_i l
      cases he
      obtain ⟨a, ws, rfl, h1, q1⟩ := RBo.lst r1
      obtain ⟨b, us, rfl, h2, q2⟩ := RBo.lst r2
      exact .inl (.inr (.inr ⟨a, b, ws, us, rfl, rfl, h1, h2, by rw [RAll.len q1, RAll.len q2]; exact l, fun p hp => k _ _ (same_upd hp) (lay_lst hm hp (q1.app q2))⟩))
    · cases he
  · cases he
theorem p2_add : P2 K .s (rAddD K) addD := by
  intro g m H v u d c e Q hm r1 r2 he k
  unfold addD at he
  split at he
  · cases he
    exact .inl (.inl ⟨_, _, RBo.sc r1, RBo.sc r2, k _ H (Same.refl _) (.v _)⟩)
  · split at he
    · rename_i l
      cases he
      exact .inl (.inr (.inl ⟨_, _, RBo.sc r1, RBo.sc r2, l, k _ H (Same.refl _) (.v _)⟩))
    · cases he
  · rename_i xs ys
    exact p2_addL (e := e) hm r1 r2 he fun v' H' s r => k v' H' s (RF.strict hm r)
  · rename_i xs ys
    split at he
    · rename_i l
      cases he
      obtain ⟨a, ws, rfl, h1, q1⟩ := RBo.tup r1
      obtain ⟨b, us, rfl, h2, q2⟩ := RBo.tup r2
      have strict : ∀ {a : Addr} {ds : List D}, RB K g m H (.ref a) (.tup ds) → R K (cut m H) (.ref a) (.tup ds) := fun r => by
        rcases r with r | ⟨_, c, _, e, _⟩
        · exact r
        · cases c <;> cases e
      refine .inr ⟨a, b, ws, us, rfl, rfl, h1, h2, by rw [RAll.len q1, RAll.len q2]; exact l, fun z => ?_, fun _ z => ?_, fun _ _ p hp => k _ _ (same_upd hp) (lay_tup hm hp (q1.app q2))⟩
      · have : xs = [] := by
          have := RAll.len q1
          rw [z] at this
          exact List.eq_nil_of_length_eq_zero this.symm
        subst this
        exact k _ H (Same.refl _) (strict r2)
      · have : ys = [] := by
          have := RAll.len q2
          rw [z] at this
          exact List.eq_nil_of_length_eq_zero this.symm
        subst this
        exact k _ H (Same.refl _) (by rw [List.append_nil]; exact strict r1)
    · cases he
  · cases he
/-! ### * -/
def mulD (x y : D) : Option D := match x, y with
  | .v (.int i), .v (.int j) => if mulB i j = true then some (dI (i * j)) else none
  | _, _ => none
theorem p2_mul : P2 K .s rMulU mulD := by
  intro g m H v u d c e Q hm r1 r2 he k
  unfold mulD at he
  split at he
  · split at he
    · rename_i l
      cases he
      exact .inl ⟨_, _, RBo.sc r1, RBo.sc r2, mulB_ok _ _ l, k _ H (Same.refl _) (.v _)⟩
    · cases he
  · cases he
def mulL (x y : D) : Option D := match x, y with
  | .lst xs, .v (.int k) => if decide (-(2 ^ 63) ≤ k) && decide (k < 2 ^ 63) && decide (xs.length * k.toNat ≤ sizeLine) then some (.lst (List.replicate k.toNat xs).flatten) else none
  | _, _ => none
theorem RAll.rep {G : Hp} {vs : List V} {ds : List D} (h : RAll K G vs ds) : ∀ n : Nat, RAll K G (List.replicate n vs).flatten (List.replicate n ds).flatten
  | 0 => .nil
  | n + 1 => by
    rw [List.replicate_succ, List.replicate_succ, List.flatten_cons, List.flatten_cons]
    exact h.app (RAll.rep h n)
/-! ### <, <= .. of numbers, of texts -/
def rCmpD (p : Int → Int → Bool) (q : List Nat → List Nat → Bool) : R2 := fun x y H Q => (∃ i j, x = .int i ∧ y = .int j ∧ Q (.bl (p i j)) H) ∨ (∃ i j, x = .str i ∧ y = .str j ∧ Q (.bl (q i.cps.toList j.cps.toList)) H)
abbrev rLtD := rCmpD (fun i j => decide (i < j)) (fun i j => decide (i < j))
abbrev rLeD := rCmpD (fun i j => decide (i ≤ j)) (fun i j => !decide (j < i))
abbrev rGtD := rCmpD (fun i j => decide (j < i)) (fun i j => decide (j < i))
abbrev rGeD := rCmpD (fun i j => decide (j ≤ i)) (fun i j => !decide (i < j))
theorem op_ltD {X : Cx} : OpR X (compareOp .Lt) rLtD := OpR.or op_lt op_lt_str
theorem op_leD {X : Cx} : OpR X (compareOp .LtE) rLeD := OpR.or op_le op_le_str
theorem op_gtD {X : Cx} : OpR X (compareOp .Gt) rGtD := OpR.or op_gt op_gt_str
theorem op_geD {X : Cx} : OpR X (compareOp .GtE) rGeD := OpR.or op_ge op_ge_str
def cmpD (p : Int → Int → Bool) (q : List Nat → List Nat → Bool) (x y : D) : Option D := match x, y with
  | .v (.int i), .v (.int j) => some (dB (p i j))
  | .v (.str i), .v (.str j) => some (dB (q i.cps.toList j.cps.toList))
  | _, _ => none
theorem p2_cmp {p : Int → Int → Bool} {q : List Nat → List Nat → Bool} : P2 K .s (rCmpD p q) (cmpD p q) := by
  intro g m H v u d c e Q hm r1 r2 he k
  unfold cmpD at he
  split at he
  · cases he; exact .inl ⟨_, _, RBo.sc r1, RBo.sc r2, k _ H (Same.refl _) (.v _)⟩
  · cases he; exact .inr ⟨_, _, RBo.sc r1, RBo.sc r2, k _ H (Same.refl _) (.v _)⟩
  · cases he
/-! ### is None, is True -/
def isD (b : Bool) (x y : D) : Option D := match y with
  | .v .non => (match x with
    | .v z => some (dB (b == decide (z = .non)))
    | _ => some (dB (b == false)))
  | .v (.bl c) => (match x with
    | .v (.bl a) => some (dB (b == decide (a = c)))
    | _ => none)
  | _ => none
def rIs (b : Bool) : R2 := fun x y H Q => (y = .non ∧ Q (.bl (b == decide (x = .non))) H) ∨ (∃ a c, x = .bl a ∧ y = .bl c ∧ Q (.bl (b == decide (a = c))) H)
theorem op_isD {X : Cx} : OpR X (compareOp .Is) (rIs true) := by
  intro pins s σ H x y v u Q I rx ry h
  rcases h with ⟨h1, h⟩ | ⟨a, c, h1, h2, h⟩
  · exact op_isN pins s σ H x y v u Q I rx ry ⟨h1, by simpa using h⟩
  · exact op_is_bl pins s σ H x y v u Q I rx ry ⟨a, c, h1, h2, by simpa using h⟩
theorem op_isNotD {X : Cx} : OpR X (compareOp .IsNot) (rIs false) := by
  intro pins s σ H x y v u Q I rx ry h
  have eb : ∀ b : Bool, (false == b) = !b := by decide
  rcases h with ⟨h1, h⟩ | ⟨a, c, h1, h2, h⟩
  · exact op_notN pins s σ H x y v u Q I rx ry ⟨h1, by rw [← eb]; exact h⟩
  · exact op_isnot_bl pins s σ H x y v u Q I rx ry ⟨a, c, h1, h2, by rw [← eb]; exact h⟩
theorem rb_ref {g m : Msk} {H : Hp} {v : V} {d : D} (r : RB K g m H v d) (h : ∀ x, d ≠ .v x) : v ≠ .non := by
  rcases r with r | ⟨a, c, rfl, _⟩
  · cases r with
    | v x => exact absurd rfl (h _)
    | _ => exact fun z => by cases z
  · exact fun z => by cases z
theorem p2_is {b : Bool} : P2 K .s (rIs b) (isD b) := by
  intro g m H v u d c e Q hm r1 r2 he k
  unfold isD at he
  split at he
  · obtain rfl := RBo.sc r2
    split at he
    · cases he
      obtain rfl := RBo.sc r1
      exact .inl ⟨rfl, k _ H (Same.refl _) (.v _)⟩
    · rename_i n
      cases he
      refine .inl ⟨rfl, ?_⟩
      rw [decide_eq_false (rb_ref r1 fun x z => n x z)]
      exact k _ H (Same.refl _) (.v _)
  · obtain rfl := RBo.sc r2
    split at he
    · cases he
      obtain rfl := RBo.sc r1
      exact .inr ⟨_, _, rfl, rfl, k _ H (Same.refl _) (.v _)⟩
    · cases he
  · cases he
/-! ### x[i], len, list(x), tuple(x), int(x), abs(x) -/
def ixD (x y : D) : Option D := match x, y with
  | .lst xs, .v (.int i) => atI xs i
  | .tup xs, .v (.int i) => atI xs i
  | .v (.str z), .v (.int i) => if z.length ≤ sizeLine then (atI z.cps.toList i).map fun c => dS ⟨#[c]⟩ else none
  | _, _ => none
theorem atI_rel {G : Hp} {xs : List V} {ds : List D} {i : Int} {d : D} (r : RAll K G xs ds) (e : atI ds i = some d) : ∃ v, atI xs i = some v ∧ R K G v d := by
  unfold atI at e ⊢
  rw [RAll.len r]
  cases q : ixN ds.length i with
  | none => rw [q] at e; cases e
  | some j => rw [q] at e; exact RAll.getD r e
theorem p2_ix : P2 K .s (rIx K) ixD := by
  intro g m H v u d c e Q hm r1 r2 he k
  unfold ixD at he
  split at he
  · obtain ⟨a, ws, rfl, h1, q1⟩ := RBo.lst r1
    obtain ⟨v, e1, rv⟩ := atI_rel q1 he
    exact .inl ⟨a, ws, _, v, rfl, RBo.sc r2, .inl (.inl h1), e1, k _ H (Same.refl _) rv⟩
  · obtain ⟨a, ws, rfl, h1, q1⟩ := RBo.tup r1
    obtain ⟨v, e1, rv⟩ := atI_rel q1 he
    exact .inr (.inl ⟨a, ws, _, v, rfl, RBo.sc r2, h1, e1, k _ H (Same.refl _) rv⟩)
  · split at he
    · rename_i l
      rw [Option.map_eq_some_iff] at he
      obtain ⟨c, e1, rfl⟩ := he
      exact .inr (.inr ⟨_, _, c, RBo.sc r1, RBo.sc r2, l, e1, k _ H (Same.refl _) (.v _)⟩)
    · cases he
  · cases he
def lenD (x : D) : Option D := match x with
  | .lst xs => some (dI xs.length)
  | .tup xs => some (dI xs.length)
  | .v (.str z) => if z.length ≤ sizeLine then some (dI z.length) else none
  | _ => none
def rLenD (K : W.Frag) : List V → Hp → VK → Prop := fun xs H Q => rLen1 K xs H Q ∨ ∃ z : Str, xs = [.str z] ∧ z.length ≤ sizeLine ∧ Q (.int z.length) H
theorem c_lenD {X : Cx} : CallR X (.builtin "len") (rLenD X.K) := by
  intro pins s σ H xs us Q I r h
  rcases h with h | h
  · exact c_len pins s σ H xs us Q I r h
  · exact call_len_str pins s σ H xs us Q I r h
theorem p1_len : P1 K .s (fun v => rLenD K [v]) lenD := by
  intro g m H v d e Q hm r he k
  unfold lenD at he
  split at he
  · cases he
    obtain ⟨a, ws, rfl, h1, q1⟩ := RBo.lst r
    exact .inl ⟨a, ws, rfl, .inl (.inl (.inl h1)), by rw [RAll.len q1]; exact k _ H (Same.refl _) (.v _)⟩
  · cases he
    obtain ⟨a, ws, rfl, h1, q1⟩ := RBo.tup r
    exact .inl ⟨a, ws, rfl, .inr h1, by rw [RAll.len q1]; exact k _ H (Same.refl _) (.v _)⟩
  · split at he
    · rename_i l
      cases he
      exact .inr ⟨_, by rw [RBo.sc r], l, k _ H (Same.refl _) (.v _)⟩
    · cases he
  · cases he
def listD (x : D) : Option D := (asSeq x).map .lst
theorem p1_list : P1 K .f (fun v => rList1 K [v]) listD := by
  intro g m H v d e Q hm r he k
  unfold listD asSeq at he
  split at he
  · cases he
    obtain ⟨a, ws, rfl, h1, q1⟩ := RBo.lst r
    exact ⟨a, ws, rfl, .inl (.inl (.inl h1)), fun l hl => k _ _ (same_upd hl) (lay_lst hm hl q1)⟩
  · cases he
    obtain ⟨a, ws, rfl, h1, q1⟩ := RBo.tup r
    exact ⟨a, ws, rfl, .inr h1, fun l hl => k _ _ (same_upd hl) (lay_lst hm hl q1)⟩
  · cases he
def intD (x : D) : Option D := match x with
  | .v (.int i) => some (dI i)
  | .v (.bl k) => some (dI (if k then 1 else 0))
  | _ => none
theorem p1_int : P1 K .s (fun v => rInt1 [v]) intD := by
  intro g m H v d e Q hm r he k
  unfold intD at he
  split at he
  · cases he; exact .inl ⟨_, by rw [RBo.sc r], k _ H (Same.refl _) (.v _)⟩
  · cases he; exact .inr ⟨_, by rw [RBo.sc r], k _ H (Same.refl _) (.v _)⟩
  · cases he
def absD (x : D) : Option D := match x with
  | .v (.int i) => some (dI (if i < 0 then -i else i))
  | _ => none
theorem p1_abs : P1 K .s (fun v => rAbs1 [v]) absD := by
  intro g m H v d e Q hm r he k
  unfold absD at he
  split at he
  · cases he; exact ⟨_, by rw [RBo.sc r], k _ H (Same.refl _) (.v _)⟩
  · cases he
/-! ### isinstance with a built-in class -/
def tyD : D → Option String
  | .v .non => some "NoneType"
  | .v (.bl _) => some "bool"
  | .v (.int _) => some "int"
  | .v (.str _) => some "str"
  | .tup _ => some "tuple"
  | .lst _ => some "list"
  | .dct _ => some "dict"
  | _ => none
def isTab (a b : String) : Bool := a == b || (a == "bool" && b == "int")
def tyNames : List String := ["NoneType", "bool", "int", "str", "tuple", "list", "dict"]
theorem kit_tab : ∀ a ∈ tyNames, ∀ b ∈ tyNames.drop 1, kitB a b = some (isTab a b) := by decide +kernel
theorem tyD_mem {d : D} {a : String} (h : tyD d = some a) : a ∈ tyNames := by
  unfold tyD at h
  split at h <;> first | (cases h; decide) | cases h
def isiD (x y : D) : Option D := match y with
  | .v (.ty b) => if b ∈ tyNames.drop 1 then (tyD x).map fun a => dB (isTab a b) else none
  | _ => none
theorem rb_ty {g m : Msk} {H : Hp} {v : V} {d : D} {a : String} (r : RB K g m H v d) (h : tyD d = some a) : TyX K H v (.type a) := by
  unfold tyD at h
  split at h
  · cases h; rw [RBo.sc r]; exact .base .non
  · cases h; rw [RBo.sc r]; exact .base (.bl _)
  · cases h; rw [RBo.sc r]; exact .base (.int _)
  · cases h; rw [RBo.sc r]; exact .base (.str _)
  · cases h
    obtain ⟨b, ws, rfl, h1, _⟩ := RBo.tup r
    rcases h1 with (h1 | ⟨o, h1⟩) | ⟨o, its, n, h1, h2, h3, _⟩
    · exact .base (.tup h1)
    · exact .fTuple h1
    · exact .kTuple h1 h2
  · cases h
    obtain ⟨b, ws, rfl, h1, _⟩ := RBo.lst r
    exact .base (.lst h1)
  · cases h
    obtain ⟨b, ws, rfl, h1, _⟩ := RBo.dct r
    exact .base (.dK h1)
  · cases h
theorem p2_isi : P2 K .s (fun v u => rIsA K [v, u]) isiD := by
  intro g m H v u d c e Q hm r1 r2 he k
  unfold isiD at he
  split at he
  · rename_i b
    obtain rfl := RBo.sc r2
    split at he
    · rename_i hb
      rw [Option.map_eq_some_iff] at he
      obtain ⟨a, ea, rfl⟩ := he
      exact .inl ⟨v, .ty b, .type a, .type b, isTab a b, rfl, .ty b, rb_ty r1 ea, kit_ty (kit_tab a (tyD_mem ea) b hb), k _ H (Same.refl _) (.v _)⟩
    · cases he
  · cases he
end
end L2.DL
/-! More built-ins over data; passing of exceptions; and, or of any mode -/
namespace L2.DL
open L2 L2.My PySem PySem.Spec PyProof.Rows

theorem passF {X : Cx} : Passes (L2.CX X.prog X.w) X E0 := fun pins σ H s e s' I ⟨a, B, H', cls, d, _, _, _, _, _, _, _, q⟩ => q.elim
theorem passX {X : Cx} {E : XK} (tk : Takes X (fun cls d _ H => E cls d H)) : Passes (L2.CX X.prog X.w) X E := passes_call tk (fun _ _ _ _ h => h)
/-- a constant of the module -/
structure KnA (mg : Str → Option Value) (x : Str) (v : V) : Prop where
  ex : ∃ u, mg x = some u ∧ RelV v u
theorem pe_k {X : Cx} {x : Str} {v : V} {pos : Pos} (h : KnA X.mg x v) (hg : Gl X x) (hd : (x == ("__debug__" : Str)) = false := by decide) : PE X (.Name x pos) (tC v) := by
  obtain ⟨u, h1, h2⟩ := h.ex
  exact pe_glob hg h1 h2 hd
section
variable {K : W.Frag}
theorem P2.lend {r : R2} {f : D → D → Option D} (h : P2 K .s r f) : P2 K .b r f := fun hm r1 r2 e k => h hm r1 r2 e fun v' H' s q => k v' H' s (.inl q)
variable {S : Type} {Γ : Fr S} {E : XK} {mo : Mo} {ta tb tc : TE} {A B C : TX S}
theorem ln_andM (hmo : mo ≠ .f) (ha : Ln Γ K E .b ta A) (hb : Ln Γ K E mo tb B) : Ln Γ K E mo (tAndV ta tb) (xAnd A B) := by
  intro M α σ H ρ s ok st QD QX Q q k kx
  refine ha ok st _ QX _ q (fun vx H1 x s1 p1 st1 rx q1 => ?_) kx
  obtain ⟨c, e, q2⟩ := opt_ex q1
  obtain rfl := asB_sc rx e
  refine ⟨c, rfl, ?_⟩
  cases c with
  | true =>
    rw [if_pos rfl] at q2 ⊢
    exact hb (ok.step p1) st1 QD QX _ q2 (fun v H' d s' p st' r z => k v H' d s' (p1.trans p) st' (r.from p1.trk) z) (fun c dx H' x s' p st' r z => kx c dx H' x s' (p1.trans p) st' r z)
  | false =>
    rw [if_neg (by decide)] at q2 ⊢
    refine k _ H1 _ s1 p1 st1 ?_ q2
    cases mo with
    | b => exact .inl (.v _)
    | s => exact .v _
    | f => exact absurd rfl hmo
theorem ln_orM (hmo : mo ≠ .f) (ha : Ln Γ K E .b ta A) (hb : Ln Γ K E mo tb B) : Ln Γ K E mo (tOrV ta tb) (xOr A B) := by
  intro M α σ H ρ s ok st QD QX Q q k kx
  refine ha ok st _ QX _ q (fun vx H1 x s1 p1 st1 rx q1 => ?_) kx
  obtain ⟨c, e, q2⟩ := opt_ex q1
  obtain rfl := asB_sc rx e
  refine ⟨c, rfl, ?_⟩
  cases c with
  | true =>
    rw [if_pos rfl] at q2 ⊢
    refine k _ H1 _ s1 p1 st1 ?_ q2
    cases mo with
    | b => exact .inl (.v _)
    | s => exact .v _
    | f => exact absurd rfl hmo
  | false =>
    rw [if_neg (by decide)] at q2 ⊢
    exact hb (ok.step p1) st1 QD QX _ q2 (fun v H' d s' p st' r z => k v H' d s' (p1.trans p) st' (r.from p1.trk) z) (fun c dx H' x s' p st' r z => kx c dx H' x s' (p1.trans p) st' r z)
/-! ### any, all, sum -/
def asBs : List D → Option (List Bool)
  | [] => some []
  | .v (.bl b) :: r => (asBs r).map (b :: ·)
  | _ => none
theorem asBs_rel {G : Hp} : ∀ {ds : List D} {vs : List V} {bs : List Bool}, RAll K G vs ds → asBs ds = some bs → vs = bs.map V.bl
  | [], _, _, .nil, e => by simp only [asBs, Option.some.injEq] at e; subst e; rfl
  | d :: r, _, bs, .cons h1 h2, e => by
    cases d with
    | v x =>
      cases x with
      | bl b =>
        simp only [asBs, Option.map_eq_some_iff] at e
        obtain ⟨cs, e, rfl⟩ := e
        cases h1
        rw [asBs_rel h2 e]
        rfl
      | _ => simp [asBs] at e
    | _ => simp [asBs] at e
def asIs : List D → Option (List Int)
  | [] => some []
  | .v (.int b) :: r => (asIs r).map (b :: ·)
  | _ => none
theorem asIs_rel {G : Hp} : ∀ {ds : List D} {vs : List V} {bs : List Int}, RAll K G vs ds → asIs ds = some bs → vs = bs.map V.int
  | [], _, _, .nil, e => by simp only [asIs, Option.some.injEq] at e; subst e; rfl
  | d :: r, _, bs, .cons h1 h2, e => by
    cases d with
    | v x =>
      cases x with
      | int b =>
        simp only [asIs, Option.map_eq_some_iff] at e
        obtain ⟨cs, e, rfl⟩ := e
        cases h1
        rw [asIs_rel h2 e]
        rfl
      | _ => simp [asIs] at e
    | _ => simp [asIs] at e
def asSs : List D → Option (List Str)
  | [] => some []
  | .v (.str b) :: r => (asSs r).map (b :: ·)
  | _ => none
theorem asSs_rel {G : Hp} : ∀ {ds : List D} {vs : List V} {bs : List Str}, RAll K G vs ds → asSs ds = some bs → vs = bs.map V.str
  | [], _, _, .nil, e => by simp only [asSs, Option.some.injEq] at e; subst e; rfl
  | d :: r, _, bs, .cons h1 h2, e => by
    cases d with
    | v x =>
      cases x with
      | str b =>
        simp only [asSs, Option.map_eq_some_iff] at e
        obtain ⟨cs, e, rfl⟩ := e
        cases h1
        rw [asSs_rel h2 e]
        rfl
      | _ => simp [asSs] at e
    | _ => simp [asSs] at e
theorem asBs_map (bs : List Bool) : asBs (bs.map dB) = some bs := by
  induction bs with
  | nil => rfl
  | cons b r ih => simp [asBs, ih]
theorem asIs_map (bs : List Int) : asIs (bs.map dI) = some bs := by
  induction bs with
  | nil => rfl
  | cons b r ih => simp [asIs, ih]
theorem asSs_map (bs : List Str) : asSs (bs.map dS) = some bs := by
  induction bs with
  | nil => rfl
  | cons b r ih => simp [asSs, ih]
def allD (x : D) : Option D := match x with
  | .lst xs => (asBs xs).map fun bs => dB (bs.all id)
  | _ => none
def anyD (x : D) : Option D := match x with
  | .lst xs => (asBs xs).map fun bs => dB (bs.any id)
  | _ => none
def sumD (x : D) : Option D := match x with
  | .lst xs => (asIs xs).map fun bs => dI bs.sum
  | _ => none
theorem p1_all : P1 K .s (fun v => rAll K [v]) allD := by
  intro g m H v d e Q hm r he k
  unfold allD at he
  split at he
  · obtain ⟨a, ws, rfl, h1, q1⟩ := RBo.lst r
    rw [Option.map_eq_some_iff] at he
    obtain ⟨bs, e1, rfl⟩ := he
    have := asBs_rel q1 e1
    subst this
    exact ⟨a, bs, rfl, .inl (.inl h1), k _ H (Same.refl _) (.v _)⟩
  · cases he
theorem p1_any : P1 K .s (fun v => rAny K [v]) anyD := by
  intro g m H v d e Q hm r he k
  unfold anyD at he
  split at he
  · obtain ⟨a, ws, rfl, h1, q1⟩ := RBo.lst r
    rw [Option.map_eq_some_iff] at he
    obtain ⟨bs, e1, rfl⟩ := he
    have := asBs_rel q1 e1
    subst this
    exact ⟨a, bs, rfl, .inl (.inl h1), k _ H (Same.refl _) (.v _)⟩
  · cases he
theorem p1_sum : P1 K .s (fun v => rSum K [v]) sumD := by
  intro g m H v d e Q hm r he k
  unfold sumD at he
  split at he
  · obtain ⟨a, ws, rfl, h1, q1⟩ := RBo.lst r
    rw [Option.map_eq_some_iff] at he
    obtain ⟨bs, e1, rfl⟩ := he
    have := asIs_rel q1 e1
    subst this
    exact ⟨a, bs, rfl, .inl (.inl h1), k _ H (Same.refl _) (.v _)⟩
  · cases he
def max2D : D → D → Option D := ii fun i j => some (dI (if j > i then j else i))
def min2D : D → D → Option D := ii fun i j => some (dI (if j < i then j else i))
theorem p2_max2 : P2 K .s (fun v u H Q => ∃ i j, [v, u] = [V.int i, .int j] ∧ Q (.int (if j > i then j else i)) H) max2D := by
  intro g m H v u d c e Q hm r1 r2 he k
  obtain ⟨i, j, rfl, rfl, q⟩ := ii_ex he
  cases q
  exact ⟨i, j, by rw [RBo.sc r1, RBo.sc r2], k _ H (Same.refl _) (.v _)⟩
theorem p2_min2 : P2 K .s (fun v u H Q => ∃ i j, [v, u] = [V.int i, .int j] ∧ Q (.int (if j < i then j else i)) H) min2D := by
  intro g m H v u d c e Q hm r1 r2 he k
  obtain ⟨i, j, rfl, rfl, q⟩ := ii_ex he
  cases q
  exact ⟨i, j, by rw [RBo.sc r1, RBo.sc r2], k _ H (Same.refl _) (.v _)⟩
def tupD (x : D) : Option D := (asSeq x).map .tup
theorem rb_strict {g m : Msk} {H : Hp} {v : V} {d : D} (r : RB K g m H v d) (h1 : ∀ c : Cell, d ≠ c.toD) : R K (cut m H) v d := by
  rcases r with r | ⟨_, c, _, e, _⟩
  · exact r
  · exact absurd e (h1 _)
theorem p1_tup : P1 K .s (fun v H Q => ∃ p ys, [v] = [V.ref p] ∧ ((SqL K H p ys ∧ ∀ l, H l = none → Q (.ref l) (upd H l (.tup ys))) ∨ (SqT K H p ys ∧ Q (.ref p) H))) tupD := by
  intro g m H v d e Q hm r he k
  unfold tupD asSeq at he
  split at he
  · cases he
    obtain ⟨a, ws, rfl, h1, q1⟩ := RBo.lst r
    exact ⟨a, ws, rfl, .inl ⟨.inl (.inl h1), fun l hl => k _ _ (same_upd hl) (lay_tup hm hl q1)⟩⟩
  · cases he
    have rs := rb_strict r (fun c z => by cases c <;> cases z)
    obtain ⟨a, ws, rfl, h1, q1⟩ := RBo.tup r
    exact ⟨a, ws, rfl, .inr ⟨h1, k _ H (Same.refl _) rs⟩⟩
  · cases he
/-! ### slices -/
abbrev TOx (S : Type) := Env → S → (Option Int → S → Prop) → (Exn → S → Prop) → Prop
def LnO (Γ : Fr S) (K : W.Frag) (E : XK) (t : TO) (T : TOx S) : Prop :=
  ∀ {M : Msk} {α : Nat → Addr} {σ : St} {H : Hp} {ρ : Env} {s : S}, Ok Γ K M α σ H ρ → Γ.st s H → ∀ (QD : Option Int → S → Prop) (QX : Exn → S → Prop) (Q : Option Int → Hp → Prop), T ρ s QD QX →
    (∀ b H' s', Stp Γ H H' → Γ.st s' H' → QD b s' → Q b H') →
    (∀ c dx H' x s', Stp Γ H H' → Γ.st s' H' → XR K (mask M α ρ) H' c dx x → QX x s' → E c dx H') → t σ H Q
def oNone : TOx S := fun _ s Q _ => Q none s
def oSome (A : TX S) : TOx S := fun ρ s Q X => A ρ s (fun d s1 => opt (asI d) fun i => Q (some i) s1) X
theorem lo_none : LnO Γ K E tNoPart oNone := fun {_ _ _ H _ s} _ st _ _ _ q k _ => k none H s .refl st q
theorem lo_some (ha : Ln Γ K E .b ta A) : LnO Γ K E (tPart ta) (oSome A) := by
  intro M α σ H ρ s ok st QD QX Q q k kx
  refine ha ok st _ QX _ q (fun v H' d s' p st' r z => ?_) kx
  obtain ⟨i, e, z⟩ := opt_ex z
  obtain rfl := asI_sc r e
  exact ⟨i, rfl, k _ H' s' p st' z⟩
def cutL {β : Type} (xs : List β) (lo hi : Option Int) : List β := (xs.drop (HT.sIx xs.length 0 lo)).take (HT.sIx xs.length xs.length hi - HT.sIx xs.length 0 lo)
def slD (x : D) (lo hi : Option Int) : Option D := match x with
  | .lst xs => some (.lst (cutL xs lo hi))
  | .tup xs => some (.tup (cutL xs lo hi))
  | .v (.str z) => if z.length ≤ sizeLine then some (dS (cutS z lo hi)) else none
  | _ => none
def slL (x : D) (lo hi : Option Int) : Option D := match x with
  | .lst xs => some (.lst (cutL xs lo hi))
  | _ => none
def rSlD (K : W.Frag) : V → Option Int → Option Int → Hp → VK → Prop := fun x lo hi H Q => rSlL K x lo hi H Q ∨ (rSlA K x lo hi H Q ∨ rSlS x lo hi H Q)
theorem sl_D {X : Cx} : SlR X (rSlD X.K) := SlR.or sl_list (SlR.or sl_tupA sl_str)
def xSl (f : D → Option Int → Option Int → Option D) (A : TX S) (L U : TOx S) : TX S := fun ρ s Q X => A ρ s (fun x s1 => L ρ s1 (fun lo s2 => U ρ s2 (fun hi s3 => opt (f x lo hi) fun d => Q d s3) X) X) X
def PS3 (K : W.Frag) (mo : Mo) (r : V → Option Int → Option Int → Hp → VK → Prop) (f : D → Option Int → Option Int → Option D) : Prop :=
  ∀ {g m : Msk} {H : Hp} {v : V} {d e : D} {lo hi : Option Int} {Q : VK}, (∀ a, m a → H a ≠ none) → RB K g m H v d → f d lo hi = some e → (∀ v' H', Same H H' → RR K g mo m H H' v' e → Q v' H') → r v lo hi H Q
theorem ln_sl {r : V → Option Int → Option Int → Hp → VK → Prop} {f : D → Option Int → Option Int → Option D} {tl th : TO} {L U : TOx S} (ha : Ln Γ K E .b ta A) (hl : LnO Γ K E tl L) (hh : LnO Γ K E th U) (hr : PS3 K mo r f) : Ln Γ K E mo (tSl r ta tl th) (xSl f A L U) := by
  intro M α σ H ρ s ok st QD QX Q q k kx
  refine ha ok st _ QX _ q (fun vx H1 x s1 p1 st1 rx q1 => ?_) kx
  refine hl (ok.step p1) st1 _ QX _ q1 (fun lo H2 s2 p2 st2 q2 => ?_) (fun c dx H' x s' p st' r z => kx c dx H' x s' (p1.trans p) st' r z)
  have p := p1.trans p2
  refine hh (ok.step p) st2 _ QX _ q2 (fun hi H3 s3 p3 st3 q3 => ?_) (fun c dx H' x s' p' st' r z => kx c dx H' x s' (p.trans p') st' r z)
  obtain ⟨d, e, q4⟩ := opt_ex q3
  have p' := p.trans p3
  have ok3 := ok.step p'
  exact hr ok3.mtrk (RBo.step ok.msub (p2.trans p3).keep rx) e fun v' H' sm r' => k v' H' d s3 (p'.trans (Stp.of sm)) (Fr.same ok3.frt sm st3) (r'.from p'.trk) q4
theorem RAll.cut {G : Hp} {vs : List V} {ds : List D} (h : RAll K G vs ds) (lo hi : Option Int) : RAll K G (cutV vs lo hi) (cutL ds lo hi) := by
  unfold cutV cutL
  rw [RAll.len h]
  exact RAll.take _ (RAll.drop _ h)
theorem p3_slL : PS3 K .f (rSlD K) slL := by
  intro g m H v d e lo hi Q hm r he k
  unfold slL at he
  split at he
  · cases he
    obtain ⟨a, ws, rfl, h1, q1⟩ := RBo.lst r
    exact .inl ⟨a, ws, rfl, .inl (.inl h1), fun p hp => k _ _ (same_upd hp) (lay_lst hm hp (q1.cut lo hi))⟩
  · cases he
theorem p3_sl : PS3 K .s (rSlD K) slD := by
  intro g m H v d e lo hi Q hm r he k
  unfold slD at he
  split at he
  · exact p3_slL (e := e) hm r he fun v' H' s r => k v' H' s (RF.strict hm r)
  · rename_i xs
    cases he
    have rs := rb_strict r (fun c z => by cases c <;> cases z)
    obtain ⟨a, ws, rfl, h1, q1⟩ := RBo.tup r
    refine .inr (.inl ⟨a, ws, rfl, h1, fun z => ?_, fun _ p hp => k _ _ (same_upd hp) (lay_tup hm hp (q1.cut lo hi))⟩)
    have ec : cutL xs lo hi = xs := by
      rw [RAll.len q1] at z
      unfold cutL
      rw [z.1, z.2]
      simp
    exact k _ H (Same.refl _) (by rw [ec]; exact rs)
  · split at he
    · rename_i l
      cases he
      exact .inr (.inr ⟨_, RBo.sc r, l, k _ H (Same.refl _) (.v _)⟩)
    · cases he
  · cases he
end
end L2.DL
/-! The pen of the laws beside data: draws, and defs that draw -/
namespace L2.DL
open L2 L2.My PySem PySem.Spec PyProof.Rows

theorem FnG.any {P : Program} {w : World} {K : W.Frag} {mg : Str → Option Value} {base : Heap} {CX : CXT} {k : Nat} {f : Addr} {fd : FuncData} {ps : List Str} {sp : Sp} (F : FnG P w K mg base CX0 k f fd ps sp) : FnG P w K mg base CX k f fd ps sp := by
  refine ⟨F.many, fun A outer s H args us vs Q E hr hq he hb hv hs => codeAny_mono (F.runs A outer s H args us vs Q E hr hq he hb hv hs) ?_⟩
  intro r s' h
  match r, h with
  | .ok (.ret u), h => exact h
  | .ok .next, h => exact h
  | .ok .brk, h => exact h
  | .ok .cont, h => exact h
  | .error e, h => exact False.elim h
theorem CalG.any {P : Program} {w : World} {K : W.Frag} {mg : Str → Option Value} {base : Heap} {CX : CXT} {k : Nat} {x : Str} {sp : Sp} (c : CalG P w K mg base CX0 k x sp) : CalG P w K mg base CX k x sp := by
  obtain ⟨f, fd, ps, F, r⟩ := c.ex
  exact ⟨f, fd, ps, FnG.any F, r⟩

def penFr (p q : Addr) (ns : List Int) : Fr Nat where
  M := fun a => a = p ∨ a = q
  st := fun n H => ∃ big, PenAt H p q ns n big
  loc := fun h ⟨b, e⟩ => ⟨b, by rw [h _ (.inl rfl)]; exact e.pen, by rw [h _ (.inr rfl)]; exact e.cells, e.a0, e.a1, e.b0⟩
section
variable {K : W.Frag} {E : XK} {p q : Addr} {ns : List Int} {tl : TA} {L : TL Nat} {os : List Mo}
theorem pen_next {n : Nat} {H H' : Hp} {big a2 b2 : Int} (h : PenAt H p q ns n big) (b : But H H' p) (e : H' p = some (.lst [.ref q, .int a2, .int b2])) (h1 : (n : Int) ≤ a2) (h2 : a2 ≤ 100000) (h3 : 0 ≤ b2) : Stp (penFr p q ns) H H' ∧ (penFr p q ns).st a2.toNat H' := by
  refine ⟨⟨fun a o n e => b a o (fun z => n (.inl z)) e, fun a z => ?_⟩, b2, ?_⟩
  · by_cases ne : a = p
    · rw [ne, e]; exact fun z => by cases z
    · cases q : H a with
      | none => exact absurd q z
      | some o => rw [b a o ne q]; exact fun z => by cases z
  · have := h.next b e h1 h2 h3
    have e2 : ((a2.toNat : Nat) : Int) = a2 := Int.toNat_of_nonneg (by omega)
    rw [e2]
    exact this
/-- what a draw gives -/
def xDraw (p : Addr) (L : TL Nat) : TX Nat := fun ρ n Q X => L ρ n (fun ds n1 => match ds with
  | [.v (.ref p'), .v (.int many)] => p' = p ∧ 0 < many ∧ many.natAbs < 2 ^ 200 ∧ n1 < 100000 ∧ ∀ (d : Int) (n2 : Nat), 0 ≤ d → d < many → n1 ≤ n2 → n2 ≤ n1 + 1 → Q (dI d) n2
  | _ => False) X
theorem ln_draw (h : LnA (penFr p q ns) K E [.b, .b] tl L) : Ln (penFr p q ns) K E .s (tCall spDraw [] E tl) (xDraw p L) := by
  intro M α σ H ρ s ok st QD QX Q z k kx
  refine h ok st _ QX _ z (fun vs H1 ds n1 p1 st1 r z => ?_) kx
  split at z
  · rename_i p' many
    obtain ⟨rfl, z1, z2, z3, z⟩ := z
    obtain ⟨l1, l2⟩ := ARel.len r
    obtain ⟨v, w, rfl⟩ := two l1
    obtain ⟨r1, r2, _⟩ := r
    have e1 := RBo.sc r1
    have e2 := RBo.sc r2
    subst e1 e2
    obtain ⟨big, pen⟩ := st1
    show spDraw ([V.ref p', V.int many] ++ []) H1 Q E
    refine ⟨p', q, ns, n1, big, many, rfl, z1, z2, pen, by omega, fun d a2 b2 H' h0 h1 h2 h3 h4 b e => ?_⟩
    obtain ⟨p2, st2⟩ := pen_next pen b e h2 (by omega) h4
    exact k _ H' _ a2.toNat (p1.trans p2) st2 (.v _) (z d a2.toNat h0 h1 (by omega) (by omega))
  · exact z.elim
/-- a def that draws at most k times: what it gives -/
def spP (K : W.Frag) (os : List Mo) (Pre : List D → Prop) (k : List D → Nat) (Post : List D → D → Prop) : Sp := fun vs H Q _ => ∃ (p q : Addr) (ns : List Int) (M : Msk) (n : Nat) (ds : List D), (∀ a, (penFr p q ns).M a → M a) ∧ (∀ a, M a → H a ≠ none) ∧
  ARel K (penFr p q ns).M (.b :: os) M H H vs (.v (.ref p) :: ds) ∧ (penFr p q ns).st n H ∧ n + k ds ≤ 100000 ∧ Pre ds ∧
  ∀ (d : D) (n' : Nat) (v : V) (H' : Hp), Stp (penFr p q ns) H H' → (penFr p q ns).st n' H' → n ≤ n' → n' ≤ n + k ds → R K (cut M H') v d → Post ds d → Q v H'
def xPen (p : Addr) (Pre : List D → Prop) (k : List D → Nat) (Post : List D → D → Prop) (L : TL Nat) : TX Nat := fun ρ n Q X => L ρ n (fun ds n1 => match ds with
  | .v (.ref p') :: ds => p' = p ∧ n1 + k ds ≤ 100000 ∧ Pre ds ∧ ∀ (d : D) (n2 : Nat), n1 ≤ n2 → n2 ≤ n1 + k ds → Post ds d → Q d n2
  | _ => False) X
theorem ln_pen {Pre : List D → Prop} {kk : List D → Nat} {Post : List D → D → Prop} (ho : os.all (fun o => match o with | .f => false | _ => true) = true) (h : LnA (penFr p q ns) K E (.b :: os) tl L) :
    Ln (penFr p q ns) K E .s (tCall (spP K os Pre kk Post) [] E tl) (xPen p Pre kk Post L) := by
  have hno : ∀ o ∈ (Mo.b :: os), o ≠ Mo.f := fun o z e => by
    rcases List.mem_cons.mp z with z | z
    · rw [z] at e; cases e
    · have := List.all_eq_true.mp ho o z
      rw [e] at this
      cases this
  intro M α σ H ρ s ok st QD QX Q z k kx
  refine h ok st _ QX _ z (fun vs H1 ds n1 p1 st1 r z => ?_) kx
  split at z
  · rename_i p' ds
    obtain ⟨rfl, z1, z2, z⟩ := z
    have ok1 := ok.step p1
    show spP K os Pre kk Post (vs ++ []) H1 Q E
    rw [List.append_nil]
    exact ⟨p', q, ns, mask M α ρ, n1, ds, ok.msub, ok1.mtrk, ARel.from hno r, st1, z1, z2, fun d n' v H' p2 st2 a b r' po => k v H' d n' (p1.trans p2) st2 r' (z d n' a b po)⟩
  · exact z.elim
/-- a mode for the pen's own slot: it is a plain value -/
def postP (n : Nat) (k : Nat) (Po : D → Prop) : Post Nat where
  nx := fun _ n' => n ≤ n' ∧ n' ≤ n + k ∧ Po dN
  rt := fun d n' => n ≤ n' ∧ n' ≤ n + k ∧ Po d
theorem fn_pen {P : Program} {w : World} {mg : Str → Option Value} {base : Heap} {x qual : Str} {st : Stmt} {f : Addr} {fd : FuncData} {N ps : List Str} {k : Nat} {Pre : List D → Prop} {kk : List D → Nat} {Post : List D → D → Prop}
    (Fd : Fun K x qual st f fd) (Sc : FnScope N ps (defScope st)) (hl : os.length + 1 = ps.length) (ho : os.all (fun o => match o with | .f => false | _ => true) = true)
    (hbody : ∀ (cdv : Value) (A : Around) (outer : List PySem.Env) (s : Shared) (H : Hp) (E : XK), Room k (A.deeper (envOfC qual (defScope st) s.heap.objs.size f cdv)) → Quiet (A.deeper (envOfC qual (defScope st) s.heap.objs.size f cdv)) →
      ∃ t, PSs (cxOf (L2.CX P w) P w K mg base N qual (defScope st) f cdv A outer s H E) (defBody st) t ∧
        ∀ (p q : Addr) (ns : List Int), ∃ T : TP Nat, LnS (penFr p q ns) K E t T ∧ ∀ (ds : List D) (n : Nat), ds.length = os.length → Pre ds → n + kk ds ≤ 100000 → T (envD (.b :: os) N.length (.v (.ref p) :: ds)) n (postP n (kk ds) (Post ds))) :
    FnG P w K mg base (L2.CX P w) (k + 1) f fd ps (spP K os Pre kk Post) := by
  have hno : ∀ o ∈ (Mo.b :: os), o ≠ Mo.f := fun o z e => by
    rcases List.mem_cons.mp z with z | z
    · rw [z] at e; cases e
    · have := List.all_eq_true.mp ho o z
      rw [e] at this
      cases this
  refine body_g Fd Sc (fun vs H Q E ⟨p, q, ns, M, n, ds, _, _, r, _⟩ => by rw [(ARel.len r).1, List.length_cons]; exact hl) ?_
  rintro cdv A outer s H vs Q E hr hq ⟨p, q, ns, M, n, ds, h1, h2, r, st0, hk, pre, z⟩
  obtain ⟨t, ht, hT⟩ := hbody cdv A outer s H E hr hq
  obtain ⟨T, lt, main⟩ := hT p q ns
  obtain ⟨ok, no⟩ := ok_start (N := N) rfl hno h1 h2 r
  have back' : ∀ {w : Msk} {H' : Hp}, StS (wmask (penFr p q ns) (fun _ => 0) (envD (.b :: os) N.length (.v (.ref p) :: ds))) w H H' → Stp (penFr p q ns) H H' := fun p => ⟨fun a o n e => p.keep a o (fun z => z.elim n fun ⟨j, o, _⟩ => no j o) e, p.trk⟩
  have hlen : ds.length = os.length := by have := (ARel.len r).2; simpa using this
  refine ⟨t, ht, lt ok st0 _ _ (main ds n hlen pre hk) (fun σ' H' ρ' s' α' ok' st' p z' => ?_) (fun _ _ _ _ _ _ _ _ z => z.elim) (fun _ _ _ _ _ _ _ _ z => z.elim) (fun v H' d s' p st' r' z' => ?_) (fun c dx H' x s' p st' r' z => z.elim)⟩
  · exact z dN s' .non H' (back' p) st' z'.1 z'.2.1 (.v _) z'.2.2
  · exact z d s' v H' (back' p) st' z'.1 z'.2.1 r' z'.2.2
end
end L2.DL
/-! A method that begins with super().__init__(..) -/
namespace L2.DL
open L2 L2.My NdefX PySem PySem.Spec PyProof.Rows

abbrev supFn (name qual : Str) (st : Stmt) (kV doc pm : Value) (an : Option Addr) (cdv ct : Value) (cc : Addr) : FuncData := W.ksFn name qual (defArgs st) (defBody st) (defScope st) .none kV doc pm an cdv ct cc
/-- a method of the text whose class is captured -/
structure FunS (P : Program) (K : W.Frag) (x qual : Str) (st : Stmt) (f : Addr) (fd : FuncData) (c cc Dc : Addr) : Prop where
  ex : ∃ (oc : Value) (od : Option Addr) (kV doc pm : Value) (an : Option Addr) (ct : Value) (osl : Array (Option Value)),
    fd = supFn x qual st kV doc pm an (.ref c) ct cc ∧ K.lookup f = some ⟨oc, od, .func fd, osl⟩ ∧ W.codeIn K (.ref c) qual = true
  kp : W.keepIn K (.ref f) = true
  cell : ∃ (cl : Value) (cld : Option Addr) (csl : Array (Option Value)), K.lookup cc = some ⟨cl, cld, .cell (some (.ref Dc)), csl⟩
  file : ∃ (ccl : Value) (cdd : Option Addr) (vs : Array Value) (ccs : Array (Option Value)) (fl : Str) (tf : Tok), K.lookup c = some ⟨ccl, cdd, .fields vs, ccs⟩ ∧ vs[2]? = some (.str fl tf) ∧ ((P.main.file : Str) == fl) = true
  top : (P.main.scope.names.lookup ("super" : Str)).isSome = false
  cls : ∃ cd, W.clsIn K Dc = some cd
def nfS (x qual : Str) (st : Stmt) (c cc : Addr) : NF := ⟨x, qual, defArgs st, defBody st, defScope st, [("__class__", cc)], c⟩
theorem body_super {P : Program} {w : World} {K : W.Frag} {mg : Str → Option Value} {base : Heap} {CX : CXT} {x qual : Str} {st : Stmt} {f : Addr} {fd : FuncData} {c cc Dc : Addr} {N ps : List Str} {self : Str} {k : Nat} {sp : Sp} {e : Expr} {es : List Expr} {rest : List Stmt} {p0 p1 apos pos pos2 : Pos} {ar : Arg}
    (Fd : FunS P K x qual st f fd c cc Dc) (Sc : NScope N (self :: ps) ["__class__"] (defScope st)) (hst : defBody st = .Expr (.Call (.Attribute (.Call (.Name "super" p0) [] [] p1) "__init__" apos) (e :: es) [] pos) pos2 :: rest)
    (hpar : ((defArgs st).posonlyargs ++ (defArgs st).args).head? = some ar) (har : ar.arg = self) (hks : (defScope st).names.lookup ("super" : Str) = some .globalImplicit) (m_super : mg "super" = none) (hop : W.nsIn K cStatics "thirdparty.any" = some none)
    (hN0 : N[0]? = some self) (many : ∀ vs H Q E, sp vs H Q E → vs.length = (self :: ps).length)
    (he : ∀ env : PySem.Env, starEach (e :: es) env = (false, eval e env) :: starEach es env) (hpl : ∀ env : PySem.Env, (backTo pos (starEach es env)).any (·.1) = false)
    (hev : ∀ env : PySem.Env, ∃ pl, eval (.Call (.Attribute (.Call (.Name "super" p0) [] [] p1) "__init__" apos) (e :: es) [] pos) env = (do
        let ov ← attributeBase (.Call (.Name "super" p0) [] [] p1) "__init__" env (eval (.Call (.Name "super" p0) [] [] p1) env)
        standAt apos.atName
        let (f, first) ← holding [ov] (getMethod ov "__init__" pl)
        callWith pos f first (backTo pos (starEach (e :: es) env)) []))
    (hsw : ∀ env : PySem.Env, swapsWith (.Call (.Attribute (.Call (.Name "super" p0) [] [] p1) "__init__" apos) (e :: es) [] pos) none pos2.line env = pure false)
    (hbody : ∀ (A : Around) (outer : List PySem.Env) (s : Shared) (H : Hp) (vs : List V) (Q : VK) (E : XK), Room k (A.deeper (envF (nfS x qual st c cc) f s.heap.objs.size)) → Quiet (A.deeper (envF (nfS x qual st c cc) f s.heap.objs.size)) → sp vs H Q E →
      ∃ (ta : TA) (t : TS) (a C dx : Addr) (us : List V) (fs : List (Str × V)) (fP : Addr) (fdP : FuncData) (psP : List Str) (spP : Sp),
        PA (ncx CX P w K mg base N (nfS x qual st c cc) f A outer s H E) (e :: es) ta ∧ PSs (ncx CX P w K mg base N (nfS x qual st c cc) f A outer s H E) rest t ∧ vs = .ref a :: us ∧ H a = some (.ins C dx fs) ∧
        W.mroIn K C (.ref Dc) = some true ∧ W.ks_superIn K C Dc "__init__" = some (some (.ref fP)) ∧ W.typeIn K (.ref fP) = some (.type "function") ∧ W.fnIn K fP = true ∧ FnG P w K mg base CX k fP fdP psP spP ∧ Binds K fdP psP [] ∧
        Passes CX (ncx CX P w K mg base N (nfS x qual st c cc) f A outer s H E) E ∧
        ∀ q, H q = none → ta (startF N vs [some (.ref Dc)]) (upd H q (.met fP a)) fun ws H2 => H2 q = some (.met fP a) ∧ spP (.ref a :: ws) H2 (fun _ H3 => t { nx := fun _ H' => Q .non H', rt := Q } (startF N vs [some (.ref Dc)]) H3) E) :
    FnG P w K mg base CX (k + 1) f fd (self :: ps) sp := by
  obtain ⟨oc, od, kV, doc, pm, an, ct, osl, rfl, lk, hcd⟩ := Fd.ex
  refine ⟨many, ?_⟩
  intro A outer s H args us0 vs Q E hr hq e0 hb r hsp
  have hk0 : ∀ b o, base.get? b = some o → s.heap.get? b = some o := fun b o e => (e0.bs b o e).1
  have KX : K.In s.heap := e0.mod.kin.keeps hk0
  have lim : s.heap.NoLimit := e0.mod.nolimit.keeps hk0
  obtain ⟨ta, t, a, C, dx, us, fs, fP, fdP, psP, spP, hA, hS, rfl, hH, hmro, hsup, htP, hfP, FP, bP, hx, main⟩ := hbody A outer s H vs Q E (hr.deeper _) hq hsp
  obtain ⟨cl, cld, csl, lcell⟩ := Fd.cell
  obtain ⟨ccl, cdd, vsf, ccs, fl, tf, lcode, hvs, hfile⟩ := Fd.file
  obtain ⟨cdD, hD⟩ := Fd.cls
  have hlen := many _ _ _ _ hsp
  refine ks_codeAny_call_defAt (fd := supFn x qual st kV doc pm an (.ref c) ct cc) (body := defBody st) hr.depth (KX _ _ lk) rfl lim (W.codeRec_of KX hcd) rfl hb Sc.nocell (fun ⟨n, _⟩ hy => Sc.par n (List.of_mem_zip hy).1) (fun h₁ hns kp => ?_) Sc.co Sc.gen Sc.kind
  -- the context
  have Cs : CellsAt (nfS x qual st c cc).cl ["__class__"] [some (.ref Dc)] s.heap H := by
    have at_ : ∀ y c', (nfS x qual st c cc).cl.lookup y = some c' → y = "__class__" ∧ c' = cc := fun y c' z => by
      have z : List.lookup y [(("__class__" : Str), cc)] = some c' := z
      rw [List.lookup_cons] at z
      split at z
      · rename_i hb
        cases z
        exact ⟨by simpa using hb, rfl⟩
      · cases z
    have hcc : s.heap.get? cc = some ⟨cl, cld, .cell (some (.ref Dc)), csl⟩ := KX _ _ lcell
    have hb' : base.get? cc = some ⟨cl, cld, .cell (some (.ref Dc)), csl⟩ := e0.mod.kin _ _ lcell
    refine ⟨rfl, fun y c' z => ?_, fun y y' c' z z' => ?_, fun i y z => ?_⟩
    · obtain ⟨_, rfl⟩ := at_ y c' z
      exact ⟨(e0.bs _ _ hb').2, _, _, hcc, rfl⟩
    · rw [(at_ y c' z).1, (at_ y' c' z').1]
    · match i, z with
      | 0, z =>
        cases z
        exact ⟨cc, rfl, fun v z => by cases z; exact ⟨.ref Dc, rfl, _, hcc, rfl⟩⟩
  have I : Inv (ncx CX P w K mg base N (nfS x qual st c cc) f A outer s H E) [] (startF N (.ref a :: us) [some (.ref Dc)]) H { s with heap := h₁, toks := s.toks + ((self :: ps).zip us0).length } := inv_startN Sc hr.hd e0 hlen r Cs hns kp
  show _root_.PySem.wpAt (model P w) (A.deeper (envF (nfS x qual st c cc) f s.heap.objs.size)) (.func (defBody st) (envF (nfS x qual st c cc) f s.heap.objs.size)) (execs (defBody st) (envF (nfS x qual st c cc) f s.heap.objs.size)) _ _ _
  have fin : ∀ {fl : Flow} {s' : Shared}, SP (ncx CX P w K mg base N (nfS x qual st c cc) f A outer s H E) [] { nx := fun _ H' => Q .non H', rt := Q } fl s' → CR CX outer P w H s Q E (.ok (.ret (match fl with | .ret v => v | _ => .none))) s' := by
    intro fl s' hs
    match fl, hs with
    | .ret u, ⟨v, σ', H', J, rv, q⟩ => exact (⟨v, H', J.os, J.bare, J.base, J.hok, rv, q⟩ : CE outer P w H s Q u s')
    | .next, ⟨σ', H', J, q⟩ => exact (⟨.non, H', J.os, J.bare, J.base, J.hok, rfl, q⟩ : CE outer P w H s Q .none s')
    | .brk, ⟨_, _, _, q⟩ => exact q.elim
    | .cont, ⟨_, _, _, q⟩ => exact q.elim
  generalize hs1 : ({ s with heap := h₁, toks := s.toks + ((self :: ps).zip us0).length } : Shared) = s1 at I
  have bodyE : ∀ b : List Stmt, b = defBody st → _root_.PySem.wpAt (model P w) (A.deeper (envF (nfS x qual st c cc) f s.heap.objs.size)) (.func b (envF (nfS x qual st c cc) f s.heap.objs.size)) (execs (.Expr (.Call (.Attribute (.Call (.Name "super" p0) [] [] p1) "__init__" apos) (e :: es) [] pos) pos2 :: rest) (envF (nfS x qual st c cc) f s.heap.objs.size))
      (fun fl s' => CR CX outer P w H s Q E (.ok (.ret (match fl with | .ret v => v | _ => .none))) s') (ncx CX P w K mg base N (nfS x qual st c cc) f A outer s H E).xe s1 := by
    intro b hb'
    refine ks_wpAt_execs_cons (ks_wpAt_mono (Q := fun fl s' => fl = .next ∧ ∃ H3, Inv (ncx CX P w K mg base N (nfS x qual st c cc) f A outer s H E) [] (startF N (.ref a :: us) [some (.ref Dc)]) H3 s' ∧ t { nx := fun _ H' => Q .non H', rt := Q } (startF N (.ref a :: us) [some (.ref Dc)]) H3) ?_ ?_ fun e s' z => z)
    · refine ks_wpAt_Expr_any ?_ (by unfold interactive; rw [show (envF (nfS x qual st c cc) f s.heap.objs.size).scope.kind = .function from Sc.kind]; rfl) (hsw _)
      obtain ⟨pl, hpl'⟩ := hev (envF (nfS x qual st c cc) f s.heap.objs.size)
      refine ks_wpAt_MethodCall (pl := pl) ?_ hpl'
      have KX1 : K.In s1.heap := I.kIn
      obtain ⟨mA, O, _⟩ := ins_get I.hok hH
      obtain ⟨odx, J, _⟩ := O.look
      obtain ⟨oD, hD1, hD2⟩ : ∃ oD, s1.heap.get? Dc = some oD ∧ oD.data = .cls cdD := by
        unfold W.clsIn at hD
        split at hD
        · rename_i c1 d1 cd1 sl1 ho
          cases hD
          exact ⟨_, KX1 _ _ ho, rfl⟩
        · cases hD
      have hs0 : (startF N (.ref a :: us) [some (.ref Dc)])[0]? = some (some (.ref a)) := rfl
      obtain ⟨m, hn, hl⟩ := id I.loc
      obtain ⟨mb, hb1, hb2⟩ := I.mod.blt
      have hself : (defScope st).names.lookup self = some .local := Sc.par self List.mem_cons_self
      obtain ⟨u, ru, lu⟩ := hl 0 self (.ref a) hN0 hs0 (.inl hself)
      cases (show u = Value.ref a from ru)
      have lu' : m self = some (.ref a) := by
        rcases lu with ⟨_, q⟩ | ⟨q, _⟩
        · exact q
        · rcases q with q | q
          · exact absurd (hself.symm.trans q) (by decide)
          · exact absurd (hself.symm.trans q) (by decide)
      refine ks_wpAt_super_base (env := envF (nfS x qual st c cc) f s.heap.objs.size) hks (Sc.frk "__class__" List.mem_cons_self) (by decide) rfl (KX1 _ _ lk) rfl hpar rfl (KX1 _ _ lcode) rfl hvs hfile Fd.top ?_
      refine W.ks_loadName_global Sc.kind hks (Calls.loadGlobal_builtin (I.mod.glob.keeps I.bk) m_super (hb1.keeps I.bk) ((hb2 _ (by decide +kernel)).trans (show bootBuiltins "super" = some (.type "super") by decide +kernel)) ⟨rfl, ?_⟩)
      refine wpAny_loadName_free Sc.kind (Sc.frk "__class__" List.mem_cons_self) rfl ⟨_, KX1 _ _ lcell, rfl⟩ ?_
      rw [har]
      refine wpAny_loadName_local Sc.kind hself hn lu' ?_
      refine ks_wpAny_isType_cls hD1 hD2 ⟨rfl, ?_⟩
      obtain ⟨hh, g, d, tk, os⟩ := s1
      refine ks_wpAny_call_super hD1 hD2 J.at_ J.cls (fun c e => ?_) (W.looks_mroIn KX1 hmro) (fun h' e' kp' => ?_)
      · have := J.no
        unfold W.notCls at this
        rw [e] at this
        exact Bool.noConfusion this
      have I2 : Inv (ncx CX P w K mg base N (nfS x qual st c cc) f A outer s H E) [] (startF N (.ref a :: us) [some (.ref Dc)]) H ⟨h', g, d, tk, os⟩ := I.kept (t' := tk) kp'
      -- the method
      cases hc : W.clsIn K C with
      | none => unfold W.ks_superIn at hsup; rw [hc] at hsup; cases hsup
      | some cd =>
        unfold W.ks_superIn at hsup
        rw [hc] at hsup
        have KX2 : K.In h' := I2.kIn
        obtain ⟨of, hof, hofc⟩ : ∃ of, h'.get? fP = some of ∧ of.cls = .type "function" := by
          have ht' : (K.lookup fP).map (·.cls) = some (.type "function") := htP
          cases z : K.lookup fP with
          | none => rw [z] at ht'; cases ht'
          | some of => rw [z] at ht'; exact ⟨of, KX2 _ _ z, Option.some.inj ht'⟩
        obtain ⟨mA2, O2, _⟩ := ins_get I2.hok hH
        obtain ⟨odx2, J2, _⟩ := O2.look
        refine ks_wpAny_getMethod_super e' (W.looks_opaque KX2 hop) (l₀ := cd.mro) ?_ rfl KX2 hsup hof hofc (W.ks_ne KX2 J2 hc) (by decide) ?_
        · exact fun A Q E s k q => wpAny_bind ((W.looks_clsIn KX2 hc) A _ E s k (wpAny_pure q))
        have nq : H h'.objs.size = none := I2.hok.fresh (Nat.le_refl _)
        have I3 : Inv (ncx CX P w K mg base N (nfS x qual st c cc) f A outer s H E) [] (startF N (.ref a :: us) [some (.ref Dc)]) (upd H h'.objs.size (.met fP a)) ⟨h'.push { cls := .type "method", data := .fields #[.ref fP, .ref a] }, g, d, tk + 1, os⟩ :=
          I2.laid (t' := tk + 1) (fun b o z => Heap.get?_push_of_some _ z) (Nat.le_refl _) (show ObjOk _ _ _ _ _ (.met fP a) from Heap.get?_push_size _ rfl)
        refine callwith_met (X := ncx CX P w K mg base N (nfS x qual st c cc) f A outer s H E) (a := a) ?_ hfP ?_
        · rw [he]
          show ((false || (backTo pos (starEach es _)).any (·.1)) || false) = false
          rw [hpl]
          rfl
        rw [he]
        refine Calls.evalArgs_plain ?_
        have run := hA.run pos [] _ _ _ _ I3 (main h'.objs.size nq)
        rw [he] at run
        refine thn run fun ws s4 ⟨zs, H4, I4, rv, hm, hz⟩ => ⟨met_P I4 hm, ?_⟩
        refine wpAny_call (ks_codeAny_call_bound (met_P I4 hm).1 ?_)
        have hl4 : ((Value.ref a :: ws) ++ []).length = psP.length := by
          rw [List.append_nil, List.length_cons, ← rv.length]
          exact FP.many _ _ _ _ hz
        have b4 := bP s4 (Value.ref a :: ws) I4.kIn hl4
        rw [List.append_nil] at b4
        refine codeAny_mono (FP.runs _ _ s4 H4 ⟨Value.ref a :: ws, []⟩ (Value.ref a :: ws) (V.ref a :: zs) _ _ (hr.deeper _) hq I4.env0 b4 (.cons rfl rv) hz) ?_
        intro res s' z
        match res, z with
        | .error er, z => exact hx [] _ H4 s4 er s' I4 z
        | .ok (.ret u), z =>
          obtain ⟨v, H5, I5, _, q5⟩ := I4.after z
          exact ⟨rfl, H5, I5, q5⟩
    · rintro fl s' ⟨rfl, H3, I3, q3⟩
      exact wpAt_of_wpAny (wpAny_mono (hS.run [] s' _ H3 _ I3 q3) (fun fl s'' hs => fin hs) fun _ _ z => z)
  have := bodyE (defBody st) rfl
  rw [← hst] at this
  exact this
end L2.DL
/-! Instances of own classes: fields, __init__, making -/
namespace L2.DL
open L2 L2.My NdefX PySem PySem.Spec PyProof.Rows

section
variable {S : Type} {Γ : Fr S} {K : W.Frag} {E : XK} {ta tb tc : TE} {A B : TX S} {t u : TS} {T U : TP S} {os : List Mo} {tl : TA} {L : TL S} {mo : Mo}
/-- one's own object is another now -/
theorem Ok.turnH {M : Msk} {α : Nat → Addr} {σ : St} {H H' : Hp} {ρ : Env} {i : Nat} {c c' : Cell} (ok : Ok Γ K M α σ H ρ) (e : ρ[i]? = some (.own c)) (kp : ∀ b o, ¬ Γ.M b → b ≠ α i → H b = some o → H' b = some o) (tr : ∀ b, H b ≠ none → H' b ≠ none)
    (r : ∀ m', (∀ b, m' b → mask M α ρ b) → CellR K (cut m' H') H' (α i) c') : Ok Γ K M α σ H' (ρ.set i (.own c')) ∧ StS (wmask Γ α ρ) (wmask Γ α (ρ.set i (.own c'))) H H' := by
  have oi : ownAt ρ i := ⟨_, e, rfl⟩
  obtain ⟨e1, _⟩ := ok.slot i _ e
  have own' : ∀ j, ownAt (ρ.set i (.own c')) j → ownAt ρ j := fun j o => by
    rcases own_set o with ⟨rfl, _⟩ | ⟨_, o⟩
    · exact oi
    · exact o
  have mm : ∀ a, mask M α (ρ.set i (.own c')) a → mask M α ρ a := fun a z => z.imp id fun ⟨j, o, q⟩ => ⟨j, own' j o, q⟩
  have cc : Same (cut (mask M α ρ) H) (cut (mask M α (ρ.set i (.own c'))) H') := fun b o q => by
    obtain ⟨n, q⟩ := of_cut q
    rw [cut_out fun z => n (mm b z)]
    exact kp b o (fun z => n (ok.msub b z)) (fun z => n (.inr ⟨i, oi, z.symm⟩)) q
  have put := ok.put (x := some (.ref (α i))) (sl := .own c') (a := α i) (H' := H') (i := i) self_upd (.inl rfl) tr cc (fun b o n z q => kp b o n (fun y => by
    rcases z with z | ⟨j, nj, oj, z⟩
    · exact ok.out i oi (by rw [← y]; exact z)
    · exact nj (ok.inj j i oj oi (z.trans y))) q) (fun _ => ⟨ok.out i oi, fun j nj oj z => nj (ok.inj j i oj oi z)⟩) fun _ => ⟨rfl, r _ mm⟩
  rw [set_same e1] at put
  exact ⟨put, ⟨fun a o n q => kp a o (fun z => n (.inl z)) (fun z => n (.inr ⟨i, oi, z.symm⟩)) q, fun a z => .inl (z.imp id fun ⟨j, o, q⟩ => ⟨j, own' j o, q⟩), tr⟩⟩

/-! ### fields -/
theorem RFs.look {G : Hp} {f : Str} : ∀ {vs : List (Str × V)} {ds : List (Str × D)} {d : D}, RFs K G vs ds → ds.lookup f = some d → ∃ v, vs.lookup f = some v ∧ R K G v d
  | _, _, _, .nil, e => by cases e
  | _, _, d, .cons (k := k) h t, e => by
    rw [List.lookup_cons] at e ⊢
    split at e
    · cases e; exact ⟨_, rfl, h⟩
    · exact RFs.look t e
theorem RFs.len {G : Hp} : ∀ {vs : List (Str × V)} {ds : List (Str × D)}, RFs K G vs ds → vs.length = ds.length
  | _, _, .nil => rfl
  | _, _, .cons _ t => by rw [List.length_cons, List.length_cons, RFs.len t]
def putD (f : Str) (d : D) : List (Str × D) → List (Str × D)
  | [] => [(f, d)]
  | (g, x) :: r => if g = f then (g, d) :: r else (g, x) :: putD f d r
theorem RFs.put {G : Hp} {f : Str} {v : V} {d : D} (h : R K G v d) : ∀ {vs : List (Str × V)} {ds : List (Str × D)}, RFs K G vs ds → RFs K G (putF f v vs) (putD f d ds)
  | _, _, .nil => .cons h .nil
  | _, _, .cons (k := k) q t => by
    unfold putF putD
    by_cases e : k = f
    · rw [if_pos e, if_pos e]; exact .cons h t
    · rw [if_neg e, if_neg e]; exact .cons q (RFs.put h t)
/-- instances of the class at C have an attribute f of their own -/
structure Att (K : W.Frag) (C : Addr) (f : Str) : Prop where
  cl : Cls K C
  no : NoAttr K C f
def xFld (K : W.Frag) (f : Str) (A : TX S) : TX S := fun ρ s Q X => A ρ s (fun d s1 => match d with
  | .obj C fs => Att K C f ∧ opt (fs.lookup f) fun d => Q d s1
  | _ => False) X
theorem ln_fld {f : Str} (ha : Ln Γ K E .b ta A) : Ln Γ K E .s (tFld K ta f) (xFld K f A) := by
  intro M α σ H ρ s ok st QD QX Q q k kx
  refine ha ok st _ QX _ q (fun v H' d s' p st' r z => ?_) kx
  split at z
  · rename_i C fs
    obtain ⟨⟨c1, c2⟩, z⟩ := z
    obtain ⟨d, e, z⟩ := opt_ex z
    obtain ⟨a, dx, vs, rfl, h1, h2⟩ := RBo.obj r
    obtain ⟨v, ev, rv⟩ := RFs.look h2 e
    exact ⟨a, C, dx, vs, v, rfl, h1, c1, c2, ev, k _ H' d s' p st' rv z⟩
  · exact z.elim
def ownO (ρ : Env) (i : Nat) : Option (Addr × List (Str × D)) := match ρ[i]? with
  | some (.own (.obj C fs)) => some (C, fs)
  | _ => none
theorem ownO_at {ρ : Env} {i : Nat} {x : Addr × List (Str × D)} (h : ownO ρ i = some x) : ρ[i]? = some (.own (.obj x.1 x.2)) := by
  unfold ownO at h
  split at h
  · rename_i C fs e; cases h; exact e
  · cases h
/-- self.f = e -/
def pFld (K : W.Frag) (f : Str) (i : Nat) (A : TX S) : TP S := fun ρ s P => A ρ s (fun d s1 => opt (ownO ρ i) fun x => Att K x.1 f ∧ x.2.length < 1000 ∧ P.nx (ρ.set i (.own (.obj x.1 (putD f d x.2)))) s1) P.ex
theorem ls_fld {f : Str} {i : Nat} (ha : Ln Γ K E .s ta A) : LnS Γ K E (sFld K (tVar i) ta f) (pFld K f i A) := by
  intro M α σ H ρ s ok st P Dn q kn kb kc kr kx
  refine ha ok st _ P.ex _ q (fun v H' d s' p st' r z => ?_) (fun c dx H' x s' p st' r z => kx c dx H' x s' (stS_end p) st' (r.mono fun _ z => .inl z) z)
  obtain ⟨⟨C, fs⟩, e, z⟩ := opt_ex z
  have e' := ownO_at e
  have ok' := ok.step p
  obtain ⟨e1, dx, vs, h1, r1⟩ := ok'.slot i _ e'
  obtain ⟨c1, c2, z⟩ := z
  have oi : ownAt ρ i := ⟨_, e', rfl⟩
  refine ⟨_, e1, α i, C, dx, vs, rfl, h1, c1.cl, c1.no, by rw [RFs.len r1]; exact c2, ?_⟩
  obtain ⟨o2, p2⟩ := ok'.turnC (u := .ins C dx (putF f v vs)) (c' := .obj C (putD f d fs)) e' fun m' H2 s e => ⟨dx, _, e, RFs.same s (RFs.put r r1)⟩
  exact kn σ _ _ s' α o2 (Γ.loc (fun a y => by rw [upd_ne fun e => ok.out i oi (ok.sub _ (by rw [← e]; exact y))]) st') ((stS_stp p).trans p2) z

/-! ### __init__ -/
abbrev IniF := Addr → List D → Option (Except Exn (List (Str × D)))
structure StX (Γ : Fr S) (x : Addr) (H H' : Hp) : Prop where
  keep : ∀ a o, ¬ Γ.M a → a ≠ x → H a = some o → H' a = some o
  trk : ∀ a, H a ≠ none → H' a ≠ none
def spI (K : W.Frag) (os : List Mo) (CC : Addr → Prop) (F : IniF) : Sp := fun vs H Q E => ∃ (S : Type) (Γ : Fr S) (M : Msk) (s : S) (x C dx : Addr) (us : List V) (ds : List D), vs = .ref x :: us ∧ (∀ a, Γ.M a → M a) ∧ (∀ a, M a → H a ≠ none) ∧ ¬ M x ∧ H x = some (.ins C dx []) ∧
  ARel K Γ.M os M (del H x) (del H x) us ds ∧ Γ.st s H ∧ CC C ∧ opt (F C ds) fun r => match r with
    | .ok fs => ∀ H', StX Γ x H H' → Γ.st s H' → CellR K (cut (fun b => M b ∨ b = x) H') H' x (.obj C fs) → Q .non H'
    | .error e => ∀ c dx H', StX Γ x H H' → Γ.st s H' → XR K M H' c dx e → E c dx H'
def iniE (os : List Mo) (n : Nat) (C : Addr) (ds : List D) : Env := .own (.obj C []) :: (startD os ds ++ List.replicate (n - ds.length - 1) .no)
/-- the frame with an object that is being made -/
abbrev Fr.mk' {S : Type} (Γ : Fr S) (x : Addr) : Fr S := ⟨Γ.M, Γ.st, Γ.loc, some x⟩
theorem ini_start {M : Msk} {H : Hp} {n : Nat} {vs : List V} {ds : List D} {x C dx : Addr} {tl : St} (ho : ∀ o ∈ os, o ≠ .f) (h1 : ∀ a, Γ.M a → M a) (h2 : ∀ a, M a → H a ≠ none) (h3 : ¬ M x) (hx : H x = some (.ins C dx [])) (r : ARel K Γ.M os M (del H x) (del H x) vs ds)
    (ht : tl.length = n - vs.length - 1) : Ok (Γ.mk' x) K M (fun _ => x) ((.ref x :: vs).map some ++ tl) H (iniE os n C ds) ∧ ∀ i, ownAt (iniE os n C ds) i → i = 0 := by
  obtain ⟨l1, l2⟩ := ARel.len r
  have own : ∀ i, ownAt (iniE os n C ds) i → i = 0 := fun i ⟨s, e, o⟩ => by
    match i with
    | 0 => rfl
    | i + 1 =>
      unfold iniE at e
      rw [List.getElem?_cons_succ] at e
      by_cases h : i < (startD os ds).length
      · rw [List.getElem?_append_left h] at e
        exact absurd ⟨s, e, o⟩ startD_own
      · rw [List.getElem?_append_right (by omega), List.getElem?_replicate] at e
        split at e
        · cases e; cases o
        · cases e
  have mm : ∀ a, mask M (fun _ => x) (iniE os n C ds) a → M a ∨ a = x := by
    rintro a (z | ⟨j, o, e⟩)
    · exact .inl z
    · exact .inr e.symm
  have c : Same (cut M (del H x)) (cut (mask M (fun _ => x) (iniE os n C ds)) H) := fun b o e => by
    obtain ⟨n, e⟩ := of_cut e
    have ne : b ≠ x := fun z => by rw [z] at e; unfold del at e; simp at e
    rw [cut_out fun z => (mm b z).elim n ne]
    rwa [del_ne ne] at e
  obtain ⟨hlen, slots⟩ := startD_slot (a := x) ho r
  refine ⟨⟨h1, h2, fun i o => h3, fun i j a b _ => (own i a).trans (own j b).symm, ?_, fun i s e => ?_, fun a z => by cases z; rfl⟩, own⟩
  · unfold iniE
    simp only [List.length_append, List.length_map, List.length_cons, List.length_replicate, ht, hlen]
    omega
  · match i with
    | 0 =>
      cases e
      exact ⟨rfl, dx, [], hx, .nil⟩
    | i + 1 =>
      unfold iniE at e
      rw [List.getElem?_cons_succ] at e
      by_cases h : i < (startD os ds).length
      · rw [List.getElem?_append_left h] at e
        obtain ⟨v, ev, rs⟩ := slots i s e
        have es : ((V.ref x :: vs).map some ++ tl)[i + 1]? = some (some v) := by
          rw [List.map_cons, List.cons_append, List.getElem?_cons_succ, List.getElem?_append_left (by rw [List.length_map]; exact (List.getElem?_eq_some_iff.mp ev).1), List.getElem?_map, ev]
          rfl
        rw [es]
        cases s with
        | no => trivial
        | d y => obtain ⟨v, e1, r⟩ := rs; exact ⟨v, e1, R.same c r⟩
        | bor y => obtain ⟨v, e1, r⟩ := rs; exact ⟨v, e1, RBo.carry c (fun _ _ _ _ e => del_le _ _ e) r⟩
        | own y => exact absurd ⟨_, e, rfl⟩ startD_own
      · rw [List.getElem?_append_right (by omega), List.getElem?_replicate] at e
        split at e
        · cases e; trivial
        · cases e
/-- what an __init__'s body is to reach -/
def postI (C : Addr) (s : S) (r : Except Exn (List (Str × D))) : Post S where
  nx := fun ρ s' => s' = s ∧ ∃ fs, r = .ok fs ∧ ownO ρ 0 = some (C, fs)
  rt := fun _ _ => False
  ex := fun x s' => r = .error x ∧ s' = s
theorem ini_cell {M : Msk} {α : Nat → Addr} {σ : St} {H : Hp} {ρ : Env} {x C : Addr} {fs : List (Str × D)} (ok : Ok (Γ.mk' x) K M α σ H ρ) (e : ownO ρ 0 = some (C, fs)) : CellR K (cut (fun b => M b ∨ b = x) H) H x (.obj C fs) := by
  have e' := ownO_at e
  have a0 : α 0 = x := ok.sf x rfl
  obtain ⟨_, r⟩ := ok.slot 0 _ e'
  rw [a0] at r
  exact r.move (cut_mono fun b z => z.imp id fun z => ⟨0, ⟨_, e', rfl⟩, a0.trans z.symm⟩) fun _ e => e
theorem stX_of {w : Msk} {H H' : Hp} {n : Nat} {x C : Addr} {ds : List D} (own : ∀ i, ownAt (iniE os n C ds) i → i = 0) (p : StS (wmask (Γ.mk' x) (fun _ => x) (iniE os n C ds)) w H H') : StX Γ x H H' :=
  ⟨fun a o n ne e => p.keep a o (fun z => z.elim n fun ⟨_, _, z⟩ => ne z.symm) e, p.trk⟩
end
section
variable {P : Program} {w : World} {K : W.Frag} {mg : Str → Option Value} {base : Heap} {xn qual self : Str} {st : Stmt} {f : Addr} {fd : FuncData} {N ps : List Str} {k : Nat} {os osP : List Mo} {CC CCP : Addr → Prop} {F FP : IniF}
theorem fn_ini (Fd : Fun K xn qual st f fd) (Sc : FnScope N (self :: ps) (defScope st)) (hl : os.length = ps.length) (ho : os.all (fun o => match o with | .f => false | _ => true) = true)
    (hbody : ∀ (cdv : Value) (A : Around) (outer : List PySem.Env) (s : Shared) (H : Hp) (E : XK), Room k (A.deeper (envOfC qual (defScope st) s.heap.objs.size f cdv)) → Quiet (A.deeper (envOfC qual (defScope st) s.heap.objs.size f cdv)) →
      ∃ t, PSs (cxOf (L2.CX P w) P w K mg base N qual (defScope st) f cdv A outer s H E) (defBody st) t ∧
        ∀ (S : Type) (Γ : Fr S) (x : Addr), ∃ T : TP S, LnS (Γ.mk' x) K E t T ∧ ∀ (C : Addr) (ds : List D) (r : Except Exn (List (Str × D))) (s : S), CC C → F C ds = some r → T (iniE os N.length C ds) s (postI C s r)) :
    FnG P w K mg base (L2.CX P w) (k + 1) f fd (self :: ps) (spI K os CC F) := by
  have hno : ∀ o ∈ os, o ≠ Mo.f := fun o z e => by
    have := List.all_eq_true.mp ho o z
    rw [e] at this
    cases this
  refine body_g Fd Sc (fun vs H Q E ⟨S, Γ, M, s, x, C, dx, us, ds, e, _, _, _, _, r, _⟩ => by rw [e, List.length_cons, List.length_cons, (ARel.len r).1, hl]) ?_
  rintro cdv A outer s H vs Q E hr hq ⟨S, Γ, M, s0, x, C, dx, us, ds, rfl, h1, h2, h3, hx, r, st0, hC, q⟩
  obtain ⟨t, ht, hT⟩ := hbody cdv A outer s H E hr hq
  obtain ⟨T, lt, main⟩ := hT S Γ x
  obtain ⟨y, e, q⟩ := opt_ex q
  obtain ⟨ok, own⟩ := ini_start (n := N.length) (tl := List.replicate (N.length - (us.length + 1)) none) hno h1 h2 h3 hx r (by rw [List.length_replicate]; omega)
  refine ⟨t, ht, lt ok st0 _ _ (main C ds y s0 hC e) (fun σ' H' ρ' s' α' ok' st' p z => ?_) (fun _ _ _ _ _ _ _ _ z => z.elim) (fun _ _ _ _ _ _ _ _ z => z.elim) (fun v H' d s' p st' r' z => z.elim) (fun c dx H' x s' p st' r' z => ?_)⟩
  · obtain ⟨rfl, fs, rfl, ef⟩ := z
    exact q H' (stX_of own p) st' (ini_cell ok' ef)
  · obtain ⟨rfl, rfl⟩ := z
    exact q c dx H' (stX_of own p) st' r'
theorem ARel.ofS {g m : Msk} {H0 H : Hp} : ∀ {os : List Mo} {vs : List V} {ds : List D}, os.length = vs.length → (∀ o ∈ os, o = .s) → RAll K (cut m H) vs ds → ARel K g os m H0 H vs ds
  | [], [], _, _, _, .nil => trivial
  | o :: os, _, _, l, ho, .cons h t => by
    have e := ho o List.mem_cons_self
    subst e
    exact ⟨h, ARel.ofS (by simpa using l) (fun o z => ho o (List.mem_cons_of_mem _ z)) t⟩
theorem fn_sup {c cc Dc : Addr} {e : Expr} {es : List Expr} {rest : List Stmt} {p0 p1 apos pos pos2 : Pos} {ar : Arg}
    (Fd : FunS P K xn qual st f fd c cc Dc) (Sc : NScope N (self :: ps) ["__class__"] (defScope st)) (hst : defBody st = .Expr (.Call (.Attribute (.Call (.Name "super" p0) [] [] p1) "__init__" apos) (e :: es) [] pos) pos2 :: rest)
    (hpar : ((defArgs st).posonlyargs ++ (defArgs st).args).head? = some ar) (har : ar.arg = self) (hks : (defScope st).names.lookup ("super" : Str) = some .globalImplicit) (m_super : mg "super" = none) (hop : W.nsIn K cStatics "thirdparty.any" = some none)
    (he : ∀ env : PySem.Env, starEach (e :: es) env = (false, eval e env) :: starEach es env) (hpl : ∀ env : PySem.Env, (backTo pos (starEach es env)).any (·.1) = false)
    (hev : ∀ env : PySem.Env, ∃ pl, eval (.Call (.Attribute (.Call (.Name "super" p0) [] [] p1) "__init__" apos) (e :: es) [] pos) env = (do
        let ov ← attributeBase (.Call (.Name "super" p0) [] [] p1) "__init__" env (eval (.Call (.Name "super" p0) [] [] p1) env)
        standAt apos.atName
        let (f, first) ← holding [ov] (getMethod ov "__init__" pl)
        callWith pos f first (backTo pos (starEach (e :: es) env)) []))
    (hsw : ∀ env : PySem.Env, swapsWith (.Call (.Attribute (.Call (.Name "super" p0) [] [] p1) "__init__" apos) (e :: es) [] pos) none pos2.line env = pure false)
    (hl : os.length = ps.length) (ho : os.all (fun o => match o with | .f => false | _ => true) = true) (hoP : osP.all (fun o => match o with | .s => true | _ => false) = true)
    {fP : Addr} {fdP : FuncData} {psP : List Str} (hC : ∀ C, CC C → W.mroIn K C (.ref Dc) = some true ∧ W.ks_superIn K C Dc "__init__" = some (some (.ref fP)) ∧ CCP C) (htP : W.typeIn K (.ref fP) = some (.type "function")) (hfP : W.fnIn K fP = true)
    (FF : FnG P w K mg base (L2.CX P w) k fP fdP psP (spI K osP CCP FP)) (bP : Binds K fdP psP [])
    (hbody : ∀ (A : Around) (outer : List PySem.Env) (s : Shared) (H : Hp) (E : XK), Room k (A.deeper (envF (nfS xn qual st c cc) f s.heap.objs.size)) → Quiet (A.deeper (envF (nfS xn qual st c cc) f s.heap.objs.size)) →
      ∃ (ta : TA) (t : TS), PA (ncx (L2.CX P w) P w K mg base N (nfS xn qual st c cc) f A outer s H E) (e :: es) ta ∧ PSs (ncx (L2.CX P w) P w K mg base N (nfS xn qual st c cc) f A outer s H E) rest t ∧
        Passes (L2.CX P w) (ncx (L2.CX P w) P w K mg base N (nfS xn qual st c cc) f A outer s H E) E ∧
        ∀ (S : Type) (Γ : Fr S) (x : Addr), ∃ (L : TL S) (T : TP S), LnA (Γ.mk' x) K E osP ta L ∧ LnS (Γ.mk' x) K E t T ∧ ∀ (C : Addr) (ds : List D) (r : Except Exn (List (Str × D))) (s : S), CC C → F C ds = some r →
          L (iniE os N.length C ds) s (fun ys s1 => s1 = s ∧ opt (FP C ys) fun y => match y with
            | .ok fs => T ((iniE os N.length C ds).set 0 (.own (.obj C fs))) s (postI C s r)
            | .error e => r = .error e) (fun x s1 => r = .error x ∧ s1 = s)) :
    FnG P w K mg base (L2.CX P w) (k + 1) f fd (self :: ps) (spI K os CC F) := by
  have hno : ∀ o ∈ os, o ≠ Mo.f := fun o z e => by
    have := List.all_eq_true.mp ho o z
    rw [e] at this
    cases this
  have hnP : ∀ o ∈ osP, o = Mo.s := fun o z => by
    have := List.all_eq_true.mp hoP o z
    cases o <;> first | rfl | cases this
  have hN : ps.length + 2 ≤ N.length := by
    have := congrArg List.length Sc.pre
    simp only [List.length_take, List.length_append, List.length_cons, List.length_nil] at this
    omega
  have hN0 : N[0]? = some self := by
    have := congrArg (fun l => l[0]?) Sc.pre
    simpa using this
  refine body_super Fd Sc hst hpar har hks m_super hop hN0 (fun vs H Q E ⟨S, Γ, M, s, x, C, dx, us, ds, e, _, _, _, _, r, _⟩ => by rw [e, List.length_cons, List.length_cons, (ARel.len r).1, hl]) he hpl hev hsw ?_
  rintro A outer s H vs Q E hr hq ⟨S, Γ, M, s0, x, C, dx, us, ds, rfl, h1, h2, h3, hx, r, st0, hc, q⟩
  obtain ⟨ta, t, hA, hS, hp, hT⟩ := hbody A outer s H E hr hq
  obtain ⟨L, T, la, lt, main⟩ := hT S Γ x
  obtain ⟨y, e, q⟩ := opt_ex q
  obtain ⟨m1, m2, m3⟩ := hC C hc
  have lus : us.length = ps.length := by rw [(ARel.len r).1, hl]
  obtain ⟨ok, own⟩ := ini_start (n := N.length) (tl := [some (.ref Dc)] ++ List.replicate (N.length - (us.length + 1) - 1) none) hno h1 h2 h3 hx r (by simp only [List.length_append, List.length_replicate, List.length_cons, List.length_nil]; omega)
  refine ⟨ta, t, x, C, dx, us, [], fP, fdP, psP, spI K osP CCP FP, hA, hS, rfl, hx, m1, m2, htP, hfP, FF, bP, hp, fun qa hqa => ?_⟩
  have p0 : Stp (Γ.mk' x) H (upd H qa (.met fP x)) := Stp.of (same_upd hqa)
  refine la (ok.step p0) (Fr.same (Γ := Γ) (fun a z => h2 a (h1 a z)) (same_upd hqa) st0) _ _ _ (main C ds y s0 hc e) (fun ws H2 ys s1 p1 st1 ra z => ?_) (fun c dx H' xx s' p st' r' z => ?_)
  · obtain ⟨rfl, z⟩ := z
    have p := p0.trans p1
    have ok2 := ok.step p
    have mx : ∀ b, mask M (fun _ => x) (iniE os N.length C ds) b → M b ∨ b = x := fun b z => z.imp id fun ⟨_, _, z⟩ => z.symm
    obtain ⟨_, dx2, vs2, hx2, r2⟩ := ok2.slot 0 _ rfl
    cases r2
    obtain ⟨y2, ey, z⟩ := opt_ex z
    refine ⟨p1.keep qa _ (fun z => h2 _ (h1 _ z) hqa) upd_same, ⟨S, Γ, M, s1, x, C, dx2, ws, ys, rfl, h1, fun a z => p.trk a (h2 a z), h3, hx2, ?_, st1, m3, ?_⟩⟩
    · have rr := ARel.strict hnP ra
      refine ARel.ofS (ARel.len ra).1.symm hnP (RAll.same (fun b o z => ?_) rr)
      obtain ⟨n, z⟩ := of_cut z
      have ne : b ≠ x := fun q => n (.inr ⟨0, ⟨_, rfl, rfl⟩, q.symm⟩)
      rw [cut_out fun z => n (.inl z), del_ne ne]
      exact z
    · rw [ey]
      cases y2 with
      | error x2 =>
        obtain rfl := z
        exact fun c dx H' sx st' rx => q c dx H' ⟨fun a o n ne e => sx.keep a o n ne (p.keep a o n e), fun a z => sx.trk a (p.trk a z)⟩ st' rx
      | ok fs =>
        intro H3 sx st3 cx
        obtain ⟨ok3, p3⟩ := ok2.turnH (i := 0) (c' := .obj C fs) rfl (fun b o n ne e => sx.keep b o n ne e) sx.trk (fun m' hm => cx.move (cut_mono fun b z => mx b (hm b z)) fun _ e => e)
        have pp : StS (wmask (Γ.mk' x) (fun _ => x) (iniE os N.length C ds)) (wmask (Γ.mk' x) (fun _ => x) ((iniE os N.length C ds).set 0 (.own (.obj C fs)))) H H3 := (stS_stp p).trans p3
        refine lt ok3 st3 _ _ z (fun σ' H' ρ' s' α' ok' st' p z => ?_) (fun _ _ _ _ _ _ _ _ z => z.elim) (fun _ _ _ _ _ _ _ _ z => z.elim) (fun v H' d s' p st' r' z => z.elim) (fun c dx H' x s' p st' r' z => ?_)
        · obtain ⟨rfl, fs', rfl, ef⟩ := z
          exact q H' (stX_of own (pp.trans p)) st' (ini_cell ok' ef)
        · obtain ⟨rfl, rfl⟩ := z
          exact q c dx H' (stX_of own (pp.trans p)) st' r'
  · obtain ⟨rfl, rfl⟩ := z
    exact q c dx H' (stX_of own (stS_stp (p0.trans p))) st' (r'.mono fun _ z => .inl z)
end
end L2.DL
/-! Instances are made; isinstance, ==, !=, repr of them -/
namespace L2.DL
open L2 L2.My NdefX PySem PySem.Spec PyProof.Rows

/-- C(e, ..) -/
def tMk (C : Addr) (sp : Sp) (E : XK) (t : TA) : TE := fun σ H Q => t σ H fun vs H1 => ∀ x dx, H1 x = none → H1 dx = none → dx ≠ x →
  sp (.ref x :: vs) (upd (upd H1 dx (.own x)) x (.ins C dx [])) (fun v H2 => v = .non ∧ Q (.ref x) H2) E
section
variable {X : Cx} {CX : CXT} {k : Nat} {f C : Addr} {fd : FuncData} {ps : List Str} {sp : Sp} {E : XK} {x : Str} {p pos : Pos} {e : Expr} {es : List Expr} {t : TA}
theorem run_mk {pins : List (Addr × Obj)} {σ : St} {H : Hp} {s : Shared} {Q : VK} {us : List Value} {vs : List V} (M : Mk X.K C f) (F : FnG X.prog X.w X.K X.mg X.base CX k f fd ps sp) (hr : Room (k + 1) X.A) (hq : My.Quiet X.A) (hb : Binds X.K fd ps []) (hx : Passes CX X E) (I : Inv X pins σ H s) (r : Vals vs us)
    (h : ∀ x dx, H x = none → H dx = none → dx ≠ x → sp (.ref x :: vs) (upd (upd H dx (.own x)) x (.ins C dx [])) (fun v H2 => v = .non ∧ Q (.ref x) H2) E) : wpAny (model X.prog X.w) X.A (call (.ref C) us) (EP X pins σ Q) X.xe s := by
  have h' := h (s.heap.objs.size + 1) s.heap.objs.size (I.hok.fresh (Nat.le_succ _)) (I.hok.fresh (Nat.le_refl _)) (Nat.ne_of_lt (Nat.lt_succ_self _))
  have I2 := Inv.made (C := C) I
  have lv := F.many _ _ _ _ h'
  have hl : ((Value.ref (s.heap.objs.size + 1) :: us) ++ []).length = ps.length := by
    rw [← lv, List.append_nil, List.length_cons, List.length_cons, r.length]
  have b := hb _ (Value.ref (s.heap.objs.size + 1) :: us) I2.kIn hl
  rw [List.append_nil] at b
  have hq2 : My.Quiet (X.A.under (.builtin "type.__call__" ⟨.ref C :: us, []⟩)) := by
    unfold My.Quiet Around.under
    rw [show X.A.guards = some [] from hq]
    rfl
  refine wpAny_call (make_map (f := f) I.kIn M.makes M.init (beq_iff_eq.mp M.fn) (codeAny_mono (F.runs _ X.stack _ _ ⟨Value.ref (s.heap.objs.size + 1) :: us, []⟩ _ (V.ref (s.heap.objs.size + 1) :: vs) _ E (hr.make C us []) hq2 (I2.env0.make C us []) b (.cons rfl r) h') ?_))
  intro res s' z
  match res, z with
  | .error er, z => exact hx pins σ _ _ er s' I2 z
  | .ok (.ret u), z =>
    obtain ⟨v, H', I3, rv, rfl, q⟩ := I2.after z
    exact ⟨rv, .ref (s.heap.objs.size + 1), H', I3, rfl, q⟩
theorem pe_mk (M : Mk X.K C f) (F : FnG X.prog X.w X.K X.mg X.base CX k f fd ps sp) (hr : Room (k + 1) X.A) (hq : My.Quiet X.A) (hg : Gl X x) (hm : X.mg x = some (.ref C)) (hb : Binds X.K fd ps []) (hx : Passes CX X E)
    (ha : PA X (e :: es) t) (hdb : (x == ("__debug__" : Str)) = false := by decide) (he : starEach (e :: es) X.env = (false, eval e X.env) :: starEach es X.env := by rfl) (hpl : (backTo pos (starEach es X.env)).any (·.1) = false := by rfl) :
    PE X (.Call (.Name x p) (e :: es) [] pos) (tMk C sp E t) := by
  constructor
  intro pins s σ H Q I h
  refine wpAny_Call_Name_kw (ld_glob I hg hm ?_ hdb)
  refine W.callWith_K (h₀ := X.base) I.ok.mod.kin M.kp (thn (ha.run pos pins s σ H _ I h) ?_) he hpl
  rintro us s1 ⟨vs, H1, I1, r, q⟩
  exact ⟨I1.kIn, run_mk M F hr hq hb hx I1 r q⟩
end
section
variable {S : Type} {Γ : Fr S} {K : W.Frag} {E : XK} {ta tb tc : TE} {A B : TX S} {t u : TS} {T U : TP S} {os : List Mo} {tl : TA} {L : TL S} {mo : Mo}
def xMk (C : Addr) (F : IniF) (L : TL S) : TX S := fun ρ s Q X => L ρ s (fun ds s1 => opt (F C ds) fun r => match r with
  | .ok fs => Q (.obj C fs) s1
  | .error x => X x s1) X
theorem ln_mk {CC : Addr → Prop} {C : Addr} {F : IniF} (ho : os.all (fun o => match o with | .f => false | _ => true) = true) (hC : CC C) (h : LnA Γ K E os tl L) : Ln Γ K E .f (tMk C (spI K os CC F) E tl) (xMk C F L) := by
  have hno : ∀ o ∈ os, o ≠ Mo.f := fun o z e => by
    have := List.all_eq_true.mp ho o z
    rw [e] at this
    cases this
  intro M α σ H ρ s ok st QD QX Q q k kx
  refine h ok st _ QX _ q (fun vs H1 ds s1 p1 st1 r z => ?_) kx
  obtain ⟨y, e, z⟩ := opt_ex z
  intro x dx nx nd ne
  have ok1 := ok.step p1
  have step : ∀ a o, H1 a = some o → a ≠ x ∧ upd (upd H1 dx (.own x)) x (.ins C dx []) a = some o := fun a o q => by
    have h1 := ne_of_none q nx
    have h2 := ne_of_none q nd
    exact ⟨h1, by rw [upd_ne h1, upd_ne h2]; exact q⟩
  have trk : ∀ a, H1 a ≠ none → upd (upd H1 dx (.own x)) x (.ins C dx []) a ≠ none := fun a q => by
    cases e : H1 a with
    | none => exact absurd e q
    | some o => rw [(step a o e).2]; exact fun z => by cases z
  have nm : ¬ mask M α ρ x := fun z => ok1.mtrk x z nx
  have nH : H x = none := Classical.byContradiction fun q => p1.trk x q nx
  refine ⟨S, Γ, mask M α ρ, s1, x, C, dx, vs, ds, rfl, ok.msub, fun a z => trk a (ok1.mtrk a z), nm, upd_same, ?_, Fr.same ok1.frt (fun a o q => (step a o q).2) st1, hC, ?_⟩
  · refine ARel.from hno (ARel.step ok.msub (fun a o _ q => ?_) hno r)
    rw [del_ne (step a o q).1]
    exact (step a o q).2
  · rw [e]
    cases y with
    | error x2 => exact fun c dx H' sx st' rx => kx c dx H' x2 s1 ⟨fun a o n e => sx.keep a o n (step a o (p1.keep a o n e)).1 (step a o (p1.keep a o n e)).2, fun a q => sx.trk a (trk a (p1.trk a q))⟩ st' rx z
    | ok fs => exact fun H' sx st' cx => ⟨rfl, k _ H' _ s1 ⟨fun a o n e => sx.keep a o n (step a o (p1.keep a o n e)).1 (step a o (p1.keep a o n e)).2, fun a q => sx.trk a (trk a (p1.trk a q))⟩ st' ⟨x, .obj C fs, rfl, rfl, nH, cx⟩ z⟩

/-! ### isinstance -/
structure ClsI (K : W.Frag) (C : Addr) : Prop where
  cl : Cls K C
  ci : W.findIn K (.ref C) "__class__" = some (some (.builtin "object.__class__"))
  ob : W.mroIn K C (.type "object") = some true
open Classical in
noncomputable def tyV (K : W.Frag) : D → Option Value
  | .obj C _ => if ClsI K C then some (.ref C) else none
  | .exc C _ => if ExK K C then some (.ref C) else none
  | d => (tyD d).map .type
def clsV : D → Option Value
  | .v (.ty b) => some (.type b)
  | .v (.ref C) => some (.ref C)
  | _ => none
noncomputable def isiK (K : W.Frag) (d c : D) : Option D := match isiD d c with
  | some r => some r
  | none => (tyV K d).bind fun t => (clsV c).bind fun u => (W.kitOne K t u).map dB
theorem clsV_of {g m : Msk} {H : Hp} {v : V} {c : D} {u : Value} (r : RB K g m H v c) (e : clsV c = some u) : ClsV v u := by
  unfold clsV at e
  split at e
  · cases e; rw [RBo.sc r]; exact .ty _
  · cases e; rw [RBo.sc r]; exact .own _
  · cases e
theorem RBo.exc {g o m : Msk} {H : Hp} {v : V} {C : Addr} {ds : List (Str × D)} (h : RBo K g o m H v (.exc C ds)) : ∃ a dx fs, v = .ref a ∧ H a = some (exz a (.ref C) (some dx)) ∧ H dx = some (.xd fs) ∧ RFs K (cut m H) fs ds := by
  rcases h with h | ⟨a, c, rfl, e, _⟩
  · cases h with
    | exc h1 h2 h3 => exact ⟨_, _, _, rfl, cut_le _ _ h1, cut_le _ _ h2, h3⟩
  · cases c <;> cases e
theorem p2_isiK (G : ExA K) : P2 K .s (fun v u => rIsA K [v, u]) (isiK K) := by
  intro g m H v u d c e Q hm r1 r2 he k
  unfold isiK at he
  split at he
  · rename_i r er
    cases he
    exact p2_isi hm r1 r2 er k
  · simp only [Option.bind_eq_some_iff, Option.map_eq_some_iff] at he
    obtain ⟨t, et, cu, ec, b, eb, rfl⟩ := he
    have hc := clsV_of r2 ec
    unfold tyV at et
    split at et
    · rename_i C fs
      split at et
      · rename_i hC
        cases et
        obtain ⟨a, dx, vs, rfl, h1, _⟩ := RBo.obj r1
        exact .inl ⟨_, _, _, _, b, rfl, hc, .base (.ins h1 hC.cl hC.ci G.gt G.tk hC.ob), eb, k _ H (Same.refl _) (.v _)⟩
      · cases et
    · split at et
      · rename_i hC
        cases et
        obtain ⟨a, dx, vs, rfl, h1, h2, _⟩ := RBo.exc r1
        exact .inr ⟨a, _, dx, vs, _, cu, b, rfl, h1, h2, hC, G, fun w rw' => hc.eq rw', eb, k _ H (Same.refl _) (.v _)⟩
      · cases et
    · rw [Option.map_eq_some_iff] at et
      obtain ⟨a, ea, rfl⟩ := et
      exact .inl ⟨_, _, _, _, b, rfl, hc, rb_ty r1 ea, eb, k _ H (Same.refl _) (.v _)⟩
end
end L2.DL
/-! ==, !=, repr of instances; f-strings; join; raise; try .. except X as e -/
namespace L2.DL
open L2 L2.My NdefX PySem PySem.Spec PyProof.Rows

section
variable {K : W.Frag}
/-- a call that leaves all alone -/
def agree (g m : Msk) (H : Hp) : Fr Unit := ⟨fun a => g a ∧ m a, fun _ H' => ∀ a, g a ∧ m a → H' a = H a, fun h q a z => (h a z).trans (q a z), none⟩
theorem RBo.less {g g' o m : Msk} {H : Hp} {v : V} {d : D} (h : ∀ a, g' a → g a) (r : RBo K g o m H v d) : RBo K g' o m H v d := by
  rcases r with r | ⟨a, c, e1, e2, n, r⟩
  · exact .inl r
  · exact .inr ⟨a, c, e1, e2, ⟨n.1, fun z => n.2 (h a z)⟩, r⟩
theorem agree_same {g m : Msk} {H H' : Hp} (p : Stp (agree g m H) H H') (st : (agree g m H).st () H') : Same H H' := fun a o e => by
  by_cases z : g a ∧ m a
  · rw [st a z]; exact e
  · exact p.keep a o z e
/-- a pure def of two lent values, called from within an operator -/
theorem spF_two {F : Fn} {g m : Msk} {H : Hp} {v u : V} {d c e : D} {Q : VK} {E : XK} (hm : ∀ a, m a → H a ≠ none) (r1 : RB K g m H v d) (r2 : RB K g m H u c) (h : F [d, c] = some (.ok e)) (k : ∀ v' H', Same H H' → R K (cut m H') v' e → Q v' H') : spF K [.b, .b] F [v, u] H Q E := by
  refine ⟨Unit, agree g m H, m, (), [d, c], fun a z => z.2, hm, ⟨RBo.less (fun a z => z.1) r1, RBo.less (fun a z => z.1) r2, trivial⟩, fun a _ => rfl, ?_⟩
  rw [h]
  exact fun v' H' p st r => k v' H' (agree_same p st) r
theorem spF_one {F : Fn} {g m : Msk} {H : Hp} {v : V} {d e : D} {Q : VK} {E : XK} (hm : ∀ a, m a → H a ≠ none) (r1 : RB K g m H v d) (h : F [d] = some (.ok e)) (k : ∀ v' H', Same H H' → R K (cut m H') v' e → Q v' H') : spF K [.b] F [v] H Q E := by
  refine ⟨Unit, agree g m H, m, (), [d], fun a z => z.2, hm, ⟨RBo.less (fun a z => z.1) r1, trivial⟩, fun a _ => rfl, ?_⟩
  rw [h]
  exact fun v' H' p st r => k v' H' (agree_same p st) r

/-! ### ==, != -/
def DEq (K : W.Frag) (EF : Addr → Option Fn) : Addr → Sp → Prop := fun C sp => ∃ F, EF C = some F ∧ sp = spF K [.b, .b] F
def rtD : D → Option Value
  | .v (.str _) => some (.type "str")
  | .obj C _ => some (.ref C)
  | _ => none
def resB (pos : Bool) : Option (Except Exn D) → Option D
  | some (.ok (.v (.bl b))) => some (dB (pos == b))
  | _ => none
def eqO (K : W.Frag) (EF : Addr → Option Fn) (pos : Bool) (d c : D) : Option D := match d with
  | .obj C _ => (rtD c).bind fun t => if W.notFirst K C t = true then (EF C).bind fun F => resB pos (F [d, c]) else match c with
    | .obj C' _ => if C' ≠ C ∧ W.subIn K (.ref C') (.ref C) = some true then (EF C').bind fun F => resB pos (F [c, d]) else none
    | _ => none
  | _ => none
theorem resB_ex {pos : Bool} {r : Option (Except Exn D)} {e : D} (h : resB pos r = some e) : ∃ b, r = some (.ok (dB b)) ∧ e = dB (pos == b) := by
  unfold resB at h
  split at h
  · cases h; exact ⟨_, rfl, rfl⟩
  · cases h
theorem rb_rt {g m : Msk} {H : Hp} {v : V} {c : D} {t : Value} (r : RB K g m H v c) (e : rtD c = some t) : RT H v t := by
  unfold rtD at e
  split at e
  · cases e; rw [RBo.sc r]; exact .str _
  · cases e
    obtain ⟨a, dx, fs, rfl, h1, _⟩ := RBo.obj r
    exact .ins h1
  · cases e
theorem p2_eqO {EF : Addr → Option Fn} {pos : Bool} : P2 K .s (rEqO K (DEq K EF) pos) (eqO K EF pos) := by
  intro g m H v u d c e Q hm r1 r2 he k
  unfold eqO at he
  split at he
  · rename_i C fs
    obtain ⟨t, et, he⟩ := Option.bind_eq_some_iff.mp he
    obtain ⟨a, dx, vs, rfl, h1, _⟩ := RBo.obj r1
    refine ⟨a, C, dx, vs, rfl, h1, ?_⟩
    split at he
    · rename_i hn
      obtain ⟨F, eF, he⟩ := Option.bind_eq_some_iff.mp he
      obtain ⟨b, eb, rfl⟩ := resB_ex he
      refine .inl ⟨t, _, rb_rt r2 et, hn, ⟨F, eF, rfl⟩, spF_two hm r1 r2 eb fun v' H' s r => ?_⟩
      cases r
      exact ⟨b, rfl, k _ H' s (.v _)⟩
    · split at he
      · rename_i C' gs
        split at he
        · rename_i hn
          obtain ⟨F, eF, he⟩ := Option.bind_eq_some_iff.mp he
          obtain ⟨b, eb, rfl⟩ := resB_ex he
          obtain ⟨a2, dy, ws, rfl, h2, _⟩ := RBo.obj r2
          refine .inr ⟨a2, _, dy, ws, _, rfl, h2, hn.1, hn.2, ⟨F, eF, rfl⟩, spF_two hm r2 r1 eb fun v' H' s r => ?_⟩
          cases r
          exact ⟨b, rfl, k _ H' s (.v _)⟩
        · cases he
      · cases he
  · cases he
/-- both: data, instances -/
def rEqA (K : W.Frag) (D : Addr → Sp → Prop) (pos : Bool) : R2 := fun x y H Q => rEqP K pos x y H Q ∨ rEqO K D pos x y H Q
def eqA (K : W.Frag) (EF : Addr → Option Fn) (pos : Bool) (d c : D) : Option D := match d with
  | .obj _ _ => eqO K EF pos d c
  | _ => eqD pos d c
theorem p2_eqA {EF : Addr → Option Fn} {pos : Bool} : P2 K .s (rEqA K (DEq K EF) pos) (eqA K EF pos) := by
  intro g m H v u d c e Q hm r1 r2 he k
  unfold eqA at he
  split at he
  · exact .inr (p2_eqO hm r1 r2 he k)
  · exact .inl (p2_eq hm r1 r2 he k)
section
variable {X : Cx} {n : Nat} {D : Addr → Sp → Prop}
theorem op_eqA (hr : Room n X.A) (hq : My.Quiet X.A) (hD : ∀ C sp, D C sp → EqDef X.prog X.w X.K X.mg X.base n C sp) (hu : X.A.units + 64 < cLine) : OpR X (compareOp .Eq) (rEqA X.K D true) := by
  intro pins s σ H x y v u Q I rx ry h
  rcases h with h | h
  · exact op_eqP hu pins s σ H x y v u Q I rx ry h
  · exact op_eqO hr hq hD pins s σ H x y v u Q I rx ry h
theorem op_neA (hr : Room (n + 1) X.A) (hq : My.Quiet X.A) (hD : ∀ C sp, D C sp → EqDef X.prog X.w X.K X.mg X.base n C sp) (hu : X.A.units + 64 < cLine) : OpR X (compareOp .NotEq) (rEqA X.K D false) := by
  intro pins s σ H x y v u Q I rx ry h
  rcases h with h | h
  · exact op_neP hu pins s σ H x y v u Q I rx ry h
  · exact op_neO hr hq hD pins s σ H x y v u Q I rx ry h
end

/-! ### repr -/
mutual
theorem Dp.dq {H : Hp} : ∀ {v : V} {d : PyData}, Dp K H v d → Dq K H v d
  | _, _, .non => .non
  | _, _, .bl b => .bl b
  | _, _, .int i => .int i
  | _, _, .str x => .str x
  | _, _, .lst h1 h2 => .lst h1 (DpAll.dq h2)
  | _, _, .tup h1 h2 => .tup h1 (DpAll.dq h2)
theorem DpAll.dq {H : Hp} : ∀ {v : List V} {d : List PyData}, DpAll K H v d → DqAll K H v d
  | _, _, .nil => .nil
  | _, _, .cons h1 h2 => .cons (Dp.dq h1) (DpAll.dq h2)
end
def DRp (K : W.Frag) (RF : Addr → Option Fn) : Addr → Sp → Prop := fun C sp => ∃ F, RF C = some F ∧ sp = spF K [.b] F
def resS : Option (Except Exn D) → Option D
  | some (.ok (.v (.str y))) => some (dS y)
  | _ => none
def reprD (RF : Addr → Option Fn) (d : D) : Option D := match d with
  | .obj C _ => (RF C).bind fun F => resS (F [d])
  | _ => (toPy d).bind fun p => if p.showable = true ∧ p.depth ≤ 60 ∧ p.shown.length ≤ sizeLine then some (dS p.shown) else none
theorem resS_ex {r : Option (Except Exn D)} {e : D} (h : resS r = some e) : ∃ y, r = some (.ok (dS y)) ∧ e = dS y := by
  unfold resS at h
  split at h
  · cases h; exact ⟨_, rfl, rfl⟩
  · cases h
theorem p1_repr {RF : Addr → Option Fn} : P1 K .s (fun v => rReprA K (DRp K RF) [v]) (reprD RF) := by
  intro g m H v d e Q hm r he k
  unfold reprD at he
  split at he
  · rename_i C fs
    obtain ⟨F, eF, he⟩ := Option.bind_eq_some_iff.mp he
    obtain ⟨y, ey, rfl⟩ := resS_ex he
    obtain ⟨a, dx, vs, rfl, h1, _⟩ := RBo.obj r
    refine .inr ⟨a, C, dx, vs, _, rfl, h1, ⟨F, eF, rfl⟩, spF_one hm r ey fun v' H' s r' => ?_⟩
    cases r'
    exact ⟨y, rfl, k _ H' s (.v _)⟩
  · obtain ⟨p, ep, he⟩ := Option.bind_eq_some_iff.mp he
    split at he
    · rename_i hp
      cases he
      exact .inl ⟨v, p, rfl, Dp.dq (rb_dp r ep), hp.1, hp.2.1, hp.2.2, k _ H (Same.refl _) (.v _)⟩
    · cases he
end
end L2.DL
/-! f-strings; join, split; raise; try .. except X as e -/
namespace L2.DL
open L2 L2.My NdefX PySem PySem.Spec PyProof.Rows

section
variable {S : Type} {Γ : Fr S} {K : W.Frag} {E : XK} {ta tb tc te : TE} {A B : TX S} {t u : TS} {T U : TP S} {os : List Mo} {tl : TA} {L : TL S} {mo : Mo}
/-! ### f-strings -/
def fmtD (r : Bool) : D → Option Str
  | .v (.str y) => bif r then (if (reprText y).length ≤ sizeLine then some (reprText y) else none) else (if y.length ≤ sizeLine then some y else none)
  | .v (.int i) => if i.natAbs.log2 < 1920 then some (toString i) else none
  | _ => none
def xFmt (r : Bool) (A : TX S) : TX S := fun ρ s Q X => A ρ s (fun d s1 => opt (fmtD r d) fun y => Q (dS y) s1) X
theorem ln_fmt (ha : Ln Γ K E .b ta A) : Ln Γ K E .s (tFmt ta) (xFmt false A) := by
  intro M α σ H ρ s ok st QD QX Q q k kx
  refine ha ok st _ QX _ q (fun v H' d s' p st' r z => ?_) kx
  obtain ⟨y, e, z2⟩ := opt_ex z
  unfold fmtD at e
  split at e
  · simp only [cond_true, cond_false] at e
    split at e
    · rename_i h
      cases e
      exact .inl ⟨_, RBo.sc r, h, k _ H' _ s' p st' (.v _) z2⟩
    · cases e
  · split at e
    · rename_i h
      cases e
      exact .inr ⟨_, RBo.sc r, h, k _ H' _ s' p st' (.v _) z2⟩
    · cases e
  · cases e
theorem ln_fmtR (ha : Ln Γ K E .b ta A) : Ln Γ K E .s (tFmtR ta) (xFmt true A) := by
  intro M α σ H ρ s ok st QD QX Q q k kx
  refine ha ok st _ QX _ q (fun v H' d s' p st' r z => ?_) kx
  obtain ⟨y, e, z2⟩ := opt_ex z
  unfold fmtD at e
  split at e
  · simp only [cond_true, cond_false] at e
    split at e
    · rename_i h
      cases e
      exact .inl ⟨_, RBo.sc r, h, k _ H' _ s' p st' (.v _) z2⟩
    · cases e
  · split at e
    · rename_i h
      cases e
      exact .inr ⟨_, RBo.sc r, h, k _ H' _ s' p st' (.v _) z2⟩
    · cases e
  · cases e
inductive LnJ (Γ : Fr S) (K : W.Frag) (E : XK) : List TE → List (TX S) → Prop
  | nil : LnJ Γ K E [] []
  | cons {t : TE} {A : TX S} {ts : List TE} {As : List (TX S)} (h : Ln Γ K E .s t A) (r : LnJ Γ K E ts As) : LnJ Γ K E (t :: ts) (A :: As)
def xJs : List (TX S) → Str → Env → S → (Str → S → Prop) → (Exn → S → Prop) → Prop
  | [], acc, _, s, Q, _ => Q acc s
  | A :: As, acc, ρ, s, Q, X => A ρ s (fun d s1 => match d with
    | .v (.str y) => (acc ++ y).length ≤ sizeLine ∧ xJs As (acc ++ y) ρ s1 Q X
    | _ => False) X
def xJoined (As : List (TX S)) : TX S := fun ρ s Q X => xJs As Str.empty ρ s (fun y s1 => Q (dS y) s1) X
theorem ln_joined {ts : List TE} {As : List (TX S)} (h : LnJ Γ K E ts As) : Ln Γ K E .s (fun σ H Q => tJs ts Str.empty σ H fun out H1 => Q (.str out) H1) (xJoined As) := by
  intro M α σ H ρ s ok st QD QX Q q k kx
  have main : ∀ {ts : List TE} {As : List (TX S)}, LnJ Γ K E ts As → ∀ (acc : Str) (H1 : Hp) (s1 : S), Stp Γ H H1 → Γ.st s1 H1 → xJs As acc ρ s1 (fun y s1 => QD (dS y) s1) QX → tJs ts acc σ H1 fun out H2 => Q (.str out) H2 := by
    intro ts As h
    induction h with
    | nil => exact fun acc H1 s1 p st1 q => k _ H1 _ s1 p st1 (.v _) q
    | cons ha _ ih =>
      intro acc H1 s1 p st1 q
      refine ha (ok.step p) st1 _ QX _ q (fun v H' d s' p' st' r z => ?_) fun c dx H' x s' p' st' r z => kx c dx H' x s' (p.trans p') st' r z
      split at z
      · rename_i y
        cases r
        exact ⟨y, rfl, z.1, ih _ H' s' (p.trans p') st' z.2⟩
      · exact z.elim
  exact main h _ H s .refl st q

/-! ### texts' methods -/
def asStrs : List D → Option (List Str)
  | [] => some []
  | .v (.str y) :: r => (asStrs r).map (y :: ·)
  | _ => none
theorem asStrs_eq : ∀ {ds : List D} {ys : List Str}, asStrs ds = some ys → ds = (ys.map V.str).map D.v
  | [], _, e => by cases e; rfl
  | .v (.str y) :: r, _, e => by
    unfold asStrs at e
    obtain ⟨zs, e1, e2⟩ := Option.map_eq_some_iff.mp e
    rw [← e2, asStrs_eq e1]; rfl
  | .v .non :: _, _, e => by cases e
  | .v (.bl _) :: _, _, e => by cases e
  | .v (.int _) :: _, _, e => by cases e
  | .v (.byt _) :: _, _, e => by cases e
  | .v (.flt _) :: _, _, e => by cases e
  | .v (.ref _) :: _, _, e => by cases e
  | .v (.ty _) :: _, _, e => by cases e
  | .tup _ :: _, _, e => by cases e
  | .lst _ :: _, _, e => by cases e
  | .dct _ :: _, _, e => by cases e
  | .obj _ _ :: _, _, e => by cases e
  | .exc _ _ :: _, _, e => by cases e
def joinD (d c : D) : Option D := match d with
  | .v (.str a) => (asSeq c).bind fun ds => (asStrs ds).bind fun ys => if (ys.map (·.length)).sum + ys.length * a.length ≤ 16777216 then some (dS (Txt.join a ys)) else none
  | _ => none
theorem ln_join (ha : Ln Γ K E .b ta A) (hb : Ln Γ K E .b tb B) : Ln Γ K E .s (tM1 (fun x xs H Q => ∃ a p, ∃ ys : List Str, x = .str a ∧ xs = [.ref p] ∧ (SqL K H p (ys.map V.str) ∨ SqT K H p (ys.map V.str)) ∧
      (ys.map (·.length)).sum + ys.length * a.length ≤ 16777216 ∧ Q (.str (Txt.join a ys)) H) ta tb) (fun ρ s Q X => A ρ s (fun d s1 => (∃ a, d = dS a) ∧ B ρ s1 (fun c s2 => opt (joinD d c) fun e => Q e s2) X) X) := by
  intro M α σ H ρ s ok st QD QX Q q k kx
  refine ha ok st _ QX _ q (fun v H1 d s1 p1 st1 r1 z => ?_) kx
  obtain ⟨⟨a, rfl⟩, z⟩ := z
  obtain rfl := RBo.sc r1
  refine ⟨⟨a, rfl⟩, ?_⟩
  refine hb (ok.step p1) st1 _ QX _ z (fun u H2 c s2 p2 st2 r2 z => ?_) fun c dx H' x s' p st' r z => kx c dx H' x s' (p1.trans p) st' r z
  obtain ⟨e, he, z2⟩ := opt_ex z
  obtain ⟨ds, ed, he⟩ := Option.bind_eq_some_iff.mp he
  obtain ⟨ys, ey, he⟩ := Option.bind_eq_some_iff.mp he
  split at he
  · rename_i hz
    cases he
    have eds := asStrs_eq ey
    unfold asSeq at ed
    split at ed
    · cases ed
      obtain ⟨b, ws, rfl, h1, h2⟩ := RBo.lst r2
      rw [eds] at h2
      obtain rfl := RAll.vs h2
      exact ⟨a, b, ys, rfl, rfl, .inl (.inl (.inl h1)), hz, k _ H2 _ s2 (p1.trans p2) st2 (.v _) z2⟩
    · cases ed
      obtain ⟨b, ws, rfl, h1, h2⟩ := RBo.tup r2
      rw [eds] at h2
      obtain rfl := RAll.vs h2
      exact ⟨a, b, ys, rfl, rfl, .inr h1, hz, k _ H2 _ s2 (p1.trans p2) st2 (.v _) z2⟩
    · cases ed
  · cases he
def strsD (ys : List Str) : D := .lst ((ys.map V.str).map D.v)
theorem rf_strs {m : Msk} {H H0 : Hp} {p : Addr} {ys : List Str} (h0 : H0 p = none) : RF K m H0 (upd H p (.lst (ys.map V.str))) (.ref p) (strsD ys) := ⟨p, .lst _, rfl, rfl, h0, _, upd_same, RAll.ofV⟩
def splitD (a b : Str) : Option D := if (b.length == 0) = false ∧ a.length + 2 ≤ sizeLine then some (strsD (Txt.split a b)) else none
theorem ln_split (ha : Ln Γ K E .b ta A) (hb : Ln Γ K E .b tb B) : Ln Γ K E .f (tM1 (fun x xs H Q => ∃ a b, x = .str a ∧ xs = [.str b] ∧ (b.length == 0) = false ∧ a.length + 2 ≤ sizeLine ∧ rNewStrs (Txt.split a b) H Q) ta tb)
    (fun ρ s Q X => A ρ s (fun d s1 => (∃ a, d = dS a) ∧ B ρ s1 (fun c s2 => match d, c with
      | .v (.str a), .v (.str b) => opt (splitD a b) fun e => Q e s2
      | _, _ => False) X) X) := by
  intro M α σ H ρ s ok st QD QX Q q k kx
  refine ha ok st _ QX _ q (fun v H1 d s1 p1 st1 r1 z => ?_) kx
  obtain ⟨⟨a, rfl⟩, z⟩ := z
  obtain rfl := RBo.sc r1
  refine ⟨⟨a, rfl⟩, ?_⟩
  refine hb (ok.step p1) st1 _ QX _ z (fun u H2 c s2 p2 st2 r2 z => ?_) fun c dx H' x s' p st' r z => kx c dx H' x s' (p1.trans p) st' r z
  split at z
  · rename_i a' b e1
    cases e1
    obtain rfl := RBo.sc r2
    obtain ⟨e, he, z⟩ := opt_ex z
    unfold splitD at he
    split at he
    · rename_i hz
      cases he
      refine ⟨_, b, rfl, rfl, hz.1, hz.2, fun p np => ?_⟩
      have pp := p1.trans p2
      have nH : H p = none := Classical.byContradiction fun q => pp.trk p q np
      have ok2 := ok.step pp
      exact k _ _ _ s2 (pp.trans (Stp.of (same_upd np))) (Fr.same ok2.frt (same_upd np) st2) (rf_strs nH) z
    · cases he
  · exact z.elim
end
end L2.DL
/-! raise; try .. except X as e; fields of a kept exception -/
namespace L2.DL
open L2 L2.My NdefX PySem PySem.Spec PyProof.Rows

section
variable {S : Type} {Γ : Fr S} {K : W.Frag} {E : XK} {ta tb tc te : TE} {A B : TX S} {t u : TS} {T U : TP S} {os : List Mo} {tl : TA} {L : TL S} {mo : Mo}
theorem RFs.zip {G : Hp} : ∀ {fs : List Str} {vs : List V} {ds : List D}, RAll K G vs ds → RFs K G (fs.zip vs) (fs.zip ds)
  | [], _, _, _ => .nil
  | _ :: _, _, _, .nil => .nil
  | f :: fs, _, _, .cons h t => .cons h (RFs.zip t)
theorem RFs.app {G : Hp} : ∀ {vs ws : List (Str × V)} {ds es : List (Str × D)}, RFs K G vs ds → RFs K G ws es → RFs K G (vs ++ ws) (ds ++ es)
  | _, _, _, _, .nil, t => t
  | _, _, _, _, .cons h r, t => .cons h (RFs.app r t)
theorem RFs.rev {G : Hp} : ∀ {vs : List (Str × V)} {ds : List (Str × D)}, RFs K G vs ds → RFs K G vs.reverse ds.reverse
  | _, _, .nil => .nil
  | _, _, .cons h t => by rw [List.reverse_cons, List.reverse_cons]; exact RFs.app (RFs.rev t) (.cons h .nil)
/-- raise X(e, ..), an own class whose __init__ stores its parameters -/
def pRaise (C : Addr) (fs : List Str) (L : TL S) : TP S := fun ρ s P => L (frz ρ) s (fun ds s1 => ds.length = fs.length ∧ ds.length ≤ 1000 ∧ P.ex ⟨C, some (fs.zip ds).reverse⟩ s1) P.ex
theorem ls_raise {C : Addr} {fs : List Str} (hs : os.all (fun o => match o with | .s => true | _ => false) = true) (h : LnA Γ K E os tl L) : LnS Γ K E (fun _ σ H => tMkO C (spIni C fs) [] tl σ H fun cls d H' => E cls d H') (pRaise C fs L) := by
  have hnS : ∀ o ∈ os, o = Mo.s := fun o z => by
    have := List.all_eq_true.mp hs o z
    cases o <;> first | rfl | cases this
  intro M α σ H ρ s ok st P Dn q kn kb kc kr kx
  obtain ⟨ok0, no⟩ := ok.frz
  have mm : ∀ a, M a → mask M α (frz ρ) a := fun a z => .inl z
  refine h ok0 st _ P.ex _ q (fun vs H1 ds s1 p st1 r z => ?_) (fun c dx H' x s' p st' r z => kx c dx H' x s' (stS_end p) st' (r.mono mm) z)
  obtain ⟨z1, z2, z⟩ := z
  obtain ⟨l1, l2⟩ := ARel.len r
  have rr := ARel.strict hnS r
  have lv : vs.length = ds.length := RAll.len rr
  refine ⟨by rw [lv]; exact z2, fun a na => ⟨a, vs, by rw [List.append_nil], by rw [lv]; exact z1, upd_same, fun dx nd ne => ⟨rfl, dx, (fs.zip vs).reverse, upd_same, by rw [upd_ne ne, upd_same], ?_, ?_⟩⟩⟩
  · rwa [upd_ne ne] at nd
  · have nd1 : H1 dx = none := by rwa [upd_ne ne] at nd
    have sm : Same H1 (upd (del (upd (upd (upd H1 a (exo a C none)) dx (exd dx (fs.zip vs).reverse)) a (exo a C (some dx))) a) dx (.xd (fs.zip vs).reverse)) := fun b o e => by
      have h1 := ne_of_none e na
      have h2 := ne_of_none e nd1
      rw [upd_ne h2, del_ne h1, upd_ne h1, upd_ne h2, upd_ne h1]
      exact e
    have p2 : Stp Γ H1 _ := Stp.of sm
    have ok1 := ok0.step p
    refine kx _ _ _ ⟨C, some (fs.zip ds).reverse⟩ s1 (stS_end (p.trans p2)) (Fr.same ok1.frt sm st1) ⟨rfl, dx, _, rfl, fun z => ok1.trk dx z nd1, upd_same, ?_⟩ z
    exact RFs.same (fun b o e => by
      obtain ⟨n, e⟩ := of_cut e
      rw [cut_out fun z => n (mm b z)]
      exact sm b o e) (RFs.rev (RFs.zip rr))

/-! ### try -/
theorem Ok.clear {M : Msk} {α : Nat → Addr} {σ : St} {H : Hp} {ρ : Env} (i : Nat) (ok : Ok Γ K M α σ H ρ) : Ok Γ K M α (σ.set i none) H (ρ.set i .no) :=
  ok.put (a := α i) self_upd (.inl rfl) (fun _ z => z) (cut_mono (mask_set_sub rfl)) (fun _ _ _ _ e => e) (fun z => by cases z) fun _ => trivial
/-- what is tried is one expression, dropped; what is raised by it is caught as slot i's, for the suite t -/
def tTry (K : W.Frag) (c : Value) (i : Nat) (te : (St → XK) → TE) (ts : TS) (E : XK) : TS := fun D σ H => tDrop (te (fun σ cls d H => wKeep K c i (fun _ _ _ => ts) (fun cls d _ H => E cls d H) D cls d σ H)) D σ H
def pTry (K : W.Frag) (c : Value) (i : Nat) (A : TX S) (U : TP S) : TP S := fun ρ s P => A ρ s (fun _ s1 => P.nx ρ s1) (fun x s1 => opt (W.exmOne K (.ref x.C) c) fun b => if b = true then opt x.fs fun ds => U (ρ.set i (.d (.exc x.C ds))) s1 { P with nx := fun ρ' s' => P.nx (ρ'.set i .no) s', bk := fun ρ' s' => P.bk (ρ'.set i .no) s', ct := fun ρ' s' => P.ct (ρ'.set i .no) s' }
  else P.ex x s1)
theorem ls_try {c : Value} {i : Nat} {te : (St → XK) → TE} (hS : ∀ (W : St → XK) σ H Q, te W σ H Q = te (fun _ => W σ) σ H Q) (ha : ∀ E', Ln Γ K E' mo (te fun _ => E') A) (hU : LnS Γ K E t U) : LnS Γ K E (tTry K c i te t E) (pTry K c i A U) := by
  intro M α σ H ρ s ok st P Dn q kn kb kc kr kx
  show te _ σ H _
  rw [hS]
  refine ha _ ok st _ _ _ q (fun v H' d s' p st' r z => kn σ H' ρ s' α (ok.step p) st' (stS_stp p) z) (fun cls dx H' x s' p st' r z => ?_)
  obtain ⟨b, eb, z⟩ := opt_ex z
  obtain ⟨rfl, rx⟩ := r
  refine ⟨b, eb, fun hb a na => ?_, fun hb => ?_⟩
  · rw [if_pos hb] at z
    obtain ⟨ds, eds, z⟩ := opt_ex z
    rw [eds] at rx
    obtain ⟨d, fs, rfl, nm, hd, rf⟩ := rx
    have ok' := ok.step p
    have sm := same_upd (o := exz a (.ref x.C) (some d)) na
    have p2 := p.trans (Stp.of sm)
    have ok2 := ok.step p2
    have nma : ¬ mask M α ρ a := fun z => ok'.mtrk a z na
    have rr : R K (cut (mask M α ρ) (upd H' a (exz a (.ref x.C) (some d)))) (.ref a) (.exc x.C ds) := by
      refine .exc (by rw [cut_out nma, upd_same]) (by rw [cut_out nm]; exact sm _ _ hd) (RFs.same (cut_step fun b o _ e => sm b o e) rf)
    have ok3 := ok2.setD (i := i) rr
    have pp : StS (wmask Γ α ρ) (wmask Γ α (ρ.set i (.d (.exc x.C ds)))) H (upd H' a (exz a (.ref x.C) (some d))) := .of (wmask_set_sub rfl) p2 fun _ z => .inl z
    refine hU ok3 (Fr.same ok'.frt sm st') _ _ z (fun σ' H2 ρ' s2 α' o2 t2 p3 z => ?_) (fun σ' H2 ρ' s2 α' o2 t2 p3 z => ?_) (fun σ' H2 ρ' s2 α' o2 t2 p3 z => ?_) (fun v H2 d s2 p3 t2 r z => kr v H2 d s2 (pp.trans p3) t2 r z) (fun c dx H2 x s2 p3 t2 r z => kx c dx H2 x s2 (pp.trans p3) t2 r z)
    · exact kn _ H2 _ s2 α' (o2.clear i) t2 ((pp.trans p3).trans (.of (wmask_set_sub rfl) (.refl (Γ := Γ)) fun _ z => .inl z)) z
    · exact kb _ H2 _ s2 α' (o2.clear i) t2 ((pp.trans p3).trans (.of (wmask_set_sub rfl) (.refl (Γ := Γ)) fun _ z => .inl z)) z
    · exact kc _ H2 _ s2 α' (o2.clear i) t2 ((pp.trans p3).trans (.of (wmask_set_sub rfl) (.refl (Γ := Γ)) fun _ z => .inl z)) z
  · rw [if_neg (by rw [hb]; decide)] at z
    exact kx _ _ _ x s' (stS_end p) st' (XR.mono (fun _ z => .inl z) ⟨rfl, rx⟩) z
/-- e.f of a kept exception -/
def xZget (K : W.Frag) (f : Str) (A : TX S) : TX S := fun ρ s Q X => A ρ s (fun d s1 => match d with
  | .exc C fs => ExK K C ∧ W.findIn K (.ref C) f = some none ∧ opt (fs.lookup f) fun d => Q d s1
  | _ => False) X
theorem ln_zget {f : Str} (ha : Ln Γ K E .b ta A) : Ln Γ K E .s (tZget K f ta) (xZget K f A) := by
  intro M α σ H ρ s ok st QD QX Q q k kx
  refine ha ok st _ QX _ q (fun v H' d s' p st' r z => ?_) kx
  split at z
  · rename_i C fs
    obtain ⟨c1, c2, z⟩ := z
    obtain ⟨d, e, z⟩ := opt_ex z
    obtain ⟨a, dx, vs, rfl, h1, h2, h3⟩ := RBo.exc r
    obtain ⟨v, ev, rv⟩ := RFs.look h3 e
    exact ⟨a, C, dx, vs, v, rfl, c1, c2, h1, h2, ev, k _ H' d s' p st' rv z⟩
  · exact z.elim
theorem ln_callS {F : Fn} (ho : os.all (fun o => match o with | .f => false | _ => true) = true) (h : LnA Γ K E os tl L) : Ln Γ K E .s (tCallS (spF K os F) (fun _ => E) tl) (xCall F L) := by
  have e : tCallS (spF K os F) (fun _ => E) tl = tCall (spF K os F) [] E tl := by
    funext σ H Q
    show (tl σ H fun vs H1 => spF K os F vs H1 Q E) = (tl σ H fun vs H1 => spF K os F (vs ++ []) H1 Q E)
    simp only [List.append_nil]
  rw [e]
  intro M α σ H ρ s ok st QD QX Q q k kx
  exact ln_call ho h ok st QD QX Q q k kx
end
section
variable {X : Cx} {CX : CXT} {j k : Nat} {f : Addr} {fd : FuncData} {ps : List Str} {sp : Sp} {E : St → XK} {x : Str} {p pos : Pos} {e : Expr} {es : List Expr} {t : TA}
theorem goesS {pins : List (Addr × Obj)} {σ : St} {H : Hp} {s : Shared} {Q : VK} {us : List Value} {vs : List V} (F : FnG X.prog X.w X.K X.mg X.base CX k f fd ps sp) (hr : Room k X.A) (hq : My.Quiet X.A) (hb : Binds X.K fd ps []) (hx : PassesAt CX X σ (E σ)) (I : Inv X pins σ H s) (r : Vals vs us) (h : sp vs H Q (E σ)) :
    wpAny (model X.prog X.w) X.A (call (.ref f) us) (EP X pins σ Q) X.xe s := by
  have hl : (us ++ []).length = ps.length := by
    rw [List.append_nil, ← r.length]
    exact F.many vs H Q _ h
  have b := hb s us I.kIn hl
  rw [List.append_nil] at b
  refine wpAny_call (codeAny_mono (F.runs X.A X.stack s H ⟨us, []⟩ us vs Q (E σ) hr hq I.env0 b r h) ?_)
  intro res s' z
  match res, z with
  | .error er, z => exact hx pins H s er s' I z
  | .ok (.ret u), z => exact I.after z
theorem pe_gS (c : CalG X.prog X.w X.K X.mg X.base CX j x sp) (hr : Room k X.A) (hjk : j ≤ k) (hq : My.Quiet X.A) (hx : ∀ σ, PassesAt CX X σ (E σ)) (hg : Gl X x) (ha : PA X (e :: es) t)
    (hdb : (x == ("__debug__" : Str)) = false := by decide) (he : starEach (e :: es) X.env = (false, eval e X.env) :: starEach es X.env := by rfl) (hpl : (backTo pos (starEach es X.env)).any (·.1) = false := by rfl) :
    PE X (.Call (.Name x p) (e :: es) [] pos) (tCallS sp E t) := by
  obtain ⟨f, fd, ps, F, hm, hk, hb⟩ := c.ex
  constructor
  intro pins s σ H Q I h
  refine wpAny_Call_Name_kw (ld_glob I hg hm ?_ hdb)
  refine W.callWith_K (h₀ := X.base) I.ok.mod.kin hk (thn (ha.run pos pins s σ H _ I h) ?_) he hpl
  rintro us s1 ⟨vs, H1, I1, r, q⟩
  exact ⟨I1.kIn, goesS (F.up hjk) hr hq hb (hx σ) I1 r q⟩
end
end L2.DL
/-! Small rules for plain data -/
namespace L2.DL
open L2 L2.My NdefX PySem PySem.Spec PyProof.Rows

section
variable {S : Type}
/-- a comprehension whose element is a function -/
theorem lcT_map {gd : GD} {A : TX S} {ρ : Env} {Q : D → S → Prop} {s : S} (f : D → D) : ∀ (ds acc : List D), (∀ d ∈ ds, ∃ ρ1, gd d ρ = some ρ1 ∧ ∀ (Q' : D → S → Prop) (X : Exn → S → Prop), Q' (f d) s → A ρ1 s Q' X) → acc.length + ds.length ≤ sizeLine → Q (.lst (acc ++ ds.map f)) s → lcT gd bYes A ρ Q ds acc s
  | [], acc, _, _, q => by unfold lcT; simpa using q
  | d :: r, acc, h, l, q => by
    unfold lcT
    obtain ⟨ρ1, e, k⟩ := h d List.mem_cons_self
    rw [e]
    simp only [opt, bYes, if_true]
    refine k _ _ ⟨?_, lcT_map f r (acc ++ [f d]) (fun d z => h d (List.mem_cons_of_mem _ z)) ?_ ?_⟩
    · rw [List.length_cons] at l; omega
    · rw [List.length_append, List.length_cons, List.length_nil]; rw [List.length_cons] at l; omega
    · rw [List.append_assoc]; exact q
theorem cmpD_i {p : Int → Int → Bool} {q : List Nat → List Nat → Bool} {i j : Int} : cmpD p q (dI i) (dI j) = some (dB (p i j)) := rfl
theorem cmpD_s {p : Int → Int → Bool} {q : List Nat → List Nat → Bool} {i j : Str} : cmpD p q (dS i) (dS j) = some (dB (q i.cps.toList j.cps.toList)) := rfl
theorem lenD_l {xs : List D} : lenD (.lst xs) = some (dI xs.length) := rfl
theorem lenD_t {xs : List D} : lenD (.tup xs) = some (dI xs.length) := rfl
theorem lenD_s {z : Str} (h : z.length ≤ sizeLine) : lenD (dS z) = some (dI z.length) := by simp [lenD, h]
theorem allD_l {xs : List D} : allD (.lst xs) = (asBs xs).map fun bs => dB (bs.all id) := rfl
theorem chr_lt {c d : Nat} : decide (([c] : List Nat) < [d]) = decide (c < d) := by
  have e : ([c] < [d]) ↔ c < d := by rw [List.cons_lt_cons_iff]; simp
  by_cases h : c < d
  · rw [decide_eq_true h, decide_eq_true (e.mpr h)]
  · rw [decide_eq_false h, decide_eq_false fun z => h (e.mp z)]
theorem chr_le {c d : Nat} : ([c] : List Nat) ≤ [d] ↔ c ≤ d := by
  rw [← List.not_lt, List.cons_lt_cons_iff]
  simp
theorem eqD_s {b : Bool} {x y : Str} : eqD b (dS x) (dS y) = some (dB (b == (x == y))) := by simp [eqD, toPy, PyData.eqv, PyData.depth]
theorem eqD_i {b : Bool} {x y : Int} : eqD b (dI x) (dI y) = some (dB (b == (x == y))) := by simp [eqD, toPy, PyData.eqv, PyData.depth]
theorem eqD_b {b x y : Bool} : eqD b (dB x) (dB y) = some (dB (b == (x == y))) := by simp [eqD, toPy, PyData.eqv, PyData.depth]
theorem eqD_n {b : Bool} : eqD b dN dN = some (dB b) := by simp [eqD, toPy, PyData.eqv, PyData.depth]
theorem eqD_in {b : Bool} {x : Int} : eqD b (dI x) dN = some (dB !b) := by cases b <;> simp [eqD, toPy, PyData.eqv, PyData.depth]
theorem eqD_ni {b : Bool} {x : Int} : eqD b dN (dI x) = some (dB !b) := by cases b <;> simp [eqD, toPy, PyData.eqv, PyData.depth]
theorem eqD_sn {b : Bool} {x : Str} : eqD b (dS x) dN = some (dB !b) := by cases b <;> simp [eqD, toPy, PyData.eqv, PyData.depth]
theorem eqD_ns {b : Bool} {x : Str} : eqD b dN (dS x) = some (dB !b) := by cases b <;> simp [eqD, toPy, PyData.eqv, PyData.depth]
theorem isiK_o {K : W.Frag} {C c : Addr} {fs : List (Str × D)} (h : ClsI K C) : isiK K (.obj C fs) (.v (.ref c)) = (W.kitOne K (.ref C) (.ref c)).map dB := by
  simp [isiK, isiD, DL.tyV, clsV, h]
theorem isiK_x {K : W.Frag} {C c : Addr} {fs : List (Str × D)} (h : ExK K C) : isiK K (.exc C fs) (.v (.ref c)) = (W.kitOne K (.ref C) (.ref c)).map dB := by
  simp [isiK, isiD, DL.tyV, clsV, h]
theorem isiK_s {K : W.Frag} {c : Addr} {z : Str} : isiK K (dS z) (.v (.ref c)) = (W.kitOne K (.type "str") (.ref c)).map dB := by
  simp [isiK, isiD, DL.tyV, clsV, tyD]
end
theorem ln_dct0 {S : Type} {Γ : Fr S} {K : W.Frag} {E : XK} : Ln Γ K E .f tDNewK (xC (.dct []) : TX S) := by
  intro M α σ H ρ s ok st QD QX Q q k kx
  intro d hd
  exact k _ _ _ s (Stp.of (same_upd hd)) (Fr.same ok.frt (same_upd hd) st) ⟨d, .dct [], rfl, rfl, hd, _, upd_same, .nil⟩ q
/-- a comprehension that draws once for each element -/
theorem lcT_pen {gd : GD} {A : TX Nat} {ρ : Env} {Q : D → Nat → Prop} {R : D → Prop} : ∀ (ds acc : List D) (n : Nat), (∀ d ∈ ds, ∃ ρ1, gd d ρ = some ρ1 ∧ ∀ (n : Nat) (Q' : D → Nat → Prop) (X : Exn → Nat → Prop), n < 100000 → (∀ y n', R y → n ≤ n' → n' ≤ n + 1 → Q' y n') → A ρ1 n Q' X) →
    acc.length + ds.length ≤ sizeLine → n + ds.length ≤ 100000 → (∀ ys n', ys.length = ds.length → (∀ y ∈ ys, R y) → n ≤ n' → n' ≤ n + ds.length → Q (.lst (acc ++ ys)) n') → lcT gd bYes A ρ Q ds acc n
  | [], acc, n, _, _, _, q => by unfold lcT; simpa using q [] n rfl (by simp) (Nat.le_refl _) (by simp)
  | d :: r, acc, n, h, l, hn, q => by
    unfold lcT
    obtain ⟨ρ1, e, k⟩ := h d List.mem_cons_self
    rw [e]
    simp only [opt, bYes, if_true]
    rw [List.length_cons] at l hn q
    refine k n _ _ (by omega) fun y n' hy l1 l2 => ⟨by omega, lcT_pen r (acc ++ [y]) n' (fun d z => h d (List.mem_cons_of_mem _ z)) ?_ (by omega) fun ys n2 e1 e2 l3 l4 => ?_⟩
    · rw [List.length_append, List.length_cons, List.length_nil]; omega
    · rw [List.append_assoc]
      refine q (y :: ys) n2 (by rw [List.length_cons, e1]) (fun z hz => ?_) (by omega) (by omega)
      rcases List.mem_cons.mp hz with rfl | hz
      · exact hy
      · exact e2 z hz
/-- a class of the module by its name, with its __init__'s promise -/
structure MkC (P : Program) (w : World) (K : W.Frag) (mg : Str → Option Value) (base : Heap) (k : Nat) (x : Str) (C : Addr) (ps : List Str) (sp : Sp) : Prop where
  ex : ∃ (f : Addr) (fd : FuncData), Mk K C f ∧ FnG P w K mg base (L2.CX P w) k f fd ps sp ∧ Binds K fd ps []
  nm : mg x = some (.ref C)
theorem pe_mkc {X : Cx} {k n : Nat} {C : Addr} {ps : List Str} {sp : Sp} {E : XK} {x : Str} {p pos : Pos} {e : Expr} {es : List Expr} {t : TA} (c : MkC X.prog X.w X.K X.mg X.base k x C ps sp) (hr : Room n X.A) (hk : k + 1 ≤ n) (hq : My.Quiet X.A) (hg : Gl X x) (hx : Passes (L2.CX X.prog X.w) X E) (ha : PA X (e :: es) t)
    (hdb : (x == ("__debug__" : Str)) = false := by decide) (he : starEach (e :: es) X.env = (false, eval e X.env) :: starEach es X.env := by rfl) (hpl : (backTo pos (starEach es X.env)).any (·.1) = false := by rfl) : PE X (.Call (.Name x p) (e :: es) [] pos) (tMk C sp E t) := by
  obtain ⟨f, fd, M, F, hb⟩ := c.ex
  exact pe_mk M F (hr.mono hk) hq hg c.nm hb hx ha hdb he hpl
end L2.DL
/-! Readings over data by big steps -/
namespace L2.DL
open L2 L2.My NdefX PySem PySem.Spec PyProof.Rows

section
variable {S : Type}
/-- the reading gives d and leaves the state -/
structure Ev (A : TX S) (ρ : Env) (s : S) (d : D) : Prop where
  to : ∀ (Q : D → S → Prop) (X : Exn → S → Prop), Q d s → A ρ s Q X
structure EvL (L : TL S) (ρ : Env) (s : S) (ds : List D) : Prop where
  to : ∀ (Q : List D → S → Prop) (X : Exn → S → Prop), Q ds s → L ρ s Q X
structure EvB (C : TB S) (ρ : Env) (s : S) (b : Bool) : Prop where
  to : ∀ (Q : Bool → S → Prop) (X : Exn → S → Prop), Q b s → C ρ s Q X
structure EvO (U : TOx S) (ρ : Env) (s : S) (o : Option Int) : Prop where
  to : ∀ (Q : Option Int → S → Prop) (X : Exn → S → Prop), Q o s → U ρ s Q X
variable {ρ : Env} {s : S} {A B C : TX S} {L : TL S} {T U U2 : TP S} {I : TL S} {c c' : TB S} {d e x y : D} {ds : List D} {a b : Bool} {P : Post S} {i : Nat} {mo : Mo}
theorem ev_c : Ev (xC d) ρ s d := ⟨fun Q X q => q⟩
theorem ev_vd (h : ρ[i]? = some (.d x)) : Ev (xVar mo i) ρ s x := ⟨fun Q X q => by unfold xVar; rw [h]; exact q⟩
theorem ev_vb (h : ρ[i]? = some (.bor x)) : Ev (xVar .b i) ρ s x := ⟨fun Q X q => by unfold xVar; rw [h]; exact q⟩
theorem ev_vs {v : V} (h : ρ[i]? = some (.bor (.v v))) : Ev (xVar .s i) ρ s (.v v) := ⟨fun Q X q => by unfold xVar; rw [h]; exact q⟩
theorem ev_vo {u : Cell} (h : ρ[i]? = some (.own u)) : Ev (xVar .b i) ρ s u.toD := ⟨fun Q X q => by unfold xVar; rw [h]; exact q⟩
theorem ev_op {f : D → D → Option D} (h1 : Ev A ρ s x) (h2 : Ev B ρ s y) (h : f x y = some d) : Ev (xOp f A B) ρ s d := ⟨fun Q X q => h1.to _ _ (h2.to _ _ (by rw [h]; exact q))⟩
theorem ev_un {f : D → Option D} (h1 : Ev A ρ s x) (h : f x = some d) : Ev (xUn f A) ρ s d := ⟨fun Q X q => h1.to _ _ (by rw [h]; exact q)⟩
theorem ev_nil : EvL (xNil : TL S) ρ s [] := ⟨fun Q X q => q⟩
theorem ev_cons (h1 : Ev A ρ s x) (h2 : EvL L ρ s ds) : EvL (xCons A L) ρ s (x :: ds) := ⟨fun Q X q => h1.to _ _ (h2.to _ _ q)⟩
theorem ev_tup (h : EvL L ρ s ds) (hl : ds.length ≤ sizeLine) : Ev (xTup L) ρ s (.tup ds) := ⟨fun Q X q => h.to _ _ ⟨hl, q⟩⟩
theorem ev_lst (h : EvL L ρ s ds) (hl : ds.length ≤ sizeLine) : Ev (xLst L) ρ s (.lst ds) := ⟨fun Q X q => h.to _ _ ⟨hl, q⟩⟩
theorem ev_not (h : Ev A ρ s (dB a)) : Ev (xNot A) ρ s (dB (!a)) := ⟨fun Q X q => h.to _ _ q⟩
theorem ev_and_f (h : Ev A ρ s (dB a)) (ha : a = false) : Ev (xAnd A B) ρ s (dB false) := ⟨fun Q X q => h.to _ _ (by subst ha; exact q)⟩
theorem ev_and_t (h : Ev A ρ s (dB a)) (ha : a = true) (h2 : Ev B ρ s d) : Ev (xAnd A B) ρ s d := ⟨fun Q X q => h.to _ _ (by subst ha; exact h2.to _ _ q)⟩
theorem ev_or_t (h : Ev A ρ s (dB a)) (ha : a = true) : Ev (xOr A B) ρ s (dB true) := ⟨fun Q X q => h.to _ _ (by subst ha; exact q)⟩
theorem ev_or_f (h : Ev A ρ s (dB a)) (ha : a = false) (h2 : Ev B ρ s d) : Ev (xOr A B) ρ s d := ⟨fun Q X q => h.to _ _ (by subst ha; exact h2.to _ _ q)⟩
/-- both sides are plain truths -/
theorem ev_and (h : Ev A ρ s (dB a)) (h2 : a = true → Ev B ρ s (dB b)) : Ev (xAnd A B) ρ s (dB (a && b)) := ⟨fun Q X q => h.to _ _ (by
  cases a with
  | false => exact q
  | true => exact (h2 rfl).to _ _ q)⟩
theorem ev_or (h : Ev A ρ s (dB a)) (h2 : a = false → Ev B ρ s (dB b)) : Ev (xOr A B) ρ s (dB (a || b)) := ⟨fun Q X q => h.to _ _ (by
  cases a with
  | true => exact q
  | false => exact (h2 rfl).to _ _ q)⟩
theorem ev_if_t (h : EvB c ρ s b) (hb : b = true) (h2 : Ev A ρ s d) : Ev (xIf c A B) ρ s d := ⟨fun Q X q => h.to _ _ (by subst hb; exact h2.to _ _ q)⟩
theorem ev_if_f (h : EvB c ρ s b) (hb : b = false) (h2 : Ev B ρ s d) : Ev (xIf c A B) ρ s d := ⟨fun Q X q => h.to _ _ (by subst hb; exact h2.to _ _ q)⟩
theorem evb_test (h : Ev A ρ s (dB b)) : EvB (bTest A) ρ s b := ⟨fun Q X q => h.to _ _ q⟩
theorem evb_not (h : EvB c ρ s b) : EvB (bNot c) ρ s (!b) := ⟨fun Q X q => h.to _ _ q⟩
theorem evb_yes : EvB (bYes : TB S) ρ s true := ⟨fun Q X q => q⟩
theorem evb_and (h : EvB c ρ s a) (h2 : a = true → EvB c' ρ s b) : EvB (bAnd c c') ρ s (a && b) := ⟨fun Q X q => h.to _ _ (by
  cases a with
  | false => exact q
  | true => exact (h2 rfl).to _ _ q)⟩
theorem evb_or (h : EvB c ρ s a) (h2 : a = false → EvB c' ρ s b) : EvB (bOr c c') ρ s (a || b) := ⟨fun Q X q => h.to _ _ (by
  cases a with
  | true => exact q
  | false => exact (h2 rfl).to _ _ q)⟩
theorem evb_and_f (h : EvB c ρ s a) (ha : a = false) : EvB (bAnd c c') ρ s false := ⟨fun Q X q => h.to _ _ (by subst ha; exact q)⟩
theorem evb_and_t (h : EvB c ρ s a) (ha : a = true) (h2 : EvB c' ρ s b) : EvB (bAnd c c') ρ s b := ⟨fun Q X q => h.to _ _ (by subst ha; exact h2.to _ _ q)⟩
theorem evb_or_t (h : EvB c ρ s a) (ha : a = true) : EvB (bOr c c') ρ s true := ⟨fun Q X q => h.to _ _ (by subst ha; exact q)⟩
theorem evb_or_f (h : EvB c ρ s a) (ha : a = false) (h2 : EvB c' ρ s b) : EvB (bOr c c') ρ s b := ⟨fun Q X q => h.to _ _ (by subst ha; exact h2.to _ _ q)⟩
theorem ev_chain {f f' : D → D → Option D} {z : D} (h1 : Ev A ρ s x) (h2 : Ev B ρ s y) (h3 : Ev C ρ s z) (e1 : f x y = some (dB a)) (e2 : f' y z = some (dB b)) : Ev (xChain f f' A B C) ρ s (dB (a && b)) := ⟨fun Q X q => h1.to _ _ (h2.to _ _ (by
  rw [e1]
  cases a with
  | false => exact q
  | true => exact h3.to _ _ (by rw [e2]; exact q)))⟩
theorem ev_call {F : Fn} (h : EvL L ρ s ds) (e : F ds = some (.ok d)) : Ev (xCall F L) ρ s d := ⟨fun Q X q => h.to _ _ (by rw [e]; exact q)⟩
theorem ev_mk {Cc : Addr} {F : IniF} {fs : List (Str × D)} (h : EvL L ρ s ds) (e : F Cc ds = some (.ok fs)) : Ev (xMk Cc F L) ρ s (.obj Cc fs) := ⟨fun Q X q => h.to _ _ (by rw [e]; exact q)⟩
theorem ev_fld {K : W.Frag} {f : Str} {Cc : Addr} {fs : List (Str × D)} (h : Ev A ρ s (.obj Cc fs)) (ha : Att K Cc f) (e : fs.lookup f = some d) : Ev (xFld K f A) ρ s d := ⟨fun Q X q => h.to _ _ ⟨ha, by rw [e]; exact q⟩⟩
theorem ev_sl {f : D → Option Int → Option Int → Option D} {lo hi : TOx S} {u v : Option Int} (h : Ev A ρ s x) (h1 : EvO lo ρ s u) (h2 : EvO hi ρ s v) (e : f x u v = some d) : Ev (xSl f A lo hi) ρ s d := ⟨fun Q X q => h.to _ _ (h1.to _ _ (h2.to _ _ (by rw [e]; exact q)))⟩
theorem evo_none : EvO (oNone : TOx S) ρ s none := ⟨fun Q X q => q⟩
theorem evo_some {k : Int} (h : Ev A ρ s (dI k)) : EvO (oSome A) ρ s (some k) := ⟨fun Q X q => h.to _ _ q⟩
theorem evl_seq (h : Ev A ρ s x) (e : asIt x = some ds) : EvL (xSeq A) ρ s ds := ⟨fun Q X q => h.to _ _ (by rw [e]; exact q)⟩
theorem evl_seqd (h : ρ[i]? = some (.d x)) (e : asIt x = some ds) : EvL (xSeqP i : TL S) ρ s ds := ⟨fun Q X q => by unfold xSeqP; rw [h]; show opt _ _; rw [e]; exact q⟩
theorem evl_seqb (h : ρ[i]? = some (.bor x)) (e : asIt x = some ds) : EvL (xSeqP i : TL S) ρ s ds := ⟨fun Q X q => by unfold xSeqP; rw [h]; show opt _ _; rw [e]; exact q⟩
theorem evl_rng1 {j : Int} (h : Ev A ρ s (dI j)) (hj : inR j = true) : EvL (xRng1 A) ρ s (rngD 0 j) := ⟨fun Q X q => h.to _ _ ⟨hj, q⟩⟩
theorem evl_rng2 {j k : Int} (h : Ev A ρ s (dI j)) (h2 : Ev B ρ s (dI k)) (hj : inR j = true) (hk : inR k = true) : EvL (xRng2 A B) ρ s (rngD j k) := ⟨fun Q X q => h.to _ _ (h2.to _ _ ⟨hj, hk, q⟩)⟩
theorem lcT_ev {gd : GD} {cc : TB S} {Q : D → S → Prop} (p : D → Bool) (f : D → D) : ∀ (ds acc : List D), (∀ d ∈ ds, ∃ ρ1, gd d ρ = some ρ1 ∧ EvB cc ρ1 s (p d) ∧ (p d = true → Ev A ρ1 s (f d))) → acc.length + ds.length ≤ sizeLine → Q (.lst (acc ++ (ds.filter p).map f)) s → lcT gd cc A ρ Q ds acc s
  | [], acc, _, _, q => by unfold lcT; simpa using q
  | d :: r, acc, h, l, q => by
    unfold lcT
    obtain ⟨ρ1, e, k, ka⟩ := h d List.mem_cons_self
    rw [e]
    rw [List.length_cons] at l
    show cc ρ1 s _ _
    refine k.to _ _ ?_
    rw [List.filter_cons] at q
    cases hp : p d with
    | true =>
      rw [hp] at q
      simp only [if_true] at q ⊢
      refine (ka hp).to _ _ ⟨by omega, lcT_ev p f r (acc ++ [f d]) (fun d z => h d (List.mem_cons_of_mem _ z)) ?_ ?_⟩
      · rw [List.length_append, List.length_cons, List.length_nil]; omega
      · rw [List.append_assoc]; simpa using q
    | false =>
      rw [hp] at q
      rw [if_neg (by decide)] at q ⊢
      exact lcT_ev p f r acc (fun d z => h d (List.mem_cons_of_mem _ z)) (by omega) q
theorem ev_lc {gd : GD} {vs : List Nat} (p : D → Bool) (f : D → D) (h : EvL I ρ s ds) (hd : ∀ d ∈ ds, ∃ ρ1, gd d (inE ρ vs) = some ρ1 ∧ EvB c ρ1 s (p d) ∧ (p d = true → Ev A ρ1 s (f d))) (hl : ds.length ≤ sizeLine) : Ev (xLc I gd c A vs) ρ s (.lst ((ds.filter p).map f)) := ⟨fun Q X q => h.to _ _ (lcT_ev p f ds [] hd (by simpa using hl) q)⟩
/-! statements -/
theorem ck_opt {α : Type} {o : Option α} {x : α} {q : α → Prop} (e : o = some x) (h : q x) : opt o q := by rw [e]; exact h
/-- what is wanted of a statement, closed -/
structure Run (T : TP S) (ρ : Env) (s : S) (P : Post S) : Prop where
  go : T ρ s P
theorem sq_assoc (h : Run (pSeq T (pSeq U U2)) ρ s P) : Run (pSeq (pSeq T U) U2) ρ s P := ⟨h.go⟩
theorem sq_next (h : Run U ρ s P) : Run (pSeq pNext U) ρ s P := ⟨h.go⟩
theorem sq_nx (h : P.nx ρ s) : Run pNext ρ s P := ⟨h⟩
theorem sq_set (h : Ev A ρ s d) (k : Run U (ρ.set i (.d d)) s P) : Run (pSeq (pSet A i) U) ρ s P := ⟨h.to _ _ k.go⟩
theorem sq_own {u : Cell} (h : Ev A ρ s d) (e : ownOf d = some u) (k : Run U (ρ.set i (.own u)) s P) : Run (pSeq (pOwn A i) U) ρ s P := ⟨h.to _ _ (ck_opt e k.go)⟩
theorem sq_drop (h : Ev A ρ s d) (k : Run U ρ s P) : Run (pSeq (pDrop A) U) ρ s P := ⟨h.to _ _ k.go⟩
theorem sq_ret (h : Ev A (frz ρ) s d) (k : P.rt d s) : Run (pSeq (pRet A) U) ρ s P := ⟨h.to _ _ k⟩
theorem sq_retN (k : P.rt dN s) : Run (pSeq pRetN U) ρ s P := ⟨k⟩
theorem sq_ifR (h : EvB c ρ s b) (k : if b = true then Run (pSeq T U2) ρ s P else Run (pSeq U U2) ρ s P) : Run (pSeq (pIf c T U) U2) ρ s P := ⟨h.to _ _ (by
  cases b with
  | true => rw [if_pos rfl] at k ⊢; exact k.go
  | false => rw [if_neg (by decide)] at k ⊢; exact k.go)⟩
theorem sq_if (h : EvB c ρ s b) (kt : b = true → Run (pSeq T U2) ρ s P) (kf : b = false → Run (pSeq U U2) ρ s P) : Run (pSeq (pIf c T U) U2) ρ s P := sq_ifR h (by
  cases b with
  | true => rw [if_pos rfl]; exact kt rfl
  | false => rw [if_neg (by decide)]; exact kf rfl)
theorem sq_par {j : Nat} (h : EvL L ρ s [x, y]) (k : Run U ((ρ.set i (.d x)).set j (.d y)) s P) : Run (pSeq (pPar L i j) U) ρ s P := ⟨h.to _ _ k.go⟩
theorem sq_asg {gd : GD} {ρ' : Env} (h : Ev A ρ s d) (e : gd d ρ = some ρ') (k : Run U ρ' s P) : Run (pSeq (pAsg A gd) U) ρ s P := ⟨h.to _ _ (ck_opt e k.go)⟩
theorem sq_app {xs : List D} (e : ownL ρ i = some xs) (h : Ev A ρ s d) (hl : xs.length < sizeLine) (k : Run U (ρ.set i (.own (.lst (xs ++ [d])))) s P) : Run (pSeq (onOwn i (pApp i A)) U) ρ s P := ⟨by rw [e]; rfl, h.to _ _ (ck_opt e ⟨hl, k.go⟩)⟩
theorem sq_ext {xs ys : List D} (e : ownL ρ i = some xs) (h : Ev A ρ s (.lst ys)) (hl : xs.length + ys.length ≤ sizeLine) (k : Run U (ρ.set i (.own (.lst (xs ++ ys)))) s P) : Run (pSeq (onOwn i (pExt i A)) U) ρ s P := ⟨by rw [e]; rfl, h.to _ _ (ck_opt e ⟨hl, k.go⟩)⟩
theorem sq_pop {xs : List D} {gd : GD} {ρ' : Env} (e : ownL ρ i = some xs) (h : xs.getLast? = some d) (eg : gd d (ρ.set i (.own (.lst xs.dropLast))) = some ρ') (k : Run U ρ' s P) : Run (pSeq (pPop i gd) U) ρ s P := ⟨ck_opt e (ck_opt h (ck_opt eg k.go))⟩
/-- what is wanted of a loop's turn -/
def loopP (P : Post S) (ρ : Env) (Fr Bk : Env → S → Prop) : Post S := { P with nx := fun ρ' s' => ρ'.length = ρ.length ∧ Fr (back ρ ρ') s', ct := fun ρ' s' => ρ'.length = ρ.length ∧ Fr (back ρ ρ') s', bk := fun ρ' s' => ρ'.length = ρ.length ∧ Bk (back ρ ρ') s' }
theorem forT_by {gd : GD} (W : List D → Env → S → Prop) (done : ∀ ρ s, W [] ρ s → Run U ρ s P)
    (turn : ∀ d r (Fr Bk : Env → S → Prop), (∀ ρ s, W r ρ s → Fr ρ s) → (∀ ρ s, Run U ρ s P → Bk ρ s) → ∀ ρ s, W (d :: r) ρ s → ∃ ρ1, gd d ρ = some ρ1 ∧ Run T ρ1 s (loopP P ρ Fr Bk)) :
    ∀ (ds : List D) (ρ : Env) (s : S), W ds ρ s → forT gd T { P with nx := fun ρ' s' => U ρ' s' P } ds ρ s
  | [], ρ, s, w => (done ρ s w).go
  | d :: r, ρ, s, w => by
    obtain ⟨ρ1, e, h⟩ := turn d r (forT gd T { P with nx := fun ρ' s' => U ρ' s' P } r) (fun ρ' s' => U ρ' s' P) (forT_by W done turn r) (fun ρ s h => h.go) ρ s w
    unfold forT
    exact ck_opt e h.go
/-- a loop over data: W speaks of what is left -/
theorem sq_for {gd : GD} (W : List D → Env → S → Prop) (h : EvL I ρ s ds) (w0 : W ds ρ s) (done : ∀ ρ s, W [] ρ s → Run U ρ s P)
    (turn : ∀ d r (Fr Bk : Env → S → Prop), (∀ ρ s, W r ρ s → Fr ρ s) → (∀ ρ s, Run U ρ s P → Bk ρ s) → ∀ ρ s, W (d :: r) ρ s → ∃ ρ1, gd d ρ = some ρ1 ∧ Run T ρ1 s (loopP P ρ Fr Bk)) :
    Run (pSeq (pFor I gd T) U) ρ s P := ⟨h.to _ _ (forT_by W done turn ds ρ s w0)⟩
/-- a loop that ends by a measure -/
theorem sq_while (W : Nat → Env → S → Prop) (w0 : ∃ m, W m ρ s)
    (turn : ∀ (m : Nat) (ρ : Env) (s : S) (Bk : Env → S → Prop), (∀ ρ s, Run U ρ s P → Bk ρ s) → W m ρ s → ∃ b, EvB c ρ s b ∧ (b = true → Run T ρ s (loopP P ρ (fun ρ' s' => ∃ m', m' < m ∧ W m' ρ' s') Bk)) ∧ (b = false → Run U ρ s P)) :
    Run (pSeq (pWhile c T) U) ρ s P := ⟨by
  refine ⟨W, w0, fun m ρ s w => ?_⟩
  obtain ⟨b, h, ht, hf⟩ := turn m ρ s (fun ρ' s' => U ρ' s' P) (fun ρ s h => h.go) w
  refine h.to _ _ ?_
  cases b with
  | true => rw [if_pos rfl]; exact (ht rfl).go
  | false => rw [if_neg (by decide)]; exact (hf rfl).go⟩
/-- what an and, an or gives -/
inductive AndR (a : Bool) (B : TX S) (ρ : Env) (s : S) : D → Prop
  | t {d : D} (h : a = true) (k : Ev B ρ s d) : AndR a B ρ s d
  | f (h : a = false) : AndR a B ρ s (dB false)
  | b {b : Bool} (k : a = true → Ev B ρ s (dB b)) : AndR a B ρ s (dB (a && b))
inductive OrR (a : Bool) (B : TX S) (ρ : Env) (s : S) : D → Prop
  | t (h : a = true) : OrR a B ρ s (dB true)
  | f {d : D} (h : a = false) (k : Ev B ρ s d) : OrR a B ρ s d
  | b {b : Bool} (k : a = false → Ev B ρ s (dB b)) : OrR a B ρ s (dB (a || b))
theorem ev_andR (h : Ev A ρ s (dB a)) (k : AndR a B ρ s d) : Ev (xAnd A B) ρ s d := by
  cases k with
  | t e k => exact ev_and_t h e k
  | f e => exact ev_and_f h e
  | b k => exact ev_and h k
theorem ev_orR (h : Ev A ρ s (dB a)) (k : OrR a B ρ s d) : Ev (xOr A B) ρ s d := by
  cases k with
  | t e => exact ev_or_t h e
  | f e k => exact ev_or_f h e k
  | b k => exact ev_or h k
inductive BAndR (a : Bool) (c : TB S) (ρ : Env) (s : S) : Bool → Prop
  | t {b : Bool} (h : a = true) (k : EvB c ρ s b) : BAndR a c ρ s b
  | f (h : a = false) : BAndR a c ρ s false
  | b {b : Bool} (k : a = true → EvB c ρ s b) : BAndR a c ρ s (a && b)
inductive BOrR (a : Bool) (c : TB S) (ρ : Env) (s : S) : Bool → Prop
  | t (h : a = true) : BOrR a c ρ s true
  | f {b : Bool} (h : a = false) (k : EvB c ρ s b) : BOrR a c ρ s b
  | b {b : Bool} (k : a = false → EvB c ρ s b) : BOrR a c ρ s (a || b)
theorem evb_andR (h : EvB c ρ s a) (k : BAndR a c' ρ s b) : EvB (bAnd c c') ρ s b := by
  cases k with
  | t e k => exact evb_and_t h e k
  | f e => exact evb_and_f h e
  | b k => exact evb_and h k
theorem evb_orR (h : EvB c ρ s a) (k : BOrR a c' ρ s b) : EvB (bOr c c') ρ s b := by
  cases k with
  | t e => exact evb_or_t h e
  | f e k => exact evb_or_f h e k
  | b k => exact evb_or h k
theorem ev_ifR (h : EvB c ρ s b) (k : if b = true then Ev A ρ s d else Ev B ρ s d) : Ev (xIf c A B) ρ s d := by
  cases b with
  | true => rw [if_pos rfl] at k; exact ev_if_t h rfl k
  | false => rw [if_neg (by decide)] at k; exact ev_if_f h rfl k
theorem ite_t {p q : Prop} (h : a = true) (k : p) : if a = true then p else q := by rw [if_pos h]; exact k
theorem ite_f {p q : Prop} (h : a = false) (k : q) : if a = true then p else q := by rw [if_neg (by rw [h]; decide)]; exact k
/-! the same where the state moves -/
variable {Q : D → S → Prop} {QL : List D → S → Prop} {X : Exn → S → Prop}
theorem ck_ev (h : Ev A ρ s d) (q : Q d s) : A ρ s Q X := h.to _ _ q
theorem ck_evl (h : EvL L ρ s ds) (q : QL ds s) : L ρ s QL X := h.to _ _ q
theorem ck_evb {QB : Bool → S → Prop} (h : EvB c ρ s b) (q : QB b s) : c ρ s QB X := h.to _ _ q
theorem ck_op {f : D → D → Option D} (h : A ρ s (fun x s1 => B ρ s1 (fun y s2 => opt (f x y) fun d => Q d s2) X) X) : xOp f A B ρ s Q X := h
theorem ck_un {f : D → Option D} (h : A ρ s (fun x s1 => opt (f x) fun d => Q d s1) X) : xUn f A ρ s Q X := h
theorem ck_nil (h : QL [] s) : (xNil : TL S) ρ s QL X := h
theorem ck_cons (h : A ρ s (fun x s1 => L ρ s1 (fun xs s2 => QL (x :: xs) s2) X) X) : xCons A L ρ s QL X := h
theorem ck_tup (h : L ρ s (fun xs s1 => xs.length ≤ sizeLine ∧ Q (.tup xs) s1) X) : xTup L ρ s Q X := h
theorem ck_lst (h : L ρ s (fun xs s1 => xs.length ≤ sizeLine ∧ Q (.lst xs) s1) X) : xLst L ρ s Q X := h
theorem ck_call {F : Fn} (h : L ρ s (fun ds s1 => opt (F ds) fun r => match r with
  | .ok d => Q d s1
  | .error x => X x s1) X) : xCall F L ρ s Q X := h
theorem ck_test {QB : Bool → S → Prop} (h : A ρ s (fun x s1 => opt (asB x) fun b => QB b s1) X) : bTest A ρ s QB X := h
theorem sq_setk (h : A ρ s (fun d s1 => U (ρ.set i (.d d)) s1 P) P.ex) : Run (pSeq (pSet A i) U) ρ s P := ⟨h⟩
theorem sq_ownk (h : A ρ s (fun d s1 => opt (ownOf d) fun u => U (ρ.set i (.own u)) s1 P) P.ex) : Run (pSeq (pOwn A i) U) ρ s P := ⟨h⟩
theorem sq_retk (h : A (frz ρ) s P.rt P.ex) : Run (pSeq (pRet A) U) ρ s P := ⟨h⟩
theorem sq_ifk (h : c ρ s (fun b s1 => if b = true then pSeq T U2 ρ s1 P else pSeq U U2 ρ s1 P) P.ex) : Run (pSeq (pIf c T U) U2) ρ s P := ⟨h⟩
theorem sq_park {j : Nat} (h : L ρ s (fun ds s1 => match ds with
  | [x, y] => U ((ρ.set i (.d x)).set j (.d y)) s1 P
  | _ => False) P.ex) : Run (pSeq (pPar L i j) U) ρ s P := ⟨h⟩
theorem sq_fork {gd : GD} (h : I ρ s (fun ds s1 => forT gd T { P with nx := fun ρ' s' => U ρ' s' P } ds ρ s1) P.ex) : Run (pSeq (pFor I gd T) U) ρ s P := ⟨h⟩
theorem sq_asgk {gd : GD} (h : A ρ s (fun d s1 => opt (gd d ρ) fun ρ' => U ρ' s1 P) P.ex) : Run (pSeq (pAsg A gd) U) ρ s P := ⟨h⟩
end
section
variable {n : Nat} {ρ : Env} {L : TL Nat} {p : Addr} {Q : D → Nat → Prop} {X : Exn → Nat → Prop}
theorem ck_draw {many : Int} (h : EvL L ρ n [.v (.ref p), dI many]) (h1 : 0 < many) (h2 : many.natAbs < 2 ^ 200) (h3 : n < 100000) (k : ∀ (d : Int) (n2 : Nat), 0 ≤ d → d < many → n ≤ n2 → n2 ≤ n + 1 → Q (dI d) n2) : xDraw p L ρ n Q X := h.to _ _ ⟨rfl, h1, h2, h3, k⟩
theorem ck_pen {Pre : List D → Prop} {kk : List D → Nat} {Post : List D → D → Prop} {ds : List D} (h : EvL L ρ n (.v (.ref p) :: ds)) (h1 : n + kk ds ≤ 100000) (h2 : Pre ds) (k : ∀ (d : D) (n2 : Nat), n ≤ n2 → n2 ≤ n + kk ds → Post ds d → Q d n2) : xPen p Pre kk Post L ρ n Q X := h.to _ _ ⟨rfl, h1, h2, k⟩
end
section
variable {P : Program} {w : World} {K : W.Frag} {mg : Str → Option Value} {base : Heap} {x qual : Str} {st : Stmt} {f : Addr} {fd : FuncData} {N ps : List Str} {k : Nat} {os : List Mo} {F : Fn}
theorem fn_dataR (Fd : Fun K x qual st f fd) (Sc : FnScope N ps (defScope st)) (hl : os.length = ps.length) (ho : os.all (fun o => match o with | .f => false | _ => true) = true)
    (hbody : ∀ (cdv : Value) (A : Around) (outer : List PySem.Env) (s : Shared) (H : Hp) (E : XK), Room k (A.deeper (envOfC qual (defScope st) s.heap.objs.size f cdv)) → Quiet (A.deeper (envOfC qual (defScope st) s.heap.objs.size f cdv)) →
      ∃ t, PSs (cxOf (L2.CX P w) P w K mg base N qual (defScope st) f cdv A outer s H E) (defBody st) t ∧
        ∀ (S : Type) (Γ : Fr S), ∃ T : TP S, LnS Γ K E t T ∧ ∀ (ds : List D) (r : Except Exn D) (s : S), F ds = some r → Run T (envD os N.length ds) s (postF s r)) :
    FnG P w K mg base (L2.CX P w) (k + 1) f fd ps (spF K os F) :=
  fn_data Fd Sc hl ho fun cdv A outer s H E hr hq => by
    obtain ⟨t, h1, h2⟩ := hbody cdv A outer s H E hr hq
    exact ⟨t, h1, fun S Γ => by
      obtain ⟨T, l, m⟩ := h2 S Γ
      exact ⟨T, l, fun ds r s e => (m ds r s e).go⟩⟩
theorem fn_penR {Pre : List D → Prop} {kk : List D → Nat} {Post : List D → D → Prop}
    (Fd : Fun K x qual st f fd) (Sc : FnScope N ps (defScope st)) (hl : os.length + 1 = ps.length) (ho : os.all (fun o => match o with | .f => false | _ => true) = true)
    (hbody : ∀ (cdv : Value) (A : Around) (outer : List PySem.Env) (s : Shared) (H : Hp) (E : XK), Room k (A.deeper (envOfC qual (defScope st) s.heap.objs.size f cdv)) → Quiet (A.deeper (envOfC qual (defScope st) s.heap.objs.size f cdv)) →
      ∃ t, PSs (cxOf (L2.CX P w) P w K mg base N qual (defScope st) f cdv A outer s H E) (defBody st) t ∧
        ∀ (p q : Addr) (ns : List Int), ∃ T : TP Nat, LnS (penFr p q ns) K E t T ∧ ∀ (ds : List D) (n : Nat), ds.length = os.length → Pre ds → n + kk ds ≤ 100000 → Run T (envD (.b :: os) N.length (.v (.ref p) :: ds)) n (postP n (kk ds) (Post ds))) :
    FnG P w K mg base (L2.CX P w) (k + 1) f fd ps (spP K os Pre kk Post) :=
  fn_pen Fd Sc hl ho fun cdv A outer s H E hr hq => by
    obtain ⟨t, h1, h2⟩ := hbody cdv A outer s H E hr hq
    exact ⟨t, h1, fun p q ns => by
      obtain ⟨T, l, m⟩ := h2 p q ns
      exact ⟨T, l, fun ds n a b c => (m ds n a b c).go⟩⟩
end
end L2.DL
/-! Calls by keywords; the law's own def -/
namespace L2.DL
open L2 L2.My NdefX PySem PySem.Spec PyProof.Rows

def swL {β : Type} (sw : Bool) (xs : List β) : List β := match sw, xs with
  | true, [a, b] => [b, a]
  | _, xs => xs
theorem swL_len {β : Type} {sw : Bool} {xs : List β} : (swL sw xs).length = xs.length := by
  unfold swL
  split <;> rfl
theorem vals_sw {sw : Bool} {vs : List V} {us : List Value} (r : Vals vs us) : Vals (swL sw vs) (swL sw us) := by
  cases sw with
  | false =>
    have e1 : swL false vs = vs := by unfold swL; split <;> first | rfl | simp_all
    have e2 : swL false us = us := by unfold swL; split <;> first | rfl | simp_all
    rw [e1, e2]
    exact r
  | true =>
    match vs, us, r with
    | [], _, .nil => exact .nil
    | [_], _, .cons a .nil => exact .cons a .nil
    | [_, _], _, .cons a (.cons b .nil) => exact .cons b (.cons a .nil)
    | _ :: _ :: _ :: _, _, .cons a (.cons b (.cons c r)) => exact .cons a (.cons b (.cons c r))
/-- a class called with keywords alone -/
structure MkW (P : Program) (w : World) (K : W.Frag) (mg : Str → Option Value) (base : Heap) (k : Nat) (x : Str) (C : Addr) (sp : Sp) (ks : List Str) (sw : Bool) : Prop where
  ex : ∃ (f : Addr) (fd : FuncData) (ps : List Str), Mk K C f ∧ FnG P w K mg base (L2.CX P w) k f fd ps sp ∧ (∀ (s : Shared) (self : Value) (ws : List Value), ws.length = ks.length → BindsTo s fd ⟨[self], ks.zip ws⟩ (ps.zip (self :: swL sw ws)))
  nm : mg x = some (.ref C)
def tSw (n : Nat) (sw : Bool) (t : TA) : TA := fun σ H Q => t σ H fun zs H1 => zs.length = n ∧ Q (swL sw zs) H1
/-- a def called with keywords alone -/
structure CalW (P : Program) (w : World) (K : W.Frag) (mg : Str → Option Value) (base : Heap) (CX : CXT) (k : Nat) (x : Str) (sp : Sp) (ks : List Str) (sw : Bool) : Prop where
  ex : ∃ (f : Addr) (fd : FuncData) (ps : List Str), FnG P w K mg base CX k f fd ps sp ∧ mg x = some (.ref f) ∧ W.keepIn K (.ref f) = true ∧ (∀ (s : Shared) (ws : List Value), ws.length = ks.length → BindsTo s fd ⟨[], ks.zip ws⟩ (ps.zip (swL sw ws)))
section
variable {X : Cx} {CX : CXT} {k n : Nat} {f C : Addr} {fd : FuncData} {ps ks : List Str} {sp : Sp} {E : XK} {x : Str} {p pos : Pos} {e : Expr} {kws : List Keyword} {t : TA} {sw : Bool}
theorem run_mkw {pins : List (Addr × Obj)} {σ : St} {H : Hp} {s : Shared} {Q : VK} {ws : List Value} {vs : List V} (M : Mk X.K C f) (F : FnG X.prog X.w X.K X.mg X.base CX k f fd ps sp) (hr : Room (k + 1) X.A) (hq : My.Quiet X.A)
    (hb : ∀ (s : Shared) (self : Value) (ws : List Value), ws.length = ks.length → BindsTo s fd ⟨[self], ks.zip ws⟩ (ps.zip (self :: swL sw ws))) (hx : Passes CX X E) (I : Inv X pins σ H s) (r : Vals vs ws) (hl : vs.length = ks.length)
    (h : ∀ x dx, H x = none → H dx = none → dx ≠ x → sp (.ref x :: swL sw vs) (upd (upd H dx (.own x)) x (.ins C dx [])) (fun v H2 => v = .non ∧ Q (.ref x) H2) E) : wpAny (model X.prog X.w) X.A (call (.ref C) [] (ks.zip ws)) (EP X pins σ Q) X.xe s := by
  have h' := h (s.heap.objs.size + 1) s.heap.objs.size (I.hok.fresh (Nat.le_succ _)) (I.hok.fresh (Nat.le_refl _)) (Nat.ne_of_lt (Nat.lt_succ_self _))
  have I2 := Inv.made (C := C) I
  have hq2 : My.Quiet (X.A.under (.builtin "type.__call__" ⟨.ref C :: [], ks.zip ws⟩)) := by
    unfold My.Quiet Around.under
    rw [show X.A.guards = some [] from hq]
    rfl
  refine wpAny_call (make_map (f := f) I.kIn M.makes M.init (beq_iff_eq.mp M.fn) (codeAny_mono (F.runs _ X.stack _ _ ⟨[Value.ref (s.heap.objs.size + 1)], ks.zip ws⟩ _ (V.ref (s.heap.objs.size + 1) :: swL sw vs) _ E (hr.make C [] (ks.zip ws)) hq2 (I2.env0.make C [] (ks.zip ws)) (hb _ _ ws (r.length.symm.trans hl)) (.cons rfl (vals_sw r)) h') ?_))
  intro res s' z
  match res, z with
  | .error er, z => exact hx pins σ _ _ er s' I2 z
  | .ok (.ret u), z =>
    obtain ⟨v, H', I3, rv, rfl, q⟩ := I2.after z
    exact ⟨rv, .ref (s.heap.objs.size + 1), H', I3, rfl, q⟩
theorem run_gkw {pins : List (Addr × Obj)} {σ : St} {H : Hp} {s : Shared} {Q : VK} {ws : List Value} {vs : List V} (F : FnG X.prog X.w X.K X.mg X.base CX k f fd ps sp) (hr : Room k X.A) (hq : My.Quiet X.A)
    (hb : ∀ (s : Shared) (ws : List Value), ws.length = ks.length → BindsTo s fd ⟨[], ks.zip ws⟩ (ps.zip (swL sw ws))) (hx : Passes CX X E) (I : Inv X pins σ H s) (r : Vals vs ws) (hl : vs.length = ks.length)
    (h : sp (swL sw vs) H Q E) : wpAny (model X.prog X.w) X.A (call (.ref f) [] (ks.zip ws)) (EP X pins σ Q) X.xe s := by
  refine wpAny_call (codeAny_mono (F.runs X.A X.stack s H ⟨[], ks.zip ws⟩ _ _ Q E hr hq I.env0 (hb s ws (r.length.symm.trans hl)) (vals_sw r) h) ?_)
  intro res s' z
  match res, z with
  | .error er, z => exact hx pins σ H s er s' I z
  | .ok (.ret u), z => exact I.after z
/-- X(k = v, ..) of a class -/
theorem pe_mkw (c : MkW X.prog X.w X.K X.mg X.base k x C sp ks sw) (hr : Room n X.A) (hk : k + 1 ≤ n) (hq : My.Quiet X.A) (hg : Gl X x) (hx : Passes (L2.CX X.prog X.w) X E) (hkw : PK X kws t)
    (hall : (backToKw pos (keywordEach kws X.env)).all (·.1.isSome) = true := by rfl) (hks : (backToKw pos (keywordEach kws X.env)).filterMap (·.1) = ks := by rfl) (hdb : (x == ("__debug__" : Str)) = false := by decide)
    (hpl : ((backTo pos (starEach [] X.env)).any (·.1) || (backToKw pos (keywordEach kws X.env)).any (·.1.isNone)) = false := by rfl) :
    PE X (.Call (.Name x p) [] kws pos) (tMk C sp E (tSw ks.length sw t)) := by
  obtain ⟨f, fd, ps, M, F, hb⟩ := c.ex
  constructor
  intro pins s σ H Q I h
  refine wpAny_Call_Name_kw (ld_glob I hg c.nm ?_ hdb)
  refine W.callWith_KW0 (h₀ := X.base) I.ok.mod.kin M.kp hall ?_ hpl
  refine thn (hkw.run pos pins s σ H _ I h) ?_
  rintro ws s1 ⟨vs, H1, I1, r, hl, q⟩
  refine ⟨I1.kIn, ?_⟩
  rw [hks]
  exact run_mkw M F (hr.mono hk) hq hb hx I1 r hl q
/-- f(k = v, ..) of a def -/
theorem pe_gkw {j : Nat} (c : CalW X.prog X.w X.K X.mg X.base CX j x sp ks sw) (hr : Room k X.A) (hjk : j ≤ k) (hq : My.Quiet X.A) (hx : Passes CX X E) (hg : Gl X x) (hkw : PK X kws t)
    (hall : (backToKw pos (keywordEach kws X.env)).all (·.1.isSome) = true := by rfl) (hks : (backToKw pos (keywordEach kws X.env)).filterMap (·.1) = ks := by rfl) (hdb : (x == ("__debug__" : Str)) = false := by decide)
    (hpl : ((backTo pos (starEach [] X.env)).any (·.1) || (backToKw pos (keywordEach kws X.env)).any (·.1.isNone)) = false := by rfl) :
    PE X (.Call (.Name x p) [] kws pos) (tCall sp [] E (tSw ks.length sw t)) := by
  obtain ⟨f, fd, ps, F, hm, hk, hb⟩ := c.ex
  constructor
  intro pins s σ H Q I h
  refine wpAny_Call_Name_kw (ld_glob I hg hm ?_ hdb)
  refine W.callWith_KW0 (h₀ := X.base) I.ok.mod.kin hk hall ?_ hpl
  refine thn (hkw.run pos pins s σ H _ I h) ?_
  rintro ws s1 ⟨vs, H1, I1, r, hl, q⟩
  refine ⟨I1.kIn, ?_⟩
  rw [hks]
  rw [List.append_nil] at q
  exact run_gkw (F.up hjk) hr hq hb hx I1 r hl q
end
section
variable {S : Type} {Γ : Fr S} {K : W.Frag} {E : XK} {tl : TA} {L : TL S} {os : List Mo}
def xSw (sw : Bool) (L : TL S) : TL S := fun ρ s Q X => L ρ s (fun ds s1 => Q (swL sw ds) s1) X
theorem arel_sw {g m : Msk} {H0 H : Hp} {sw : Bool} : ∀ {os : List Mo} {vs : List V} {ds : List D}, ARel K g os m H0 H vs ds → ARel K g (swL sw os) m H0 H (swL sw vs) (swL sw ds) := by
  intro os vs ds r
  obtain ⟨l1, l2⟩ := ARel.len r
  cases sw with
  | false =>
    have e : ∀ {β : Type} (xs : List β), swL false xs = xs := fun xs => by unfold swL; split <;> first | rfl | simp_all
    rw [e, e, e]
    exact r
  | true =>
    match os, vs, ds, r, l1, l2 with
    | [], [], [], r, _, _ => exact r
    | [_], [_], [_], r, _, _ => exact r
    | [_, _], [_, _], [_, _], r, _, _ => exact ⟨r.2.1, r.1, trivial⟩
    | _ :: _ :: _ :: _, _ :: _ :: _ :: _, _ :: _ :: _ :: _, r, _, _ => exact r
theorem ln_sw {n : Nat} {sw : Bool} {os' : List Mo} (hn : os.length = n) (ho : swL sw os = os') (h : LnA Γ K E os tl L) : LnA Γ K E os' (tSw n sw tl) (xSw sw L) := by
  subst ho
  intro M α σ H ρ s ok st QD QX Q q k kx
  refine h ok st _ QX _ q (fun vs H1 ds s1 p1 st1 r z => ?_) kx
  exact ⟨by rw [(ARel.len r).1, hn], k _ H1 _ s1 p1 st1 (arel_sw r) z⟩
theorem ev_sw1 {ρ : Env} {s : S} {ds : List D} (h : EvL L ρ s ds) : EvL (xSw false L) ρ s ds := ⟨fun Q X q => h.to _ _ (by
  have e : swL false ds = ds := by unfold swL; split <;> first | rfl | simp_all
  rw [e]
  exact q)⟩
theorem ev_sw2 {ρ : Env} {s : S} {x y : D} (h : EvL L ρ s [x, y]) : EvL (xSw true L) ρ s [y, x] := ⟨fun Q X q => h.to _ _ q⟩
theorem ev_sw {ρ : Env} {s : S} {ds : List D} {sw : Bool} (h : EvL L ρ s ds) : EvL (xSw sw L) ρ s (swL sw ds) := ⟨fun Q X q => h.to _ _ q⟩
end

section
variable {S : Type} {Γ : Fr S} {K : W.Frag} {E : XK} {tl : TA} {L : TL S}
def pPar3 (L : TL S) (i j l : Nat) : TP S := fun ρ s P => L ρ s (fun ds s1 => match ds with
  | [x, y, z] => P.nx (((ρ.set i (.d x)).set j (.d y)).set l (.d z)) s1
  | _ => False) P.ex
theorem three {β : Type} {xs : List β} (h : xs.length = 3) : ∃ a b c, xs = [a, b, c] := by
  match xs, h with
  | [a, b, c], _ => exact ⟨a, b, c, rfl⟩
theorem ls_par3 {i j l : Nat} (h : LnA Γ K E [.s, .s, .s] tl L) : LnS Γ K E (tPar3 i j l tl) (pPar3 L i j l) := by
  intro M α σ H ρ s ok st P Dn q kn kb kc kr kx
  refine h ok st _ P.ex _ q (fun vs H' ds s' p st' r z => ?_) (fun c dx H' x s' p st' r z => kx c dx H' x s' (stS_end p) st' (r.mono fun _ z => .inl z) z)
  obtain ⟨l1, l2⟩ := ARel.len r
  obtain ⟨v, w, u, rfl⟩ := three l1
  obtain ⟨x, y, d, rfl⟩ := three l2
  obtain ⟨r1, r2, r3, _⟩ := r
  have ok1 := (ok.step p).setD (i := i) r1
  have ok2 := ok1.setD (i := j) (R.same (cut_mono (mask_set_sub rfl)) r2)
  have ok3 := ok2.setD (i := l) (R.same (cut_mono fun a z => mask_set_sub rfl a (mask_set_sub rfl a z)) r3)
  exact ⟨v, w, u, rfl, kn _ H' _ s' α ok3 st' (.of (fun a z => wmask_set_sub rfl a (wmask_set_sub rfl a (wmask_set_sub rfl a z))) p fun _ z => .inl z) z⟩
variable {ρ : Env} {s : S} {U : TP S} {P : Post S} {x y z : D} {i j l : Nat}
theorem sq_par3 (h : EvL L ρ s [x, y, z]) (k : Run U (((ρ.set i (.d x)).set j (.d y)).set l (.d z)) s P) : Run (pSeq (pPar3 L i j l) U) ρ s P := ⟨h.to _ _ k.go⟩
theorem sq_par3k (h : L ρ s (fun ds s1 => match ds with
  | [x, y, z] => U (((ρ.set i (.d x)).set j (.d y)).set l (.d z)) s1 P
  | _ => False) P.ex) : Run (pSeq (pPar3 L i j l) U) ρ s P := ⟨h⟩
/-- a cut: what holds between -/
theorem sq_cut {T : TP S} (J : Env → S → Prop) (h : Run (pSeq T pNext) ρ s { P with nx := J }) (k : ∀ ρ' s', J ρ' s' → Run U ρ' s' P) : Run (pCut T U) ρ s P := ⟨J, h.go, fun ρ' s' j => (k ρ' s' j).go⟩
theorem rn_seq {T : TP S} (h : Run (pSeq T pNext) ρ s P) : Run T ρ s P := ⟨h.go⟩
theorem sq_done (h : P.nx ρ s) : Run (pSeq pNext pNext) ρ s P := ⟨h⟩
end
/-! ### the law's def: a pen is made, then data beside it -/
def spLaw (K : W.Frag) : Sp := fun vs H Q _ => ∃ (a : Addr) (ns : List Int), vs = [.ref a] ∧ SqL K H a (ns.map V.int) ∧ ∀ H', Q (.bl true) H'
def lawE (n : Nat) (p : Addr) : Env := .no :: .d (.v (.ref p)) :: List.replicate (n - 2) .no
def postW : Post Nat where
  nx := fun _ _ => False
  rt := fun d _ => d = dB true
section
variable {P : Program} {w : World} {K : W.Frag} {mg : Str → Option Value} {base : Heap} {st : Stmt} {f : Addr} {fd : FuncData} {N : List Str} {k : Nat} {r1 : Stmt} {rest : List Stmt}
theorem fn_law (Fd : Fun K "law" "law" st f fd) (Sc : FnScope N ["_law_script"] (defScope st)) (h2 : 2 ≤ N.length) (hst : defBody st = r1 :: rest)
    (hbody : ∀ (cdv : Value) (A : Around) (outer : List PySem.Env) (s : Shared) (H : Hp), Room k (A.deeper (envOfC "law" (defScope st) s.heap.objs.size f cdv)) → Quiet (A.deeper (envOfC "law" (defScope st) s.heap.objs.size f cdv)) →
      ∃ t, PS (cxOf CX0 P w K mg base N "law" (defScope st) f cdv A outer s H E0).nox r1 (tAsg (tCall (spPen K) [] E0 (tCons (tVar 0) tNil)) (gName 1)) ∧ PSs (cxOf CX0 P w K mg base N "law" (defScope st) f cdv A outer s H E0).nox rest t ∧
        ∀ (p q : Addr) (ns : List Int), ∃ T : TP Nat, LnS (penFr p q ns) K E0 t T ∧ Run T (lawE N.length p) 0 postW) :
    FnG P w K mg base CX0 (k + 1) f fd ["_law_script"] (spLaw K) := by
  refine body_g0 Fd Sc ?_ ?_
  · rintro vs H Q E ⟨a, ns, rfl, _⟩
    rfl
  rintro cdv A outer s H vs Q E hr hq ⟨a0, ms, rfl, sa, z⟩
  obtain ⟨t, h1, h2', hT⟩ := hbody cdv A outer s H hr hq
  rw [hst]
  refine ⟨_, pss_cons h1 h2', ?_⟩
  have hN : N.length = N.length - 2 + 2 := by omega
  refine ⟨V.ref a0, rfl, ⟨a0, ms, rfl, sa, fun p q ns H' sm hp pen => ?_⟩⟩
  obtain ⟨T, lt, main⟩ := hT p q ns
  have pM : ∀ a, (penFr p q ns).M a → H' a ≠ none := by
    rintro a (rfl | rfl)
    · rw [pen.pen]; exact fun z => by cases z
    · rw [pen.cells]; exact fun z => by cases z
  have no : ∀ i, ¬ ownAt (lawE N.length p) i := by
    rintro i ⟨sl, e, o⟩
    match i with
    | 0 => cases e; cases o
    | 1 => cases e; cases o
    | i + 2 =>
      unfold lawE at e
      rw [List.getElem?_cons_succ, List.getElem?_cons_succ, List.getElem?_replicate] at e
      split at e
      · cases e; cases o
      · cases e
  have ok : Ok (penFr p q ns) K (penFr p q ns).M (fun _ => 0) ((start N [V.ref a0]).set 1 (some (.ref p))) H' (lawE N.length p) := by
    refine ⟨fun _ z => z, pM, fun i o => absurd o (no i), fun i j a b => absurd a (no i), ?_, fun i sl e => ?_, fun a z => by cases z⟩
    · unfold start lawE
      simp only [List.length_set, List.length_append, List.length_map, List.length_replicate, List.length_cons, List.length_nil]
      omega
    · match i with
      | 0 => cases e; trivial
      | 1 =>
        cases e
        refine ⟨.ref p, ?_, .v _⟩
        rw [List.getElem?_set_self]
        unfold start
        simp only [List.length_append, List.length_map, List.length_replicate, List.length_cons, List.length_nil]
        omega
      | i + 2 =>
        unfold lawE at e
        rw [List.getElem?_cons_succ, List.getElem?_cons_succ, List.getElem?_replicate] at e
        split at e
        · cases e; trivial
        · cases e
  exact lt ok ⟨0, pen⟩ postW _ main.go (fun _ _ _ _ _ _ _ _ z => z.elim) (fun _ _ _ _ _ _ _ _ z => z.elim) (fun _ _ _ _ _ _ _ _ z => z.elim) (fun v H2 d s' _ _ r e => by
    rw [e] at r
    cases r
    exact z H2) (fun _ _ _ _ _ _ _ _ z => z.elim)
end
end L2.DL
/-! Comprehensions of any sort: a turn does something with the thing that is being made -/
namespace L2.DL
open L2 L2.My PySem PySem.Spec PyProof.Rows

/-- one turn of one clause: act is what is done where the tests are passed, ag the next turn -/
def turnG (p : Pos) (tg : Expr) (ifs : List Expr) (it : Value) (env : PySem.Env) (act : Sem Fin → Sem Fin) (ag : Sem Fin) : Sem Fin := do
  standAt p
  match ← pyNext it with
  | none => pure (.done .next)
  | some v =>
    letOwnedTupleGo tg it v
    assign tg env v
    let mut ok := true
    for c in ifs do
      if ok then ok ← isTrue c env (eval c env)
    if ok then act ag else ag
abbrev testsG (ifs : List Expr) (env : PySem.Env) : Sem Bool := forIn ifs true fun c r => if r = true then do let ok ← isTrue c env (eval c env); pure (ForInStep.yield ok) else pure (ForInStep.yield r)
section
variable {prog : Program} {w : World} {A : Around} {s : Shared}
theorem wp_turnG {p : Pos} {tg : Expr} {ifs : List Expr} {it : Value} {env : PySem.Env} {act : Sem Fin → Sem Fin} {ag : Sem Fin} {Q : Fin → Shared → Prop} {E : Value → Shared → Prop}
    (h : wpAny (model prog w) A (pyNext it) (fun r s1 => match r with
      | none => Q (.done .next) s1
      | some v => wpAny (model prog w) A (letOwnedTupleGo tg it v) (fun _ s2 => wpAny (model prog w) A (assign tg env v) (fun _ s3 => wpAny (model prog w) A (testsG ifs env) (fun ok s4 =>
          if ok = true then wpAny (model prog w) A (act ag) Q E s4 else wpAny (model prog w) A ag Q E s4) E s3) E s2) E s1) E s) :
    wpAny (model prog w) A (turnG p tg ifs it env act ag) Q E s := by
  unfold turnG
  refine wpAny_bind (wpAny_standAt (wpAny_bind (wpAny_mono h (fun r s1 h1 => ?_) fun _ _ z => z)))
  match r, h1 with
  | none, h1 => exact wpAny_pure h1
  | some v, h1 =>
    refine wpAny_bind (wpAny_mono h1 (fun _ s2 h2 => wpAny_bind (wpAny_mono h2 (fun _ s3 h3 => wpAny_bind (wpAny_mono h3 (fun ok s4 h4 => ?_) fun _ _ z => z)) fun _ _ z => z)) fun _ _ z => z)
    cases ok with
    | false => exact h4
    | true => exact h4
/-- what the machine does for a clause's loop -/
structure NodeL (prog : Program) (w : World) (node : Expr) (lvl : Nat) (it acc : Value) (env : PySem.Env) : Prop where
  un : ∀ A : Around, A.under (.compLoop node lvl it acc env) = A
  de : (model prog w).den (.compLoop node lvl it acc env) = (compTurn node lvl it acc env).onRaise fun x => do noteFrame x env; theTreesLotGoes x
  qu : (Code.compLoop node lvl it acc env).quiet = true
/-- the loop of a clause -/
theorem loopG {node : Expr} {lvl : Nat} {p : Pos} {tg : Expr} {ifs : List Expr} {it acc : Value} {env : PySem.Env} {act : Sem Fin → Sem Fin} {R : Result → Shared → Prop}
    (nl : NodeL prog w node lvl it acc env) (ht : compTurn node lvl it acc env = turnG p tg ifs it env act (again (.compLoop node lvl it acc env))) (I : Nat → Shared → Prop)
    (turn : ∀ n s, I n s → wpAny (model prog w) A (pyNext it) (fun r s1 => match r with
      | none => R (.ok .next) s1
      | some v => wpAny (model prog w) A (letOwnedTupleGo tg it v) (fun _ s2 => wpAny (model prog w) A (assign tg env v) (fun _ s3 => wpAny (model prog w) A (testsG ifs env) (fun ok s4 =>
          if ok = true then ∀ (Q : Fin → Shared → Prop) (E : Value → Shared → Prop) (k : Sem Fin), (∀ s5, (∃ m, m < n ∧ I m s5) → wpAny (model prog w) A k Q E s5) → wpAny (model prog w) A (act k) Q E s4 else ∃ m, m < n ∧ I m s4) (fun _ _ => False) s3) (fun _ _ => False) s2) (fun _ _ => False) s1) (fun _ _ => False) s)
    (n : Nat) (h : I n s) : codeAny (model prog w) A (.compLoop node lvl it acc env) R s := by
  refine codeAny_loop nl.qu I (fun n s hI => ?_) n h
  rw [nl.un, nl.de]
  refine wpAny_noted ?_
  rw [ht]
  have nof : ∀ {α : Type} {t : Sem α} {Q : α → Shared → Prop} {E : Value → Shared → Prop} {s : Shared}, wpAny (model prog w) A t Q (fun _ _ => False) s → wpAny (model prog w) A t Q E s := fun z => wpAny_mono z (fun _ _ q => q) fun _ _ q => q.elim
  have agn : ∀ {s' : Shared} {E : Value → Shared → Prop}, (∃ m, m < n ∧ I m s') → wpAny (model prog w) A (again (.compLoop node lvl it acc env)) (fun fin s' => match fin with
      | .done f => R (.ok f) s'
      | .again c' => c' = .compLoop node lvl it acc env ∧ ∃ m, m < n ∧ I m s') E s' := fun q => wpAny_pure ⟨rfl, q⟩
  refine wp_turnG (nof (wpAny_mono (turn n s hI) (fun r s1 h1 => ?_) fun _ _ z => z))
  match r, h1 with
  | none, h1 => exact h1
  | some v, h1 =>
    refine nof (wpAny_mono h1 (fun _ s2 h2 => nof (wpAny_mono h2 (fun _ s3 h3 => nof (wpAny_mono h3 (fun ok s4 h4 => ?_) fun _ _ z => z)) fun _ _ z => z)) fun _ _ z => z)
    cases ok with
    | false =>
      rw [if_neg (by decide)] at h4 ⊢
      exact agn h4
    | true =>
      rw [if_pos rfl] at h4 ⊢
      exact h4 _ _ _ fun s5 h5 => agn h5
end
/-- what a turn does, read: from slots and the heap to what the next turn wants; vs1: the slots that it forgets -/
structure PAc (Y : Cx) (act : Sem Fin → Sem Fin) (vs1 : List Nat) (ta : St → Hp → (Hp → Prop) → Prop) : Prop where
  run : ∀ (pins : List (Addr × Obj)) (s : Shared) (σ : St) (H : Hp) (Nx : Hp → Prop), Inv Y pins σ H s → ta σ H Nx → ∀ (Q : Fin → Shared → Prop) (E : Value → Shared → Prop) (k : Sem Fin), (∀ s' H', Inv Y pins (wipe σ vs1) H' s' → Nx H' → wpAny (model Y.prog Y.w) Y.A k Q E s') → wpAny (model Y.prog Y.w) Y.A (act k) Q E s
/-- a comprehension's reading: o0 D the thing at its start -/
def tCo (o0 : Addr → HO) (wi : TI) (g : TG) (tt : TT) (ta : Addr → St → Hp → (Hp → Prop) → Prop) (vs : List Nat) : TE := fun σ H Q => wi σ H fun J H1 => ∀ D, H1 D = none → ∃ W : Nat → Nat → Hp → Prop, (∃ m, W 0 m (upd H1 D (o0 D))) ∧ ∀ i m H, W i m H →
  (J.stop i H ∧ Q (.ref D) H) ∨ (J.go i H ∧ ∃ Nx : Hp → Prop, (∀ H', Nx H' → ∃ m', m' < m ∧ W (i + 1) m' H') ∧ ∀ x H', J.yld i H x H' → g x (wipe σ vs) H' fun σ2 H2 => wipe σ2 vs = wipe σ vs ∧ tt σ2 H2 fun b H3 => if b = true then ta D σ2 H3 Nx else Nx H3)
theorem wipe_back {σ σ2 : St} {vs vs1 : List Nat} (hw : wipe σ2 vs = wipe σ vs) (hv : ∀ i ∈ vs1, i ∈ vs) : ∀ (i : Nat) v, (wipe σ vs)[i]? = some (some v) → (wipe σ2 vs1)[i]? = some (some v) := fun i v e => by
  rw [← hw] at e
  obtain ⟨e1, e2⟩ := wipe_some e
  rw [wipe_out fun z => e2 (hv i z)]
  exact e1
section
variable {X : Cx} {pins : List (Addr × Obj)} {s : Shared} {σ : St} {H : Hp} {Q : VK}
/-- THE loop of the first clause, within the block -/
theorem co_loop {Y : Cx} {node tg : Expr} {ifs : List Expr} {p : Pos} {it D : Addr} {fp : List Addr} {tn : Nat → Heap → Prop} {J : It} {g : TG} {tt : TT} {ta : St → Hp → (Hp → Prop) → Prop} {vs vs1 : List Nat} {lvl : Nat} {act : Sem Fin → Sem Fin} {R : Result → Shared → Prop} {pn : List (Addr × Obj)} {H3 : Hp} {s4 : Shared} {Qe : Hp → Prop} {W : Nat → Nat → Hp → Prop} {m0 : Nat}
    (hc : Y.calm = true) (hxe : ∀ (e : Value) (s : Shared), Y.xe e s → False) (nl : NodeL Y.prog Y.w node lvl (.ref it) (.ref D) Y.env) (T : Turn Y.prog Y.w Y.K tg J fp it tn) (ht : compTurn node lvl (.ref it) (.ref D) Y.env = turnG p tg ifs (.ref it) Y.env act (again (.compLoop node lvl (.ref it) (.ref D) Y.env)))
    (pg : PG Y tg g) (pt : PTs Y ifs tt) (pa : PAc Y act vs1 ta) (hv : ∀ i ∈ vs1, i ∈ vs)
    (stat : ∀ {H' : Hp} {σ' : St} {s' : Shared}, Inv Y pn σ' H' s' → (∀ b ∈ fp, H' b = none) → ∀ b ∈ fp, FpOk Y pn H' b)
    (I4 : Inv Y pn (wipe σ vs) H3 s4) (st4 : tn 0 s4.heap) (nfp : ∀ b ∈ fp, H3 b = none) (w0 : W 0 m0 H3)
    (turn : ∀ i m H, W i m H → (J.stop i H ∧ Qe H) ∨ (J.go i H ∧ ∃ Nx : Hp → Prop, (∀ H', Nx H' → ∃ m', m' < m ∧ W (i + 1) m' H') ∧ ∀ x H', J.yld i H x H' → g x (wipe σ vs) H' fun σ2 H2 => wipe σ2 vs = wipe σ vs ∧ tt σ2 H2 fun b H3 => if b = true then ta σ2 H3 Nx else Nx H3))
    (fin : ∀ (s6 : Shared) (H6 : Hp), Inv Y pn (wipe σ vs) H6 s6 → Qe H6 → R (.ok .next) s6) :
    codeAny (model Y.prog Y.w) Y.A (.compLoop node lvl (.ref it) (.ref D) Y.env) R s4 := by
  refine loopG nl ht (fun n s' => ∃ i H', Inv Y pn (wipe σ vs) H' s' ∧ tn i s'.heap ∧ (∀ b ∈ fp, H' b = none) ∧ W i n H') ?_ m0 ⟨0, H3, I4, st4, nfp, w0⟩
  rintro n s5 ⟨i, H5, I5, st5, n5, w5⟩
  rcases turn i n H5 w5 with ⟨stop, qq⟩ | ⟨go, Nx, hNx, step⟩
  · refine wpAny_mono (T.done Y rfl rfl rfl hc i pn s5 _ H5 (fun _ _ => False) I5 (stat I5 n5) st5 stop) (fun r s6 ⟨hr, I6⟩ => ?_) fun _ _ z => z
    subst hr
    exact fin s6 H5 I6 qq
  · refine wpAny_mono (T.item Y rfl rfl rfl hc i pn s5 _ H5 (fun _ _ => False) I5 (stat I5 n5) st5 go) (fun r s6 ⟨u, hr, h6⟩ => ?_) fun _ _ z => z
    subst hr
    refine wpAny_mono h6 (fun _ s7 ⟨x, H7, I7, r7, y7, st7, n7⟩ => ?_) fun _ _ z => z
    have I7' := I7.pinned (stat I7 n7) (T.obj _ _ st7)
    have back : ∀ {s' : Shared} {H' : Hp} {σ' : St}, Inv Y (pn ++ pinsAt fp s7.heap) σ' H' s' → σ'.length = (wipe σ vs).length → (∀ (j : Nat) v, (wipe σ vs)[j]? = some (some v) → σ'[j]? = some (some v)) → Nx H' → ∃ m, m < n ∧ ∃ i H', Inv Y pn (wipe σ vs) H' s' ∧ tn i s'.heap ∧ (∀ b ∈ fp, H' b = none) ∧ W i m H' := fun {s' H' σ'} I' hl hk nx => by
      obtain ⟨m', lt, w'⟩ := hNx H' nx
      have still : ∀ b ∈ fp, ∀ o, s7.heap.get? b = some o → s'.heap.get? b = some o ∧ H' b = none := fun b hb o e =>
        ⟨(I'.pin (b, o) (List.mem_append_right _ (List.mem_append_right _ (mem_pinsAt hb e)))).1, (I'.pin (b, o) (List.mem_append_right _ (List.mem_append_right _ (mem_pinsAt hb e)))).2.1⟩
      refine ⟨m', lt, i + 1, H', I'.unpinned.weak hl.symm hk, T.keep _ _ _ st7 fun b hb o e => (still b hb o e).1, fun b hb => ?_, w'⟩
      obtain ⟨o, e, _⟩ := T.obj _ _ st7 b hb
      exact (still b hb o e).2
    refine wpAny_mono (pg.run _ s7 _ H7 x u _ I7' r7 (step x H7 y7)) (fun _ s8 ⟨σ8, H8, I8, hw8, q8⟩ => ?_) hxe
    have l8 : σ8.length = (wipe σ vs).length := by rw [← hw8, wipe_length]
    have k8 : ∀ (j : Nat) v, (wipe σ vs)[j]? = some (some v) → σ8[j]? = some (some v) := fun j v e => by
      rw [← hw8] at e
      exact (wipe_some e).1
    refine wpAny_mono (pt.run _ s8 σ8 H8 _ I8 q8) (fun ok s9 ⟨H9, I9, q9⟩ => ?_) hxe
    cases ok with
    | false =>
      rw [if_neg (by decide)] at q9 ⊢
      exact back I9 l8 k8 q9
    | true =>
      rw [if_pos rfl] at q9 ⊢
      exact fun Q E k hk => pa.run _ s9 σ8 H9 Nx I9 q9 Q E k fun s10 H10 I10 q10 => hk s10 (back I10 (by rw [wipe_length]; exact l8) (fun j v e => wipe_back hw8 hv j v e) q10)
/-- a sort of comprehension: what it makes at first, its turn, its start -/
structure Sort' (X : Cx) (node iter tg : Expr) (ifs : List Expr) (scope : Scope) (rest : List Comprehension) (newAcc : Sem Value) (ob : Obj) (o0 : Addr → HO) (act : Addr → PySem.Env → Sem Fin → Sem Fin) : Prop where
  cls : clausesOf node = ⟨tg, iter, ifs, 0⟩ :: rest
  evl : ∃ pos', eval node X.env = comprehension node scope X.env pos' newAcc false (eval iter X.env)
  new : ∀ {s : Shared} {Q E : Value → Shared → Prop}, Q (.ref s.heap.objs.size) { s with heap := s.heap.push ob } → wpAny (model X.prog X.w) X.A newAcc Q E s
  isO : ∀ (H : Hp) (h : Heap), sysModules < h.objs.size → ObjOk X.prog X.w H (h.push ob) h.objs.size (o0 h.objs.size)
  trn : ∀ (it D : Addr) (env : PySem.Env), compTurn node 0 (.ref it) (.ref D) env = turnG iter.pos tg ifs (.ref it) env (act D env) (again (.compLoop node 0 (.ref it) (.ref D) env))
  nod : ∀ (it D : Addr) (env : PySem.Env), NodeL X.prog X.w node 0 (.ref it) (.ref D) env
  sta : ∀ {it acc : Value} {env : PySem.Env} {R : Result → Shared → Prop} {s : Shared}, codeAny (model X.prog X.w) X.A (.compLoop node 0 it acc env) R s → (∀ (Q : Value → Shared → Prop) (E : Value → Shared → Prop), Q it s → wpAny (model X.prog X.w) X.A (pyIter it) Q E s) → codeAny (model X.prog X.w) X.A (.compStart node 0 it acc env) R s
  fol : ∀ x, foldedSetIterable iter X.env x = pure x
/-- a comprehension, whatever is done with it -/
theorem co_core {use : Option (Value → Sem Unit)} {Qf : Value → Shared → Prop} {pos' : Pos} {node iter tg : Expr} {ifs : List Expr} {scope : Scope} {rest : List Comprehension} {newAcc : Sem Value} {ob : Obj} {o0 : Addr → HO} {act : Addr → PySem.Env → Sem Fin → Sem Fin} {own : List (Str × Nat)} {vs1 : List Nat} {wi : TI} {g : TG} {tt : TT} {ta : Addr → St → Hp → (Hp → Prop) → Prop}
    (so : Sort' X node iter tg ifs scope rest newAcc ob o0 act) (hc : X.calm = true) (hN : X.N.Nodup) (hi : PI X tg iter wi) (ok : BlkOk X.N X.env.scope scope own) (hv : ∀ i ∈ vs1, i ∈ own.map (·.2))
    (hg : ∀ (s : Shared) (H : Hp) (C : Addr) (cl : List (Str × Addr)) (fp : List Addr), PG (X.blk s H scope (compEnvC scope cl C X.env) fp) tg g) (ht : ∀ (s : Shared) (H : Hp) (C : Addr) (cl : List (Str × Addr)) (fp : List Addr), PTs (X.blk s H scope (compEnvC scope cl C X.env) fp) ifs tt)
    (ha : ∀ (s : Shared) (H : Hp) (C : Addr) (cl : List (Str × Addr)) (fp : List Addr) (D : Addr), PAc (X.blk s H scope (compEnvC scope cl C X.env) fp) (act D (compEnvC scope cl C X.env)) vs1 (ta D))
    (I : Inv X pins σ H s) (h : tCo o0 wi g tt ta (own.map (·.2)) σ H Q)
    (hRR : ∀ D C s' m H', Inv X pins σ H' s' → Q (.ref D) H' → s'.heap.Ns C m → FpOk X pins H' C → compPost (model X.prog X.w) X.A X.xe use Qf (.ref D) C (.ok .next) s') :
    wpAny (model X.prog X.w) X.A (comprehension node scope X.env pos' newAcc false (eval iter X.env) use) Qf X.xe s := by
  have free : ∀ y ∈ scope.names, y.2 = .free → ∃ c, X.env.cells.lookup y.1 = some c := fun y hy e => (ok.free y hy e).elim (fun z => I.ok.has _ (.inl z)) fun z => I.ok.has _ (.inr z)
  refine wpAny_comprehension_free (use := use) so.cls so.fol (closure_ok free) ok.kind (fun y hy e => by rw [ok.uniq y hy, e]) (thn (hi.run pins s σ H _ I h) fun xv s1 hx => thn hx fun itv s2 h2 => ?_)
  obtain ⟨it, fp, tn, J, H2, rfl, I2, T, st2, f2, q⟩ := h2
  refine so.new (newEnv_comp ?_)
  have hDn : H2 s2.heap.objs.size = none := I2.hok.fresh (Nat.le_refl _)
  obtain ⟨W, ⟨m0, w0⟩, turn⟩ := q _ hDn
  have I3 : Inv X pins σ (upd H2 s2.heap.objs.size (o0 s2.heap.objs.size)) { s2 with heap := s2.heap.push ob } := I2.laid (t' := s2.toks) (fun b o e => Heap.get?_push_of_some _ e) (Nat.le_refl _) (so.isO _ _ I2.big)
  have there : ∀ b ∈ fp, b < s2.heap.objs.size := fun b hb => let ⟨_, e, _⟩ := T.obj _ _ st2 b hb; Heap.lt_size e
  have f3 : ∀ b ∈ fp, FpOk X pins (upd H2 s2.heap.objs.size (o0 s2.heap.objs.size)) b ∧ b < (s2.heap.push ob).objs.size := fun b hb =>
    ⟨⟨by rw [upd_ne (Nat.ne_of_lt (there b hb))]; exact (f2 b hb).1, (f2 b hb).2⟩, by rw [Heap.size_push]; exact Nat.lt_succ_of_lt (there b hb)⟩
  have st3 : tn 0 (s2.heap.push ob) := T.keep _ _ _ st2 fun b _ o e => Heap.get?_push_of_some _ e
  revert I3 f3 st3
  generalize hs3 : ({ s2 with heap := s2.heap.push ob } : Shared) = s3
  have e3 : s2.heap.push ob = s3.heap := by rw [← hs3]
  rw [e3]
  generalize upd H2 s2.heap.objs.size (o0 s2.heap.objs.size) = H3 at w0 ⊢
  intro I3 f3 st3
  have I4 := block_start I3 ok hN f3
  have pg := hg s3 H3 s3.heap.objs.size (cellsFrom (s3.heap.objs.size + 1) scope.names (cloFrom X.env.cells scope.names [])) fp
  have pt := ht s3 H3 s3.heap.objs.size (cellsFrom (s3.heap.objs.size + 1) scope.names (cloFrom X.env.cells scope.names [])) fp
  have pa := ha s3 H3 s3.heap.objs.size (cellsFrom (s3.heap.objs.size + 1) scope.names (cloFrom X.env.cells scope.names [])) fp s2.heap.objs.size
  show codeAny _ _ (.compStart node 0 (.ref it) (.ref s2.heap.objs.size) (compEnvC scope (cellsFrom (s3.heap.objs.size + 1) scope.names (cloFrom X.env.cells scope.names [])) s3.heap.objs.size X.env)) (compPost (model X.prog X.w) X.A X.xe use Qf (.ref s2.heap.objs.size) s3.heap.objs.size) { s3 with heap := pushCells (s3.heap.push { cls := .type "dict", data := .dict #[] }) scope.names }
  have cL : (compEnvC scope (cellsFrom (s3.heap.objs.size + 1) scope.names (cloFrom X.env.cells scope.names [])) s3.heap.objs.size X.env).locals = s3.heap.objs.size := rfl
  revert I4 pg pt pa cL
  generalize compEnvC scope (cellsFrom (s3.heap.objs.size + 1) scope.names (cloFrom X.env.cells scope.names [])) s3.heap.objs.size X.env = ce
  generalize hs4 : ({ s3 with heap := pushCells (s3.heap.push { cls := .type "dict", data := .dict #[] }) scope.names } : Shared) = s4
  intro I4 pg pt pa cL
  have st4 : tn 0 s4.heap := T.keep _ _ _ st3 fun b _ o e => by rw [← hs4]; exact pushCells_keeps _ _ _ _ (Heap.get?_push_of_some _ e)
  have loop := co_loop (Y := X.blk s3 H3 scope ce fp) (node := node) (lvl := 0) (D := s2.heap.objs.size) (σ := σ) (R := compPost (model X.prog X.w) X.A X.xe use Qf (.ref s2.heap.objs.size) s3.heap.objs.size) hc (fun _ _ z => z) (so.nod it s2.heap.objs.size ce) T (so.trn it s2.heap.objs.size ce) pg pt pa hv
    (fun {H' σ' s'} I' hn b hb => ⟨hn b hb, (I'.ok.exf b hb).1, I'.ok.exfs b hb, .inl hb, fun x c e => (I'.ok.exf b hb).2 x c e, fun p hp => absurd (show p ∈ ([] : List (Addr × Obj)) ++ [] from hp) (by simp)⟩)
    I4 st4 (fun b hb => (f3 b hb).1.1) w0 turn fun s6 H6 I6 qq => by
      have I7 : Inv X pins σ H6 s6 := I3.call' (ch := fp) I6.os I6.base I6.hok I6.bare fun b hb => ⟨(f3 b hb).1.2.2.2.1, (f3 b hb).1.2.1, (f3 b hb).1.2.2.2.2.1, (f3 b hb).1.2.2.2.2.2⟩
      have nC : H6 s3.heap.objs.size = none := by
        have z : H6 ce.locals = none := I6.free
        rwa [cL] at z
      obtain ⟨m, hn, _⟩ := I6.loc
      have hn : s6.heap.Ns ce.locals m := hn
      rw [cL] at hn
      exact hRR _ _ s6 m H6 I7 qq hn (I3.fpOk (Nat.le_refl _) nC)
  exact so.sta loop fun Q E q => T.self X.A 0 _ _ _ st4 q
/-- a comprehension as a value -/
theorem pe_co {node iter tg : Expr} {ifs : List Expr} {scope : Scope} {rest : List Comprehension} {newAcc : Sem Value} {ob : Obj} {o0 : Addr → HO} {act : Addr → PySem.Env → Sem Fin → Sem Fin} {own : List (Str × Nat)} {vs1 : List Nat} {wi : TI} {g : TG} {tt : TT} {ta : Addr → St → Hp → (Hp → Prop) → Prop}
    (so : Sort' X node iter tg ifs scope rest newAcc ob o0 act) (hc : X.calm = true) (hN : X.N.Nodup) (hi : PI X tg iter wi) (ok : BlkOk X.N X.env.scope scope own) (hv : ∀ i ∈ vs1, i ∈ own.map (·.2))
    (hg : ∀ (s : Shared) (H : Hp) (C : Addr) (cl : List (Str × Addr)) (fp : List Addr), PG (X.blk s H scope (compEnvC scope cl C X.env) fp) tg g) (ht : ∀ (s : Shared) (H : Hp) (C : Addr) (cl : List (Str × Addr)) (fp : List Addr), PTs (X.blk s H scope (compEnvC scope cl C X.env) fp) ifs tt)
    (ha : ∀ (s : Shared) (H : Hp) (C : Addr) (cl : List (Str × Addr)) (fp : List Addr) (D : Addr), PAc (X.blk s H scope (compEnvC scope cl C X.env) fp) (act D (compEnvC scope cl C X.env)) vs1 (ta D)) :
    PE X node (tCo o0 wi g tt ta (own.map (·.2))) := by
  refine ⟨fun pins s σ H Q I h => ?_⟩
  obtain ⟨pos', he⟩ := so.evl
  rw [he]
  refine co_core so hc hN hi ok hv hg ht ha I h fun D C s' m H' I' q hn f => ⟨m, hn, fun h'' sb => ?_⟩
  obtain ⟨y0, y1, y2, y3, y4, y5⟩ := f
  exact ⟨.ref D, H', I'.turned (t' := s'.toks) (fun b o hb e => (sb.2 b hb).trans e) y0 y1 y3 y4 y5, rfl, q⟩
/-- name = comprehension on one line, the name a local -/
theorem ps_setCo {i : Nat} {y : Str} {py spos : Pos} {node iter tg : Expr} {ifs : List Expr} {scope : Scope} {rest : List Comprehension} {newAcc : Sem Value} {ob : Obj} {o0 : Addr → HO} {act : Addr → PySem.Env → Sem Fin → Sem Fin} {own : List (Str × Nat)} {vs1 : List Nat} {wi : TI} {g : TG} {tt : TT} {ta : Addr → St → Hp → (Hp → Prop) → Prop}
    (so : Sort' X node iter tg ifs scope rest newAcc ob o0 act) (hc : X.calm = true) (hN : X.N.Nodup) (hi : PI X tg iter wi) (ok : BlkOk X.N X.env.scope scope own) (hv : ∀ i ∈ vs1, i ∈ own.map (·.2))
    (hg : ∀ (s : Shared) (H : Hp) (C : Addr) (cl : List (Str × Addr)) (fp : List Addr), PG (X.blk s H scope (compEnvC scope cl C X.env) fp) tg g) (ht : ∀ (s : Shared) (H : Hp) (C : Addr) (cl : List (Str × Addr)) (fp : List Addr), PTs (X.blk s H scope (compEnvC scope cl C X.env) fp) ifs tt)
    (ha : ∀ (s : Shared) (H : Hp) (C : Addr) (cl : List (Str × Addr)) (fp : List Addr) (D : Addr), PAc (X.blk s H scope (compEnvC scope cl C X.env) fp) (act D (compEnvC scope cl C X.env)) vs1 (ta D))
    (hy : X.N[i]? = some y) (hyl : X.env.scope.names.lookup y = some .local) (hsw : swapsWith node (some (.Name y py)) spos.line X.env = pure true)
    (hus : ∃ pos', ∀ use, evalThenUse node X.env use = (comprehension node scope X.env pos' newAcc false (eval iter X.env) (some use) >>= fun _ => pure ())) :
    PS X (.Assign [.Name y py] node spos) (tAsg (tCo o0 wi g tt ta (own.map (·.2))) (gName i)) := by
  refine ⟨fun pins s σ H D I h => ?_⟩
  obtain ⟨pos', hu⟩ := hus
  rw [exec_Assign_Name_used _ _ _ _ hsw, hu]
  have h : tCo o0 wi g tt ta (own.map (·.2)) σ H (fun x H1 => gName i x σ H1 D.nx) := h
  refine wpAny_bind (wpAny_standAt (wpAny_bind (wpAny_bind (thn (co_core (Qf := fun _ s' => SP X pins D .next s') so hc hN hi ok hv hg ht ha I h fun L C s' m H' I' q hn f => ?_) fun _ s' hq => wpAny_pure (wpAny_pure hq)))))
  refine (wpAny_assign_Name (store_ok2 (v := V.ref L) I' hN hy (.inl hyl) rfl (fun s2 I2 ⟨a, sb, ha⟩ => ?_) (.inr hyl)) : wpAny _ _ (assign (.Name y py) X.env (.ref L)) _ _ _)
  obtain ⟨f0, f1, f2, f3, f4, f5⟩ := f
  have ne : C ≠ a := ha.elim (fun z => by rw [z]; exact f1) fun z e => f4 y a z e.symm
  exact ⟨m, hn.sameBut sb ne, fun h3 sb3 => ⟨_, H', I2.turned (t' := s2.toks) (fun b o hb e => (sb3.2 b hb).trans e) f0 f1 f3 f4 f5, q⟩⟩
end
/-- the second clause as what a turn of the first does -/
def actIn (node i1 : Expr) (D : Addr) (env : PySem.Env) (k : Sem Fin) : Sem Fin := do
  let x ← eval i1 env
  standAt i1.pos
  let x ← foldedSetIterable i1 env x
  let _ ← runOwn (.compStart node 1 (← holding [x] (pyIter x)) (.ref D) env) env
  k
def taIn (wi1 : TI) (g1 : TG) (tt1 : TT) (vs1 : List Nat) (ta1 : Addr → St → Hp → (Hp → Prop) → Prop) : Addr → St → Hp → (Hp → Prop) → Prop := fun D σ H Nx => wi1 σ H fun J1 H4 => ∃ W1 : Nat → Nat → Hp → Prop, (∃ m, W1 0 m H4) ∧ ∀ j k H, W1 j k H →
  (J1.stop j H ∧ Nx H) ∨ (J1.go j H ∧ ∃ Nx1 : Hp → Prop, (∀ H', Nx1 H' → ∃ k', k' < k ∧ W1 (j + 1) k' H') ∧ ∀ x H', J1.yld j H x H' → g1 x (wipe σ vs1) H' fun σ3 H5 => wipe σ3 vs1 = wipe σ vs1 ∧ tt1 σ3 H5 fun b H6 => if b = true then ta1 D σ3 H6 Nx1 else Nx1 H6)
structure Sort2 (prog : Program) (w : World) (A : Around) (node i1 t1 : Expr) (ifs1 : List Expr) (act1 : Addr → PySem.Env → Sem Fin → Sem Fin) : Prop where
  trn : ∀ (it D : Addr) (env : PySem.Env), compTurn node 1 (.ref it) (.ref D) env = turnG i1.pos t1 ifs1 (.ref it) env (act1 D env) (again (.compLoop node 1 (.ref it) (.ref D) env))
  nod : ∀ (it D : Addr) (env : PySem.Env), NodeL prog w node 1 (.ref it) (.ref D) env
  sta : ∀ {it acc : Value} {env : PySem.Env} {R : Result → Shared → Prop} {s : Shared}, codeAny (model prog w) A (.compLoop node 1 it acc env) R s → (∀ (Q : Value → Shared → Prop) (E : Value → Shared → Prop), Q it s → wpAny (model prog w) A (pyIter it) Q E s) → codeAny (model prog w) A (.compStart node 1 it acc env) R s
  fol : ∀ (env : PySem.Env) x, foldedSetIterable i1 env x = pure x
theorem pac_in {Y : Cx} {node i1 t1 : Expr} {ifs1 : List Expr} {act1 : Addr → PySem.Env → Sem Fin → Sem Fin} {D : Addr} {wi1 : TI} {g1 : TG} {tt1 : TT} {vs1 : List Nat} {ta1 : Addr → St → Hp → (Hp → Prop) → Prop} (so : Sort2 Y.prog Y.w Y.A node i1 t1 ifs1 act1) (hc : Y.calm = true) (hxe : ∀ (e : Value) (s : Shared), Y.xe e s → False)
    (hi1 : PI Y t1 i1 wi1) (hg1 : PG Y t1 g1) (ht1 : PTs Y ifs1 tt1) (pa1 : PAc Y (act1 D Y.env) [] (ta1 D)) : PAc Y (actIn node i1 D Y.env) vs1 (taIn wi1 g1 tt1 vs1 ta1 D) := by
  refine ⟨fun pins s σ H Nx I h Qk Ek k hk => ?_⟩
  unfold actIn
  have hx0 : ∀ (e : Value) (s : Shared), Y.xe e s → Ek e s := fun e s z => (hxe e s z).elim
  refine wpAny_bind (wpAny_mono (hi1.run pins s σ H _ I h) (fun xv s1 hx => ?_) hx0)
  refine wpAny_bind (wpAny_standAt (wpAny_bind (wpAny_of_eq (so.fol Y.env xv) (wpAny_bind (wpAny_holding (wpAny_mono hx (fun itv s2 h2 => ?_) hx0))))))
  obtain ⟨it, fp, tn, J, H2, rfl, I2, T, st2, f2, W, ⟨m0, w0⟩, turn⟩ := h2
  refine wpAny_bind (wpAny_runOwn ?_)
  rw [Around.mark_none]
  have I4 : Inv Y pins (wipe σ vs1) H2 s2 := I2.weak (wipe_length _ _) fun j v e => (wipe_some e).1
  have loop := co_loop (Y := Y) (node := node) (lvl := 1) (D := D) (σ := σ) (vs := vs1) (R := fun r s' => match r with
      | .ok _ => ∃ H', Inv Y pins (wipe σ vs1) H' s' ∧ Nx H'
      | .error _ => False) hc hxe (so.nod it D Y.env) T (so.trn it D Y.env) hg1 ht1 pa1 (fun _ z => by cases z) (fun {H' σ' s'} _ hn b hb => ⟨hn b hb, (f2 b hb).2⟩) I4 st2 (fun b hb => (f2 b hb).1) w0 turn fun s6 H6 I6 qq => ⟨H6, I6, qq⟩
  refine codeAny_mono (so.sta loop fun Q E q => T.self Y.A 0 _ _ _ st2 q) fun r s' hr => ?_
  match r, hr with
  | .ok f, ⟨H', I', q'⟩ => exact hk s' H' I' q'
  | .error e, hr => exact hr.elim
end L2.DL
/-! Sets of ints by two clauses; dicts with any keys by one -/
namespace L2.DL
open L2 L2.My PySem PySem.Spec PyProof.Rows

section
variable {prog : Program} {w : World} {A : Around} {R : Result → Shared → Prop} {s : Shared} {env : PySem.Env} {it acc : Value}
/-- a clause's start, whatever is made -/
theorem start_any {node : Expr} {lvl : Nat} {c : Comprehension} (hc : (clausesOf node)[lvl]? = some c) (ha : (c.is_async != 0) = false) (hu : A.under (.compStart node lvl it acc env) = A) (hq : (Code.compLoop node lvl it acc env).quiet = true)
    (hd : (model prog w).den (.compStart node lvl it acc env) = (compStart node lvl it acc env).onRaise fun x => do noteFrame x env; standAt theWindowsPlace)
    (h : codeAny (model prog w) A (.compLoop node lvl it acc env) R s) (hi : ∀ (Q : Value → Shared → Prop) (E : Value → Shared → Prop), Q it s → wpAny (model prog w) A (pyIter it) Q E s) :
    codeAny (model prog w) A (.compStart node lvl it acc env) R s := by
  refine codeAny_of_tree ?_
  rw [hu, hd]
  refine wpAny_notedAt ?_
  unfold compStart
  rw [hc]
  simp only [Option.elim_some, ha, Bool.false_eq_true, if_false]
  refine wpAny_bind (wpAny_askSetting (wpAny_ite ?_))
  split
  · first
      | exact wpAny_bind (wpAny_pure (wpAny_pure ⟨hq, h⟩))
      | exact wpAny_pure ⟨hq, h⟩
  · refine wpAny_bind (wpAny_rule ?_)
    first
      | exact wpAny_bind (wpAny_standAt (wpAny_bind (hi _ _ (wpAny_pure ⟨hq, h⟩))))
      | (show wpAny _ _ (standAt c.iter.pos >>= _) _ _ s; exact wpAny_bind (wpAny_standAt (wpAny_bind (hi _ _ (wpAny_pure ⟨hq, h⟩)))))
end
/-! ### sets -/
def actAdd (elt : Expr) (D : Addr) (env : PySem.Env) (k : Sem Fin) : Sem Fin := do
  (do let v ← eval elt env; standAt elt.pos; let _ ← call (.builtin "set.add") [.ref D, v])
  k
def taAdd (r : V → List V → Hp → VK → Prop) (te : TE) : Addr → St → Hp → (Hp → Prop) → Prop := fun D σ H Nx => te σ H fun y H1 => r (.ref D) [y] H1 fun _ H2 => Nx H2
theorem pac_add {Y : Cx} {elt : Expr} {te : TE} {r : V → List V → Hp → VK → Prop} {D : Addr} (hxe : ∀ (e : Value) (s : Shared), Y.xe e s → False) (hm : MtR Y "set.add" r) (he : PE Y elt te) : PAc Y (actAdd elt D Y.env) [] (taAdd r te D) := by
  refine ⟨fun pins s σ H Nx I h Qk Ek k hk => ?_⟩
  have hx0 : ∀ (e : Value) (s : Shared), Y.xe e s → Ek e s := fun e s z => (hxe e s z).elim
  unfold actAdd
  refine wpAny_bind (wpAny_bind (wpAny_mono (he.run pins s σ H _ I h) (fun u s1 ⟨y, H1, I1, r1, q1⟩ => ?_) hx0))
  refine wpAny_bind (wpAny_standAt (wpAny_bind (wpAny_mono (hm pins s1 σ H1 (.ref D) [y] (.ref D) [u] _ I1 rfl (.cons r1 .nil) q1) (fun _ s2 ⟨_, H2, I2, _, q2⟩ => ?_) hx0)))
  exact wpAny_pure (hk s2 H2 I2 q2)
def newSetO (w : World) : Obj := { cls := .type "set", dict := none, data := .set #[] 0 (.fresh 0 0 (!w.params.followText "set-order")) }
section
variable {X : Cx} {elt tg iter t1 i1 : Expr} {ifs ifs1 : List Expr} {scope : Scope} {pos : Pos}
theorem sort_set2 {r : V → List V → Hp → VK → Prop} {o0 : Addr → HO} (ho : ∀ (H : Hp) (h : Heap), ObjOk X.prog X.w H (h.push (newSetO X.w)) h.objs.size (o0 h.objs.size)) (hs : ∀ x, foldedSetIterable iter X.env x = pure x) :
    Sort' X (.SetComp elt [⟨tg, iter, ifs, 0⟩, ⟨t1, i1, ifs1, 0⟩] scope pos) iter tg ifs scope [⟨t1, i1, ifs1, 0⟩] (newSet (.type "set")) (newSetO X.w) o0 (actIn (.SetComp elt [⟨tg, iter, ifs, 0⟩, ⟨t1, i1, ifs1, 0⟩] scope pos) i1) where
  cls := rfl
  evl := ⟨_, rfl⟩
  new := fun h => PpSet.newSet_ok h
  isO := fun H h _ => ho H h
  trn := fun it D env => rfl
  nod := fun it D env => ⟨fun _ => rfl, rfl, rfl⟩
  sta := fun h hi => start_any rfl rfl rfl rfl rfl h hi
  fol := hs
theorem sort_set2' {prog : Program} {w : World} {A : Around} (hs : ∀ env x, foldedSetIterable i1 env x = pure x) : Sort2 prog w A (.SetComp elt [⟨tg, iter, ifs, 0⟩, ⟨t1, i1, ifs1, 0⟩] scope pos) i1 t1 ifs1 (actAdd elt) where
  trn := fun it D env => rfl
  nod := fun it D env => ⟨fun _ => rfl, rfl, rfl⟩
  sta := fun h hi => start_any rfl rfl rfl rfl rfl h hi
  fol := hs
theorem sort_set1 {o0 : Addr → HO} (ho : ∀ (H : Hp) (h : Heap), ObjOk X.prog X.w H (h.push (newSetO X.w)) h.objs.size (o0 h.objs.size)) (hs : ∀ x, foldedSetIterable iter X.env x = pure x) :
    Sort' X (.SetComp elt [⟨tg, iter, ifs, 0⟩] scope pos) iter tg ifs scope [] (newSet (.type "set")) (newSetO X.w) o0 (actAdd elt) where
  cls := rfl
  evl := ⟨_, rfl⟩
  new := fun h => PpSet.newSet_ok h
  isO := fun H h _ => ho H h
  trn := fun it D env => rfl
  nod := fun it D env => ⟨fun _ => rfl, rfl, rfl⟩
  sta := fun h hi => start_any rfl rfl rfl rfl rfl h hi
  fol := hs
abbrev oSet0 (w : World) (D : Addr) : HO := SetO w D (fun _ => false) 0
/-- {elt for tg in iter if .. for t1 in i1 if ..} of ints -/
theorem pe_set2 {own : List (Str × Nat)} {vs1 : List Nat} {wi wi1 : TI} {g g1 : TG} {tt tt1 : TT} {te : TE} (hc : X.calm = true) (hN : X.N.Nodup) (hi : PI X tg iter wi) (ok : BlkOk X.N X.env.scope scope own) (hv : ∀ i ∈ vs1, i ∈ own.map (·.2))
    (hg : ∀ (s : Shared) (H : Hp) (C : Addr) (cl : List (Str × Addr)) (fp : List Addr), PG (X.blk s H scope (compEnvC scope cl C X.env) fp) tg g) (ht : ∀ (s : Shared) (H : Hp) (C : Addr) (cl : List (Str × Addr)) (fp : List Addr), PTs (X.blk s H scope (compEnvC scope cl C X.env) fp) ifs tt)
    (he : ∀ (s : Shared) (H : Hp) (C : Addr) (cl : List (Str × Addr)) (fp : List Addr), PE (X.blk s H scope (compEnvC scope cl C X.env) fp) elt te)
    (hi1 : ∀ (s : Shared) (H : Hp) (C : Addr) (cl : List (Str × Addr)) (fp : List Addr), PI (X.blk s H scope (compEnvC scope cl C X.env) fp) t1 i1 wi1)
    (hg1 : ∀ (s : Shared) (H : Hp) (C : Addr) (cl : List (Str × Addr)) (fp : List Addr), PG (X.blk s H scope (compEnvC scope cl C X.env) fp) t1 g1) (ht1 : ∀ (s : Shared) (H : Hp) (C : Addr) (cl : List (Str × Addr)) (fp : List Addr), PTs (X.blk s H scope (compEnvC scope cl C X.env) fp) ifs1 tt1)
    (hs : ∀ x, foldedSetIterable iter X.env x = pure x := by intro _; rfl) (hs1 : ∀ env x, foldedSetIterable i1 env x = pure x := by intro _ _; rfl) :
    PE X (.SetComp elt [⟨tg, iter, ifs, 0⟩, ⟨t1, i1, ifs1, 0⟩] scope pos) (tCo (oSet0 X.w) wi g tt (taIn wi1 g1 tt1 vs1 (taAdd (rSAdd X.w) te)) (own.map (·.2))) :=
  pe_co (sort_set2 (r := rSAdd X.w) (fun _ _ => setO_new (setR_fresh X.w)) hs) hc hN hi ok hv hg ht fun s H C cl fp D =>
    pac_in (Y := X.blk s H scope (compEnvC scope cl C X.env) fp) (sort_set2' hs1) hc (fun _ _ z => z) (hi1 s H C cl fp) (hg1 s H C cl fp) (ht1 s H C cl fp) (pac_add (fun _ _ z => z) mt_sadd (he s H C cl fp))
end
end L2.DL
/-! set(list of ints), sorted(set(..)) over data -/
namespace L2.DL
open L2 L2.My PySem PySem.Spec PyProof.Rows
section
variable {P : Program} {w : World} {A : Around} {E : Value → Shared → Prop} {s : Shared}
theorem set_get (h : Heap) : (h.push (newSetO w)).get? h.objs.size = some (newSetO w) := Heap.get?_push_size _ rfl
/-- set(l): l a list of ints -/
theorem set_of_ints {l : Addr} {its : Array Value} (ns : List Int) {Q : Value → Shared → Prop} (calm : A.handled = none) (isl : s.heap.IsList l its) (hints : IntsAre its.toList ns) (few : ns.length + 1 < scanBound)
    (k : ∀ (g : Heap) (tk c : Nat), SetR w g s.heap.objs.size (fun j => decide (j ∈ ns)) c → c ≤ ns.length → (∀ b o, s.heap.get? b = some o → g.get? b = some o) → Q (.ref s.heap.objs.size) { s with heap := g, toks := tk }) :
    wpAny (model P w) A (call (.type "set") [.ref l]) Q E s := by
  have zl : its.size = ns.length := by rw [← Array.length_toList]; exact IntsAre.length hints
  obtain ⟨mc, mt, mmro⟩ := F.called_set.mro
  have m1 := F.called_set.made
  have m2 := F.called_set.sub
  have m3 := F.called_set.notType
  have m4 := F.called_set.canCreate
  have m5 := F.typeCall_set_1 (.ref l)
  refine wpAny_call (codeAny_of_tree (show wpAny _ _ (callAny (.type "set") _) _ _ _ from wpAny_pure ⟨Code.quiet_builtin _ (by decide +kernel), codeAny_builtin F.entry_type_call ?_⟩))
  rw [Around.under_plain (weight_type_call_type "set" [.ref l] []) rfl]
  repeat (any_goals (first | assumption | wp_step))
  refine codeAny_mono (code_set_led1 (.ref l) (E := E) (Q₁ := fun z s₁ => z = .ref s.heap.objs.size ∧ s₁ = { s with heap := s.heap.push (newSetO w) }) ⟨rfl, rfl⟩) fun r s₁ hr => ?_
  match r, hr with
  | .error e, hr => exact hr
  | .ok (.ret z), ⟨ez, es⟩ =>
    subst ez es
    have isS : Shared.TypeIs { s with heap := s.heap.push (newSetO w) } (.ref s.heap.objs.size) "set" := ⟨_, set_get s.heap, rfl⟩
    have b1 := F.called_set.init.lookup
    have b2 := F.called_set.init.bind (.ref s.heap.objs.size)
    repeat (any_goals (first | assumption | wp_step))
    refine codeAny_mono (codeAny_call_builtin (R := wants (fun r s₂ => r = .none ∧ ∃ g tk c, s₂ = { s with heap := g, toks := tk } ∧ SetR w g s.heap.objs.size (fun j => decide (j ∈ ns)) c ∧ c ≤ ns.length ∧ (∀ b o, s.heap.get? b = some o → g.get? b = some o)) E) F.called_set.init.plain F.entry_set_init (check_set_init_1 isS ?_)) fun r₂ s₂ hr₂ => ?_
    · obtain ⟨⟨oc, od, oda, osl⟩, got, hc, n, hd⟩ := isl
      simp only at hc hd
      subst hc hd
      have got1 : (s.heap.push (newSetO w)).get? l = some { cls := .type "list", dict := od, data := .seq its n, slots := osl } := Heap.get?_push_of_some _ got
      have isl1 : (s.heap.push (newSetO w)).IsList l its := ⟨_, got1, rfl, n, rfl⟩
      have f1 := F.sub_list_set
      have f2 := F.sub_list_frozenset
      have f3 : (Value.type "list" == Value.type "dict") = false := by decide
      unfold Builtin.«set.__init__» noKeywords Builtin.Frozenset.updateFrom
      generalize hp : pyIter = PI
      wp_walk
      subst hp
      refine wpAny_pyIter_list isl1 (wpAny_bind (wpAny_runValue ?_))
      have lt : l < s.heap.objs.size := Heap.lt_size got
      have z1 : (s.heap.push (newSetO w)).objs.size = s.heap.objs.size + 1 := Heap.size_push ..
      have neI : l ≠ (s.heap.push (newSetO w)).objs.size := by
        rw [z1]
        exact Nat.ne_of_lt (Nat.lt_succ_of_lt lt)
      have notin : s.heap.objs.size ∉ [(s.heap.push (newSetO w)).objs.size, l] := by
        rw [z1]
        intro q
        rcases List.mem_cons.mp q with q | q
        · exact absurd q (Nat.ne_of_lt (Nat.lt_succ_self _))
        · exact absurd (List.mem_singleton.mp q) (Nat.ne_of_gt lt)
      have val : ∀ (i : Nat) (v : Value), its[i]? = some v → ∃ k t, ns[i]? = some k ∧ v = .int k t := fun i v hv => by
        have li : i < ns.length := zl ▸ (Array.getElem?_eq_some_iff.mp hv).1
        obtain ⟨t, e⟩ := PyProof.Rows.IntsAre.int_at hints i v (by rw [Array.getElem?_toList]; exact hv)
        exact ⟨ns[i], t, List.getElem?_eq_getElem li, by rw [e, List.getD_eq_getElem?_getD, List.getElem?_eq_getElem li]; rfl⟩
      refine set_update_ints ((Walks.list (by simp [calm] : A.in1.in1.in1.handled = none) _ l neI its).toS) s.heap.objs.size notin ns zl few val (its.size - 0) 0 _ (by omega) (Nat.zero_le _)
        ⟨⟨_, Heap.get?_push_size _ rfl, rfl, rfl⟩, isl1.push _⟩ ⟨0, Nat.le_refl 0, setR_new_at (Heap.get?_push_of_some _ (set_get s.heap))⟩ fun s' c' hm hc' hS' => ?_
      obtain ⟨g, g2, d', tk', os'⟩ := s'
      have eg : g2 = s.gens := hm.gens
      have ed : d' = s.drawn := hm.drawn
      have eo : os' = s.os := hm.os
      subst eg ed eo
      refine wpAny_pure (show wpAny _ _ (ret Value.none) _ _ _ from wpAny_pure ⟨rfl, g, tk', c', rfl, hS', by omega, fun b o e => ?_⟩)
      have b0 : b < s.heap.objs.size := Heap.lt_size e
      refine hm.heap b o (fun q => ?_) (Heap.get?_push_of_some _ (Heap.get?_push_of_some _ e))
      rcases List.mem_cons.mp q with q | q
      · exact absurd q (Nat.ne_of_lt b0)
      · rw [List.mem_singleton.mp q, z1] at b0
        exact absurd b0 (Nat.not_lt.mpr (Nat.le_succ _))
    · match r₂, hr₂ with
      | .error e, hr₂ => exact hr₂
      | .ok (.ret r), ⟨e1, g, tk, c', e2, hS', hc', hk'⟩ =>
        subst e1 e2
        repeat (any_goals (first | assumption | wp_step))
        exact k _ _ _ hS' hc' hk'
end
section
variable {X : Cx}
/-- set(xs), xs a list of ints -/
def rSetOfI (K : PySem.W.Frag) (w : World) : List V → Hp → VK → Prop := fun xs H Q => ∃ (l : Addr) (ns : List Int), xs = [V.ref l] ∧ SqL K H l (ns.map V.int) ∧ ns.length < 64 ∧ ∀ a c, H a = none → c ≤ ns.length → Q (.ref a) (upd H a (SetO w a (fun j => decide (j ∈ ns)) c))
theorem cr_setOfI (hc : X.calm = true) : CallR X (.type "set") (rSetOfI X.K X.w) := by
  intro pins s σ H xs us Q I r h
  obtain ⟨l, ns, rfl, hl, hf, q⟩ := h
  rw [Vals.ref1 r]
  obtain ⟨its, rv, pl, hz⟩ := I.list hl
  have hn : H s.heap.objs.size = none := I.hok.fresh (Nat.le_refl _)
  refine set_of_ints (P := X.prog) (w := X.w) ns (I.ok.hd hc) pl.isList (by simpa using rv.ints) (by unfold scanBound; omega) fun g tk c R hc' k => ?_
  exact ⟨.ref s.heap.objs.size, upd H s.heap.objs.size (SetO X.w s.heap.objs.size (fun j => decide (j ∈ ns)) c), I.laid (t' := tk) k (Nat.le_refl _) (setO_new R), rfl, q _ c hn hc'⟩
end
end L2.DL
/-! sorted(set(..)) over data: ints, pairs -/
namespace L2.DL
open L2 L2.My PySem PySem.Spec PyProof.Rows
/-! ### sorting by a key, twins out -/
section
variable {α : Type} (κ : α → Int)
def insK (x : α) : List α → List α
  | [] => [x]
  | y :: r => if κ x < κ y then x :: y :: r else if κ x = κ y then y :: r else y :: insK x r
def sortK : List α → List α
  | [] => []
  | x :: r => insK κ x (sortK r)
variable {κ}
abbrev Asc (κ : α → Int) (l : List α) : Prop := l.Pairwise fun a b => κ a < κ b
theorem insK_sub {x : α} : ∀ {l : List α} {y : α}, y ∈ insK κ x l → y = x ∨ y ∈ l
  | [], y, h => by unfold insK at h; simp at h; exact .inl h
  | z :: r, y, h => by
    unfold insK at h
    split at h
    · rcases List.mem_cons.mp h with h | h
      · exact .inl h
      · exact .inr h
    · split at h
      · exact .inr h
      · rcases List.mem_cons.mp h with h | h
        · exact .inr (by rw [h]; exact List.mem_cons_self)
        · exact (insK_sub h).imp id fun q => List.mem_cons_of_mem _ q
theorem insK_asc {x : α} : ∀ {l : List α}, Asc κ l → Asc κ (insK κ x l)
  | [], _ => by unfold insK; exact List.pairwise_singleton _ _
  | z :: r, h => by
    unfold insK
    have hz : ∀ {y}, y ∈ r → κ z < κ y := fun q => List.rel_of_pairwise_cons h q
    split
    · rename_i lt
      refine List.pairwise_cons.mpr ⟨fun y hy => ?_, h⟩
      rcases List.mem_cons.mp hy with rfl | hy
      · exact lt
      · exact Int.lt_trans lt (hz hy)
    · rename_i nlt
      split
      · exact h
      · rename_i ne
        refine List.pairwise_cons.mpr ⟨fun y hy => ?_, insK_asc (List.Pairwise.of_cons h)⟩
        rcases insK_sub hy with rfl | hy
        · omega
        · exact hz hy
theorem insK_mem {x : α} : ∀ {l : List α}, (∀ y ∈ l, κ y = κ x → y = x) → ∀ {y : α}, y ∈ insK κ x l ↔ y = x ∨ y ∈ l
  | [], _, y => by unfold insK; simp
  | z :: r, h, y => by
    unfold insK
    split
    · simp
    · split
      · rename_i e
        have ez := h z List.mem_cons_self e.symm
        constructor
        · exact .inr
        · rintro (q | q)
          · rw [q, ← ez]; exact List.mem_cons_self
          · exact q
      · rw [List.mem_cons, insK_mem (fun y hy => h y (List.mem_cons_of_mem _ hy)), List.mem_cons]
        constructor
        · rintro (q | q | q)
          · exact .inr (.inl q)
          · exact .inl q
          · exact .inr (.inr q)
        · rintro (q | q | q)
          · exact .inr (.inl q)
          · exact .inl q
          · exact .inr (.inr q)
theorem sortK_sub : ∀ {l : List α} {y : α}, y ∈ sortK κ l → y ∈ l
  | [], _, h => by cases h
  | x :: r, y, h => by
    unfold sortK at h
    rcases insK_sub h with rfl | h
    · exact List.mem_cons_self
    · exact List.mem_cons_of_mem _ (sortK_sub h)
theorem sortK_asc : ∀ (l : List α), Asc κ (sortK κ l)
  | [] => .nil
  | x :: r => insK_asc (sortK_asc r)
theorem sortK_mem : ∀ {l : List α}, (∀ x ∈ l, ∀ y ∈ l, κ x = κ y → x = y) → ∀ {y : α}, y ∈ sortK κ l ↔ y ∈ l
  | [], _, y => by unfold sortK; simp
  | x :: r, h, y => by
    have hr : ∀ x ∈ r, ∀ y ∈ r, κ x = κ y → x = y := fun a ha b hb => h a (List.mem_cons_of_mem _ ha) b (List.mem_cons_of_mem _ hb)
    unfold sortK
    rw [insK_mem (fun z hz e => h z (List.mem_cons_of_mem _ (sortK_sub hz)) x List.mem_cons_self e), sortK_mem hr, List.mem_cons]
theorem asc_eq : ∀ {l m : List α}, Asc κ l → Asc κ m → (∀ y, y ∈ l ↔ y ∈ m) → l = m
  | [], [], _, _, _ => rfl
  | [], z :: m, _, _, h => by have := (h z).mpr List.mem_cons_self; cases this
  | x :: l, [], _, _, h => by have := (h x).mp List.mem_cons_self; cases this
  | x :: l, z :: m, hl, hm, h => by
    have hx : ∀ {y}, y ∈ l → κ x < κ y := fun q => List.rel_of_pairwise_cons hl q
    have hz : ∀ {y}, y ∈ m → κ z < κ y := fun q => List.rel_of_pairwise_cons hm q
    have e : x = z := by
      rcases List.mem_cons.mp ((h x).mp List.mem_cons_self) with q | q
      · exact q
      · rcases List.mem_cons.mp ((h z).mpr List.mem_cons_self) with q' | q'
        · exact q'.symm
        · have a := hz q
          have b := hx q'
          omega
    subst e
    rw [asc_eq (List.Pairwise.of_cons hl) (List.Pairwise.of_cons hm) fun y => ?_]
    constructor
    · intro hy
      rcases List.mem_cons.mp ((h y).mp (List.mem_cons_of_mem _ hy)) with q | q
      · have := hx hy; rw [q] at this; omega
      · exact q
    · intro hy
      rcases List.mem_cons.mp ((h y).mpr (List.mem_cons_of_mem _ hy)) with q | q
      · have := hz hy; rw [q] at this; omega
      · exact q
end
abbrev sortI (ns : List Int) : List Int := sortK id ns
theorem sortI_mem {ns : List Int} {y : Int} : y ∈ sortI ns ↔ y ∈ ns := sortK_mem fun _ _ _ _ e => e
abbrev kp (p : Int × Int) : Int := p.1 * 64 + p.2
def smallP (p : Int × Int) : Bool := decide (0 ≤ p.1) && decide (p.1 < 64) && decide (0 ≤ p.2) && decide (p.2 < 64)
theorem kp_inj {p q : Int × Int} (hp : smallP p = true) (hq : smallP q = true) (e : kp p = kp q) : p = q := by
  simp only [smallP, Bool.and_eq_true, decide_eq_true_eq] at hp hq
  have e : p.1 * 64 + p.2 = q.1 * 64 + q.2 := e
  exact Prod.ext (by omega) (by omega)
/-! ### data -/
abbrev dP (p : Int × Int) : D := .tup [dI p.1, dI p.2]
def asPs : List D → Option (List (Int × Int))
  | [] => some []
  | .tup [.v (.int i), .v (.int j)] :: r => (asPs r).map ((i, j) :: ·)
  | _ :: _ => none
theorem asPs_cons {d : D} {r : List D} {ps : List (Int × Int)} (h : asPs (d :: r) = some ps) : ∃ p m, d = dP p ∧ asPs r = some m ∧ ps = p :: m := by
  unfold asPs at h
  split at h
  · rename_i e
    cases e
  · rename_i i j r' e
    cases e
    obtain ⟨m, em, rfl⟩ := Option.map_eq_some_iff.mp h
    exact ⟨(i, j), m, rfl, em, rfl⟩
  · cases h
theorem asPs_eq : ∀ {ds : List D} {ps : List (Int × Int)}, asPs ds = some ps → ds = ps.map dP
  | [], ns, h => by unfold asPs at h; cases h; rfl
  | d :: r, ns, h => by
    obtain ⟨p, m, rfl, em, rfl⟩ := asPs_cons h
    rw [asPs_eq em]
    rfl
theorem asPs_map : ∀ (ps : List (Int × Int)), asPs (ps.map dP) = some ps
  | [] => rfl
  | p :: r => by rw [List.map_cons, asPs, asPs_map r]; rfl
def ssI : D → Option D
  | .lst ds => (asIs ds).bind fun ns => if ns.length < 64 then some (.lst ((sortI ns).map dI)) else none
  | _ => none
def ssP : D → Option D
  | .lst ds => (asPs ds).bind fun ps => if ps.length < 64 ∧ ps.all smallP = true then some (.lst ((sortK kp ps).map dP)) else none
  | _ => none
section
variable {K : W.Frag}
theorem rb_ints {g m : Msk} {H : Hp} {v : V} {ds : List D} {ns : List Int} (r : RB K g m H v (.lst ds)) (e : asIs ds = some ns) : ∃ a, v = .ref a ∧ SqL K H a (ns.map V.int) := by
  obtain ⟨a, xs, rfl, h1, h2⟩ := RBo.lst r
  exact ⟨a, rfl, .inl (.inl (by rw [h1, asIs_rel h2 e]))⟩
theorem p1_ssI {w : World} : P1 K .f (fun v H Q => rSetOfI K w [v] H fun s H1 => rSortedSet w [s] H1 Q) ssI := by
  intro g m H v d c Q hm r e k
  unfold ssI at e
  split at e
  · rename_i ds
    obtain ⟨ns, en, e⟩ := Option.bind_eq_some_iff.mp e
    split at e
    · rename_i l64
      cases e
      obtain ⟨a, rfl, sq⟩ := rb_ints r en
      refine ⟨a, ns, rfl, sq, l64, fun A cn hA lc => ⟨A, _, cn, rfl, upd_same, by omega, fun out p asc mem len hp => ?_⟩⟩
      have eo : out = sortI ns := asc_eq (κ := id) asc (sortK_asc ns) fun y => by rw [mem y, sortI_mem]; simp
      subst eo
      have s1 := same_upd (o := SetO w A (fun j => decide (j ∈ ns)) cn) hA
      have s2 := same_upd (o := HO.lst ((sortI ns).map V.int)) hp
      have hp0 : H p = none := by
        cases q : H p with
        | none => rfl
        | some o => rw [s1 p o q] at hp; cases hp
      refine k _ _ (fun b o q => s2 b o (s1 b o q)) ⟨p, .lst ((sortI ns).map dI), rfl, rfl, hp0, _, upd_same, ?_⟩
      have := RAll.ofV (K := K) (G := cut (fun b => m b ∨ b = p) (upd (upd H A (SetO w A (fun j => decide (j ∈ ns)) cn)) p (.lst ((sortI ns).map V.int)))) (xs := (sortI ns).map V.int)
      rwa [List.map_map] at this
    · cases e
  · cases e
theorem RAll.pairs {G : Hp} : ∀ {vs : List V} {ps : List (Int × Int)}, RAll K G vs (ps.map dP) → ∃ ks : List (Addr × List Int), vs = ks.map (fun p => V.ref p.1) ∧ ks.map (·.2) = ps.map (fun p => [p.1, p.2]) ∧ ∀ p ∈ ks, SqT K G p.1 (p.2.map V.int)
  | _, [], h => by cases h; exact ⟨[], rfl, rfl, fun _ z => by cases z⟩
  | _, p :: ps, h => by
    rw [List.map_cons] at h
    cases h with
    | cons h1 h2 =>
      obtain ⟨ks, e1, e2, e3⟩ := RAll.pairs h2
      cases h1 with
      | tup q1 q2 =>
        rename_i a xs
        have q2 : RAll K G xs (([p.1, p.2].map V.int).map D.v) := q2
        rw [RAll.vs q2] at q1
        refine ⟨(a, [p.1, p.2]) :: ks, by rw [e1]; rfl, by rw [List.map_cons, List.map_cons, e2], fun q hq => ?_⟩
        rcases List.mem_cons.mp hq with rfl | hq
        · exact q1
        · exact e3 q hq
theorem pairs_of {G : Hp} : ∀ {L : List (Addr × List Int)} {ps : List (Int × Int)}, L.map (·.2) = ps.map (fun p => [p.1, p.2]) → (∀ p ∈ L, SqT K G p.1 (p.2.map V.int)) → RAll K G (L.map fun p => V.ref p.1) (ps.map dP)
  | [], [], _, _ => .nil
  | [], _ :: _, h, _ => by cases h
  | _ :: _, [], h, _ => by cases h
  | q :: L, p :: ps, h, hs => by
    rw [List.map_cons, List.map_cons] at h
    obtain ⟨h1, h2⟩ := List.cons.inj h
    have sq := hs q List.mem_cons_self
    rw [h1] at sq
    exact .cons (.tup sq (RAll.ofV (xs := [p.1, p.2].map V.int))) (pairs_of h2 fun x hx => hs x (List.mem_cons_of_mem _ hx))
theorem l2_pairs : ∀ {ls : List (List Int)}, (∀ l ∈ ls, ∃ p : Int × Int, l = [p.1, p.2]) → ∃ ps : List (Int × Int), ls = ps.map fun p => [p.1, p.2]
  | [], _ => ⟨[], rfl⟩
  | l :: ls, h => by
    obtain ⟨p, e⟩ := h l List.mem_cons_self
    obtain ⟨ps, es⟩ := l2_pairs fun x hx => h x (List.mem_cons_of_mem _ hx)
    exact ⟨p :: ps, by rw [e, es, List.map_cons]⟩
theorem p1_ssP {P : Program} {w : World} : P1 K .f (fun v H Q => rSetOfT K P w [v] H fun s H1 => rSortedT K P w [s] H1 Q) ssP := by
  intro g m H v d c Q hm r e k
  unfold ssP at e
  split at e
  · rename_i ds
    obtain ⟨ps, en, e⟩ := Option.bind_eq_some_iff.mp e
    split at e
    · rename_i hl
      obtain ⟨l64, small⟩ := hl
      cases e
      obtain ⟨a, xs, rfl, h1, h2⟩ := RBo.lst r
      rw [asPs_eq en] at h2
      obtain ⟨ks, rfl, e2, e3⟩ := RAll.pairs h2
      have e3' : ∀ p ∈ ks, SqT K H p.1 (p.2.map V.int) := fun p hp => SqT.same cut_le (e3 p hp)
      have lk : ks.length = ps.length := by have := congrArg List.length e2; simpa using this
      have sm : ∀ p ∈ ps, smallP p = true := fun p hp => List.all_eq_true.mp small p hp
      refine ⟨a, ks, rfl, .inl (.inl h1), e3', by omega, fun A L hA sub all => ?_⟩
      have s1 := same_upd (o := SetTO P w A L) hA
      have inP : ∀ q ∈ L, ∃ p ∈ ps, q.2 = [p.1, p.2] := fun q hq => by
        have : q.2 ∈ ks.map (·.2) := List.mem_map_of_mem (sub q hq)
        rw [e2] at this
        obtain ⟨p, hp, e⟩ := List.mem_map.mp this
        exact ⟨p, hp, e.symm⟩
      refine ⟨A, L, 2, 64, rfl, upd_same, fun p hp => SqT.same s1 (e3' p (sub p hp)), by omega, fun p hp => ?_, fun L' p pm nd l' pw hp => ?_⟩
      · obtain ⟨q, hq, e⟩ := inP p hp
        have := sm q hq
        simp only [smallP, Bool.and_eq_true, decide_eq_true_eq] at this
        rw [e]
        refine ⟨rfl, fun x hx => ?_⟩
        rcases List.mem_cons.mp hx with rfl | hx
        · omega
        · have := List.mem_singleton.mp hx; subst this; omega
      · have mem' : ∀ q ∈ L', q ∈ L := fun q hq => pm.mem_iff.mp hq
        obtain ⟨out, eo⟩ := l2_pairs (ls := L'.map (·.2)) fun l hl => by
          obtain ⟨q, hq, rfl⟩ := List.mem_map.mp hl
          obtain ⟨p, hp, e⟩ := inP q (mem' q hq)
          exact ⟨p, e⟩
        have outP : ∀ o, o ∈ out ↔ o ∈ ps := fun o => by
          have inj : ∀ {p : Int × Int} {l : List (Int × Int)}, [p.1, p.2] ∈ l.map (fun p => [p.1, p.2]) → p ∈ l := fun {p l} h => by
            obtain ⟨q, hq, e⟩ := List.mem_map.mp h
            have : q = p := by
              have := List.cons.inj e
              exact Prod.ext this.1 (List.cons.inj this.2).1
            rw [← this]; exact hq
          constructor
          · intro ho
            have : [o.1, o.2] ∈ L'.map (·.2) := by rw [eo]; exact List.mem_map_of_mem ho
            obtain ⟨q, hq, e⟩ := List.mem_map.mp this
            obtain ⟨p, hp, e'⟩ := inP q (mem' q hq)
            rw [e] at e'
            have := List.cons.inj e'
            have : o = p := Prod.ext this.1 (List.cons.inj this.2).1
            rw [this]; exact hp
          · intro ho
            have : [o.1, o.2] ∈ ks.map (·.2) := by rw [e2]; exact List.mem_map_of_mem ho
            obtain ⟨q, hq, e⟩ := List.mem_map.mp this
            have := all q hq
            rw [e] at this
            obtain ⟨q', hq', e'⟩ := List.mem_map.mp this
            have : [o.1, o.2] ∈ L'.map (·.2) := by rw [← e']; exact List.mem_map_of_mem (pm.mem_iff.mpr hq')
            rw [eo] at this
            exact inj this
        have ascO : Asc kp out := by
          have a1 : (L'.map (·.2)).Pairwise fun x y => TS.code 64 x ≤ TS.code 64 y := List.pairwise_map.mpr pw
          have a2 : (L'.map (·.2)).Pairwise (· ≠ ·) := nd
          rw [eo] at a1 a2
          have b1 := List.pairwise_map.mp a1
          have b2 := List.pairwise_map.mp a2
          refine ((b1.and b2).imp_of_mem fun {x y} hx hy ⟨q1, q2⟩ => ?_)
          have q1 : TS.code 64 [x.1, x.2] ≤ TS.code 64 [y.1, y.2] := q1
          rw [code_pair, code_pair] at q1
          have ne : kp x ≠ kp y := fun e => q2 (by rw [kp_inj (sm x ((outP x).mp hx)) (sm y ((outP y).mp hy)) e])
          have q1 : kp x ≤ kp y := q1
          omega
        have eo2 : out = sortK kp ps := asc_eq ascO (sortK_asc ps) fun y => by rw [outP y, sortK_mem fun x hx y hy e => kp_inj (sm x hx) (sm y hy) e]
        subst eo2
        have s2 := same_upd (o := HO.lst (L'.map fun q => V.ref q.1)) hp
        have hp0 : H p = none := by
          cases q : H p with
          | none => rfl
          | some o => rw [s1 p o q] at hp; cases hp
        refine k _ _ (fun b o q => s2 b o (s1 b o q)) ⟨p, .lst ((sortK kp ps).map dP), rfl, rfl, hp0, _, upd_same, pairs_of eo fun q hq => ?_⟩
        refine SqT.same (fun b o z => ?_) (e3 q (sub q (mem' q hq)))
        obtain ⟨n, z⟩ := of_cut z
        have nb : b ≠ p := ne_of_none z hp0
        rw [cut_out fun y => y.elim n nb]
        exact s2 b o (s1 b o z)
    · cases e
  · cases e
end
section
variable {S : Type} {Γ : Fr S} {K : W.Frag} {E : XK} {ta : TE} {A : TX S}
theorem ln_ssI {w : World} (ha : Ln Γ K E .b ta A) : Ln Γ K E .f (tCB (rSortedSet w) (tCons (tCB (rSetOfI K w) (tCons ta tNil)) tNil)) (xUn ssI A) := fun ok st QD QX Q q k kx => ln_un (r := fun v H Q => rSetOfI K w [v] H fun s H1 => rSortedSet w [s] H1 Q) ha p1_ssI ok st QD QX Q q k kx
theorem ln_ssP {P : Program} {w : World} (ha : Ln Γ K E .b ta A) : Ln Γ K E .f (tCB (rSortedT K P w) (tCons (tCB (rSetOfT K P w) (tCons ta tNil)) tNil)) (xUn ssP A) := fun ok st QD QX Q q k kx => ln_un (r := fun v H Q => rSetOfT K P w [v] H fun s H1 => rSortedT K P w [s] H1 Q) ha p1_ssP ok st QD QX Q q k kx
end
end L2.DL
/-! Comprehensions of any sort over data -/
namespace L2.DL
open L2 L2.My NdefX PySem PySem.Spec PyProof.Rows
section
variable {S : Type}
abbrev Stepper (S Acc : Type) := Env → S → Acc → (Acc → S → Prop) → Prop
def coT {Acc : Type} (gd : GD) (C : TB S) (step : Stepper S Acc) (Q : Acc → S → Prop) (ρ : Env) : List D → Acc → S → Prop
  | [], acc, s => Q acc s
  | d :: r, acc, s => opt (gd d ρ) fun ρ1 => C ρ1 s (fun b s1 => if b = true then step ρ1 s1 acc (fun acc' s2 => coT gd C step Q ρ r acc' s2) else coT gd C step Q ρ r acc s1) (fun _ _ => False)
/-- what stands for the thing that is being made -/
abbrev ARep (Acc : Type) := Acc → Addr → Hp → HO → Prop
/-- the frame that minds D0, too -/
def Fr.plus (Γ : Fr S) (D0 : Addr) : Fr S := ⟨fun a => Γ.M a ∨ a = D0, fun _ _ => True, fun _ _ => trivial, Γ.self⟩
def LnAct {Acc : Type} (Γ : Fr S) (K : W.Frag) (AR : ARep Acc) (ta : Addr → St → Hp → (Hp → Prop) → Prop) (step : Stepper S Acc) : Prop :=
  ∀ {M : Msk} {α : Nat → Addr} {σ : St} {H : Hp} {ρ : Env} {s : S} {D0 : Addr} {acc : Acc} {o : HO}, Ok (Γ.plus D0) K M α σ H ρ → ¬ Γ.M D0 → (∀ i, ¬ ownAt ρ i) → Γ.st s H → H D0 = some o → AR acc D0 (cut (mask M α ρ) H) o → ∀ (QD : Acc → S → Prop) (Nx : Hp → Prop), step ρ s acc QD →
    (∀ H' acc' s' o', Stp (Γ.plus D0) H H' → Γ.st s' H' → H' D0 = some o' → AR acc' D0 (cut (mask M α ρ) H') o' → QD acc' s' → Nx H') → ta D0 σ H Nx
variable {Acc : Type} {Γ : Fr S} {K : W.Frag} {E : XK} {g : TG} {gd : GD} {ts : List Nat} {tt : TT} {C : TB S} {AR : ARep Acc} {ta : Addr → St → Hp → (Hp → Prop) → Prop} {step : Stepper S Acc} {wi : TI} {I : TL S} {vs : List Nat}
def Mono (AR : ARep Acc) : Prop := ∀ {acc : Acc} {D0 : Addr} {G G' : Hp} {o : HO}, Same G G' → AR acc D0 G o → AR acc D0 G' o
theorem Ok.less {M : Msk} {α : Nat → Addr} {σ : St} {H : Hp} {ρ : Env} {D0 : Addr} (ok : Ok (Γ.plus D0) K M α σ H ρ) (no : ∀ i, ¬ ownAt ρ i) : Ok Γ K M α σ H ρ := by
  refine ⟨fun a z => ok.sub a (.inl z), ok.trk, ok.out, ok.inj, ok.len, fun j sl e => ?_, ok.sf⟩
  have q := ok.slot j sl e
  cases sl with
  | no => trivial
  | d y => exact q
  | bor y =>
    obtain ⟨v, e1, r⟩ := q
    refine ⟨v, e1, ?_⟩
    rcases r with r | ⟨a, c, e2, e3, n, r⟩
    · exact .inl r
    · exact .inr ⟨a, c, e2, e3, ⟨n.1, fun z => n.2 (.inl z)⟩, r⟩
  | own y => exact (no j ⟨_, e, rfl⟩).elim
theorem Stp.more {D0 : Addr} {H H' : Hp} (p : Stp Γ H H') : Stp (Γ.plus D0) H H' := ⟨fun a o n e => p.keep a o (fun z => n (.inl z)) e, p.trk⟩
theorem Ok.innerD {M : Msk} {α : Nat → Addr} {σ : St} {H H' : Hp} {ρ : Env} {D0 : Addr} (ok : Ok Γ K M α σ H ρ) (hD : H D0 = none) (hD' : H' D0 ≠ none) (p : Stp (Γ.plus D0) H H') :
    Ok (Γ.plus D0) K (fun b => mask M α ρ b ∨ b = D0) α (L2.wipe σ vs) H' (inE ρ vs) ∧ (∀ i, ¬ ownAt (inE ρ vs) i) := by
  obtain ⟨okI, no⟩ := ok.inner (vs := vs) hD hD' (fun a o n ne e => p.keep a o (fun z => z.elim n ne) e) p.trk
  refine ⟨⟨fun a z => z.elim (fun z => .inl (ok.msub a z)) .inr, okI.trk, okI.out, okI.inj, okI.len, fun j sl e => ?_, okI.sf⟩, no⟩
  have mm : ∀ a, mask (fun b => mask M α ρ b ∨ b = D0) α (inE ρ vs) a → mask M α ρ a ∨ a = D0 := by
    rintro a (z | ⟨i, o, _⟩)
    · exact z
    · exact absurd o (no i)
  have c : Same (cut (mask M α ρ) H) (cut (mask (fun b => mask M α ρ b ∨ b = D0) α (inE ρ vs)) H') := fun b o e => by
    obtain ⟨n, e⟩ := of_cut e
    have ne : b ≠ D0 := ne_of_none e hD
    rw [cut_out fun z => (mm b z).elim n ne]
    exact p.keep b o (fun z => z.elim (fun z => n (ok.msub b z)) ne) e
  unfold inE at e
  rw [List.getElem?_map] at e
  cases q : (wipeE ρ vs)[j]? with
  | none => rw [q] at e; cases e
  | some u =>
    rw [q] at e
    cases e
    rcases wipeE_at q with rfl | ⟨nj, q⟩
    · trivial
    · rw [wipe_ne nj]
      have sl' := ok.slot j u q
      cases u with
      | no => trivial
      | d y => obtain ⟨v, e1, r⟩ := sl'; exact ⟨v, e1, R.same c r⟩
      | bor y =>
        obtain ⟨v, e1, r⟩ := sl'
        refine ⟨v, e1, ?_⟩
        rcases r with r | ⟨a, k, e2, e3, n, r⟩
        · exact .inl (R.same c r)
        · have na : a ≠ D0 := fun z => by
            obtain ⟨o, eo⟩ := r.some
            rw [z, hD] at eo
            cases eo
          exact .inr ⟨a, k, e2, e3, ⟨.inl (.inl n.1), fun z => z.elim n.2 na⟩, r.move c fun u e => p.keep a u (fun z => z.elim n.2 na) e⟩
      | own y =>
        have oj : ownAt ρ j := ⟨_, q, rfl⟩
        have ng : ¬ Γ.M (α j) := fun z => ok.out j oj (ok.sub _ z)
        have na : α j ≠ D0 := fun z => by
          obtain ⟨o, eo⟩ := sl'.2.some
          rw [z, hD] at eo
          cases eo
        exact ⟨_, sl'.1, .inr ⟨α j, y, rfl, rfl, ⟨.inl (.inr ⟨j, oj, rfl⟩), fun z => z.elim ng na⟩, sl'.2.move c fun o e => p.keep _ _ (fun z => z.elim ng na) e⟩⟩
theorem Ok.wipe {M : Msk} {α : Nat → Addr} {σ : St} {H : Hp} {ρ : Env} (ok : Ok Γ K M α σ H ρ) (no : ∀ i, ¬ ownAt ρ i) : Ok Γ K M α (L2.wipe σ vs) H (wipeE ρ vs) ∧ ∀ i, ¬ ownAt (wipeE ρ vs) i := by
  have no' : ∀ j, ¬ ownAt (wipeE ρ vs) j := by
    rintro j ⟨sl, e, o⟩
    rcases wipeE_at e with rfl | ⟨_, e⟩
    · cases o
    · exact no j ⟨sl, e, o⟩
  have mm : ∀ a, mask M α (wipeE ρ vs) a → mask M α ρ a := by
    rintro a (z | ⟨i, o, _⟩)
    · exact .inl z
    · exact (no' i o).elim
  refine ⟨⟨ok.sub, ok.trk, fun i o => (no' i o).elim, fun i j o _ _ => (no' i o).elim, by rw [wipe_length, wipeE_len]; exact ok.len, fun j sl e => ?_, ok.sf⟩, no'⟩
  rcases wipeE_at e with rfl | ⟨nj, e⟩
  · trivial
  · rw [wipe_ne nj]
    have q := ok.slot j sl e
    have c : Same (cut (mask M α ρ) H) (cut (mask M α (wipeE ρ vs)) H) := cut_mono mm
    cases sl with
    | no => trivial
    | d y => obtain ⟨v, e1, r⟩ := q; exact ⟨v, e1, R.same c r⟩
    | bor y =>
      obtain ⟨v, e1, r⟩ := q
      exact ⟨v, e1, RBo.carry c (fun _ _ _ _ e => e) r⟩
    | own y => exact (no j ⟨_, e, rfl⟩).elim
/-- how a loop stands -/
structure CoW (Γ : Fr S) (K : W.Frag) (AR : ARep Acc) (gd : GD) (C : TB S) (step : Stepper S Acc) (QA : Acc → S → Prop) (ρ : Env) (m0 : Msk) (D0 : Addr) (H1 : Hp) (ds : List D) (i m : Nat) (H : Hp) : Prop where
  m : m = ds.length - i
  le : i ≤ ds.length
  ex : ∃ acc o s', H D0 = some o ∧ AR acc D0 (cut m0 H) o ∧ Γ.st s' H ∧ Stp (Γ.plus D0) H1 H ∧ coT gd C step QA ρ (ds.drop i) acc s'
/-- one loop's turns -/
theorem co_turns {M : Msk} {α : Nat → Addr} {σ : St} {H1 : Hp} {ρ : Env} {D0 : Addr} {J : It} {ds : List D} {Qf : Hp → Prop} {QA : Acc → S → Prop}
    (hm : Mono AR) (hts : ts.all (fun i => vs.contains i) = true) (hg : ∀ Γ : Fr S, LnG Γ K ts g gd) (hc : LnT Γ K E0 tt C) (hact : LnAct Γ K AR ta step)
    (okw : ∀ {H : Hp}, Stp (Γ.plus D0) H1 H → H D0 ≠ none → Ok (Γ.plus D0) K M α (L2.wipe σ vs) H ρ) (no : ∀ i, ¬ ownAt ρ i) (gD : ¬ Γ.M D0)
    (jgo : ∀ i H, i < ds.length → Stp (Γ.plus D0) H1 H → J.go i H) (jstop : ∀ H, Stp (Γ.plus D0) H1 H → J.stop ds.length H)
    (jyld : ∀ (i : Nat) (H : Hp) (x : V) (H' : Hp) (d : D), ds[i]? = some d → Stp (Γ.plus D0) H1 H → (∀ a, mask M α ρ a → H a ≠ none) → J.yld i H x H' → Same H H' ∧ R K (cut (mask M α ρ) H') x d)
    (fin : ∀ H' acc s' o, Stp (Γ.plus D0) H1 H' → Γ.st s' H' → H' D0 = some o → AR acc D0 (cut (mask M α ρ) H') o → QA acc s' → Qf H') :
    ∀ i m H, CoW Γ K AR gd C step QA ρ (mask M α ρ) D0 H1 ds i m H →
      (J.stop i H ∧ Qf H) ∨ (J.go i H ∧ ∃ Nx : Hp → Prop, (∀ H', Nx H' → ∃ m', m' < m ∧ CoW Γ K AR gd C step QA ρ (mask M α ρ) D0 H1 ds (i + 1) m' H') ∧
        ∀ x H', J.yld i H x H' → g x (L2.wipe σ vs) H' fun σ2 H2 => L2.wipe σ2 vs = L2.wipe σ vs ∧ tt σ2 H2 fun b H3 => if b = true then ta D0 σ2 H3 Nx else Nx H3) := by
  have tsv : ∀ i ∈ ts, i ∈ vs := fun i z => by
    have := List.all_eq_true.mp hts i z
    simpa using this
  rintro i m H' ⟨rfl, hi', acc, o, s', hD', ra, st', kp, z⟩
  by_cases lt : i < ds.length
  · have e : ds.drop i = ds[i] :: ds.drop (i + 1) := List.drop_eq_getElem_cons lt
    rw [e] at z
    unfold coT at z
    obtain ⟨ρ1, e1, z⟩ := opt_ex z
    have okI := okw kp (by rw [hD']; exact fun z => by cases z)
    refine .inr ⟨jgo i H' lt kp, _, fun H2 w => ⟨ds.length - (i + 1), by omega, rfl, lt, w⟩, fun x H2 y => ?_⟩
    obtain ⟨sm, rx⟩ := jyld i H' x H2 ds[i] (List.getElem?_eq_getElem lt) kp okI.mtrk y
    have pI := Stp.of (Γ := Γ) sm
    refine hg (Γ.plus D0) (okI.step pI.more) rx e1 _ fun σ2 ok2 mm ww pw => ⟨(pw vs tsv).trans wipe_wipe, ?_⟩
    have no2 : ∀ i, ¬ ownAt ρ1 i := fun j oj => by
      have q : wmask (Γ.plus D0) α ρ1 (α j) := .inr ⟨j, oj, rfl⟩
      rcases ww _ q with q | ⟨l, ol, _⟩
      · exact ok2.out j oj (ok2.sub _ q)
      · exact no l ol
    have m1 : ∀ a, mask M α ρ1 a → M a := fun a q => q.elim id fun ⟨l, ol, _⟩ => (no2 l ol).elim
    have m0 : ∀ a, mask M α ρ a → M a := fun a q => q.elim id fun ⟨l, ol, _⟩ => (no l ol).elim
    have mE : ∀ {G : Hp}, Same (cut (mask M α ρ) G) (cut (mask M α ρ1) G) := cut_mono fun a q => .inl (m1 a q)
    have mE' : ∀ {G : Hp}, Same (cut (mask M α ρ1) G) (cut (mask M α ρ) G) := cut_mono fun a q => .inl (m0 a q)
    have gM : ∀ a, Γ.M a → mask M α ρ a := fun a z => .inl (okI.sub a (.inl z))
    have frt : ∀ a, Γ.M a → H' a ≠ none := fun a z => okI.trk a (okI.sub a (.inl z))
    refine hc (Ok.less ok2 no2) (Fr.same frt sm st') _ _ _ z (fun b H3 s3 p3 st3 z => ?_) (fun c dx H' x s' p st' r z => z.elim)
    have p3' := pI.trans p3
    have D3 : H3 D0 = some o := p3'.keep _ _ gD hD'
    have ra3 : AR acc D0 (cut (mask M α ρ) H3) o := hm (p3'.cut gM) ra
    cases b with
    | true =>
      rw [if_pos rfl] at z ⊢
      refine hact (ok2.step p3.more) gD no2 st3 D3 (hm mE ra3) _ _ z fun H4 acc' s4 o' k4 st4 D4 r4 z => ?_
      exact ⟨acc', o', s4, D4, hm mE' r4, st4, kp.trans (p3'.more.trans k4), z⟩
    | false =>
      rw [if_neg (by decide)] at z ⊢
      exact ⟨acc, o, s3, D3, ra3, st3, kp.trans p3'.more, z⟩
  · have e : i = ds.length := by omega
    subst e
    rw [List.drop_length] at z
    exact .inl ⟨jstop H' kp, fin H' acc s' o kp st' hD' ra z⟩
/-- the first clause -/
theorem co_first {o0 : Addr → HO} {acc0 : Acc} {M : Msk} {α : Nat → Addr} {σ : St} {H : Hp} {ρ : Env} {s : S} {QA : Acc → S → Prop} {QX : Exn → S → Prop} {Q : VK}
    (hm : Mono AR) (h0 : ∀ D0 G, AR acc0 D0 G (o0 D0)) (hts : ts.all (fun i => vs.contains i) = true) (hi : LnI Γ K E false wi I) (hg : ∀ Γ : Fr S, LnG Γ K ts g gd) (hc : LnT Γ K E0 tt C) (hact : LnAct Γ K AR ta step)
    (ok : Ok Γ K M α σ H ρ) (st : Γ.st s H) (q : I ρ s (fun ds s1 => coT gd C step QA (inE ρ vs) ds acc0 s1) QX)
    (k : ∀ D0 H' acc s' o, H D0 = none → H' D0 = some o → AR acc D0 (cut (fun b => mask M α ρ b ∨ b = D0) H') o → Stp Γ H H' → Γ.st s' H' → QA acc s' → Q (.ref D0) H')
    (kx : ∀ c dx H' x s', Stp Γ H H' → Γ.st s' H' → XR K (mask M α ρ) H' c dx x → QX x s' → E c dx H') : tCo o0 wi g tt ta vs σ H Q := by
  refine hi ok st _ QX _ q (fun J H1 ds s1 p1 st1 jok q1 => ?_) kx
  intro D0 nD
  have ok1 := ok.step p1
  have gD : ¬ Γ.M D0 := fun z => ok1.frt D0 z nD
  have hne : ∀ {H'' : Hp}, Stp (Γ.plus D0) H1 H'' → Keep Γ.M H1 H'' := fun kp a o n e => kp.keep a o (fun z => z.elim n (ne_of_none e nD)) e
  have p0 : Stp Γ H1 (upd H1 D0 (o0 D0)) := Stp.of (same_upd nD)
  obtain ⟨_, no⟩ := ok1.innerD (vs := vs) (H' := upd H1 D0 (o0 D0)) nD (by rw [upd_same]; exact fun z => by cases z) p0.more
  have mI : ∀ b, mask (fun b => mask M α ρ b ∨ b = D0) α (inE ρ vs) b → mask M α ρ b ∨ b = D0 := by
    rintro a (z | ⟨i, o, _⟩)
    · exact z
    · exact absurd o (no i)
  refine ⟨CoW Γ K AR gd C step QA (inE ρ vs) (mask (fun b => mask M α ρ b ∨ b = D0) α (inE ρ vs)) D0 H1 ds, ⟨ds.length - 0, rfl, Nat.zero_le _, acc0, o0 D0, s1, upd_same, h0 _ _, Fr.same ok1.frt (same_upd nD) st1, p0.more, q1⟩, ?_⟩
  refine co_turns hm hts hg hc hact (fun kp n => (ok1.innerD (vs := vs) nD n kp).1) no gD (fun i H lt kp => jok.go i H lt (hne kp)) (fun H kp => jok.stop H (hne kp)) (fun i H' x H2 d e kp mt y => ?_) (fun H' acc s' o kp st' hD' ra z => ?_)
  · exact jok.yld i H' x H2 d _ e (hne kp) (fun b z => (mI b z).imp id fun e => by rw [e]; exact nD) mt y
  · refine k D0 H' acc s' o (Classical.byContradiction fun q => p1.trk D0 q nD) hD' (hm (cut_mono fun a z => .inl z) ra) ⟨fun a o n e => hne kp a o n (p1.keep a o n e), fun a z => kp.trk a (p1.trk a z)⟩ st' z
/-- a walk of what is strict: nothing masked is walked -/
def LnIs (Γ : Fr S) (K : W.Frag) (E : XK) (wi : TI) (T : TL S) : Prop :=
  ∀ {M : Msk} {α : Nat → Addr} {σ : St} {H : Hp} {ρ : Env} {s : S}, Ok Γ K M α σ H ρ → Γ.st s H → ∀ (QD : List D → S → Prop) (QX : Exn → S → Prop) (Q : It → Hp → Prop), T ρ s QD QX →
    (∀ J H' ds s', Stp Γ H H' → Γ.st s' H' → JOk K (mask M α ρ) (mask M α ρ) H' J ds → QD ds s' → Q J H') →
    (∀ c dx H' x s', Stp Γ H H' → Γ.st s' H' → XR K (mask M α ρ) H' c dx x → QX x s' → E c dx H') → wi σ H Q
theorem lis_seq {te : TE} {A : TX S} (ha : Ln Γ K E .s te A) : LnIs Γ K E (iSeq K te) (xSeq A) := by
  intro M α σ H ρ s ok st QD QX Q q k kx
  refine ha ok st _ QX _ q (fun v H' d s' p st' r z => ?_) kx
  obtain ⟨ds, e, z⟩ := opt_ex z
  cases r with
  | lst h1 h2 =>
    cases e
    obtain ⟨n, h1⟩ := of_cut h1
    exact .inl ⟨_, rfl, .inl ⟨⟨_, .inl (.inl h1)⟩, k _ H' _ s' p st' (jok_list (fun _ y => y) n h1 h2) z⟩⟩
  | tup h1 h2 =>
    cases e
    exact .inl ⟨_, rfl, .inr ⟨⟨_, SqT.same cut_le h1⟩, k _ H' _ s' p st' (jok_tup (fun _ y => y) h1 h2) z⟩⟩
  | v => cases v <;> first | (cases e; exact .inr ⟨_, rfl, k _ H' _ s' p st' jok_str z⟩) | cases e
  | dct => cases e
  | obj => cases e
  | exc => cases e
  | dtp => cases e
/-- the second clause as a step of the first -/
def stIn (I1 : TL S) (gd1 : GD) (C1 : TB S) (vs1 : List Nat) (step1 : Stepper S Acc) : Stepper S Acc := fun ρ s acc QD => I1 ρ s (fun ds s1 => coT gd1 C1 step1 QD (wipeE ρ vs1) ds acc s1) (fun _ _ => False)
theorem la_in {g1 : TG} {gd1 : GD} {ts1 vs1 : List Nat} {tt1 : TT} {C1 : TB S} {ta1 : Addr → St → Hp → (Hp → Prop) → Prop} {step1 : Stepper S Acc} {wi1 : TI} {I1 : TL S}
    (hm : Mono AR) (hts : ts1.all (fun i => vs1.contains i) = true) (hi : LnIs Γ K E0 wi1 I1) (hg : ∀ Γ : Fr S, LnG Γ K ts1 g1 gd1) (hc : LnT Γ K E0 tt1 C1) (hact : LnAct Γ K AR ta1 step1) : LnAct Γ K AR (taIn wi1 g1 tt1 vs1 ta1) (stIn I1 gd1 C1 vs1 step1) := by
  intro M α σ H ρ s D0 acc o ok gD no st hD ra QD Nx q k
  refine hi (Ok.less ok no) st _ _ _ q (fun J H1 ds s1 p1 st1 jok q1 => ?_) (fun c dx H' x s' p st' r z => z.elim)
  have ok1 := ok.step p1.more
  have mD : M D0 := ok.sub D0 (.inr rfl)
  have hD1 : H1 D0 = some o := p1.keep _ _ gD hD
  have gM : ∀ a, Γ.M a → mask M α ρ a := fun a z => .inl (ok.sub a (.inl z))
  have ra1 : AR acc D0 (cut (mask M α ρ) H1) o := hm (p1.cut gM) ra
  have noW : ∀ i, ¬ ownAt (wipeE ρ vs1) i := (ok1.wipe (vs := vs1) no).2
  have mW : ∀ a, mask M α (wipeE ρ vs1) a → mask M α ρ a := fun a q => q.elim .inl fun ⟨l, ol, _⟩ => (noW l ol).elim
  have mW' : ∀ a, mask M α ρ a → mask M α (wipeE ρ vs1) a := fun a q => q.elim .inl fun ⟨l, ol, _⟩ => (no l ol).elim
  have kk : ∀ {H'' : Hp}, Stp (Γ.plus D0) H1 H'' → Keep (mask M α ρ) H1 H'' := fun kp a o n e => kp.keep a o (fun z => n (z.elim (gM a) fun e => .inl (by rw [e]; exact mD))) e
  refine ⟨CoW Γ K AR gd1 C1 step1 QD (wipeE ρ vs1) (mask M α (wipeE ρ vs1)) D0 H1 ds, ⟨ds.length - 0, rfl, Nat.zero_le _, acc, o, s1, hD1, hm (cut_mono mW) ra1, st1, .refl, q1⟩, ?_⟩
  refine co_turns hm hts hg hc hact (fun kp n => ((ok1.step kp).wipe (vs := vs1) no).1) noW gD (fun i H lt kp => jok.go i H lt (kk kp)) (fun H kp => jok.stop H (kk kp)) (fun i H' x H2 d e kp mt y => ?_) (fun H' acc s' o kp st' hD' ra z => ?_)
  · exact jok.yld i H' x H2 d _ e (kk kp) (fun b z => .inl (mW b z)) mt y
  · exact k H' acc s' o (p1.more.trans kp) st' hD' (hm (cut_mono mW') ra) z
end
end L2.DL
/-! Sets and dicts by comprehension, over data -/
namespace L2.DL
open L2 L2.My NdefX PySem PySem.Spec PyProof.Rows
/-! ### dicts as readings -/
def actPut (kx vx : Expr) (D : Addr) (env : PySem.Env) (k : Sem Fin) : Sem Fin := do
  (do
    let kv ← eval kx env
    let vv ← holding [kv] (eval vx env)
    standAt { kx.pos with endLine := vx.pos.endLine, endCol := vx.pos.endCol }
    holding [kv, vv] (dictSet D kv vv))
  k
def newDictO : Obj := { cls := .type "dict", data := .dict #[] }
section
variable {X : Cx} {kx vx tg iter : Expr} {ifs : List Expr} {scope : Scope} {pos : Pos}
theorem sort_dict1 {o0 : Addr → HO} (ho : ∀ (H : Hp) (h : Heap), sysModules < h.objs.size → ObjOk X.prog X.w H (h.push newDictO) h.objs.size (o0 h.objs.size)) (hs : ∀ x, foldedSetIterable iter X.env x = pure x) :
    Sort' X (.DictComp kx vx [⟨tg, iter, ifs, 0⟩] scope pos) iter tg ifs scope [] newDict newDictO o0 (actPut kx vx) where
  cls := rfl
  evl := ⟨_, rfl⟩
  new := fun h => wpAny_newObj_type h
  isO := ho
  trn := fun it D env => rfl
  nod := fun it D env => ⟨fun _ => rfl, rfl, rfl⟩
  sta := fun h hi => start_any rfl rfl rfl rfl rfl h hi
  fol := hs
end
theorem dtT_empty {P : Program} {w : World} {H : Hp} {h : Heap} (hb : sysModules < h.objs.size) : ObjOk P w H (h.push newDictO) h.objs.size (DTO h.objs.size []) := by
  have ho : (h.push newDictO).get? h.objs.size = some newDictO := Heap.get?_push_size _ rfl
  refine ⟨⟨beq_eq_false_iff_ne.mpr (Ne.symm (Nat.ne_of_lt hb)), Nat.zero_le _, newDictO, #[], 0, [], ho, ⟨rfl, rfl, rfl⟩, rfl, rfl, rfl, List.nodup_nil⟩, ⟨_, ho⟩, fun h1 h2 p k => ?_⟩
  obtain ⟨p1, p2, o, es, ep, xs, e, r⟩ := p
  exact ⟨p1, p2, o, es, ep, xs, k _ e, r⟩
theorem dtT_new {P : Program} {w : World} {H : Hp} {h : Heap} {a : Addr} {L : List (List Int × Addr)} (d : DT0 h a L) : ObjOk P w H h a (DTO a L) := by
  have d' := d
  obtain ⟨p1, p2, o, es, ep, xs, e, r⟩ := d'
  refine ⟨d, ⟨o, e⟩, fun h1 h2 p k => ?_⟩
  obtain ⟨p1, p2, o, es, ep, xs, e, r⟩ := p
  exact ⟨p1, p2, o, es, ep, xs, k _ e, r⟩
/-- the whole dict -/
theorem DT0.full {P : Program} {w : World} {h : Heap} {a : Addr} {L : List (List Int × Addr)} (d : DT0 h a L) (ht : ∀ q ∈ L, IsT P w h q.1 q.2) : ∃ xs : List (List Int × Addr × Value), L = xs.map (fun x => (x.1, x.2.1)) ∧ h.DictOfH (TK P w) a xs := by
  obtain ⟨p1, p2, o, es, ep, xs, e, ex, da, rows, eL, nd⟩ := d
  refine ⟨xs, eL, o, es, ep, e, ex, da, rows, fun x hx => ?_, nd⟩
  exact ht (x.1, x.2.1) (by rw [eL]; exact List.mem_map_of_mem (f := fun x : List Int × Addr × Value => (x.1, x.2.1)) hx)
theorem keys_stored {xs : List (List Int × Addr × Value)} {k : List Int} {b : Addr} {v : Value} :
    (storedH xs k b v).map (fun x => (x.1, x.2.1)) = if k ∈ xs.map (·.1) then xs.map (fun x => (x.1, x.2.1)) else xs.map (fun x => (x.1, x.2.1)) ++ [(k, b)] := by
  have mem : k ∈ xs.map (·.1) ↔ (atKey xs k).isSome = true := by
    unfold atKey
    rw [Option.isSome_map, List.find?_isSome]
    constructor
    · intro h
      obtain ⟨x, hx, e⟩ := List.mem_map.mp h
      exact ⟨x, hx, by simpa using e⟩
    · rintro ⟨x, hx, e⟩
      exact List.mem_map.mpr ⟨x, hx, by simpa using e⟩
  unfold storedH
  by_cases h : (atKey xs k).isSome = true
  · rw [if_pos h, if_pos (mem.mpr h), List.map_map]
    refine List.map_congr_left fun x hx => ?_
    show ((putAt k v x).1, (putAt k v x).2.1) = _
    unfold putAt
    split <;> rfl
  · rw [if_neg h, if_neg fun z => h (mem.mp z), List.map_append]
    rfl
def putT (L : List (List Int × Addr)) (k : List Int) (b : Addr) : List (List Int × Addr) := if k ∈ L.map (·.1) then L else L ++ [(k, b)]
section
variable {X : Cx} {pins : List (Addr × Obj)} {σ : L2.St} {H : Hp} {s : Shared} {A : Around} {E : Value → Shared → Prop}
theorem dto_at (I : Inv X pins σ H s) {a : Addr} {L : List (List Int × Addr)} (h : H a = some (DTO a L)) (hs : ∀ q ∈ L, SqT X.K H q.2 (q.1.map V.int)) : DT0 s.heap a L ∧ ∃ xs : List (List Int × Addr × Value), L = xs.map (fun x => (x.1, x.2.1)) ∧ s.heap.DictOfH (TK X.prog X.w) a xs := by
  have d : DT0 s.heap a L := (I.hok a _ h).1
  exact ⟨d, d.full fun q hq => I.isT (hs q hq)⟩
theorem dt0_of {P : Program} {w : World} {h : Heap} {a : Addr} {xs : List (List Int × Addr × Value)} (z : (a == sysModules) = false) (l : xs.length ≤ sizeLine) (d : h.DictOfH (TK P w) a xs) : DT0 h a (xs.map fun x => (x.1, x.2.1)) := by
  obtain ⟨o, es, ep, e, ex, da, rows, _, nd⟩ := d
  exact ⟨z, by rw [List.length_map]; exact l, o, es, ep, xs, e, ex, da, rows, rfl, nd⟩
/-- d[t] = v by a comprehension, t a tuple of ints -/
theorem dto_put {D b : Addr} {L : List (List Int × Addr)} {k : List Int} {v : Value} {Q : Unit → Shared → Prop} (hu : X.A.units < cLine) (I : Inv X pins σ H s) (hD : H D = some (DTO D L)) (hs : ∀ q ∈ L, SqT X.K H q.2 (q.1.map V.int)) (hb : SqT X.K H b (k.map V.int)) (hl : L.length < sizeLine)
    (h : ∀ s', Inv X pins σ (upd H D (DTO D (putT L k b))) s' → Q () s') : wpAny (model X.prog X.w) X.A (dictSet D (.ref b) v) Q E s := by
  obtain ⟨d, xs, eL, dd⟩ := dto_at I hD hs
  have lx : xs.length = L.length := by rw [eL, List.length_map]
  refine wpAny_dictSet_heap (hsz := by omega) (knd := TK X.prog X.w) (k := k) hu (I.isT hb) dd fun h' dd' sb => h _ ?_
  have lst : (storedH xs k b v).length ≤ sizeLine := by
    unfold storedH
    split
    · rw [List.length_map]; omega
    · rw [List.length_append, List.length_cons, List.length_nil]; omega
  have new := dt0_of (P := X.prog) (w := X.w) d.ns lst dd'
  rw [keys_stored, ← eL] at new
  have ek : xs.map (·.1) = L.map (·.1) := by rw [eL, List.map_map]; rfl
  rw [ek] at new
  obtain ⟨o, _, _, e, _⟩ := dd'
  exact d_write I (by rw [hD]; exact True.intro) sb ⟨o, e⟩ (dtT_new (P := X.prog) (w := X.w) new)
end
def taPutK (tk tv : TE) : Addr → L2.St → Hp → (Hp → Prop) → Prop := fun D σ H Nx => tk σ H fun y H1 => tv σ H1 fun z H2 => ∃ kvs k, y = kV k ∧ H2 D = some (.dK kvs) ∧ kvs.length < sizeLine ∧ Nx (upd H2 D (.dK (putK kvs k z)))
def taPutT (K : W.Frag) (tk tv : TE) : Addr → L2.St → Hp → (Hp → Prop) → Prop := fun D σ H Nx => tk σ H fun y H1 => tv σ H1 fun _ H2 => ∃ b k L, y = .ref b ∧ SqT K H2 b (k.map V.int) ∧ H2 D = some (DTO D L) ∧ (∀ q ∈ L, SqT K H2 q.2 (q.1.map V.int)) ∧ L.length < sizeLine ∧ Nx (upd H2 D (DTO D (putT L k b)))
section
variable {Y : Cx} {kx vx : Expr} {tk tv : TE} {D : Addr}
theorem pac_putK (hxe : ∀ (e : Value) (s : Shared), Y.xe e s → False) (hk : PE Y kx tk) (hv : PE Y vx tv) : PAc Y (actPut kx vx D Y.env) [] (taPutK tk tv D) := by
  refine ⟨fun pins s σ H Nx I h Qk Ek k hk' => ?_⟩
  have hx0 : ∀ (e : Value) (s : Shared), Y.xe e s → Ek e s := fun e s z => (hxe e s z).elim
  unfold actPut
  refine wpAny_bind (wpAny_bind (wpAny_mono (hk.run pins s σ H _ I h) (fun u s1 ⟨y, H1, I1, r1, q1⟩ => ?_) hx0))
  refine wpAny_bind (wpAny_holding (wpAny_mono (hv.run pins s1 σ H1 _ I1 q1) (fun v s2 ⟨z, H2, I2, r2, kvs, kk, ey, hD, hl, q2⟩ => ?_) hx0))
  subst ey
  refine wpAny_bind (wpAny_standAt (wpAny_holding (d_dictSet I2 hD hl r1 r2 fun s3 I3 => hk' s3 _ I3 q2)))
theorem pac_putT (hu : Y.A.units < cLine) (hxe : ∀ (e : Value) (s : Shared), Y.xe e s → False) (hk : PE Y kx tk) (hv : PE Y vx tv) : PAc Y (actPut kx vx D Y.env) [] (taPutT Y.K tk tv D) := by
  refine ⟨fun pins s σ H Nx I h Qk Ek k hk' => ?_⟩
  have hx0 : ∀ (e : Value) (s : Shared), Y.xe e s → Ek e s := fun e s z => (hxe e s z).elim
  unfold actPut
  refine wpAny_bind (wpAny_bind (wpAny_mono (hk.run pins s σ H _ I h) (fun u s1 ⟨y, H1, I1, r1, q1⟩ => ?_) hx0))
  refine wpAny_bind (wpAny_holding (wpAny_mono (hv.run pins s1 σ H1 _ I1 q1) (fun v s2 ⟨z, H2, I2, r2, b, kk, L, ey, hb, hD, hs, hl, q2⟩ => ?_) hx0))
  subst ey
  cases r1
  refine wpAny_bind (wpAny_standAt (wpAny_holding (dto_put hu I2 hD hs hb hl fun s3 I3 => hk' s3 _ I3 q2)))
end
section
variable {X : Cx} {kx vx tg iter : Expr} {ifs : List Expr} {scope : Scope} {pos : Pos} {own : List (Str × Nat)} {wi : TI} {g : TG} {tt : TT} {tk tv : TE}
abbrev oDK : Addr → HO := fun _ => .dK []
abbrev oDT : Addr → HO := fun D => DTO D []
/-- {k: v for tg in iter if ..}, keys ints or texts -/
theorem pe_dcK (hc : X.calm = true) (hN : X.N.Nodup) (hi : PI X tg iter wi) (ok : BlkOk X.N X.env.scope scope own)
    (hg : ∀ (s : Shared) (H : Hp) (C : Addr) (cl : List (Str × Addr)) (fp : List Addr), PG (X.blk s H scope (compEnvC scope cl C X.env) fp) tg g) (ht : ∀ (s : Shared) (H : Hp) (C : Addr) (cl : List (Str × Addr)) (fp : List Addr), PTs (X.blk s H scope (compEnvC scope cl C X.env) fp) ifs tt)
    (hk : ∀ (s : Shared) (H : Hp) (C : Addr) (cl : List (Str × Addr)) (fp : List Addr), PE (X.blk s H scope (compEnvC scope cl C X.env) fp) kx tk) (hv : ∀ (s : Shared) (H : Hp) (C : Addr) (cl : List (Str × Addr)) (fp : List Addr), PE (X.blk s H scope (compEnvC scope cl C X.env) fp) vx tv)
    (hs : ∀ x, foldedSetIterable iter X.env x = pure x := by intro _; rfl) : PE X (.DictComp kx vx [⟨tg, iter, ifs, 0⟩] scope pos) (tCo oDK wi g tt (taPutK tk tv) (own.map (·.2))) :=
  pe_co (vs1 := []) (sort_dict1 (fun _ h hb => dk_empty h hb) hs) hc hN hi ok (fun _ z => by cases z) hg ht fun s H C cl fp D => pac_putK (Y := X.blk s H scope (compEnvC scope cl C X.env) fp) (fun _ _ z => z) (hk s H C cl fp) (hv s H C cl fp)
/-- keys tuples of ints -/
theorem pe_dcT (hu : X.A.units < cLine) (hc : X.calm = true) (hN : X.N.Nodup) (hi : PI X tg iter wi) (ok : BlkOk X.N X.env.scope scope own)
    (hg : ∀ (s : Shared) (H : Hp) (C : Addr) (cl : List (Str × Addr)) (fp : List Addr), PG (X.blk s H scope (compEnvC scope cl C X.env) fp) tg g) (ht : ∀ (s : Shared) (H : Hp) (C : Addr) (cl : List (Str × Addr)) (fp : List Addr), PTs (X.blk s H scope (compEnvC scope cl C X.env) fp) ifs tt)
    (hk : ∀ (s : Shared) (H : Hp) (C : Addr) (cl : List (Str × Addr)) (fp : List Addr), PE (X.blk s H scope (compEnvC scope cl C X.env) fp) kx tk) (hv : ∀ (s : Shared) (H : Hp) (C : Addr) (cl : List (Str × Addr)) (fp : List Addr), PE (X.blk s H scope (compEnvC scope cl C X.env) fp) vx tv)
    (hs : ∀ x, foldedSetIterable iter X.env x = pure x := by intro _; rfl) : PE X (.DictComp kx vx [⟨tg, iter, ifs, 0⟩] scope pos) (tCo oDT wi g tt (taPutT X.K tk tv) (own.map (·.2))) :=
  pe_co (vs1 := []) (sort_dict1 (fun _ h hb => dtT_empty hb) hs) hc hN hi ok (fun _ z => by cases z) hg ht fun s H C cl fp D => pac_putT (Y := X.blk s H scope (compEnvC scope cl C X.env) fp) hu (fun _ _ z => z) (hk s H C cl fp) (hv s H C cl fp)
/-- a comprehension of a dict on a name's line -/
theorem sw_trueD {gs : List Comprehension} {py : Pos} {y : Str} {l : Nat} {env : PySem.Env} (fk : env.scope.kind = .function) (hy : env.scope.names.lookup y = some .local) (hl : (py.line == pos.line) = true)
    (own0 : (scope.names.any fun (n, k) => n == y && (k == .local || k == .cell)) = false) : swapsWith (.DictComp kx vx gs scope pos) (some (.Name y py)) l env = pure true := by
  have k1 : env.kindOf y = some .local := hy
  have k2 : env.blockKind = .function := by unfold Env.blockKind; rw [fk]; rfl
  unfold swapsWith
  simp only [k2, k1, own0, Expr.pos, hl]
  rfl
variable {i : Nat} {y : Str} {py spos : Pos}
theorem ps_setDcK (hc : X.calm = true) (hN : X.N.Nodup) (hy : X.N[i]? = some y) (hyl : X.env.scope.names.lookup y = some .local) (hsw : swapsWith (.DictComp kx vx [⟨tg, iter, ifs, 0⟩] scope pos) (some (.Name y py)) spos.line X.env = pure true) (hi : PI X tg iter wi) (ok : BlkOk X.N X.env.scope scope own)
    (hg : ∀ (s : Shared) (H : Hp) (C : Addr) (cl : List (Str × Addr)) (fp : List Addr), PG (X.blk s H scope (compEnvC scope cl C X.env) fp) tg g) (ht : ∀ (s : Shared) (H : Hp) (C : Addr) (cl : List (Str × Addr)) (fp : List Addr), PTs (X.blk s H scope (compEnvC scope cl C X.env) fp) ifs tt)
    (hk : ∀ (s : Shared) (H : Hp) (C : Addr) (cl : List (Str × Addr)) (fp : List Addr), PE (X.blk s H scope (compEnvC scope cl C X.env) fp) kx tk) (hv : ∀ (s : Shared) (H : Hp) (C : Addr) (cl : List (Str × Addr)) (fp : List Addr), PE (X.blk s H scope (compEnvC scope cl C X.env) fp) vx tv)
    (hs : ∀ x, foldedSetIterable iter X.env x = pure x := by intro _; rfl) : PS X (.Assign [.Name y py] (.DictComp kx vx [⟨tg, iter, ifs, 0⟩] scope pos) spos) (tAsg (tCo oDK wi g tt (taPutK tk tv) (own.map (·.2))) (gName i)) :=
  ps_setCo (vs1 := []) (sort_dict1 (fun _ h hb => dk_empty h hb) hs) hc hN hi ok (fun _ z => by cases z) hg ht (fun s H C cl fp D => pac_putK (Y := X.blk s H scope (compEnvC scope cl C X.env) fp) (fun _ _ z => z) (hk s H C cl fp) (hv s H C cl fp)) hy hyl hsw ⟨_, fun use => rfl⟩
theorem ps_setDcT (hu : X.A.units < cLine) (hc : X.calm = true) (hN : X.N.Nodup) (hy : X.N[i]? = some y) (hyl : X.env.scope.names.lookup y = some .local) (hsw : swapsWith (.DictComp kx vx [⟨tg, iter, ifs, 0⟩] scope pos) (some (.Name y py)) spos.line X.env = pure true) (hi : PI X tg iter wi) (ok : BlkOk X.N X.env.scope scope own)
    (hg : ∀ (s : Shared) (H : Hp) (C : Addr) (cl : List (Str × Addr)) (fp : List Addr), PG (X.blk s H scope (compEnvC scope cl C X.env) fp) tg g) (ht : ∀ (s : Shared) (H : Hp) (C : Addr) (cl : List (Str × Addr)) (fp : List Addr), PTs (X.blk s H scope (compEnvC scope cl C X.env) fp) ifs tt)
    (hk : ∀ (s : Shared) (H : Hp) (C : Addr) (cl : List (Str × Addr)) (fp : List Addr), PE (X.blk s H scope (compEnvC scope cl C X.env) fp) kx tk) (hv : ∀ (s : Shared) (H : Hp) (C : Addr) (cl : List (Str × Addr)) (fp : List Addr), PE (X.blk s H scope (compEnvC scope cl C X.env) fp) vx tv)
    (hs : ∀ x, foldedSetIterable iter X.env x = pure x := by intro _; rfl) : PS X (.Assign [.Name y py] (.DictComp kx vx [⟨tg, iter, ifs, 0⟩] scope pos) spos) (tAsg (tCo oDT wi g tt (taPutT X.K tk tv) (own.map (·.2))) (gName i)) :=
  ps_setCo (vs1 := []) (sort_dict1 (fun _ h hb => dtT_empty hb) hs) hc hN hi ok (fun _ z => by cases z) hg ht (fun s H C cl fp D => pac_putT (Y := X.blk s H scope (compEnvC scope cl C X.env) fp) hu (fun _ _ z => z) (hk s H C cl fp) (hv s H C cl fp)) hy hyl hsw ⟨_, fun use => rfl⟩
end
end L2.DL
/-! Sets and dicts over data: comprehensions, in, stores -/
namespace L2.DL
open L2 L2.My NdefX PySem PySem.Spec PyProof.Rows
/-! ### keys -/
def asKey : D → Option Key
  | .v (.int i) => some (.inl i)
  | .v (.str x) => some (.inr x)
  | _ => none
theorem asKey_eq {d : D} {k : Key} (h : asKey d = some k) : d = .v (kV k) := by
  unfold asKey at h
  split at h
  · cases h; rfl
  · cases h; rfl
  · cases h
def asTI : D → Option (List Int)
  | .tup ds => asIs ds
  | _ => none
theorem asTI_eq {d : D} {k : List Int} (h : asTI d = some k) : ∃ ds, d = .tup ds ∧ asIs ds = some k := by
  unfold asTI at h
  split at h
  · exact ⟨_, rfl, h⟩
  · cases h
def putDk (kvs : List (Key × D)) (k : Key) (d : D) : List (Key × D) :=
  if (kvs.any fun kv => decide (kv.1 = k)) = true then kvs.map (fun kv => if kv.1 = k then (kv.1, d) else kv) else kvs ++ [(k, d)]
section
variable {K : W.Frag} {G : Hp}
theorem RKv.app : ∀ {vs us : List (Key × V)} {ds es : List (Key × D)}, RKv K G vs ds → RKv K G us es → RKv K G (vs ++ us) (ds ++ es)
  | _, _, _, _, .nil, h => h
  | _, _, _, _, .cons h t, h' => .cons h (RKv.app t h')
theorem RKv.any {k : Key} : ∀ {vs : List (Key × V)} {ds : List (Key × D)}, RKv K G vs ds → (vs.any fun kv => decide (kv.1 = k)) = ds.any fun kv => decide (kv.1 = k)
  | _, _, .nil => rfl
  | _, _, .cons _ t => by rw [List.any_cons, List.any_cons, RKv.any t]
theorem RKv.repl {k : Key} {v : V} {d : D} (r : R K G v d) : ∀ {vs : List (Key × V)} {ds : List (Key × D)}, RKv K G vs ds → RKv K G (vs.map fun kv => if kv.1 = k then (kv.1, v) else kv) (ds.map fun kv => if kv.1 = k then (kv.1, d) else kv)
  | _, _, .nil => .nil
  | _, _, @RKv.cons _ _ k' _ _ _ _ h t => by
    rw [List.map_cons, List.map_cons]
    by_cases e : k' = k
    · simp only [e, if_true]
      exact .cons r (RKv.repl r t)
    · simp only [e, if_false]
      exact .cons h (RKv.repl r t)
theorem RKv.put {k : Key} {v : V} {d : D} {vs : List (Key × V)} {ds : List (Key × D)} (h : RKv K G vs ds) (r : R K G v d) : RKv K G (putK vs k v) (putDk ds k d) := by
  unfold putK putDk
  rw [RKv.any h]
  by_cases e : (ds.any fun kv => decide (kv.1 = k)) = true
  · rw [if_pos e, if_pos e]
    exact RKv.repl r h
  · rw [if_neg e, if_neg e]
    exact RKv.app h (.cons r .nil)
end
/-! ### in, not in: lists, tuples, texts' lists, dicts -/
def rInX (K : W.Frag) (b : Bool) : R2 := fun x y H Q => rInP K b x y H Q ∨ (∃ a o, y = .ref a ∧ DGet H a x o ∧ Q (.bl (b == o.isSome)) H) ∨
  ∃ a p k L, x = .ref p ∧ y = .ref a ∧ SqT K H p (k.map V.int) ∧ H a = some (DTO a L) ∧ (∀ q ∈ L, SqT K H q.2 (q.1.map V.int)) ∧ Q (.bl (b == decide (k ∈ L.map (·.1)))) H
section
variable {X : Cx}
theorem dto_has {h : Heap} {P : Program} {w : World} {xs : List (List Int × Addr × Value)} {L : List (List Int × Addr)} {k : List Int} (eL : L = xs.map (fun x => (x.1, x.2.1))) : (atKey xs k).isSome = decide (k ∈ L.map (·.1)) := by
  rw [eL, List.map_map]
  unfold atKey
  rw [Option.isSome_map, Bool.eq_iff_iff, List.find?_isSome, decide_eq_true_eq]
  constructor
  · rintro ⟨x, hx, e⟩
    exact List.mem_map.mpr ⟨x, hx, by simpa using e⟩
  · intro h
    obtain ⟨x, hx, e⟩ := List.mem_map.mp h
    exact ⟨x, hx, by simpa using e⟩
theorem op_inX (hu : X.A.units + 64 < cLine) : OpR X (compareOp .In) (rInX X.K true) := by
  intro pins s σ H x y v u Q I rx ry h
  rcases h with h | ⟨a, o, rfl, g, q⟩ | ⟨a, p, k, L, rfl, rfl, hk, hL, hs, q⟩
  · exact op_inP hu pins s σ H x y v u Q I rx ry h
  · cases (show u = Value.ref a from ry)
    refine d_in (by omega) I g rx fun s' I' => ⟨.bl o.isSome, H, I', rfl, by simpa using q⟩
  · cases (show u = Value.ref a from ry)
    cases (show v = Value.ref p from rx)
    obtain ⟨d, xs, eL, dd⟩ := dto_at I hL hs
    refine wpAny_in_heap (knd := TK X.prog X.w) (k := k) (tupleKind_room_in1 (by omega)) (I.isT hk) d.ns dd ⟨.bl _, H, I.tok _, rfl, ?_⟩
    rw [dto_has (h := s.heap) (P := X.prog) (w := X.w) eL]
    simpa using q
theorem op_notInX (hu : X.A.units + 64 < cLine) : OpR X (compareOp .NotIn) (rInX X.K false) := by
  intro pins s σ H x y v u Q I rx ry h
  have eb : ∀ b : Bool, (false == b) = !b := by decide
  rcases h with h | ⟨a, o, rfl, g, q⟩ | ⟨a, p, k, L, rfl, rfl, hk, hL, hs, q⟩
  · exact op_notInP hu pins s σ H x y v u Q I rx ry h
  · cases (show u = Value.ref a from ry)
    refine d_notIn (by omega) I g rx fun s' I' => ⟨.bl (!o.isSome), H, I', rfl, by rw [← eb]; exact q⟩
  · cases (show u = Value.ref a from ry)
    cases (show v = Value.ref p from rx)
    obtain ⟨d, xs, eL, dd⟩ := dto_at I hL hs
    refine wpAny_notIn_heap (knd := TK X.prog X.w) (k := k) (tupleKind_room_in1 (by omega)) (I.isT hk) d.ns dd ⟨.bl _, H, I.tok _, rfl, ?_⟩
    rw [dto_has (h := s.heap) (P := X.prog) (w := X.w) eL, ← eb]
    exact q
end
def inX (b : Bool) (x y : D) : Option D := match y with
  | .dct kvs => (asKey x).map fun k => dB (b == kvs.any fun kv => decide (kv.1 = k))
  | .dtp ks => (asTI x).map fun k => dB (b == decide (k ∈ ks))
  | _ => inD b x y
section
variable {K : W.Frag}
theorem rb_tint {g m : Msk} {H : Hp} {v : V} {d : D} {k : List Int} (r : RB K g m H v d) (e : asTI d = some k) : ∃ p, v = .ref p ∧ SqT K H p (k.map V.int) := by
  obtain ⟨ds, rfl, e⟩ := asTI_eq e
  obtain ⟨a, xs, rfl, h1, h2⟩ := RBo.tup r
  exact ⟨a, rfl, by rw [← asIs_rel h2 e]; exact h1⟩
theorem rb_dtp {g m : Msk} {H : Hp} {v : V} {ks : List (List Int)} (r : RB K g m H v (.dtp ks)) : ∃ a L, v = .ref a ∧ H a = some (DTO a L) ∧ (∀ q ∈ L, SqT K H q.2 (q.1.map V.int)) ∧ ks = L.map (·.1) := by
  rcases r with r | ⟨_, c, _, e, _⟩
  · cases r with
    | dtp h1 h2 h3 => exact ⟨_, _, rfl, cut_le _ _ h1, fun q hq => SqT.same cut_le (h2 q hq), h3⟩
  · cases c <;> cases e
theorem p2_inX {b : Bool} : P2 K .s (rInX K b) (inX b) := by
  intro g m H v u d c e Q hm r1 r2 he k
  unfold inX at he
  split at he
  · rename_i kvs
    obtain ⟨key, ek, e2⟩ := Option.map_eq_some_iff.mp he
    subst e2
    obtain ⟨a, ws, rfl, h1, h2⟩ := RBo.dct r2
    have := asKey_eq ek
    subst this
    obtain rfl := RBo.sc r1
    refine .inr (.inl ⟨a, _, rfl, DGet.k h1, ?_⟩)
    rw [← valV_any, RKv.any h2]
    exact k _ H (Same.refl _) (.v _)
  · rename_i ks
    obtain ⟨key, ek, e2⟩ := Option.map_eq_some_iff.mp he
    subst e2
    obtain ⟨p, rfl, hp⟩ := rb_tint r1 ek
    obtain ⟨a, L, rfl, h1, h2, rfl⟩ := rb_dtp r2
    exact .inr (.inr ⟨a, p, key, L, rfl, rfl, hp, h1, h2, k _ H (Same.refl _) (.v _)⟩)
  · exact .inl (p2_in hm r1 r2 he k)
end
/-! ### o[i] = v -/
def rSetX : TSet := fun o i v H Q => rSetL o i v H Q ∨ rSetD o i v H Q
theorem set_any {X : Cx} (hu : X.A.units + 1 < cLine) : PSet X rSetX := by
  intro pins s σ H o i v ov iv u Q I ro ri rv h
  rcases h with h | h
  · exact set_list pins s σ H o i v ov iv u Q I ro ri rv h
  · exact set_dict hu pins s σ H o i v ov iv u Q I ro ri rv h
def putX (ρ : Env) (i : Nat) (k d : D) : Option Cell := match ρ[i]? with
  | some (.own (.lst xs)) => (asI k).bind fun k => (ixN xs.length k).map fun j => .lst (xs.set j d)
  | some (.own (.dct kvs)) => (asKey k).bind fun k => if kvs.length < sizeLine then some (.dct (putDk kvs k d)) else none
  | _ => none
section
variable {S : Type} {Γ : Fr S} {K : W.Frag} {E : XK} {ta tb tk tv : TE} {A B : TX S} {g : TG} {gd : GD} {ts : List Nat} {tt : TT} {C : TB S} {wi : TI} {I : TL S} {vs : List Nat}
def isO (ρ : Env) (i : Nat) : Prop := ∃ c, ρ[i]? = some (.own c)
def pSetX (i : Nat) (A B : TX S) : TP S := fun ρ s P => isO ρ i ∧ A ρ s (fun d s1 => B ρ s1 (fun k s2 => opt (putX ρ i k d) fun c => P.nx (ρ.set i (.own c)) s2) P.ex) P.ex
theorem ls_setX {i : Nat} (ha : Ln Γ K E .s ta A) (hb : Ln Γ K E .b tb B) : LnS Γ K E (tAsg ta (gSub (tVar i) tb rSetX)) (pSetX i A B) := by
  intro M α σ H ρ s ok st P Dn ⟨⟨c0, e'⟩, q⟩ kn kb kc kr kx
  refine ha ok st _ P.ex _ q (fun v H1 d s1 p1 st1 r1 z => ?_) (fun c dx H' x s' p st' r z => kx c dx H' x s' (stS_end p) st' (r.mono fun _ z => .inl z) z)
  refine ⟨_, (((ok.step p1).slot i _ e').1), ?_⟩
  refine hb (ok.step p1) st1 _ P.ex _ z (fun u H2 k s2 p2 st2 r2 z => ?_) (fun c dx H' x s' p st' r z => kx c dx H' x s' (stS_end (p1.trans p)) st' (r.mono fun _ z => .inl z) z)
  obtain ⟨c1, ec, zz⟩ := opt_ex z
  clear z
  have p := p1.trans p2
  have ok' := ok.step p
  have cell := (ok'.slot i _ e').2
  have rd : R K (cut (mask M α ρ) H2) v d := R.same (p2.cut ok.msub) r1
  have loc : ∀ {o : HO}, Γ.st s2 (upd H2 (α i) o) := fun {o} => Γ.loc (fun a y => by rw [upd_ne fun e => ok.out i ⟨_, e', rfl⟩ (ok.sub _ (by rw [← e]; exact y))]) st2
  unfold putX at ec
  rw [e'] at ec
  cases c0 with
  | lst xs =>
    obtain ⟨n, en, ec⟩ := Option.bind_eq_some_iff.mp ec
    obtain ⟨j, ej, ec⟩ := Option.map_eq_some_iff.mp ec
    subst ec
    obtain rfl := asI_sc r2 en
    obtain ⟨ws, h1, rr⟩ := cell
    obtain ⟨o3, p3⟩ := ok'.turn e' (RAll.set rd j rr)
    refine .inl ⟨_, ws, n, j, rfl, rfl, h1, by rw [RAll.len rr]; exact ej, ?_⟩
    exact kn σ _ _ s2 α o3 loc ((stS_stp p).trans p3) zz
  | dct kvs =>
    obtain ⟨key, ek, ec⟩ := Option.bind_eq_some_iff.mp ec
    split at ec
    · rename_i hl
      cases ec
      have := asKey_eq ek
      subst this
      obtain rfl := RBo.sc r2
      obtain ⟨ws, h1, rr⟩ := cell
      obtain ⟨o3, p3⟩ := ok'.turnC (c' := .dct (putDk kvs key d)) (u := .dK (putK ws key v)) e' fun m' H' sm e => ⟨_, e, RKv.same sm (RKv.put rr rd)⟩
      refine .inr ⟨α i, _, rfl, DPut.k h1 (by rw [RKv.len rr]; exact hl), ?_⟩
      exact kn σ _ _ s2 α o3 loc ((stS_stp p).trans p3) zz
    · cases ec
  | obj => cases ec
/-! ### acts -/
def arS (w : World) : ARep (List Int) := fun acc D0 _ o => ∃ Sf n, o = SetO w D0 Sf n ∧ (∀ k, Sf k = decide (k ∈ acc)) ∧ n ≤ acc.length
def arK (K : W.Frag) : ARep (List (Key × D)) := fun acc _ G o => ∃ ws, o = .dK ws ∧ RKv K G ws acc
def arT (K : W.Frag) : ARep (List (List Int)) := fun acc D0 G o => ∃ L, o = DTO D0 L ∧ (∀ q ∈ L, SqT K G q.2 (q.1.map V.int)) ∧ acc = L.map (·.1)
theorem arS_mono {w : World} : Mono (arS w) := fun _ h => h
theorem arK_mono : Mono (arK K) := fun s ⟨ws, e, r⟩ => ⟨ws, e, RKv.same s r⟩
theorem arT_mono : Mono (arT K) := fun s ⟨L, e, r, h⟩ => ⟨L, e, fun q hq => SqT.same s (r q hq), h⟩
def stAdd (A : TX S) : Stepper S (List Int) := fun ρ s acc QD => A ρ s (fun y s1 => opt (asI y) fun k => acc.length < 1000 ∧ QD (acc ++ [k]) s1) (fun _ _ => False)
def stPutK (A B : TX S) : Stepper S (List (Key × D)) := fun ρ s acc QD => A ρ s (fun y s1 => B ρ s1 (fun z s2 => opt (asKey y) fun k => acc.length < sizeLine ∧ QD (putDk acc k z) s2) (fun _ _ => False)) (fun _ _ => False)
def stPutT (A B : TX S) : Stepper S (List (List Int)) := fun ρ s acc QD => A ρ s (fun y s1 => B ρ s1 (fun _ s2 => opt (asTI y) fun k => acc.length < sizeLine ∧ QD (if k ∈ acc then acc else acc ++ [k]) s2) (fun _ _ => False)) (fun _ _ => False)
section
variable {M : Msk} {α : Nat → Addr} {σ : L2.St} {H : Hp} {ρ : Env} {s : S} {D0 : Addr} {o : HO}
theorem at_D0 (mD : mask M α ρ D0) : Same (cut (mask M α ρ) H) (cut (mask M α ρ) (upd H D0 o)) := fun b u e => by
  obtain ⟨n, e⟩ := of_cut e
  rw [cut_out n, upd_ne fun z => n (by rw [z]; exact mD)]
  exact e
theorem stp_D0 : Stp (Γ.plus D0) H (upd H D0 o) := ⟨fun a u n e => by rw [upd_ne fun z => n (.inr z)]; exact e, fun a z => by
  by_cases ne : a = D0
  · rw [ne, upd_same]; exact fun q => by cases q
  · rw [upd_ne ne]; exact z⟩
end
theorem la_add {w : World} (ha : Ln Γ K E0 .b ta A) : LnAct Γ K (arS w) (taAdd (rSAdd w) ta) (stAdd A) := by
  intro M α σ H ρ s D0 acc o ok gD no st hD ra QD Nx q k
  refine ha (Ok.less ok no) st _ _ _ q (fun v H1 d s1 p1 st1 r z => ?_) (fun c dx H' x s' p st' r z => z.elim)
  obtain ⟨n, en, z⟩ := opt_ex z
  obtain rfl := asI_sc r en
  obtain ⟨Sf, c, rfl, hS, hc⟩ := ra
  have hD1 : H1 D0 = some (SetO w D0 Sf c) := p1.keep _ _ gD hD
  refine ⟨D0, n, Sf, c, rfl, rfl, hD1, by have := z.1; unfold scanBound; omega, ?_⟩
  refine k _ _ s1 _ (p1.more.trans stp_D0) (Γ.loc (fun a y => by rw [upd_ne fun e => gD (by rw [← e]; exact y)]) st1) upd_same ⟨_, _, rfl, fun j => ?_, ?_⟩ z.2
  · rw [hS j]; simp
  · rw [List.length_append, List.length_cons, List.length_nil]; split <;> omega
theorem la_putK (ha : Ln Γ K E0 .b tk A) (hb : Ln Γ K E0 .s tv B) : LnAct Γ K (arK K) (taPutK tk tv) (stPutK A B) := by
  intro M α σ H ρ s D0 acc o ok gD no st hD ra QD Nx q k
  have okl := Ok.less ok no
  refine ha okl st _ _ _ q (fun v H1 d s1 p1 st1 r z => ?_) (fun c dx H' x s' p st' r z => z.elim)
  refine hb (okl.step p1) st1 _ _ _ z (fun u H2 e s2 p2 st2 r2 z => ?_) (fun c dx H' x s' p st' r z => z.elim)
  obtain ⟨n, en, zz⟩ := opt_ex z
  clear z
  have := asKey_eq en
  subst this
  obtain rfl := RBo.sc r
  obtain ⟨ws, rfl, hr⟩ := ra
  have p := p1.trans p2
  have hD2 : H2 D0 = some (.dK ws) := p.keep _ _ gD hD
  have mD : mask M α ρ D0 := .inl (ok.sub D0 (.inr rfl))
  refine ⟨ws, n, rfl, hD2, by rw [RKv.len hr]; exact zz.1, ?_⟩
  exact k _ _ s2 _ (p.more.trans stp_D0) (Γ.loc (fun a y => by rw [upd_ne fun e => gD (by rw [← e]; exact y)]) st2) upd_same ⟨_, rfl, RKv.put (RKv.same (at_D0 mD) (RKv.same (p.cut okl.msub) hr)) (R.same (at_D0 mD) r2)⟩ zz.2
theorem la_putT (ha : Ln Γ K E0 .s tk A) (hb : Ln Γ K E0 .s tv B) : LnAct Γ K (arT K) (taPutT K tk tv) (stPutT A B) := by
  intro M α σ H ρ s D0 acc o ok gD no st hD ra QD Nx q k
  have okl := Ok.less ok no
  refine ha okl st _ _ _ q (fun v H1 d s1 p1 st1 r z => ?_) (fun c dx H' x s' p st' r z => z.elim)
  refine hb (okl.step p1) st1 _ _ _ z (fun u H2 e s2 p2 st2 r2 z => ?_) (fun c dx H' x s' p st' r z => z.elim)
  obtain ⟨n, en, zz⟩ := opt_ex z
  clear z
  obtain ⟨ds, rfl, ei⟩ := asTI_eq en
  obtain ⟨L, rfl, hr, rfl⟩ := ra
  have p := p1.trans p2
  have hD2 : H2 D0 = some (DTO D0 L) := p.keep _ _ gD hD
  have mD : mask M α ρ D0 := .inl (ok.sub D0 (.inr rfl))
  cases r with
  | tup h1 h2 =>
    have e2 := asIs_rel h2 ei
    subst e2
    have c1 : Same (cut (mask M α ρ) H1) (cut (mask M α ρ) H2) := p2.cut okl.msub
    have c2 : Same (cut (mask M α ρ) H) (cut (mask M α ρ) H2) := p.cut okl.msub
    refine ⟨_, n, L, rfl, SqT.same cut_le (SqT.same c1 h1), hD2, fun q hq => SqT.same cut_le (SqT.same c2 (hr q hq)), by simpa using zz.1, ?_⟩
    refine k _ _ s2 _ (p.more.trans stp_D0) (Γ.loc (fun a y => by rw [upd_ne fun e => gD (by rw [← e]; exact y)]) st2) upd_same ⟨_, rfl, fun q hq => ?_, ?_⟩ zz.2
    · unfold putT at hq
      split at hq
      · exact SqT.same (at_D0 mD) (SqT.same c2 (hr q hq))
      · rcases List.mem_append.mp hq with hq | hq
        · exact SqT.same (at_D0 mD) (SqT.same c2 (hr q hq))
        · rw [List.mem_singleton.mp hq]
          exact SqT.same (at_D0 mD) (SqT.same c1 h1)
    · unfold putT
      split
      · rfl
      · rw [List.map_append]; rfl
/-! ### links -/
def xDk (I : TL S) (gd : GD) (C : TB S) (A B : TX S) (vs : List Nat) : TX S := fun ρ s Q X => I ρ s (fun ds s1 => coT gd C (stPutK A B) (fun acc s' => Q (.dct acc) s') (inE ρ vs) ds [] s1) X
theorem ln_dcK (hts : ts.all (fun i => vs.contains i) = true) (hi : LnI Γ K E false wi I) (hg : ∀ Γ : Fr S, LnG Γ K ts g gd) (hc : LnT Γ K E0 tt C) (ha : Ln Γ K E0 .b tk A) (hb : Ln Γ K E0 .s tv B) :
    Ln Γ K E .f (tCo oDK wi g tt (taPutK tk tv) vs) (xDk I gd C A B vs) := by
  intro M α σ H ρ s ok st QD QX Q q k kx
  refine co_first (QX := QX) (AR := arK K) (acc0 := []) (o0 := oDK) arK_mono (fun _ _ => ⟨[], rfl, .nil⟩) hts hi hg hc (la_putK ha hb) ok st q (fun D0 H' acc s' o nD hD ra p st' z => ?_) kx
  obtain ⟨ws, rfl, hr⟩ := ra
  exact k _ H' _ s' p st' ⟨D0, .dct acc, rfl, rfl, nD, ws, hD, hr⟩ z
def xDt (I : TL S) (gd : GD) (C : TB S) (A B : TX S) (vs : List Nat) : TX S := fun ρ s Q X => I ρ s (fun ds s1 => coT gd C (stPutT A B) (fun acc s' => Q (.dtp acc) s') (inE ρ vs) ds [] s1) X
theorem ln_dcT (hts : ts.all (fun i => vs.contains i) = true) (hi : LnI Γ K E false wi I) (hg : ∀ Γ : Fr S, LnG Γ K ts g gd) (hc : LnT Γ K E0 tt C) (ha : Ln Γ K E0 .s tk A) (hb : Ln Γ K E0 .s tv B) :
    Ln Γ K E .s (tCo oDT wi g tt (taPutT K tk tv) vs) (xDt I gd C A B vs) := by
  intro M α σ H ρ s ok st QD QX Q q k kx
  refine co_first (QX := QX) (AR := arT K) (acc0 := []) (o0 := oDT) arT_mono (fun _ _ => ⟨[], rfl, (fun _ z => nomatch z), rfl⟩) hts hi hg hc (la_putT ha hb) ok st q (fun D0 H' acc s' o nD hD ra p st' z => ?_) kx
  obtain ⟨L, rfl, hr, rfl⟩ := ra
  have nm : ¬ mask M α ρ D0 := fun y => ok.mtrk D0 y nD
  exact k _ H' _ s' p st' (.dtp (by rw [cut_out nm]; exact hD) (fun q hq => SqT.same (cut_mono fun a y => .inl y) (hr q hq)) rfl) z
def xSs {Acc : Type} (I : TL S) (gd : GD) (C : TB S) (step : Stepper S (List Int)) (vs : List Nat) : TX S := fun ρ s Q X => I ρ s (fun ds s1 => coT gd C step (fun acc s' => acc.length < 64 ∧ Q (.lst ((sortI acc).map dI)) s') (inE ρ vs) ds [] s1) X
theorem ln_ss2 {w : World} {tact : Addr → L2.St → Hp → (Hp → Prop) → Prop} {step : Stepper S (List Int)} (hts : ts.all (fun i => vs.contains i) = true) (hi : LnI Γ K E false wi I) (hg : ∀ Γ : Fr S, LnG Γ K ts g gd) (hc : LnT Γ K E0 tt C) (ha : LnAct Γ K (arS w) tact step) :
    Ln Γ K E .f (tCB (rSortedSet w) (tCons (tCo (oSet0 w) wi g tt tact vs) tNil)) (xSs (Acc := Unit) I gd C step vs) := by
  intro M α σ H ρ s ok st QD QX Q q k kx
  show tCo (oSet0 w) wi g tt tact vs σ H fun v H' => rSortedSet w [v] H' Q
  refine co_first (QX := QX) (AR := arS w) (acc0 := []) (o0 := oSet0 w) arS_mono (fun _ _ => ⟨fun _ => false, 0, rfl, fun j => by simp, Nat.zero_le _⟩) hts hi hg hc ha ok st q (fun D0 H' acc s' o nD hD ra p st' z => ?_) kx
  obtain ⟨Sf, n, rfl, hS, hn⟩ := ra
  refine ⟨D0, Sf, n, rfl, hD, by have := z.1; omega, fun out b asc mem len hb => ?_⟩
  have eo : out = sortI acc := asc_eq (κ := id) asc (sortK_asc acc) fun y => by rw [mem y, sortI_mem, hS y]; simp
  subst eo
  have s2 := same_upd (o := HO.lst ((sortI acc).map V.int)) hb
  have ok' := ok.step p
  have hb0 : H b = none := Classical.byContradiction fun y => p.trk b y hb
  refine k _ _ _ s' (p.trans (Stp.of s2)) (Fr.same ok'.frt s2 st') ⟨b, .lst ((sortI acc).map dI), rfl, rfl, hb0, _, upd_same, ?_⟩ z.2
  have := RAll.ofV (K := K) (G := cut (fun c => mask M α ρ c ∨ c = b) (upd H' b (.lst ((sortI acc).map V.int)))) (xs := (sortI acc).map V.int)
  rwa [List.map_map] at this
end
end L2.DL
/-! pop at a place, lists turned round, two new lists at once; big steps for the new statements -/
namespace L2.DL
open L2 L2.My NdefX PySem PySem.Spec PyProof.Rows
section
variable {S : Type} {Γ : Fr S} {K : W.Frag} {E : XK} {ta tb : TE} {A B : TX S} {g : TG} {gd : GD} {ts : List Nat} {mo : Mo}
/-! ### x = xs.pop(k) -/
def pPopAt (i : Nat) (A : TX S) (gd : GD) : TP S := fun ρ s P => (ownL ρ i).isSome = true ∧ A ρ s (fun k s1 => opt (ownL ρ i) fun xs => opt (asI k) fun n => 0 ≤ n ∧ n < 2 ^ 63 ∧ opt xs[n.toNat]? fun d => opt (gd d (ρ.set i (.own (.lst (xs.eraseIdx n.toNat))))) fun ρ' => P.nx ρ' s1) P.ex
theorem seq_at {n : Int} {l : Nat} (h0 : 0 ≤ n) (h1 : n.toNat < l) : seqIndex? n l = some n.toNat := by
  unfold seqIndex?
  have h2 : ¬ n < 0 := by omega
  have h3 : n < l := by omega
  simp [h2, h0, h3]
theorem ls_popAt {i : Nat} (hg : LnG Γ K ts g gd) (ha : Ln Γ K E .b ta A) : LnS Γ K E (tAsg (tBM K "list" rPopAt (tVar i) (tCons ta tNil)) g) (pPopAt i A gd) := by
  intro M α σ H ρ s ok st P Dn ⟨hs, q⟩ kn kb kc kr kx
  obtain ⟨xs0, e0⟩ := Option.isSome_iff_exists.mp hs
  have e0' := ownL_at e0
  refine ⟨_, (own_var ok e0').1, ?_⟩
  obtain ⟨e1, vs0, h10, r10⟩ := own_var ok e0'
  refine ⟨tyV_lst h10, ?_⟩
  refine ha ok st _ P.ex _ q (fun v H' k s' p st' r z => ?_) (fun c dx H' x s' p st' r z => kx c dx H' x s' (stS_end p) st' (r.mono fun _ z => .inl z) z)
  obtain ⟨xs, e, z⟩ := opt_ex z
  obtain ⟨n, en, z⟩ := opt_ex z
  obtain ⟨n0, n1, z⟩ := z
  obtain ⟨d, ed, z⟩ := opt_ex z
  obtain ⟨ρ', eg, z⟩ := opt_ex z
  obtain rfl := asI_sc r en
  have e' := ownL_at e
  have ok' := ok.step p
  obtain ⟨_, vs, h1, r1⟩ := own_var ok' e'
  obtain ⟨o2, p2⟩ := ok'.turn e' (RAll.erase n.toNat r1)
  obtain ⟨w, ew, rw'⟩ := RAll.getD r1 ed
  have lw : n.toNat < vs.length := (List.getElem?_eq_some_iff.mp ew).1
  refine ⟨_, vs, n, n.toNat, w, rfl, rfl, h1, by omega, n1, seq_at n0 lw, ew, ?_⟩
  have mm : ∀ a, mask M α (ρ.set i (.own (.lst (xs.eraseIdx n.toNat)))) a → mask M α ρ a := fun a z => z.imp id fun ⟨j, o, y⟩ => by
    rcases own_set o with ⟨rfl, _⟩ | ⟨_, o⟩
    · exact ⟨j, ⟨_, e', rfl⟩, y⟩
    · exact ⟨j, o, y⟩
  have rw2 : R K (cut (mask M α (ρ.set i (.own (.lst (xs.eraseIdx n.toNat))))) (upd H' (α i) (.lst (vs.eraseIdx n.toNat)))) w d := R.same (fun b o q => by
    obtain ⟨n', q⟩ := of_cut q
    rw [cut_out fun z => n' (mm b z), upd_ne fun z => n' (.inr ⟨i, ⟨_, e', rfl⟩, z.symm⟩)]
    exact q) rw'
  refine hg o2 rw2 eg _ fun σ' o3 m3 w3 _ => kn σ' _ ρ' s' α o3 (Γ.loc (fun a y => by rw [upd_ne fun e => ok.out i ⟨_, e', rfl⟩ (ok.sub _ (by rw [← e]; exact y))]) st') ((stS_stp p).trans (p2.trans (.of w3 (.refl (Γ := Γ)) fun _ z => .inl z))) z
/-! ### xs[::-1] -/
def revD : D → Option D
  | .lst xs => some (.lst xs.reverse)
  | _ => none
theorem p1_revL : P1 K .f (fun x H1 Q => ∃ a xs, x = V.ref a ∧ SqL K H1 a xs ∧ ∀ p, H1 p = none → Q (.ref p) (upd H1 p (.lst xs.reverse))) revD := by
  intro g m H v d c Q hm r e k
  unfold revD at e
  split at e
  · rename_i ds
    cases e
    obtain ⟨a, xs, rfl, h1, h2⟩ := RBo.lst r
    exact ⟨a, xs, rfl, .inl (.inl h1), fun p hp => k _ _ (same_upd hp) (lay_lst hm hp (RAll.rev h2))⟩
  · cases e
theorem ln_revL (ha : Ln Γ K E .b ta A) : Ln Γ K E .f (tRevL K ta) (xUn revD A) := fun ok st QD QX Q q k kx => ln_un (r := fun x H1 Q => ∃ a xs, x = V.ref a ∧ SqL K H1 a xs ∧ ∀ p, H1 p = none → Q (.ref p) (upd H1 p (.lst xs.reverse))) ha p1_revL ok st QD QX Q q k kx
/-! ### two new lists at once -/
def pParFF (A B : TX S) (i j : Nat) : TP S := fun ρ s P => A ρ s (fun d s1 => B ρ s1 (fun e s2 => opt (ownOf d) fun c => opt (ownOf e) fun c' => P.nx ((ρ.set i (.own c)).set j (.own c')) s2) P.ex) P.ex
theorem toD_own {d : D} {c : Cell} (h : ownOf d = some c) {c2 : Cell} (e : d = c2.toD) : c2 = c := by
  rw [e, ownOf_toD] at h
  exact Option.some.inj h
/-- what is new is one's own -/
theorem Ok.get {M : Msk} {α : Nat → Addr} {σ : L2.St} {H H' : Hp} {ρ : Env} {i : Nat} {a : Addr} {c : Cell} (ok : Ok Γ K M α σ H ρ) (hi : i ≠ 0) (na : H a = none) (p : Stp Γ H H') (hc : CellR K (cut (fun b => mask M α ρ b ∨ b = a) H') H' a c) :
    Ok Γ K M (fun l => if l = i then a else α l) (σ.set i (some (.ref a))) H' (ρ.set i (.own c)) ∧ ∀ b, mask M (fun l => if l = i then a else α l) (ρ.set i (.own c)) b → mask M α ρ b ∨ b = a := by
  have nM : ¬ M a := fun z => ok.trk a z na
  have nO : ∀ j, ownAt ρ j → α j ≠ a := fun j o e => ok.mtrk (α j) (.inr ⟨j, o, rfl⟩) (by rw [e]; exact na)
  have sub : ∀ b, mask M (fun l => if l = i then a else α l) (ρ.set i (.own c)) b → mask M α ρ b ∨ b = a := by
    rintro b (z | ⟨l, o, rfl⟩)
    · exact .inl (.inl z)
    · by_cases hl : l = i
      · exact .inr (by simp [hl])
      · rcases own_set o with ⟨e, _⟩ | ⟨_, o⟩
        · exact absurd e hl
        · exact .inl (.inr ⟨l, o, by simp [hl]⟩)
  refine ⟨ok.put (a := a) rfl (.inr hi) p.trk (fun b o e => ?_) (fun b o n _ e => p.keep b o n e) (fun _ => ⟨nM, fun j _ o => nO j o⟩) fun _ => ⟨rfl, hc.move (cut_mono sub) fun _ e => e⟩, sub⟩
  obtain ⟨n, e⟩ := of_cut e
  have nb : b ≠ a := fun q => by rw [q, na] at e; cases e
  rw [cut_out fun z => (sub b z).elim n nb]
  exact p.keep b o (fun z => n (ok.msub b z)) e
/-- the same environment where one more place is masked -/
theorem Ok.hide {M : Msk} {α : Nat → Addr} {σ : L2.St} {H H' : Hp} {ρ : Env} {a : Addr} (ok : Ok Γ K M α σ H ρ) (na : H a = none) (p : Stp Γ H H') (ha : H' a ≠ none) : Ok Γ K (fun b => M b ∨ b = a) α σ H' ρ := by
  have nO : ∀ j, ownAt ρ j → α j ≠ a := fun j o e => ok.mtrk (α j) (.inr ⟨j, o, rfl⟩) (by rw [e]; exact na)
  have c : Same (cut (mask M α ρ) H) (cut (mask (fun b => M b ∨ b = a) α ρ) H') := fun b o e => by
    obtain ⟨n, e⟩ := of_cut e
    have nb : b ≠ a := fun q => by rw [q, na] at e; cases e
    rw [cut_out fun z => z.elim (fun z => z.elim (fun z => n (.inl z)) nb) fun z => n (.inr z)]
    exact p.keep b o (fun z => n (ok.msub b z)) e
  refine ⟨fun b z => .inl (ok.sub b z), fun b z => z.elim (fun z => p.trk b (ok.trk b z)) (fun z => by rw [z]; exact ha), fun l o z => z.elim (ok.out l o) (nO l o), ok.inj, ok.len, fun l sl e => ?_, ok.sf⟩
  have q := ok.slot l sl e
  cases sl with
  | no => trivial
  | d y => obtain ⟨v, e1, r⟩ := q; exact ⟨v, e1, R.same c r⟩
  | bor y =>
    obtain ⟨v, e1, r⟩ := q
    exact ⟨v, e1, RBo.mono (fun b z => .inl z) (RBo.carry c (fun b u n _ e => p.keep b u n e) r)⟩
  | own y =>
    have oj : ownAt ρ l := ⟨_, e, rfl⟩
    exact ⟨q.1, q.2.move c fun o e => p.keep _ _ (fun z => ok.out l oj (ok.sub _ z)) e⟩
theorem ls_parFF {i j : Nat} (hi : i ≠ 0) (hj : j ≠ 0) (ha : Ln Γ K E .f ta A) (hb : Ln Γ K E .f tb B) : LnS Γ K E (tPar i j (tCons ta (tCons tb tNil))) (pParFF A B i j) := by
  intro M α σ H ρ s ok st P Dn q kn kb kc kr kx
  refine ha ok st _ P.ex _ q (fun v H1 d s1 p1 st1 r1 z => ?_) (fun c dx H' x s' p st' r z => kx c dx H' x s' (stS_end p) st' (r.mono fun _ z => .inl z) z)
  obtain ⟨a, c, rfl, rfl, na, hc⟩ := r1
  have okh := ok.hide na p1 hc.there
  refine hb okh st1 _ P.ex _ z (fun w H2 e s2 p2 st2 r2 z => ?_) (fun c dx H' x s' p st' r z => kx c dx H' x s' (stS_end (p1.trans p)) st' (r.mono fun _ z => .inl (.inl z)) z)
  obtain ⟨b, c', rfl, rfl, nb, hc'⟩ := r2
  obtain ⟨k1, e1, z⟩ := opt_ex z
  obtain ⟨k2, e2, z⟩ := opt_ex z
  rw [ownOf_toD] at e1 e2
  cases e1
  cases e2
  obtain ⟨ok1, sub1⟩ := ok.get hi na p1 hc
  have hc2 : CellR K (cut (fun x => mask M (fun l => if l = i then a else α l) (ρ.set i (.own c)) x ∨ x = b) H2) H2 b c' := hc'.move (cut_mono fun x z => z.elim (fun z => (sub1 x z).elim (fun z => z.elim (fun z => .inl (.inl (.inl z))) fun z => .inl (.inr z)) fun z => .inl (.inl (.inr z))) .inr) fun _ e => e
  obtain ⟨ok2, sub2⟩ := ok1.get hj nb p2 hc2
  refine ⟨_, _, rfl, kn _ H2 _ s2 _ ok2 st2 ⟨fun x o n e => ?_, ?_, fun x z => p2.trk x (p1.trk x z)⟩ z⟩
  · exact p2.keep x o (fun z => n (.inl z)) (p1.keep x o (fun z => n (.inl z)) e)
  · rintro x (z | ⟨l, o, rfl⟩)
    · exact .inl (.inl z)
    · by_cases hl : l = j
      · subst hl
        simp only [if_true]
        refine .inr (Classical.byContradiction fun q => p1.trk b q nb)
      · simp only [hl, if_false]
        by_cases hl2 : l = i
        · simp only [hl2, if_true]
          exact .inr na
        · simp only [hl2, if_false]
          rcases own_set o with ⟨q, _⟩ | ⟨_, o⟩
          · exact absurd q hl
          · rcases own_set o with ⟨q, _⟩ | ⟨_, o⟩
            · exact absurd q hl2
            · exact .inl (.inr ⟨l, o, rfl⟩)
/-! ### big steps -/
variable {ρ ρ' : Env} {s : S} {U : TP S} {P : Post S} {i j : Nat} {d e k : D} {xs : List D}
theorem sq_setX {c c2 : Cell} (h : ρ[i]? = some (.own c)) (h1 : Ev A ρ s d) (h2 : Ev B ρ s k) (h3 : putX ρ i k d = some c2) (z : Run U (ρ.set i (.own c2)) s P) : Run (pSeq (pSetX i A B) U) ρ s P := ⟨⟨⟨c, h⟩, h1.to _ _ (h2.to _ _ (ck_opt h3 z.go))⟩⟩
theorem sq_popAtk (h : ownL ρ i = some xs) (z : A ρ s (fun k s1 => opt (ownL ρ i) fun xs => opt (asI k) fun n => 0 ≤ n ∧ n < 2 ^ 63 ∧ opt xs[n.toNat]? fun d => opt (gd d (ρ.set i (.own (.lst (xs.eraseIdx n.toNat))))) fun ρ' => U ρ' s1 P) P.ex) : Run (pSeq (pPopAt i A gd) U) ρ s P := ⟨⟨by rw [h]; rfl, z⟩⟩
theorem sq_parFF {c c2 : Cell} (h1 : Ev A ρ s d) (h2 : Ev B ρ s e) (e1 : ownOf d = some c) (e2 : ownOf e = some c2) (z : Run U ((ρ.set i (.own c)).set j (.own c2)) s P) : Run (pSeq (pParFF A B i j) U) ρ s P := ⟨h1.to _ _ (h2.to _ _ (ck_opt e1 (ck_opt e2 z.go)))⟩
end
end L2.DL
/-! Comprehensions of sets and dicts by big steps -/
namespace L2.DL
open L2 L2.My NdefX PySem PySem.Spec PyProof.Rows
section
variable {S : Type} {Acc : Type} {gd : GD} {C : TB S} {A B : TX S} {step : Stepper S Acc} {Q : Acc → S → Prop} {ρ : Env} {s : S} {I : TL S} {vs : List Nat} {ds : List D}
theorem coT_ev (f : D → Acc → Acc) (J : List D → Acc → Prop) (h : ∀ d r acc, J (d :: r) acc → J r (f d acc) ∧ ∃ ρ1, gd d ρ = some ρ1 ∧ EvB C ρ1 s true ∧ ∀ Q' : Acc → S → Prop, Q' (f d acc) s → step ρ1 s acc Q') : ∀ (ds : List D) (acc : Acc), J ds acc → Q (ds.foldl (fun a d => f d a) acc) s → coT gd C step Q ρ ds acc s
  | [], acc, _, q => by unfold coT; exact q
  | d :: r, acc, j, q => by
    unfold coT
    obtain ⟨j', ρ1, e, c, st⟩ := h d r acc j
    refine ck_opt e (c.to _ _ ?_)
    rw [if_pos rfl]
    exact st _ (coT_ev f J h r (f d acc) j' q)
/-- tests that may fail -/
theorem coT_evp (p : D → Bool) (f : D → Acc → Acc) (J : List D → Acc → Prop) (h : ∀ d r acc, J (d :: r) acc → J r (if p d = true then f d acc else acc) ∧ ∃ ρ1, gd d ρ = some ρ1 ∧ EvB C ρ1 s (p d) ∧ (p d = true → ∀ Q' : Acc → S → Prop, Q' (f d acc) s → step ρ1 s acc Q')) : ∀ (ds : List D) (acc : Acc), J ds acc → Q ((ds.filter p).foldl (fun a d => f d a) acc) s → coT gd C step Q ρ ds acc s
  | [], acc, _, q => by unfold coT; exact q
  | d :: r, acc, j, q => by
    unfold coT
    obtain ⟨j', ρ1, e, c, st⟩ := h d r acc j
    refine ck_opt e (c.to _ _ ?_)
    rw [List.filter_cons] at q
    cases hp : p d with
    | true =>
      rw [hp, if_pos rfl] at q j'
      rw [if_pos rfl]
      exact st hp _ (coT_evp p f J h r (f d acc) j' q)
    | false =>
      rw [hp, if_neg (by decide)] at q j'
      rw [if_neg (by decide)]
      exact coT_evp p f J h r acc j' q
/-! ### dicts -/
theorem putDk_len (kvs : List (Key × D)) (k : Key) (d : D) : (putDk kvs k d).length ≤ kvs.length + 1 := by
  unfold putDk
  split
  · rw [List.length_map]; omega
  · rw [List.length_append]; simp
theorem putDk_any (kvs : List (Key × D)) (k j : Key) (d : D) : ((putDk kvs k d).any fun kv => decide (kv.1 = j)) = (decide (k = j) || kvs.any fun kv => decide (kv.1 = j)) := by
  unfold putDk
  split
  · rename_i h
    rw [List.any_map]
    have e : (kvs.any ((fun kv : Key × D => decide (kv.1 = j)) ∘ fun kv => if kv.1 = k then (kv.1, d) else kv)) = kvs.any fun kv => decide (kv.1 = j) := by
      congr 1
      funext kv
      show decide ((if kv.1 = k then (kv.1, d) else kv).1 = j) = _
      split <;> rfl
    rw [e]
    by_cases q : k = j
    · subst q
      simp only [decide_true, Bool.true_or]
      exact h
    · simp [q]
  · rw [List.any_append, Bool.or_comm]
    simp
def dcKF (kf : D → Key) (vf : D → D) (ds : List D) : List (Key × D) := ds.foldl (fun a d => putDk a (kf d) (vf d)) []
theorem dcK_any (kf : D → Key) (vf : D → D) (j : Key) : ∀ (ds : List D) (acc : List (Key × D)), ((ds.foldl (fun a d => putDk a (kf d) (vf d)) acc).any fun kv => decide (kv.1 = j)) = ((ds.any fun d => decide (kf d = j)) || acc.any fun kv => decide (kv.1 = j))
  | [], acc => by simp
  | d :: r, acc => by
    rw [List.foldl_cons, dcK_any kf vf j r, putDk_any, List.any_cons, Bool.or_left_comm, Bool.or_assoc]
theorem dcKF_any {kf : D → Key} {vf : D → D} {j : Key} {ds : List D} : ((dcKF kf vf ds).any fun kv => decide (kv.1 = j)) = ds.any fun d => decide (kf d = j) := by
  unfold dcKF
  rw [dcK_any]
  simp
theorem ev_dcK (kf : D → Key) (vf : D → D) (h : EvL I ρ s ds) (hd : ∀ d ∈ ds, ∃ ρ1, gd d (inE ρ vs) = some ρ1 ∧ EvB C ρ1 s true ∧ (∃ y, Ev A ρ1 s y ∧ asKey y = some (kf d)) ∧ Ev B ρ1 s (vf d)) (hl : ds.length ≤ sizeLine) : Ev (xDk I gd C A B vs) ρ s (.dct (dcKF kf vf ds)) := ⟨fun Q X q => h.to _ _ (by
  refine coT_ev (fun d a => putDk a (kf d) (vf d)) (fun r acc => acc.length + r.length ≤ sizeLine ∧ ∀ d ∈ r, d ∈ ds) ?_ ds [] ⟨by simpa using hl, fun _ z => z⟩ q
  rintro d r acc ⟨l, m⟩
  obtain ⟨ρ1, e, c, ⟨y, ey, ky⟩, ev⟩ := hd d (m d List.mem_cons_self)
  rw [List.length_cons] at l
  have := putDk_len acc (kf d) (vf d)
  exact ⟨⟨by omega, fun x hx => m x (List.mem_cons_of_mem _ hx)⟩, ρ1, e, c, fun Q' q' => ey.to _ _ (ev.to _ _ (ck_opt ky ⟨by omega, q'⟩))⟩)⟩
def dcTF (kf : D → List Int) (ds : List D) : List (List Int) := ds.foldl (fun a d => if kf d ∈ a then a else a ++ [kf d]) []
theorem dcT_mem (kf : D → List Int) (k : List Int) : ∀ (ds : List D) (acc : List (List Int)), k ∈ ds.foldl (fun a d => if kf d ∈ a then a else a ++ [kf d]) acc ↔ (∃ d ∈ ds, kf d = k) ∨ k ∈ acc
  | [], acc => by simp
  | d :: r, acc => by
    rw [List.foldl_cons, dcT_mem kf k r]
    by_cases h : kf d ∈ acc
    · rw [if_pos h]
      constructor
      · rintro (⟨x, hx, e⟩ | q)
        · exact .inl ⟨x, List.mem_cons_of_mem _ hx, e⟩
        · exact .inr q
      · rintro (⟨x, hx, e⟩ | q)
        · rcases List.mem_cons.mp hx with rfl | hx
          · exact .inr (by rw [← e]; exact h)
          · exact .inl ⟨x, hx, e⟩
        · exact .inr q
    · rw [if_neg h, List.mem_append, List.mem_singleton]
      constructor
      · rintro (⟨x, hx, e⟩ | q | q)
        · exact .inl ⟨x, List.mem_cons_of_mem _ hx, e⟩
        · exact .inr q
        · exact .inl ⟨d, List.mem_cons_self, q.symm⟩
      · rintro (⟨x, hx, e⟩ | q)
        · rcases List.mem_cons.mp hx with rfl | hx
          · exact .inr (.inr e.symm)
          · exact .inl ⟨x, hx, e⟩
        · exact .inr (.inl q)
theorem dcTF_mem {kf : D → List Int} {k : List Int} {ds : List D} : k ∈ dcTF kf ds ↔ ∃ d ∈ ds, kf d = k := by
  unfold dcTF
  rw [dcT_mem]
  simp
theorem ev_dcT (kf : D → List Int) (h : EvL I ρ s ds) (hd : ∀ d ∈ ds, ∃ ρ1, gd d (inE ρ vs) = some ρ1 ∧ EvB C ρ1 s true ∧ (∃ y, Ev A ρ1 s y ∧ asTI y = some (kf d)) ∧ ∃ z, Ev B ρ1 s z) (hl : ds.length ≤ sizeLine) : Ev (xDt I gd C A B vs) ρ s (.dtp (dcTF kf ds)) := ⟨fun Q X q => h.to _ _ (by
  refine coT_ev (fun d a => if kf d ∈ a then a else a ++ [kf d]) (fun r acc => acc.length + r.length ≤ sizeLine ∧ ∀ d ∈ r, d ∈ ds) ?_ ds [] ⟨by simpa using hl, fun _ z => z⟩ q
  rintro d r acc ⟨l, m⟩
  obtain ⟨ρ1, e, c, ⟨y, ey, ky⟩, z, ev⟩ := hd d (m d List.mem_cons_self)
  rw [List.length_cons] at l
  refine ⟨⟨?_, fun x hx => m x (List.mem_cons_of_mem _ hx)⟩, ρ1, e, c, fun Q' q' => ey.to _ _ (ev.to _ _ (ck_opt ky ⟨by omega, q'⟩))⟩
  split
  · omega
  · rw [List.length_append, List.length_cons, List.length_nil]; omega)⟩
/-! ### sorted({..}) with two clauses -/
theorem fold_app {α β : Type} (f : α → List β) : ∀ (l : List α) (acc : List β), l.foldl (fun a d => a ++ f d) acc = acc ++ l.flatMap f
  | [], acc => by simp
  | x :: l, acc => by rw [List.foldl_cons, fold_app f l, List.flatMap_cons, List.append_assoc]
theorem flat_len {α β : Type} (f : α → List β) (n : Nat) : ∀ (l : List α), (∀ x ∈ l, (f x).length ≤ n) → (l.flatMap f).length ≤ n * l.length
  | [], _ => by simp
  | x :: l, h => by
    rw [List.flatMap_cons, List.length_append, List.length_cons, Nat.mul_add, Nat.mul_one]
    have := h x List.mem_cons_self
    have := flat_len f n l fun y hy => h y (List.mem_cons_of_mem _ hy)
    omega
theorem st_in {I1 : TL S} {gd1 : GD} {C1 : TB S} {vs1 : List Nat} {ds1 : List D} {acc : List Int} {QD : List Int → S → Prop} (p : D → Bool) (f : D → Int) (h : EvL I1 ρ s ds1) (hd : ∀ d ∈ ds1, ∃ ρ2, gd1 d (wipeE ρ vs1) = some ρ2 ∧ EvB C1 ρ2 s (p d) ∧ (p d = true → Ev A ρ2 s (dI (f d)))) (hl : acc.length + ds1.length ≤ 1000)
    (q : QD (acc ++ (ds1.filter p).map f) s) : stIn I1 gd1 C1 vs1 (stAdd A) ρ s acc QD := h.to _ _ (by
  refine coT_evp p (fun d a => a ++ [f d]) (fun r acc => acc.length + r.length ≤ 1000 ∧ ∀ d ∈ r, d ∈ ds1) ?_ ds1 acc ⟨hl, fun _ z => z⟩ ?_
  · rintro d r acc ⟨l, m⟩
    obtain ⟨ρ2, e, c, ev⟩ := hd d (m d List.mem_cons_self)
    rw [List.length_cons] at l
    refine ⟨⟨?_, fun x hx => m x (List.mem_cons_of_mem _ hx)⟩, ρ2, e, c, fun hp Q' q' => (ev hp).to _ _ ⟨by omega, q'⟩⟩
    split
    · rw [List.length_append, List.length_cons, List.length_nil]; omega
    · omega
  · have e : (ds1.filter p).foldl (fun a d => a ++ [f d]) acc = acc ++ (ds1.filter p).map f := by
      rw [fold_app (fun d => [f d])]
      congr 1
      induction ds1.filter p with
      | nil => rfl
      | cons x l ih => rw [List.flatMap_cons, List.map_cons, ih]; rfl
    rw [e]
    exact q)
theorem ev_ss2 {step : Stepper S (List Int)} (fn : D → List Int) (h : EvL I ρ s ds) (hd : ∀ d ∈ ds, (fn d).length ≤ 2 ∧ ∃ ρ1, gd d (inE ρ vs) = some ρ1 ∧ EvB C ρ1 s true ∧ ∀ acc (Q' : List Int → S → Prop), acc.length ≤ 60 → Q' (acc ++ fn d) s → step ρ1 s acc Q') (hl : ds.length ≤ 30) : Ev (xSs (Acc := Unit) I gd C step vs) ρ s (.lst ((sortI (ds.flatMap fn)).map dI)) := ⟨fun Q X q => h.to _ _ (by
  refine coT_ev (fun d a => a ++ fn d) (fun r acc => acc.length + 2 * r.length ≤ 60 ∧ ∀ d ∈ r, d ∈ ds) ?_ ds [] ⟨by simp; omega, fun _ z => z⟩ ?_
  · rintro d r acc ⟨l, m⟩
    obtain ⟨lf, ρ1, e, c, st⟩ := hd d (m d List.mem_cons_self)
    rw [List.length_cons] at l
    exact ⟨⟨by rw [List.length_append]; omega, fun x hx => m x (List.mem_cons_of_mem _ hx)⟩, ρ1, e, c, fun Q' q' => st acc Q' (by omega) q'⟩
  · rw [fold_app fn, List.nil_append]
    refine ⟨?_, q⟩
    have := flat_len fn 2 ds fun x hx => (hd x hx).1
    omega)⟩
end
end L2.DL
/-! Facts of pairs and ints as data -/
namespace L2.DL
open L2 L2.My NdefX PySem PySem.Spec PyProof.Rows
noncomputable def fnOf {ι : Type} (arg : ι → List D) (val : ι → Except Exn D) : Fn := fun ds => open Classical in if h : ∃ i, arg i = ds then some (val h.choose) else none
theorem fnOf_at {ι : Type} {arg : ι → List D} {val : ι → Except Exn D} (h : ∀ i j, arg i = arg j → val i = val j) (i : ι) : fnOf arg val (arg i) = some (val i) := by
  have ex : ∃ j, arg j = arg i := ⟨i, rfl⟩
  unfold fnOf
  rw [dif_pos ex]
  exact congrArg some (h _ _ ex.choose_spec)
theorem fnOf_of {ι : Type} {arg : ι → List D} {val : ι → Except Exn D} {ds : List D} {r : Except Exn D} (e : fnOf arg val ds = some r) : ∃ i, arg i = ds ∧ r = val i := by
  unfold fnOf at e
  split at e
  · rename_i h
    cases e
    exact ⟨_, h.choose_spec, rfl⟩
  · cases e
theorem le_line {n : Nat} (h : n ≤ 1000) : n ≤ sizeLine := by have := sizeLine_eq; omega
theorem lt_line {n : Nat} (h : n ≤ 1000) : n < sizeLine := by have := sizeLine_eq; omega
abbrev Pr := Int × Int
abbrev lP (ps : List Pr) : D := .lst (ps.map dP)
abbrev lI (ns : List Int) : D := .lst (ns.map dI)
abbrev tI (ns : List Int) : D := .tup (ns.map dI)
theorem dP_inj {p q : Pr} (h : dP p = dP q) : p = q := by
  simp only [dP, D.tup.injEq, List.cons.injEq, D.v.injEq, V.int.injEq, and_true] at h
  exact Prod.ext h.1 h.2
theorem mapP_inj : ∀ {ps qs : List Pr}, ps.map dP = qs.map dP → ps = qs
  | [], [], _ => rfl
  | [], _ :: _, h => by cases h
  | _ :: _, [], h => by cases h
  | p :: ps, q :: qs, h => by
    rw [List.map_cons, List.map_cons] at h
    obtain ⟨h1, h2⟩ := List.cons.inj h
    rw [dP_inj h1, mapP_inj h2]
theorem mapI_inj : ∀ {ps qs : List Int}, ps.map dI = qs.map dI → ps = qs
  | [], [], _ => rfl
  | [], _ :: _, h => by cases h
  | _ :: _, [], h => by cases h
  | p :: ps, q :: qs, h => by
    rw [List.map_cons, List.map_cons] at h
    obtain ⟨h1, h2⟩ := List.cons.inj h
    cases h1
    rw [mapI_inj h2]
theorem ix_0 {p : Pr} : ixD (dP p) (dI 0) = some (dI p.1) := rfl
theorem ix_1 {p : Pr} : ixD (dP p) (dI 1) = some (dI p.2) := rfl
/-! ### plain data -/
abbrev pyP (p : Pr) : PyData := .tuple [.int p.1, .int p.2]
theorem py_P {p : Pr} : toPy (dP p) = some (pyP p) := rfl
theorem py_Ps : ∀ (ps : List Pr), toPyAll (ps.map dP) = some (ps.map pyP)
  | [] => rfl
  | p :: r => by rw [List.map_cons, toPyAll, py_P, py_Ps r]; rfl
theorem py_Is : ∀ (ns : List Int), toPyAll (ns.map dI) = some (ns.map PyData.int)
  | [] => rfl
  | p :: r => by rw [List.map_cons, toPyAll, py_Is r]; rfl
theorem eqv_P {p q : Pr} : PyData.eqv (pyP q) (pyP p) = decide (p = q) := by
  simp only [pyP, PyData.eqv, PyData.eqvAll, Bool.and_true]
  rw [Bool.eq_iff_iff]
  simp only [Bool.and_eq_true, beq_iff_eq, decide_eq_true_eq]
  constructor
  · rintro ⟨a, b⟩; exact Prod.ext a.symm b.symm
  · rintro rfl; exact ⟨rfl, rfl⟩
theorem any_P {p : Pr} : ∀ {ps : List Pr}, ((ps.map pyP).any fun z => PyData.eqv z (pyP p)) = decide (p ∈ ps)
  | [] => by simp
  | q :: r => by rw [List.map_cons, List.any_cons, any_P (ps := r), eqv_P]; simp [List.mem_cons]
theorem any_I {n : Int} : ∀ {ns : List Int}, ((ns.map PyData.int).any fun z => PyData.eqv z (.int n)) = decide (n ∈ ns)
  | [] => by simp
  | q :: r => by
    have e : PyData.eqv (.int q) (.int n) = decide (n = q) := by
      rw [PyData.eqv, Bool.eq_iff_iff, beq_iff_eq, decide_eq_true_eq]
      exact eq_comm
    rw [List.map_cons, List.any_cons, any_I (ns := r), e]
    simp only [List.mem_cons, Bool.decide_or]
theorem in_P {b : Bool} {p : Pr} {ps : List Pr} : inX b (dP p) (lP ps) = some (dB (b == decide (p ∈ ps))) := by
  show inD b (dP p) (lP ps) = _
  have d2 : (pyP p).depth ≤ 60 := by simp [pyP, PyData.depth, PyData.depthAll]
  unfold inD
  rw [py_P]
  simp only [asSeq, py_Ps]
  rw [if_pos (Nat.le_trans (Nat.min_le_right _ _) d2), any_P]
theorem in_I {b : Bool} {n : Int} {ns : List Int} : inX b (dI n) (lI ns) = some (dB (b == decide (n ∈ ns))) := by
  show inD b (dI n) (lI ns) = _
  have d2 : (PyData.int n).depth ≤ 60 := by simp [PyData.depth]
  unfold inD
  simp only [toPy, asSeq, py_Is]
  rw [if_pos (Nat.le_trans (Nat.min_le_right _ _) d2), any_I]
theorem in_tI {b : Bool} {n : Int} {ns : List Int} : inX b (dI n) (tI ns) = some (dB (b == decide (n ∈ ns))) := by
  show inD b (dI n) (tI ns) = _
  have d2 : (PyData.int n).depth ≤ 60 := by simp [PyData.depth]
  unfold inD
  simp only [toPy, asSeq, py_Is]
  rw [if_pos (Nat.le_trans (Nat.min_le_right _ _) d2), any_I]
theorem in_pair {b : Bool} {n : Int} {p : Pr} : inX b (dI n) (dP p) = some (dB (b == decide (n = p.1 ∨ n = p.2))) := by
  have := in_tI (b := b) (n := n) (ns := [p.1, p.2])
  simp only [List.mem_cons, List.not_mem_nil, or_false] at this
  exact this
theorem in_dK {b : Bool} {n : Int} {kf : D → Key} {vf : D → D} {ds : List D} : inX b (dI n) (.dct (dcKF kf vf ds)) = some (dB (b == ds.any fun d => decide (kf d = .inl n))) := by
  unfold inX
  simp only [asKey, Option.map_some, dcKF_any]
theorem in_dct {b : Bool} {n : Int} {kvs : List (Key × D)} : inX b (dI n) (.dct kvs) = some (dB (b == kvs.any fun kv => decide (kv.1 = .inl n))) := rfl
theorem in_dT {b : Bool} {p : Pr} {ks : List (List Int)} : inX b (dP p) (.dtp ks) = some (dB (b == decide ([p.1, p.2] ∈ ks))) := rfl
theorem eq_P0 {b : Bool} {ps : List Pr} : eqD b (lP ps) (.lst []) = some (dB (b == ps.isEmpty)) := by
  unfold eqD
  simp only [toPy, py_Ps, toPyAll, Option.map_some]
  have : (PyData.list ([] : List PyData)).depth ≤ 60 := by simp [PyData.depth, PyData.depthAll]
  rw [if_pos (Nat.le_trans (Nat.min_le_right _ _) this)]
  cases ps <;> simp [PyData.eqv, PyData.eqvAll]
theorem eq_I0 {b : Bool} {ns : List Int} : eqD b (lI ns) (.lst []) = some (dB (b == ns.isEmpty)) := by
  unfold eqD
  simp only [toPy, py_Is, toPyAll, Option.map_some]
  have : (PyData.list ([] : List PyData)).depth ≤ 60 := by simp [PyData.depth, PyData.depthAll]
  rw [if_pos (Nat.le_trans (Nat.min_le_right _ _) this)]
  cases ns <;> simp [PyData.eqv, PyData.eqvAll]
/-- a filter over lists that are coded -/
theorem filt_map {α : Type} (f : α → D) (p : D → Bool) (q : α → Bool) (h : ∀ x, p (f x) = q x) : ∀ (l : List α), (l.map f).filter p = (l.filter q).map f
  | [] => rfl
  | x :: l => by
    rw [List.map_cons, List.filter_cons, List.filter_cons, h, filt_map f p q h l]
    split <;> rfl
section
variable {S : Type} {A : TX S} {C : TB S} {ρ : Env} {s : S} {d e : D} {a b : Bool} {L : TL S} {ds es : List D}
theorem ev_eq (h : Ev A ρ s d) (q : d = e) : Ev A ρ s e := q ▸ h
theorem evl_eq (h : EvL L ρ s ds) (q : ds = es) : EvL L ρ s es := q ▸ h
theorem evb_eq (h : EvB C ρ s a) (q : a = b) : EvB C ρ s b := q ▸ h
theorem ev_dct0 : Ev (xC (.dct []) : TX S) ρ s (.dct []) := ev_c
theorem ev_nott (h : Ev A ρ s (dB false)) : Ev (xNot A) ρ s (dB true) := ev_not h
theorem ev_notf (h : Ev A ρ s (dB true)) : Ev (xNot A) ρ s (dB false) := ev_not h
end
section
variable {S : Type} {Γ : Fr S} {K : W.Frag} {E : XK} {t : TS} {T : TP S}
theorem ls_end (h : LnS Γ K E t T) : LnS Γ K E t (pSeq T pNext) := fun ok st P Dn q kn kb kc kr kx => h ok st P Dn q kn kb kc kr kx
end
end L2.DL
/-! What a text of Python does to data, as a function: results, draws, and the rules that lead a reading to it -/
namespace L2.DL
open L2 L2.My NdefX PySem PySem.Spec PyProof.Rows

/-! ### results -/
class PM (m : Type → Type) where
  ok : {α : Type} → α → m α
  er : {α : Type} → Exn → m α
  no : {α : Type} → m α
  bnd : {α β : Type} → m α → (α → m β) → m β
  nox : {α : Type} → m α → m α
class LM (m : Type → Type) [PM m] : Prop where
  ok_bnd : ∀ {α β : Type} (a : α) (f : α → m β), PM.bnd (PM.ok a) f = f a
  er_bnd : ∀ {α β : Type} (x : Exn) (f : α → m β), PM.bnd (PM.er x) f = PM.er x
  no_bnd : ∀ {α β : Type} (f : α → m β), PM.bnd (PM.no) f = PM.no
  nox_ok : ∀ {α : Type} (a : α), PM.nox (PM.ok a : m α) = PM.ok a
  nox_no : ∀ {α : Type}, PM.nox (PM.no : m α) = PM.no
  assoc : ∀ {α β γ : Type} (x : m α) (f : α → m β) (g : β → m γ), PM.bnd (PM.bnd x f) g = PM.bnd x fun a => PM.bnd (f a) g
class WM (m : Type → Type) [PM m] (S : Type) where
  wp : {α : Type} → m α → S → (α → S → Prop) → (Exn → S → Prop) → Prop
  wp_ok : ∀ {α : Type} {a : α} {s : S} {Q : α → S → Prop} {X : Exn → S → Prop}, wp (PM.ok a) s Q X → Q a s
  ok_wp : ∀ {α : Type} {a : α} {s : S} {Q : α → S → Prop} {X : Exn → S → Prop}, Q a s → wp (PM.ok a) s Q X
  wp_er : ∀ {α : Type} {x : Exn} {s : S} {Q : α → S → Prop} {X : Exn → S → Prop}, wp (PM.er x) s Q X → X x s
  wp_no : ∀ {α : Type} {s : S} {Q : α → S → Prop} {X : Exn → S → Prop}, wp PM.no s Q X → False
  wp_bnd : ∀ {α β : Type} {x : m α} {f : α → m β} {s : S} {Q : β → S → Prop} {X : Exn → S → Prop}, wp (PM.bnd x f) s Q X → wp x s (fun a s1 => wp (f a) s1 Q X) X
  bnd_wp : ∀ {α β : Type} {x : m α} {f : α → m β} {s : S} {Q : β → S → Prop} {X : Exn → S → Prop}, wp x s (fun a s1 => wp (f a) s1 Q X) X → wp (PM.bnd x f) s Q X
  wp_nox : ∀ {α : Type} {x : m α} {s : S} {Q : α → S → Prop} {X : Exn → S → Prop}, wp (PM.nox x) s Q X → wp x s Q fun _ _ => False
  wp_mono : ∀ {α : Type} {x : m α} {s : S} {Q Q' : α → S → Prop} {X X' : Exn → S → Prop}, wp x s Q X → (∀ a s1, Q a s1 → Q' a s1) → (∀ e s1, X e s1 → X' e s1) → wp x s Q' X'
open PM
section
variable {m : Type → Type} [PM m] [LM m] {α β γ : Type}
@[simp] theorem ok_bnd (a : α) (f : α → m β) : bnd (ok a : m α) f = f a := LM.ok_bnd a f
@[simp] theorem er_bnd (x : Exn) (f : α → m β) : bnd (er x : m α) f = er x := LM.er_bnd x f
@[simp] theorem no_bnd (f : α → m β) : bnd (no : m α) f = no := LM.no_bnd f
@[simp] theorem bnd_bnd (x : m α) (f : α → m β) (g : β → m γ) : bnd (bnd x f) g = bnd x fun a => bnd (f a) g := LM.assoc x f g
@[simp] theorem nox_okk (a : α) : nox (ok a : m α) = ok a := LM.nox_ok a
@[simp] theorem nox_noo : nox (no : m α) = no := LM.nox_no
end

/-- data alone -/
inductive Om (α : Type) where
  | ok (a : α)
  | er (x : Exn)
  | no
def Om.bnd {α β : Type} (x : Om α) (f : α → Om β) : Om β := match x with
  | .ok a => f a
  | .er x => .er x
  | .no => .no
def Om.nox {α : Type} (x : Om α) : Om α := match x with
  | .ok a => .ok a
  | _ => .no
instance : PM Om := ⟨Om.ok, Om.er, Om.no, Om.bnd, Om.nox⟩
instance : LM Om := ⟨fun _ _ => rfl, fun _ _ => rfl, fun _ => rfl, fun _ => rfl, rfl, fun x _ _ => by cases x <;> rfl⟩
def Om.wp {α S : Type} (x : Om α) (s : S) (Q : α → S → Prop) (X : Exn → S → Prop) : Prop := match x with
  | .ok a => Q a s
  | .er x => X x s
  | .no => False
instance (S : Type) : WM Om S where
  wp := Om.wp
  wp_ok h := h
  wp_er h := h
  wp_no h := h
  ok_wp h := h
  wp_bnd {_ _ x f s Q X} h := by cases x <;> exact h
  bnd_wp {_ _ x f s Q X} h := by cases x <;> exact h
  wp_nox {_ x s Q X} h := by
    cases x with
    | ok a => exact h
    | er x => exact h
    | no => exact h
  wp_mono {_ x s Q Q' X X'} h k kx := by
    cases x with
    | ok a => exact k a s h
    | er x => exact kx x s h
    | no => exact h
/-- data and draws -/
inductive Tm (α : Type) where
  | ok (a : α)
  | er (x : Exn)
  | no
  | dr (many : Int) (k : Int → Tm α)
def Tm.bnd {α β : Type} (x : Tm α) (f : α → Tm β) : Tm β := match x with
  | .ok a => f a
  | .er x => .er x
  | .no => .no
  | .dr n k => .dr n fun d => Tm.bnd (k d) f
theorem Tm.bnd_assoc {α β γ : Type} (f : α → Tm β) (g : β → Tm γ) : ∀ x : Tm α, Tm.bnd (Tm.bnd x f) g = Tm.bnd x fun a => Tm.bnd (f a) g
  | .ok a => rfl
  | .er x => rfl
  | .no => rfl
  | .dr n k => congrArg (Tm.dr n) (funext fun d => Tm.bnd_assoc f g (k d))
def Tm.nox {α : Type} (x : Tm α) : Tm α := match x with
  | .ok a => .ok a
  | .dr n k => .dr n fun d => Tm.nox (k d)
  | _ => .no
instance : PM Tm := ⟨Tm.ok, Tm.er, Tm.no, Tm.bnd, Tm.nox⟩
instance : LM Tm := ⟨fun _ _ => rfl, fun _ _ => rfl, fun _ => rfl, fun _ => rfl, rfl, fun x f g => Tm.bnd_assoc f g x⟩
def Tm.wp {α : Type} (x : Tm α) (n : Nat) (Q : α → Nat → Prop) (X : Exn → Nat → Prop) : Prop := match x with
  | .ok a => Q a n
  | .er x => X x n
  | .no => False
  | .dr many k => 0 < many ∧ many.natAbs < 2 ^ 200 ∧ n < 100000 ∧ ∀ (d : Int) (n2 : Nat), 0 ≤ d → d < many → n ≤ n2 → n2 ≤ n + 1 → Tm.wp (k d) n2 Q X
theorem Tm.wp_bnd {α β : Type} (f : α → Tm β) (Q : β → Nat → Prop) (X : Exn → Nat → Prop) : ∀ (x : Tm α) (n : Nat), Tm.wp (Tm.bnd x f) n Q X → Tm.wp x n (fun a n1 => Tm.wp (f a) n1 Q X) X
  | .ok _, _, h => h
  | .er _, _, h => h
  | .no, _, h => h
  | .dr _ k, _, ⟨h1, h2, h3, h4⟩ => ⟨h1, h2, h3, fun d n2 a b c e => Tm.wp_bnd f Q X (k d) n2 (h4 d n2 a b c e)⟩
theorem Tm.wp_bnd' {α β : Type} (f : α → Tm β) (Q : β → Nat → Prop) (X : Exn → Nat → Prop) : ∀ (x : Tm α) (n : Nat), Tm.wp x n (fun a n1 => Tm.wp (f a) n1 Q X) X → Tm.wp (Tm.bnd x f) n Q X
  | .ok _, _, h => h
  | .er _, _, h => h
  | .no, _, h => h
  | .dr _ k, _, ⟨h1, h2, h3, h4⟩ => ⟨h1, h2, h3, fun d n2 a b c e => Tm.wp_bnd' f Q X (k d) n2 (h4 d n2 a b c e)⟩
theorem Tm.wp_mono {α : Type} {Q Q' : α → Nat → Prop} {X X' : Exn → Nat → Prop} (k : ∀ a s1, Q a s1 → Q' a s1) (kx : ∀ e s1, X e s1 → X' e s1) : ∀ (x : Tm α) (n : Nat), Tm.wp x n Q X → Tm.wp x n Q' X'
  | .ok a, n, h => k a n h
  | .er x, n, h => kx x n h
  | .no, _, h => h
  | .dr _ q, _, ⟨h1, h2, h3, h4⟩ => ⟨h1, h2, h3, fun d n2 a b c e => Tm.wp_mono k kx (q d) n2 (h4 d n2 a b c e)⟩
theorem Tm.wp_nox {α : Type} {Q : α → Nat → Prop} {X : Exn → Nat → Prop} : ∀ (x : Tm α) (n : Nat), Tm.wp (Tm.nox x) n Q X → Tm.wp x n Q fun _ _ => False
  | .ok a, n, h => h
  | .er x, n, h => h
  | .no, _, h => h
  | .dr _ q, _, ⟨h1, h2, h3, h4⟩ => ⟨h1, h2, h3, fun d n2 a b c e => Tm.wp_nox (q d) n2 (h4 d n2 a b c e)⟩
instance : WM Tm Nat where
  wp_nox {_ x s Q X} h := Tm.wp_nox x s h
  wp := Tm.wp
  wp_ok h := h
  wp_er h := h
  wp_no h := h
  ok_wp h := h
  wp_bnd {_ _ x f s Q X} h := Tm.wp_bnd f Q X x s h
  bnd_wp {_ _ x f s Q X} h := Tm.wp_bnd' f Q X x s h
  wp_mono {_ x s Q Q' X X'} h k kx := Tm.wp_mono k kx x s h
/-- all that can be drawn: at most c draws on each way, and what each way ends with -/
def Tm.All {α : Type} (c : Nat) (P : α → Prop) (x : Tm α) : Prop := match x with
  | .ok a => P a
  | .er _ => False
  | .no => False
  | .dr many k => 0 < many ∧ many.natAbs < 2 ^ 200 ∧ ∃ c', c = c' + 1 ∧ ∀ d : Int, 0 ≤ d → d < many → Tm.All c' P (k d)
theorem Tm.All.imp {α : Type} {P P' : α → Prop} : ∀ {x : Tm α} {c c' : Nat}, c ≤ c' → (∀ a, P a → P' a) → Tm.All c P x → Tm.All c' P' x
  | .ok a, _, _, _, k, h => k a h
  | .er _, _, _, _, _, h => h
  | .no, _, _, _, _, h => h
  | .dr _ q, _, c', l, k, ⟨h1, h2, c1, e, h3⟩ => ⟨h1, h2, c' - 1, by omega, fun d a b => Tm.All.imp (by omega) k (h3 d a b)⟩
theorem Tm.All.bnd {α β : Type} {P : α → Prop} {P' : β → Prop} {f : α → Tm β} {c2 : Nat} (k : ∀ a, P a → Tm.All c2 P' (f a)) : ∀ {x : Tm α} {c : Nat}, Tm.All c P x → Tm.All (c + c2) P' (Tm.bnd x f)
  | .ok a, _, h => Tm.All.imp (by omega) (fun _ z => z) (k a h)
  | .er _, _, h => h
  | .no, _, h => h
  | .dr _ q, _, ⟨h1, h2, c1, e, h3⟩ => ⟨h1, h2, c1 + c2, by omega, fun d a b => Tm.All.bnd k (h3 d a b)⟩
theorem Tm.All.nox {α : Type} {P : α → Prop} : ∀ {x : Tm α} {c : Nat}, Tm.All c P x → Tm.All c P (Tm.nox x)
  | .ok a, _, h => h
  | .er _, _, h => h
  | .no, _, h => h
  | .dr _ q, _, ⟨h1, h2, c1, e, h3⟩ => ⟨h1, h2, c1, e, fun d a b => Tm.All.nox (h3 d a b)⟩
theorem Tm.All.wp {α : Type} {P : α → Prop} {Q : α → Nat → Prop} {X : Exn → Nat → Prop} : ∀ {x : Tm α} {c n : Nat}, Tm.All c P x → n + c ≤ 100000 → (∀ a n2, P a → n ≤ n2 → n2 ≤ n + c → Q a n2) → Tm.wp x n Q X
  | .ok a, _, n, h, _, k => k a n h (by omega) (by omega)
  | .er _, _, _, h, _, _ => h.elim
  | .no, _, _, h, _, _ => h
  | .dr _ q, _, _, ⟨h1, h2, c1, e, h3⟩, l, k => ⟨h1, h2, by omega, fun d n2 a b c e => Tm.All.wp (h3 d a b) (by omega) fun z n3 p q r => k z n3 p (by omega) (by omega)⟩
/-- from data alone -/
def lft {m : Type → Type} [PM m] {α : Type} (x : Om α) : m α := match x with
  | .ok a => ok a
  | .er x => er x
  | .no => no
def lif {m : Type → Type} [PM m] {α : Type} (x : Option α) : m α := match x with
  | some a => ok a
  | none => no
@[simp] theorem lif_some {m : Type → Type} [PM m] {α : Type} (a : α) : (lif (some a) : m α) = ok a := rfl
@[simp] theorem lif_none {m : Type → Type} [PM m] {α : Type} : (lif (none : Option α) : m α) = no := rfl
@[simp] theorem lft_ok {m : Type → Type} [PM m] {α : Type} (a : α) : (lft (ok a : Om α) : m α) = ok a := rfl
@[simp] theorem lft_er {m : Type → Type} [PM m] {α : Type} (x : Exn) : (lft (er x : Om α) : m α) = er x := rfl
@[simp] theorem lft_no {m : Type → Type} [PM m] {α : Type} : (lft (no : Om α) : m α) = no := rfl
def toF (x : Om D) : Option (Except Exn D) := match x with
  | .ok a => some (.ok a)
  | .er x => some (.error x)
  | .no => none
section
variable {m : Type → Type} [PM m] {S : Type} [WM m S] {α β : Type}
theorem wp_lif {o : Option α} {s : S} {Q : α → S → Prop} {X : Exn → S → Prop} (h : WM.wp (lif o : m α) s Q X) : opt o fun a => Q a s := by
  cases o with
  | none => exact WM.wp_no h
  | some a => exact (WM.wp_ok h :)
theorem wp_lft {o : Om D} {s : S} {Q : D → S → Prop} {X : Exn → S → Prop} (h : WM.wp (lft o : m D) s Q X) : opt (toF o) fun r => match r with
    | .ok d => Q d s
    | .error x => X x s := by
  cases o with
  | ok a => exact (WM.wp_ok h :)
  | er x => exact WM.wp_er h
  | no => exact WM.wp_no h
end
/-! ### blocks -/
inductive Ot (β γ : Type) where
  | nx (b : β)
  | rt (d : D)
  | bk (c : γ)
  | ct (c : γ)
section
variable {m : Type → Type} [PM m]
def thK {α β γ : Type} (k : α → m (Ot β γ)) : Ot α γ → m (Ot β γ)
  | .nx b => k b
  | .rt d => ok (.rt d)
  | .bk c => ok (.bk c)
  | .ct c => ok (.ct c)
def thV {α β γ : Type} (x : m (Ot α γ)) (k : α → m (Ot β γ)) : m (Ot β γ) := bnd x (thK k)
/-- a loop over data -/
def forV {β γ : Type} (body : D → β → m (Ot β β)) : List D → β → m (Ot β γ)
  | [], b => ok (.nx b)
  | d :: r, b => bnd (body d b) fun o => match o with
    | .nx b' => forV body r b'
    | .ct b' => forV body r b'
    | .bk b' => ok (.nx b')
    | .rt d => ok (.rt d)
def whiV {β γ : Type} (c : β → m Bool) (body : β → m (Ot β β)) : Nat → β → m (Ot β γ)
  | 0, _ => no
  | n + 1, b => bnd (c b) fun z => if z = true then bnd (body b) fun o => match o with
    | .nx b' => whiV c body n b'
    | .ct b' => whiV c body n b'
    | .bk b' => ok (.nx b')
    | .rt d => ok (.rt d)
    else ok (.nx b)
def retV {β γ : Type} (x : m (Ot β γ)) : m D := bnd x fun o => match o with
  | .nx _ => ok dN
  | .rt d => ok d
  | _ => no
/-- expressions -/
def op1 (f : D → Option D) (a : m D) : m D := bnd a fun x => lif (f x)
def op2 (f : D → D → Option D) (a b : m D) : m D := bnd a fun x => bnd b fun y => lif (f x y)
def op3 (f : D → Option Int → Option Int → Option D) (a : m D) (b c : m (Option Int)) : m D := bnd a fun x => bnd b fun y => bnd c fun z => lif (f x y z)
def seqV : List (m D) → m (List D)
  | [] => ok []
  | a :: r => bnd a fun x => bnd (seqV r) fun xs => ok (x :: xs)
def tupV (a : List (m D)) : m D := bnd (seqV a) fun xs => ok (.tup xs)
def lstV (a : List (m D)) : m D := bnd (seqV a) fun xs => ok (.lst xs)
def tst (a : m D) : m Bool := bnd a fun x => lif (asB x)
def andB (a b : m Bool) : m Bool := bnd a fun c => if c = true then b else ok false
def orB (a b : m Bool) : m Bool := bnd a fun c => if c = true then ok true else b
def notB (a : m Bool) : m Bool := bnd a fun c => ok (!c)
def andX (a b : m D) : m D := bnd a fun x => bnd (lif (asB x)) fun c => if c = true then b else ok (dB false)
def orX (a b : m D) : m D := bnd a fun x => bnd (lif (asB x)) fun c => if c = true then ok (dB true) else b
def notX (a : m D) : m D := bnd a fun x => bnd (lif (asB x)) fun c => ok (dB (!c))
def ifV {α : Type} (c : m Bool) (a b : m α) : m α := bnd c fun z => if z = true then a else b
def chnX (f g : D → D → Option D) (a b c : m D) : m D := bnd a fun x => bnd b fun y => bnd (lif (f x y)) fun d => bnd (lif (asB d)) fun q => if q = true then bnd c fun z => lif (g y z) else ok (dB false)
def intV (a : m D) : m (Option Int) := bnd a fun x => bnd (lif (asI x)) fun i => ok (some i)
def itV (a : m D) : m (List D) := bnd a fun x => lif (asIt x)
def rng1 (a : m D) : m (List D) := bnd a fun x => match x with
  | .v (.int j) => if inR j = true then ok (rngD 0 j) else no
  | _ => no
def rng2 (a b : m D) : m (List D) := bnd a fun x => bnd b fun y => match x, y with
  | .v (.int i), .v (.int j) => if inR i = true ∧ inR j = true then ok (rngD i j) else no
  | _, _ => no
def asLs (a : m D) : m (List D) := bnd a fun x => match x with
  | .lst xs => ok xs
  | _ => no
def asDc (a : m D) : m (List (Key × D)) := bnd a fun x => match x with
  | .dct xs => ok xs
  | _ => no
def appV (xs : List D) (a : m D) : m (List D) := bnd a fun d => if xs.length < sizeLine then ok (xs ++ [d]) else no
def extV (xs : List D) (a : m D) : m (List D) := bnd a fun d => match d with
  | .lst ys => if xs.length + ys.length ≤ sizeLine then ok (xs ++ ys) else no
  | _ => no
def un2 {α : Type} (d : D) (k : D → D → m α) : m α := match d with
  | .tup [a, b] => k a b
  | _ => no
def un3 {α : Type} (d : D) (k : D → D → D → m α) : m α := match d with
  | .tup [a, b, c] => k a b c
  | _ => no
def un4 {α : Type} (d : D) (k : D → D → D → D → m α) : m α := match d with
  | .tup [a, b, c, e] => k a b c e
  | _ => no
def un5 {α : Type} (d : D) (k : D → D → D → D → D → m α) : m α := match d with
  | .tup [a, b, c, e, f] => k a b c e f
  | _ => no
/-- one turn of a comprehension -/
def stp (c : m Bool) (a : m D) : m (Option D) := bnd c fun z => if z = true then bnd a fun x => ok (some x) else ok none
def lcG (step : D → m (Option D)) : List D → m (List D)
  | [] => ok []
  | d :: r => bnd (nox (step d)) fun o => bnd (lcG step r) fun xs => match o with
    | some x => ok (x :: xs)
    | none => ok xs
def lcV (l : m (List D)) (step : D → m (Option D)) : m D := bnd l fun ds => if ds.length ≤ sizeLine then bnd (lcG step ds) fun xs => ok (.lst xs) else no
end
def drw (a : Tm D) : Tm D := Tm.bnd a fun x => match x with
  | .v (.int many) => .dr many fun d => .ok (dI d)
  | _ => .no

/-! ### what a reading computes -/
section
variable {m : Type → Type} [PM m] {S : Type} [WM m S]
structure RD (A : TX S) (ρ : Env) (x : m D) : Prop where
  go : ∀ s Q X, WM.wp x s Q X → A ρ s Q X
structure RB' (A : TB S) (ρ : Env) (x : m Bool) : Prop where
  go : ∀ s Q X, WM.wp x s Q X → A ρ s Q X
structure RL (A : TL S) (ρ : Env) (x : m (List D)) : Prop where
  go : ∀ s Q X, WM.wp x s Q X → A ρ s Q X
structure RO (A : TOx S) (ρ : Env) (x : m (Option Int)) : Prop where
  go : ∀ s Q X, WM.wp x s Q X → A ρ s Q X
def poS {β γ : Type} (P : Post S) (Rn : β → Env → Prop) (Rl : γ → Env → Prop) : Ot β γ → S → Prop
  | .nx b, s => ∀ ρ', Rn b ρ' → P.nx ρ' s
  | .rt d, s => P.rt d s
  | .bk c, s => ∀ ρ', Rl c ρ' → P.bk ρ' s
  | .ct c, s => ∀ ρ', Rl c ρ' → P.ct ρ' s
structure RS {β γ : Type} (T : TP S) (ρ : Env) (Rn : β → Env → Prop) (Rl : γ → Env → Prop) (x : m (Ot β γ)) : Prop where
  go : ∀ s P, WM.wp x s (poS P Rn Rl) P.ex → T ρ s P
variable {A B C : TX S} {ρ : Env} {a b c : m D} {d x y : D} {i j : Nat} {L : TL S} {l : m (List D)} {U V : TB S} {u v : m Bool}
theorem rd_mono (h : RD A ρ a) {s : S} {Q Q' : D → S → Prop} {X X' : Exn → S → Prop} (w : WM.wp a s Q X) (k : ∀ x s1, Q x s1 → Q' x s1) (kx : ∀ e s1, X e s1 → X' e s1) : A ρ s Q' X' := h.go _ _ _ (WM.wp_mono w k kx)
theorem rd_c : RD (xC d : TX S) ρ (ok d : m D) := ⟨fun _ _ _ w => (WM.wp_ok w :)⟩
theorem rd_v (e : ρ[i]? = some (.d x)) : RD (xVar .s i : TX S) ρ (ok x : m D) := ⟨fun _ _ _ w => by unfold xVar; rw [e]; exact (WM.wp_ok w :)⟩
theorem rd_vb (e : ρ[i]? = some (.d x)) : RD (xVar .b i : TX S) ρ (ok x : m D) := ⟨fun _ _ _ w => by unfold xVar; rw [e]; exact (WM.wp_ok w :)⟩
theorem rd_vB (e : ρ[i]? = some (.bor x)) : RD (xVar .b i : TX S) ρ (ok x : m D) := ⟨fun _ _ _ w => by unfold xVar; rw [e]; exact (WM.wp_ok w :)⟩
theorem rd_vO {c : Cell} (e : ρ[i]? = some (.own c)) : RD (xVar .b i : TX S) ρ (ok c.toD : m D) := ⟨fun _ _ _ w => by unfold xVar; rw [e]; exact (WM.wp_ok w :)⟩
theorem rd_vOl {c : List D} (e : ρ[i]? = some (.own (.lst c))) : RD (xVar .b i : TX S) ρ (ok (.lst c) : m D) := rd_vO e
theorem rd_vOd {c : List (Key × D)} (e : ρ[i]? = some (.own (.dct c))) : RD (xVar .b i : TX S) ρ (ok (.dct c) : m D) := rd_vO e
theorem rd_un {f : D → Option D} (h : RD A ρ a) : RD (xUn f A) ρ (op1 f a) := ⟨fun _ _ _ w => rd_mono h (WM.wp_bnd w) (fun _ _ q => wp_lif q) fun _ _ q => q⟩
theorem rd_op {f : D → D → Option D} (h : RD A ρ a) (k : RD B ρ b) : RD (xOp f A B) ρ (op2 f a b) := ⟨fun _ _ _ w => rd_mono h (WM.wp_bnd w) (fun _ _ q => rd_mono k (WM.wp_bnd q) (fun _ _ q => wp_lif q) fun _ _ q => q) fun _ _ q => q⟩
theorem ro_none : RO (oNone : TOx S) ρ (ok none : m (Option Int)) := ⟨fun _ _ _ w => (WM.wp_ok w :)⟩
theorem ro_some (h : RD A ρ a) : RO (oSome A) ρ (intV a) := ⟨fun _ _ _ w => rd_mono h (WM.wp_bnd w) (fun _ _ q => by
  obtain ⟨i, e, q⟩ := opt_ex (wp_lif (WM.wp_bnd q))
  rw [e]
  exact (WM.wp_ok q :)) fun _ _ q => q⟩
theorem rd_sl {f : D → Option Int → Option Int → Option D} {lo hi : TOx S} {p q : m (Option Int)} (h : RD A ρ a) (h1 : RO lo ρ p) (h2 : RO hi ρ q) : RD (xSl f A lo hi) ρ (op3 f a p q) :=
  ⟨fun _ _ _ w => rd_mono h (WM.wp_bnd w) (fun _ _ z => h1.go _ _ _ (WM.wp_mono (WM.wp_bnd z) (fun _ _ z => h2.go _ _ _ (WM.wp_mono (WM.wp_bnd z) (fun _ _ z => wp_lif z) fun _ _ z => z)) fun _ _ z => z)) fun _ _ z => z⟩
/-- displays, arguments -/
theorem wp_len {Q : List D → S → Prop} {X : Exn → S → Prop} : ∀ {l : List (m D)} {s : S}, WM.wp (seqV l) s Q X → WM.wp (seqV l) s (fun xs s1 => xs.length = l.length ∧ Q xs s1) X
  | [], s, w => WM.ok_wp ⟨rfl, (WM.wp_ok w :)⟩
  | a :: l, s, w => by
    refine WM.bnd_wp (WM.wp_mono (WM.wp_bnd w) (fun x s1 q => ?_) fun _ _ q => q)
    refine WM.bnd_wp (WM.wp_mono (wp_len (WM.wp_bnd q)) (fun xs s2 z => ?_) fun _ _ q => q)
    exact WM.ok_wp ⟨by rw [List.length_cons, List.length_cons, z.1], (WM.wp_ok z.2 :)⟩
structure RA (L : TL S) (ρ : Env) (l : List (m D)) : Prop where
  go : ∀ s Q X, WM.wp (seqV l) s Q X → L ρ s Q X
theorem ra_nil : RA (xNil : TL S) ρ ([] : List (m D)) := ⟨fun _ _ _ w => (WM.wp_ok w :)⟩
theorem ra_cons {l : List (m D)} (h : RD A ρ a) (k : RA L ρ l) : RA (xCons A L) ρ (a :: l) := ⟨fun s Q X w => by
  refine rd_mono h (WM.wp_bnd w) (fun x s1 q => ?_) fun _ _ q => q
  exact k.go _ _ _ (WM.wp_mono (WM.wp_bnd q) (fun xs s2 z => (WM.wp_ok z :)) fun _ _ q => q)⟩
theorem rd_tup {l : List (m D)} (h : RA L ρ l) (hl : l.length ≤ 1000) : RD (xTup L) ρ (tupV l) := ⟨fun s Q X w => h.go _ _ _ (WM.wp_mono (wp_len (WM.wp_bnd w)) (fun xs s1 z => ⟨le_line (by rw [z.1]; exact hl), (WM.wp_ok z.2 :)⟩) fun _ _ q => q)⟩
theorem rd_lst {l : List (m D)} (h : RA L ρ l) (hl : l.length ≤ 1000) : RD (xLst L) ρ (lstV l) := ⟨fun s Q X w => h.go _ _ _ (WM.wp_mono (wp_len (WM.wp_bnd w)) (fun xs s1 z => ⟨le_line (by rw [z.1]; exact hl), (WM.wp_ok z.2 :)⟩) fun _ _ q => q)⟩
/-- tests -/
theorem rb_mono (h : RB' U ρ u) {s : S} {Q Q' : Bool → S → Prop} {X X' : Exn → S → Prop} (w : WM.wp u s Q X) (k : ∀ x s1, Q x s1 → Q' x s1) (kx : ∀ e s1, X e s1 → X' e s1) : U ρ s Q' X' := h.go _ _ _ (WM.wp_mono w k kx)
theorem rb_test (h : RD A ρ a) : RB' (bTest A) ρ (tst a) := ⟨fun _ _ _ w => rd_mono h (WM.wp_bnd w) (fun _ _ q => wp_lif q) fun _ _ q => q⟩
theorem rb_yes : RB' (bYes : TB S) ρ (ok true : m Bool) := ⟨fun _ _ _ w => (WM.wp_ok w :)⟩
theorem rb_not (h : RB' U ρ u) : RB' (bNot U) ρ (notB u) := ⟨fun _ _ _ w => rb_mono h (WM.wp_bnd w) (fun _ _ q => (WM.wp_ok q :)) fun _ _ q => q⟩
theorem rb_and (h : RB' U ρ u) (k : RB' V ρ v) : RB' (bAnd U V) ρ (andB u v) := ⟨fun _ _ _ w => rb_mono h (WM.wp_bnd w) (fun z _ q => by
  cases z with
  | true => exact k.go _ _ _ q
  | false => exact (WM.wp_ok q :)) fun _ _ q => q⟩
theorem rb_or (h : RB' U ρ u) (k : RB' V ρ v) : RB' (bOr U V) ρ (orB u v) := ⟨fun _ _ _ w => rb_mono h (WM.wp_bnd w) (fun z _ q => by
  cases z with
  | false => exact k.go _ _ _ q
  | true => exact (WM.wp_ok q :)) fun _ _ q => q⟩
theorem rd_not (h : RD A ρ a) : RD (xNot A) ρ (notX a) := ⟨fun _ _ _ w => rd_mono h (WM.wp_bnd w) (fun x _ q => by
  obtain ⟨z, e, q⟩ := opt_ex (wp_lif (WM.wp_bnd q))
  rw [e]
  exact (WM.wp_ok q :)) fun _ _ q => q⟩
theorem rd_and (h : RD A ρ a) (k : RD B ρ b) : RD (xAnd A B) ρ (andX a b) := ⟨fun _ _ _ w => rd_mono h (WM.wp_bnd w) (fun x _ q => by
  obtain ⟨z, e, q⟩ := opt_ex (wp_lif (WM.wp_bnd q))
  rw [e]
  show if z = true then _ else _
  cases z with
  | true => exact k.go _ _ _ q
  | false => exact (WM.wp_ok q :)) fun _ _ q => q⟩
theorem rd_or (h : RD A ρ a) (k : RD B ρ b) : RD (xOr A B) ρ (orX a b) := ⟨fun _ _ _ w => rd_mono h (WM.wp_bnd w) (fun x _ q => by
  obtain ⟨z, e, q⟩ := opt_ex (wp_lif (WM.wp_bnd q))
  rw [e]
  show if z = true then _ else _
  cases z with
  | false => exact k.go _ _ _ q
  | true => exact (WM.wp_ok q :)) fun _ _ q => q⟩
theorem rd_if (hc : RB' U ρ u) (h : RD A ρ a) (k : RD B ρ b) : RD (xIf U A B) ρ (ifV u a b) := ⟨fun _ _ _ w => rb_mono hc (WM.wp_bnd w) (fun z _ q => by
  cases z with
  | true => exact h.go _ _ _ q
  | false => exact k.go _ _ _ q) fun _ _ q => q⟩
theorem rd_chn {f g : D → D → Option D} (h : RD A ρ a) (k : RD B ρ b) (n : RD C ρ c) : RD (xChain f g A B C) ρ (chnX f g a b c) := ⟨fun _ _ _ w => rd_mono h (WM.wp_bnd w) (fun x _ q => rd_mono k (WM.wp_bnd q) (fun y _ q => by
  obtain ⟨d, e, q⟩ := opt_ex (wp_lif (WM.wp_bnd q))
  obtain ⟨z, e2, q⟩ := opt_ex (wp_lif (WM.wp_bnd q))
  rw [e]
  show opt (asB d) _
  rw [e2]
  show if z = true then _ else _
  cases z with
  | true => exact rd_mono n (WM.wp_bnd q) (fun _ _ q => wp_lif q) fun _ _ q => q
  | false => exact (WM.wp_ok q :)) fun _ _ q => q) fun _ _ q => q⟩
/-- what is gone through -/
theorem rl_mono (h : RL L ρ l) {s : S} {Q Q' : List D → S → Prop} {X X' : Exn → S → Prop} (w : WM.wp l s Q X) (k : ∀ x s1, Q x s1 → Q' x s1) (kx : ∀ e s1, X e s1 → X' e s1) : L ρ s Q' X' := h.go _ _ _ (WM.wp_mono w k kx)
theorem rl_seq (h : RD A ρ a) : RL (xSeq A) ρ (itV a) := ⟨fun _ _ _ w => rd_mono h (WM.wp_bnd w) (fun _ _ q => wp_lif q) fun _ _ q => q⟩
theorem rl_seqd (e : ρ[i]? = some (.d x)) : RL (xSeqP i : TL S) ρ (itV (ok x : m D)) := ⟨fun _ _ _ w => by
  unfold xSeqP; rw [e]
  exact wp_lif (WM.wp_ok (WM.wp_bnd w) :)⟩
theorem rl_seqb (e : ρ[i]? = some (.bor x)) : RL (xSeqP i : TL S) ρ (itV (ok x : m D)) := ⟨fun _ _ _ w => by
  unfold xSeqP; rw [e]
  exact wp_lif (WM.wp_ok (WM.wp_bnd w) :)⟩
theorem rl_rng1 (h : RD A ρ a) : RL (xRng1 A) ρ (rng1 a) := ⟨fun _ _ _ w => rd_mono h (WM.wp_bnd w) (fun x _ q => by
  split at q
  · split at q
    · rename_i z; exact ⟨z, (WM.wp_ok q :)⟩
    · exact (WM.wp_no q).elim
  · exact (WM.wp_no q).elim) fun _ _ q => q⟩
theorem rl_rng2 (h : RD A ρ a) (k : RD B ρ b) : RL (xRng2 A B) ρ (rng2 a b) := ⟨fun _ _ _ w => rd_mono h (WM.wp_bnd w) (fun x _ q => rd_mono k (WM.wp_bnd q) (fun y _ q => by
  split at q
  · split at q
    · rename_i z; exact ⟨z.1, z.2, (WM.wp_ok q :)⟩
    · exact (WM.wp_no q).elim
  · exact (WM.wp_no q).elim) fun _ _ q => q) fun _ _ q => q⟩
/-- targets, then what is done with them -/
def RT {γ : Type} (gd : GD) (d : D) (ρ : Env) (x : m γ) (J : Env → m γ → Prop) : Prop := x = no ∨ ∃ ρ1, gd d ρ = some ρ1 ∧ J ρ1 x
theorem rt_n {γ : Type} {x : m γ} {J : Env → m γ → Prop} (h : J (ρ.set i (.d d)) x) : RT (gdN i) d ρ x J := .inr ⟨_, rfl, h⟩
theorem rt_2 {γ : Type} {k : D → D → m γ} {J : Env → m γ → Prop} (h : ∀ a b, J ((ρ.set i (.d a)).set j (.d b)) (k a b)) : RT (gdTup 2 (gdCons (gdN i) (gdCons (gdN j) gdNil))) d ρ (un2 d k) J := by
  unfold un2
  split
  · exact .inr ⟨_, rfl, h _ _⟩
  · exact .inl rfl
theorem rt_3 {γ : Type} {i3 : Nat} {k : D → D → D → m γ} {J : Env → m γ → Prop} (h : ∀ a b c, J (((ρ.set i (.d a)).set j (.d b)).set i3 (.d c)) (k a b c)) : RT (gdTup 3 (gdCons (gdN i) (gdCons (gdN j) (gdCons (gdN i3) gdNil)))) d ρ (un3 d k) J := by
  unfold un3
  split
  · exact .inr ⟨_, rfl, h _ _ _⟩
  · exact .inl rfl
theorem rt_4 {γ : Type} {i3 i4 : Nat} {k : D → D → D → D → m γ} {J : Env → m γ → Prop} (h : ∀ a b c e, J ((((ρ.set i (.d a)).set j (.d b)).set i3 (.d c)).set i4 (.d e)) (k a b c e)) : RT (gdTup 4 (gdCons (gdN i) (gdCons (gdN j) (gdCons (gdN i3) (gdCons (gdN i4) gdNil))))) d ρ (un4 d k) J := by
  unfold un4
  split
  · exact .inr ⟨_, rfl, h _ _ _ _⟩
  · exact .inl rfl
/-- comprehensions -/
structure RC (A : TX S) (U : TB S) (ρ : Env) (x : m (Option D)) : Prop where
  go : ∀ s (Q : Option D → S → Prop) X, WM.wp x s Q X → U ρ s (fun z s1 => if z = true then A ρ s1 (fun d s2 => Q (some d) s2) X else Q none s1) X
theorem rc_stp (h : RD A ρ a) (hc : RB' U ρ u) : RC A U ρ (stp u a) := ⟨fun s Q X w => rb_mono hc (WM.wp_bnd w) (fun z s1 q => by
  cases z with
  | true => exact rd_mono h (WM.wp_bnd q) (fun _ _ q => (WM.wp_ok q :)) fun _ _ q => q
  | false => exact (WM.wp_ok q :)) fun _ _ q => q⟩
theorem lcT_v {gd : GD} {st : D → m (Option D)} {Q : D → S → Prop} (h : ∀ d, RT gd d ρ (st d) fun ρ1 x => RC A U ρ1 x) : ∀ (ds acc : List D) (s : S) (X : Exn → S → Prop), acc.length + ds.length ≤ sizeLine → WM.wp (lcG st ds) s (fun xs s1 => Q (.lst (acc ++ xs)) s1) X → lcT gd U A ρ Q ds acc s
  | [], acc, s, X, _, w => by
    unfold lcT
    have q := (WM.wp_ok w :)
    rwa [List.append_nil] at q
  | d :: r, acc, s, X, l, w => by
    unfold lcT
    rw [List.length_cons] at l
    have w1 := WM.wp_nox (WM.wp_bnd w)
    rcases h d with e | ⟨ρ1, e, rc⟩
    · rw [e] at w1
      exact (WM.wp_no w1).elim
    · rw [e]
      refine rc.go s (fun o s1 => match o with
        | some y => acc.length < sizeLine ∧ lcT gd U A ρ Q r (acc ++ [y]) s1
        | none => lcT gd U A ρ Q r acc s1) (fun _ _ => False) (WM.wp_mono w1 (fun o s1 z => ?_) fun _ _ z => z)
      cases o with
      | some y =>
        refine ⟨by omega, lcT_v h r (acc ++ [y]) s1 X (by rw [List.length_append, List.length_cons, List.length_nil]; omega) ?_⟩
        refine WM.wp_mono (WM.wp_bnd z) (fun xs s2 q => ?_) fun _ _ q => q
        have q := (WM.wp_ok q :)
        rwa [List.append_assoc]
      | none => exact lcT_v h r acc s1 X (by omega) (WM.wp_mono (WM.wp_bnd z) (fun xs s2 q => (WM.wp_ok q :)) fun _ _ q => q)
theorem rd_lc {gd : GD} {vs : List Nat} {st : D → m (Option D)} (hl : RL L ρ l) (h : ∀ d, RT gd d (inE ρ vs) (st d) fun ρ1 x => RC A U ρ1 x) : RD (xLc L gd U A vs) ρ (lcV l st) := ⟨fun s Q X w => by
  refine rl_mono hl (WM.wp_bnd w) (fun ds s1 q => ?_) fun _ _ q => q
  split at q
  · rename_i hl
    refine lcT_v h ds [] s1 X (by simpa using hl) (WM.wp_mono (WM.wp_bnd q) (fun xs s2 z => (WM.wp_ok z :)) fun _ _ z => z)
  · exact (WM.wp_no q).elim⟩
/-! ### statements -/
variable {β γ δ : Type} {T U' V' : TP S} {Rn : β → Env → Prop} {Rl : γ → Env → Prop} {P : Post S} {x2 : m (Ot β γ)}
theorem rs_mono (h : RS T ρ Rn Rl x2) {s : S} (w : WM.wp x2 s (poS P Rn Rl) P.ex) : T ρ s P := h.go s P w
theorem rs_next {b : β} (h : Rn b ρ) : RS (pNext : TP S) ρ Rn Rl (ok (.nx b) : m (Ot β γ)) := ⟨fun s P w => (WM.wp_ok w :) ρ h⟩
theorem rs_nn {b : β} (h : Rn b ρ) : RS (pSeq pNext pNext : TP S) ρ Rn Rl (ok (.nx b) : m (Ot β γ)) := ⟨fun s P w => (WM.wp_ok w :) ρ h⟩
theorem rs_end (h : RS (pSeq T pNext) ρ Rn Rl x2) : RS T ρ Rn Rl x2 := ⟨h.go⟩
theorem rs_assoc (h : RS (pSeq T (pSeq U' V')) ρ Rn Rl x2) : RS (pSeq (pSeq T U') V') ρ Rn Rl x2 := ⟨h.go⟩
theorem rs_skip (h : RS U' ρ Rn Rl x2) : RS (pSeq pNext U') ρ Rn Rl x2 := ⟨h.go⟩
theorem rs_set {k : D → m (Ot β γ)} (h : RD A ρ a) (hk : ∀ d, RS U' (ρ.set i (.d d)) Rn Rl (k d)) : RS (pSeq (pSet A i) U') ρ Rn Rl (bnd a k) := ⟨fun s P w => rd_mono h (WM.wp_bnd w) (fun d s1 q => (hk d).go s1 P q) fun _ _ q => q⟩
theorem rs_drop {k : D → m (Ot β γ)} (h : RD A ρ a) (hk : ∀ d, RS U' ρ Rn Rl (k d)) : RS (pSeq (pDrop A) U') ρ Rn Rl (bnd a k) := ⟨fun s P w => rd_mono h (WM.wp_bnd w) (fun d s1 q => (hk d).go s1 P q) fun _ _ q => q⟩
theorem rs_own {k : List D → m (Ot β γ)} (h : RD A ρ a) (hk : ∀ d, RS U' (ρ.set i (.own (.lst d))) Rn Rl (k d)) : RS (pSeq (pOwn A i) U') ρ Rn Rl (bnd (asLs a) k) := ⟨fun s P w => rd_mono h (WM.wp_bnd (WM.wp_bnd w)) (fun d s1 q => by
  split at q
  · exact (hk _).go s1 P (WM.wp_ok q :)
  · exact (WM.wp_no q).elim) fun _ _ q => q⟩
theorem rs_ownD {k : List (Key × D) → m (Ot β γ)} (h : RD A ρ a) (hk : ∀ d, RS U' (ρ.set i (.own (.dct d))) Rn Rl (k d)) : RS (pSeq (pOwn A i) U') ρ Rn Rl (bnd (asDc a) k) := ⟨fun s P w => rd_mono h (WM.wp_bnd (WM.wp_bnd w)) (fun d s1 q => by
  split at q
  · exact (hk _).go s1 P (WM.wp_ok q :)
  · exact (WM.wp_no q).elim) fun _ _ q => q⟩
theorem rs_ret (h : RD A (frz ρ) a) : RS (pSeq (pRet A) U') ρ Rn Rl (bnd a fun d => ok (.rt d)) := ⟨fun s P w => rd_mono h (WM.wp_bnd w) (fun d s1 q => (WM.wp_ok q :)) fun _ _ q => q⟩
theorem rs_retN : RS (pSeq pRetN U') ρ Rn Rl (ok (.rt dN) : m (Ot β γ)) := ⟨fun s P w => (WM.wp_ok w :)⟩
theorem rs_if {y2 : m (Ot β γ)} (hc : RB' U ρ u) (h : RS (pSeq T V') ρ Rn Rl x2) (k : RS (pSeq U' V') ρ Rn Rl y2) : RS (pSeq (pIf U T U') V') ρ Rn Rl (ifV u x2 y2) := ⟨fun s P w => rb_mono hc (WM.wp_bnd w) (fun z s1 q => by
  cases z with
  | true => exact h.go s1 P q
  | false => exact k.go s1 P q) fun _ _ q => q⟩
theorem rs_cut {Rj : δ → Env → Prop} {x3 y3 : m (Ot δ γ)} {k : δ → m (Ot β γ)} (hc : RB' U ρ u) (h : RS T ρ Rj Rl x3) (h2 : RS U' ρ Rj Rl y3) (hk : ∀ b ρ', Rj b ρ' → RS V' ρ' Rn Rl (k b)) : RS (pCut (pIf U T U') V') ρ Rn Rl (thV (ifV u x3 y3) k) := ⟨fun s P w => by
  refine ⟨fun ρ' s' => V' ρ' s' P, ?_, fun _ _ z => z⟩
  refine rb_mono hc (WM.wp_bnd (WM.wp_bnd w)) (fun z s1 q => ?_) fun _ _ q => q
  have fin : ∀ (o : Ot δ γ) (s2 : S), WM.wp (thK k o) s2 (poS P Rn Rl) P.ex → poS { P with nx := fun ρ' s' => V' ρ' s' P } Rj Rl o s2 := fun o s2 q => by
    cases o with
    | nx b => exact fun ρ' r => (hk b ρ' r).go s2 P q
    | rt d => exact (WM.wp_ok q :)
    | bk d => exact (WM.wp_ok q :)
    | ct d => exact (WM.wp_ok q :)
  cases z with
  | true => exact h.go s1 _ (WM.wp_mono q fin fun _ _ q => q)
  | false => exact h2.go s1 _ (WM.wp_mono q fin fun _ _ q => q)⟩
theorem rs_brk {c : γ} (h : Rl c ρ) : RS (pSeq pBrk U') ρ Rn Rl (ok (.bk c) : m (Ot β γ)) := ⟨fun s P w => (WM.wp_ok w :) ρ h⟩
theorem rs_cnt {c : γ} (h : Rl c ρ) : RS (pSeq pCnt U') ρ Rn Rl (ok (.ct c) : m (Ot β γ)) := ⟨fun s P w => (WM.wp_ok w :) ρ h⟩
theorem rs_asg {gd : GD} {k : D → m (Ot β γ)} (h : RD A ρ a) (hk : ∀ d, RT gd d ρ (k d) fun ρ1 x => RS U' ρ1 Rn Rl x) : RS (pSeq (pAsg A gd) U') ρ Rn Rl (bnd a k) := ⟨fun s P w => rd_mono h (WM.wp_bnd w) (fun d s1 q => by
  rcases hk d with e | ⟨ρ1, e, r⟩
  · rw [e] at q
    exact (WM.wp_no q).elim
  · rw [e]
    exact r.go s1 P q) fun _ _ q => q⟩
theorem rs_par {k : D → D → m (Ot β γ)} (h : RD A ρ a) (h2 : RD B ρ b) (hk : ∀ x y, RS U' ((ρ.set i (.d x)).set j (.d y)) Rn Rl (k x y)) : RS (pSeq (pPar (xCons A (xCons B xNil)) i j) U') ρ Rn Rl (bnd a fun x => bnd b fun y => k x y) :=
  ⟨fun s P w => rd_mono h (WM.wp_bnd w) (fun x s1 q => rd_mono h2 (WM.wp_bnd q) (fun y s2 q => (hk x y).go s2 P q) fun _ _ q => q) fun _ _ q => q⟩
theorem rs_par3 {i3 : Nat} {k : D → D → D → m (Ot β γ)} (h : RD A ρ a) (h2 : RD B ρ b) (h3 : RD C ρ c) (hk : ∀ x y z, RS U' (((ρ.set i (.d x)).set j (.d y)).set i3 (.d z)) Rn Rl (k x y z)) : RS (pSeq (pPar3 (xCons A (xCons B (xCons C xNil))) i j i3) U') ρ Rn Rl (bnd a fun x => bnd b fun y => bnd c fun z => k x y z) :=
  ⟨fun s P w => rd_mono h (WM.wp_bnd w) (fun x s1 q => rd_mono h2 (WM.wp_bnd q) (fun y s2 q => rd_mono h3 (WM.wp_bnd q) (fun z s3 q => (hk x y z).go s3 P q) fun _ _ q => q) fun _ _ q => q) fun _ _ q => q⟩
theorem rs_app {xs : List D} {k : List D → m (Ot β γ)} (e : ownL ρ i = some xs) (h : RD A ρ a) (hk : ∀ ys, RS U' (ρ.set i (.own (.lst ys))) Rn Rl (k ys)) : RS (pSeq (onOwn i (pApp i A)) U') ρ Rn Rl (bnd (appV xs a) k) := ⟨fun s P w => ⟨by rw [e]; rfl, rd_mono h (WM.wp_bnd (WM.wp_bnd w)) (fun d s1 q => by
  rw [e]
  split at q
  · rename_i z; exact ⟨z, (hk _).go s1 P (WM.wp_ok q :)⟩
  · exact (WM.wp_no q).elim) fun _ _ q => q⟩⟩
theorem rs_ext {xs : List D} {k : List D → m (Ot β γ)} (e : ownL ρ i = some xs) (h : RD A ρ a) (hk : ∀ ys, RS U' (ρ.set i (.own (.lst ys))) Rn Rl (k ys)) : RS (pSeq (onOwn i (pExt i A)) U') ρ Rn Rl (bnd (extV xs a) k) := ⟨fun s P w => ⟨by rw [e]; rfl, rd_mono h (WM.wp_bnd (WM.wp_bnd w)) (fun d s1 q => by
  split at q
  · split at q
    · rename_i z; rw [e]; exact ⟨z, (hk _).go s1 P (WM.wp_ok q :)⟩
    · exact (WM.wp_no q).elim
  · exact (WM.wp_no q).elim) fun _ _ q => q⟩⟩
/-- a loop: R1 ties what is carried to the slots -/
theorem forT_v {gd : GD} {R1 : β → Env → Prop} {body : D → β → m (Ot β β)} {k : β → m (Ot δ γ)} {Rn : δ → Env → Prop}
    (turn : ∀ d b ρ, R1 b ρ → RT gd d ρ (body d b) fun ρ1 x => RS T ρ1 (fun c ρ' => ρ'.length = ρ.length ∧ R1 c (back ρ ρ')) (fun c ρ' => ρ'.length = ρ.length ∧ R1 c (back ρ ρ')) x)
    (hk : ∀ b ρ, R1 b ρ → RS U' ρ Rn Rl (k b)) (P : Post S) : ∀ (ds : List D) (b : β) (ρ : Env) (s : S), R1 b ρ → WM.wp (thV (forV body ds b) k) s (poS P Rn Rl) P.ex → forT gd T { P with nx := fun ρ' s' => U' ρ' s' P } ds ρ s
  | [], b, ρ, s, r, w => (hk b ρ r).go s P (WM.wp_ok (WM.wp_bnd w) :)
  | d :: ds, b, ρ, s, r, w => by
    unfold forT
    have w1 := WM.wp_bnd (WM.wp_bnd w)
    rcases turn d b ρ r with e | ⟨ρ1, e, rs⟩
    · rw [e] at w1
      exact (WM.wp_no w1).elim
    · rw [e]
      refine rs.go s _ (WM.wp_mono w1 (fun o s1 q => ?_) fun _ _ q => q)
      cases o with
      | nx c => exact fun ρ' z => ⟨z.1, forT_v turn hk P ds c _ s1 z.2 (WM.bnd_wp q)⟩
      | ct c => exact fun ρ' z => ⟨z.1, forT_v turn hk P ds c _ s1 z.2 (WM.bnd_wp q)⟩
      | bk c => exact fun ρ' z => ⟨z.1, (hk c _ z.2).go s1 P (WM.wp_ok q :)⟩
      | rt c => exact (WM.wp_ok (WM.wp_ok q :) :)
theorem rs_for {gd : GD} {R1 : β → Env → Prop} {body : D → β → m (Ot β β)} {b0 : β} {k : β → m (Ot δ γ)} {Rn : δ → Env → Prop} (hl : RL L ρ l) (h0 : R1 b0 ρ)
    (turn : ∀ d b ρ, R1 b ρ → RT gd d ρ (body d b) fun ρ1 x => RS T ρ1 (fun c ρ' => ρ'.length = ρ.length ∧ R1 c (back ρ ρ')) (fun c ρ' => ρ'.length = ρ.length ∧ R1 c (back ρ ρ')) x)
    (hk : ∀ b ρ, R1 b ρ → RS U' ρ Rn Rl (k b)) : RS (pSeq (pFor L gd T) U') ρ Rn Rl (bnd l fun ds => thV (forV body ds b0) k) :=
  ⟨fun s P w => rl_mono hl (WM.wp_bnd w) (fun ds s1 q => forT_v turn hk P ds b0 ρ s1 h0 q) fun _ _ q => q⟩
theorem rs_while {R1 : β → Env → Prop} {c : β → m Bool} {body : β → m (Ot β β)} {b0 : β} {k : β → m (Ot δ γ)} {Rn : δ → Env → Prop} {N : Nat} (h0 : R1 b0 ρ)
    (hc : ∀ b ρ, R1 b ρ → RB' U ρ (c b))
    (turn : ∀ b ρ, R1 b ρ → RS T ρ (fun c ρ' => ρ'.length = ρ.length ∧ R1 c (back ρ ρ')) (fun c ρ' => ρ'.length = ρ.length ∧ R1 c (back ρ ρ')) (body b))
    (hk : ∀ b ρ, R1 b ρ → RS U' ρ Rn Rl (k b)) : RS (pSeq (pWhile U T) U') ρ Rn Rl (thV (whiV c body N b0) k) := ⟨fun s P w => by
  refine ⟨fun n ρ s => ∃ b, R1 b ρ ∧ WM.wp (thV (whiV c body n b) k) s (poS P Rn Rl) P.ex, ⟨N, b0, h0, w⟩, ?_⟩
  rintro n ρ s ⟨b, r, w⟩
  cases n with
  | zero => exact (WM.wp_no (WM.wp_bnd w)).elim
  | succ n =>
    refine rb_mono (hc b ρ r) (WM.wp_bnd (WM.wp_bnd w)) (fun z s1 q => ?_) fun _ _ q => q
    cases z with
    | true =>
      rw [if_pos rfl] at q ⊢
      refine (turn b ρ r).go s1 _ (WM.wp_mono (WM.wp_bnd q) (fun o s2 q => ?_) fun _ _ q => q)
      cases o with
      | nx c => exact fun ρ' z => ⟨z.1, n, Nat.lt_succ_self n, c, z.2, WM.bnd_wp q⟩
      | ct c => exact fun ρ' z => ⟨z.1, n, Nat.lt_succ_self n, c, z.2, WM.bnd_wp q⟩
      | bk c => exact fun ρ' z => ⟨z.1, (hk c _ z.2).go s2 P (WM.wp_ok q :)⟩
      | rt c => exact (WM.wp_ok (WM.wp_ok q :) :)
    | false =>
      rw [if_neg (by decide)] at q ⊢
      exact (hk b ρ r).go s1 P (WM.wp_ok q :)⟩
end
end L2.DL
/-! Contracts of defs by functions; calls -/
namespace L2.DL
open L2 L2.My NdefX PySem PySem.Spec PyProof.Rows
open PM
@[simp] theorem lft_Om {α : Type} (x : Om α) : (lft x : Om α) = x := by cases x <;> rfl
section
variable {m : Type → Type} [PM m]
def ap0 (f : m D) : List D → m D
  | [] => f
  | _ => no
def ap1 (f : D → m D) : List D → m D
  | [a] => f a
  | _ => no
def ap2 (f : D → D → m D) : List D → m D
  | [a, b] => f a b
  | _ => no
def ap3 (f : D → D → D → m D) : List D → m D
  | [a, b, c] => f a b c
  | _ => no
def ap4 (f : D → D → D → D → m D) : List D → m D
  | [a, b, c, d] => f a b c d
  | _ => no
def ap5 (f : D → D → D → D → D → m D) : List D → m D
  | [a, b, c, d, e] => f a b c d e
  | _ => no
def ap6 (f : D → D → D → D → D → D → m D) : List D → m D
  | [a, b, c, d, e, g] => f a b c d e g
  | _ => no
def ap7 (f : D → D → D → D → D → D → D → m D) : List D → m D
  | [a, b, c, d, e, g, h] => f a b c d e g h
  | _ => no
@[simp] theorem ap0_at (f : m D) : ap0 f [] = f := rfl
@[simp] theorem ap1_at (f : D → m D) (a : D) : ap1 f [a] = f a := rfl
@[simp] theorem ap2_at (f : D → D → m D) (a b : D) : ap2 f [a, b] = f a b := rfl
@[simp] theorem ap3_at (f : D → D → D → m D) (a b c : D) : ap3 f [a, b, c] = f a b c := rfl
@[simp] theorem ap4_at (f : D → D → D → D → m D) (a b c d : D) : ap4 f [a, b, c, d] = f a b c d := rfl
@[simp] theorem ap5_at (f : D → D → D → D → D → m D) (a b c d e : D) : ap5 f [a, b, c, d, e] = f a b c d e := rfl
@[simp] theorem ap6_at (f : D → D → D → D → D → D → m D) (a b c d e g : D) : ap6 f [a, b, c, d, e, g] = f a b c d e g := rfl
@[simp] theorem ap7_at (f : D → D → D → D → D → D → D → m D) (a b c d e g h : D) : ap7 f [a, b, c, d, e, g, h] = f a b c d e g h := rfl
def calV (g : List D → Om D) (l : List (m D)) : m D := bnd (seqV l) fun ds => lft (g ds)
end
def penV (g : List D → Tm D) (l : List (Tm D)) : Tm D := Tm.bnd (seqV l) g
abbrev foF (g : List D → Om D) : Fn := fun ds => toF (g ds)
section
variable {m : Type → Type} [PM m] {S : Type} [WM m S] {L : TL S} {ρ : Env} {l : List (m D)} {g : List D → Om D}
theorem rd_call (h : RA L ρ l) : RD (xCall (foF g) L) ρ (calV g l) := ⟨fun s Q X w => h.go _ _ _ (WM.wp_mono (WM.wp_bnd w) (fun ds s1 q => wp_lft q) fun _ _ q => q)⟩
theorem ra_sw0 (h : RA L ρ l) : RA (xSw false L) ρ l := ⟨fun s Q X w => h.go s (fun ds s1 => Q (swL false ds) s1) X (WM.wp_mono w (fun ds s1 q => by
  have e1 : swL false ds = ds := by unfold swL; split <;> first | rfl | simp_all
  rw [e1]; exact q) fun _ _ q => q)⟩
end
/-- what a body is to be, for a def over data alone -/
inductive DB {m : Type → Type} [PM m] {S : Type} [WM m S] (T : TP S) (ρ : Env) : m D → Prop
  | no : DB T ρ no
  | go {β γ : Type} {Rn : β → Env → Prop} {Rl : γ → Env → Prop} {b : m (Ot β γ)} (h : RS T ρ Rn Rl b) : DB T ρ (retV b)
section
variable {m : Type → Type} [PM m] {S : Type} [WM m S] {T : TP S} {ρ : List D → Env}
theorem db0 {f : m D} (h : DB T (ρ []) f) : ∀ ds, DB T (ρ ds) (ap0 f ds) := fun ds => match ds with
  | [] => h
  | _ :: _ => .no
theorem db1 {f : D → m D} (h : ∀ a, DB T (ρ [a]) (f a)) : ∀ ds, DB T (ρ ds) (ap1 f ds) := fun ds => match ds with
  | [a] => h a
  | [] | _ :: _ :: _ => .no
theorem db2 {f : D → D → m D} (h : ∀ a b, DB T (ρ [a, b]) (f a b)) : ∀ ds, DB T (ρ ds) (ap2 f ds) := fun ds => match ds with
  | [a, b] => h a b
  | [] | [_] | _ :: _ :: _ :: _ => .no
theorem db3 {f : D → D → D → m D} (h : ∀ a b c, DB T (ρ [a, b, c]) (f a b c)) : ∀ ds, DB T (ρ ds) (ap3 f ds) := fun ds => match ds with
  | [a, b, c] => h a b c
  | [] | [_] | [_, _] | _ :: _ :: _ :: _ :: _ => .no
theorem db4 {f : D → D → D → D → m D} (h : ∀ a b c d, DB T (ρ [a, b, c, d]) (f a b c d)) : ∀ ds, DB T (ρ ds) (ap4 f ds) := fun ds => match ds with
  | [a, b, c, d] => h a b c d
  | [] | [_] | [_, _] | [_, _, _] | _ :: _ :: _ :: _ :: _ :: _ => .no
theorem db5 {f : D → D → D → D → D → m D} (h : ∀ a b c d e, DB T (ρ [a, b, c, d, e]) (f a b c d e)) : ∀ ds, DB T (ρ ds) (ap5 f ds) := fun ds => match ds with
  | [a, b, c, d, e] => h a b c d e
  | [] | [_] | [_, _] | [_, _, _] | [_, _, _, _] | _ :: _ :: _ :: _ :: _ :: _ :: _ => .no
theorem db6 {f : D → D → D → D → D → D → m D} (h : ∀ a b c d e g, DB T (ρ [a, b, c, d, e, g]) (f a b c d e g)) : ∀ ds, DB T (ρ ds) (ap6 f ds) := fun ds => match ds with
  | [a, b, c, d, e, g] => h a b c d e g
  | [] | [_] | [_, _] | [_, _, _] | [_, _, _, _] | [_, _, _, _, _] | _ :: _ :: _ :: _ :: _ :: _ :: _ :: _ => .no
end
section
variable {P : Program} {w : World} {K : W.Frag} {mg : Str → Option Value} {base : Heap} {x qual : Str} {st : Stmt} {f : Addr} {fd : FuncData} {N ps : List Str} {k : Nat} {os : List Mo}
/-- THE RULE for a def over data alone, by a function -/
theorem fn_V {g : List D → Om D} (Fd : Fun K x qual st f fd) (Sc : FnScope N ps (defScope st)) (hl : os.length = ps.length) (ho : os.all (fun o => match o with | .f => false | _ => true) = true)
    (hbody : ∀ (cdv : Value) (A : Around) (outer : List PySem.Env) (s : Shared) (H : Hp) (E : XK), Room k (A.deeper (envOfC qual (defScope st) s.heap.objs.size f cdv)) → Quiet (A.deeper (envOfC qual (defScope st) s.heap.objs.size f cdv)) →
      ∃ t, PSs (cxOf (L2.CX P w) P w K mg base N qual (defScope st) f cdv A outer s H E) (defBody st) t ∧
        ∀ (S : Type) (Γ : Fr S), ∃ T : TP S, LnS Γ K E t T ∧ ∀ ds, DB T (envD os N.length ds) (g ds)) :
    FnG P w K mg base (L2.CX P w) (k + 1) f fd ps (spF K os (foF g)) :=
  fn_data Fd Sc hl ho fun cdv A outer s H E hr hq => by
    obtain ⟨t, h1, h2⟩ := hbody cdv A outer s H E hr hq
    refine ⟨t, h1, fun S Γ => ?_⟩
    obtain ⟨T, l, m⟩ := h2 S Γ
    refine ⟨T, l, fun ds r s e => ?_⟩
    have q := m ds
    unfold foF at e
    generalize g ds = y at e q
    cases q with
    | no => cases e
    | @go β γ Rn Rl b h =>
      refine h.go s _ ?_
      change toF (Om.bnd b _) = _ at e
      cases b with
      | no => cases e
      | er x => cases e; exact ⟨rfl, rfl⟩
      | ok o =>
        cases o with
        | nx c => cases e; exact fun ρ' _ => ⟨rfl, rfl⟩
        | rt d => cases e; exact ⟨rfl, rfl⟩
        | bk c => cases e
        | ct c => cases e
end
/-! ### defs that draw -/
section
variable {K : W.Frag} {E : XK} {p q : Addr} {ns : List Int} {tl : TA} {L : TL Nat} {os : List Mo}
def spT (K : W.Frag) (os : List Mo) (g : List D → Tm D) : Sp := fun vs H Q E => ∃ (p q : Addr) (ns : List Int) (M : Msk) (n : Nat) (ds : List D), (∀ a, (penFr p q ns).M a → M a) ∧ (∀ a, M a → H a ≠ none) ∧
  ARel K (penFr p q ns).M (.b :: os) M H H vs (.v (.ref p) :: ds) ∧ (penFr p q ns).st n H ∧
  Tm.wp (g ds) n (fun d n' => ∀ (v : V) (H' : Hp), Stp (penFr p q ns) H H' → (penFr p q ns).st n' H' → R K (cut M H') v d → Q v H') fun x n' => ∀ c dx H', Stp (penFr p q ns) H H' → (penFr p q ns).st n' H' → XR K M H' c dx x → E c dx H'
def xPenV (p : Addr) (g : List D → Tm D) (L : TL Nat) : TX Nat := fun ρ n Q X => L ρ n (fun ds n1 => match ds with
  | .v (.ref p') :: ds => p' = p ∧ Tm.wp (g ds) n1 Q X
  | _ => False) X
theorem ln_penV {g : List D → Tm D} (ho : os.all (fun o => match o with | .f => false | _ => true) = true) (h : LnA (penFr p q ns) K E (.b :: os) tl L) :
    Ln (penFr p q ns) K E .s (tCall (spT K os g) [] E tl) (xPenV p g L) := by
  have hno : ∀ o ∈ (Mo.b :: os), o ≠ Mo.f := fun o z e => by
    rcases List.mem_cons.mp z with z | z
    · rw [z] at e; cases e
    · have := List.all_eq_true.mp ho o z
      rw [e] at this
      cases this
  intro M α σ H ρ s ok st QD QX Q z k kx
  refine h ok st _ QX _ z (fun vs H1 ds n1 p1 st1 r z => ?_) kx
  split at z
  · rename_i p' ds
    obtain ⟨rfl, z2⟩ := z
    have ok1 := ok.step p1
    show spT K os g (vs ++ []) H1 Q E
    rw [List.append_nil]
    exact ⟨p', q, ns, mask M α ρ, n1, ds, ok.msub, ok1.mtrk, ARel.from hno r, st1, Tm.wp_mono (fun d n' q v H' p2 st2 r' => k v H' d n' (p1.trans p2) st2 r' q) (fun x n' q c dx H' p2 st2 r' => kx c dx H' x n' (p1.trans p2) st2 r' q) _ _ z2⟩
  · exact z.elim
theorem rd_pen {g : List D → Tm D} {A : TX Nat} {ρ : Env} {l : List (Tm D)} (h0 : RD A ρ (ok (.v (.ref p)) : Tm D)) (h : RA L ρ l) : RD (xPenV p g (xCons A L)) ρ (penV g l) := ⟨fun s Q X w => by
  refine h0.go s _ _ (WM.ok_wp (h.go s _ _ (WM.wp_mono (WM.wp_bnd w) (fun ds s1 q => ?_) fun _ _ q => q)))
  exact ⟨rfl, q⟩⟩
theorem rd_drw {A B : TX Nat} {ρ : Env} {b : Tm D} (h0 : RD A ρ (ok (.v (.ref p)) : Tm D)) (h : RD B ρ b) : RD (xDraw p (xCons A (xCons B xNil))) ρ (drw b) := ⟨fun s Q X w => by
  refine h0.go s _ _ (WM.ok_wp (h.go s _ _ (WM.wp_mono (WM.wp_bnd (m := Tm) w) (fun d s1 q => ?_) fun _ _ q => q)))
  show match [D.v (.ref p), d] with
    | [.v (.ref p'), .v (.int many)] => p' = p ∧ 0 < many ∧ many.natAbs < 2 ^ 200 ∧ s1 < 100000 ∧ ∀ (d : Int) (n2 : Nat), 0 ≤ d → d < many → s1 ≤ n2 → n2 ≤ s1 + 1 → Q (dI d) n2
    | _ => False
  split at q
  · exact ⟨rfl, q⟩
  · exact q.elim⟩
variable {P : Program} {w : World} {mg : Str → Option Value} {base : Heap} {x qual : Str} {st : Stmt} {f : Addr} {fd : FuncData} {N ps : List Str} {k : Nat}
theorem fn_T {g : List D → Tm D}
    (Fd : Fun K x qual st f fd) (Sc : FnScope N ps (defScope st)) (hl : os.length + 1 = ps.length) (ho : os.all (fun o => match o with | .f => false | _ => true) = true)
    (hbody : ∀ (cdv : Value) (A : Around) (outer : List PySem.Env) (s : Shared) (H : Hp) (E : XK), Room k (A.deeper (envOfC qual (defScope st) s.heap.objs.size f cdv)) → Quiet (A.deeper (envOfC qual (defScope st) s.heap.objs.size f cdv)) →
      ∃ t, PSs (cxOf (L2.CX P w) P w K mg base N qual (defScope st) f cdv A outer s H E) (defBody st) t ∧
        ∀ (p q : Addr) (ns : List Int), ∃ T : TP Nat, LnS (penFr p q ns) K E t T ∧ ∀ ds, DB T (envD (.b :: os) N.length (.v (.ref p) :: ds)) (g ds)) :
    FnG P w K mg base (L2.CX P w) (k + 1) f fd ps (spT K os g) := by
  have hno : ∀ o ∈ (Mo.b :: os), o ≠ Mo.f := fun o z e => by
    rcases List.mem_cons.mp z with z | z
    · rw [z] at e; cases e
    · have := List.all_eq_true.mp ho o z
      rw [e] at this
      cases this
  refine body_g Fd Sc (fun vs H Q E ⟨p, q, ns, M, n, ds, _, _, r, _⟩ => by rw [(ARel.len r).1, List.length_cons]; exact hl) ?_
  rintro cdv A outer s H vs Q E hr hq ⟨p, q, ns, M, n, ds, h1, h2, r, st0, z⟩
  obtain ⟨t, ht, hT⟩ := hbody cdv A outer s H E hr hq
  obtain ⟨T, lt, main⟩ := hT p q ns
  obtain ⟨ok, no⟩ := ok_start (N := N) rfl hno h1 h2 r
  have back' : ∀ {w : Msk} {H' : Hp}, StS (wmask (penFr p q ns) (fun _ => 0) (envD (.b :: os) N.length (.v (.ref p) :: ds))) w H H' → Stp (penFr p q ns) H H' := fun p => ⟨fun a o n e => p.keep a o (fun z => z.elim n fun ⟨j, o, _⟩ => no j o) e, p.trk⟩
  have m := main ds
  refine ⟨t, ht, ?_⟩
  generalize g ds = y at z m
  cases m with
  | no => exact z.elim
  | @go β γ Rn Rl b h =>
    have z2 := Tm.wp_bnd _ _ _ _ _ z
    refine lt ok st0 ⟨fun _ n' => ∀ (v : V) (H' : Hp), Stp (penFr p q ns) H H' → (penFr p q ns).st n' H' → R K (cut M H') v dN → Q v H', fun d n' => ∀ (v : V) (H' : Hp), Stp (penFr p q ns) H H' → (penFr p q ns).st n' H' → R K (cut M H') v d → Q v H', fun _ _ => False, fun _ _ => False, fun x n' => ∀ c dx H', Stp (penFr p q ns) H H' → (penFr p q ns).st n' H' → XR K M H' c dx x → E c dx H'⟩ _ (h.go n _ (Tm.wp_mono (fun o n' q => ?_) (fun _ _ q => q) _ _ z2)) (fun σ' H' ρ' s' α' ok' st' p z' => ?_) (fun _ _ _ _ _ _ _ _ z => z.elim) (fun _ _ _ _ _ _ _ _ z => z.elim) (fun v H' d s' p st' r' z' => ?_) (fun c dx H' x s' p st' r' z => ?_)
    · cases o with
      | nx c => exact fun ρ' _ => q
      | rt d => exact q
      | bk c => exact q.elim
      | ct c => exact q.elim
    · exact z' .non H' (back' p) st' (.v _)
    · exact z' v H' (back' p) st' r'
    · exact z c dx H' (back' p) st' r'
theorem fn_lawV {N : List Str} {r1 : Stmt} {rest : List Stmt} {g : Tm D} (Fd : Fun K "law" "law" st f fd) (Sc : FnScope N ["_law_script"] (defScope st)) (h2 : 2 ≤ N.length) (hst : defBody st = r1 :: rest)
    (hg : Tm.wp g 0 (fun d _ => d = dB true) fun _ _ => False)
    (hbody : ∀ (cdv : Value) (A : Around) (outer : List PySem.Env) (s : Shared) (H : Hp), Room k (A.deeper (envOfC "law" (defScope st) s.heap.objs.size f cdv)) → Quiet (A.deeper (envOfC "law" (defScope st) s.heap.objs.size f cdv)) →
      ∃ t, PS (cxOf CX0 P w K mg base N "law" (defScope st) f cdv A outer s H E0).nox r1 (tAsg (tCall (spPen K) [] E0 (tCons (tVar 0) tNil)) (gName 1)) ∧ PSs (cxOf CX0 P w K mg base N "law" (defScope st) f cdv A outer s H E0).nox rest t ∧
        ∀ (p q : Addr) (ns : List Int), ∃ T : TP Nat, LnS (penFr p q ns) K E0 t T ∧ DB T (lawE N.length p) g) :
    FnG P w K mg base CX0 (k + 1) f fd ["_law_script"] (spLaw K) :=
  fn_law Fd Sc h2 hst fun cdv A outer s H hr hq => by
    obtain ⟨t, h1, h3, h4⟩ := hbody cdv A outer s H hr hq
    refine ⟨t, h1, h3, fun p q ns => ?_⟩
    obtain ⟨T, l, b⟩ := h4 p q ns
    refine ⟨T, l, ⟨?_⟩⟩
    cases b with
    | no => exact hg.elim
    | go h =>
      refine h.go 0 postW (Tm.wp_mono (fun o n' q => ?_) (fun _ _ q => q) _ _ (Tm.wp_bnd _ _ _ _ _ hg))
      cases o with
      | nx c => exact absurd q (by intro z; cases z)
      | rt d => exact q
      | bk c => exact q.elim
      | ct c => exact q.elim
end
end L2.DL
/-! More statements, comprehensions of any sort -/
namespace L2.DL
open L2 L2.My NdefX PySem PySem.Spec PyProof.Rows
open PM
section
variable {m : Type → Type} [PM m]
/-- a mark of something that is not to be gone into -/
structure Tg {α : Type} (k : α) : Type where
def popV (xs : List D) : m (D × List D) := match xs.getLast? with
  | some d => ok (d, xs.dropLast)
  | none => no
def popAV (xs : List D) (a : m D) : m (D × List D) := bnd a fun k => match asI k with
  | some n => if 0 ≤ n ∧ n < 2 ^ 63 then (match xs[n.toNat]? with
    | some d => ok (d, xs.eraseIdx n.toNat)
    | none => no) else no
  | none => no
def pp2 {α : Type} (x : m (D × List D)) (k : D → List D → m α) : m α := bnd x fun z => k z.1 z.2
def setLV (xs : List D) (a b : m D) : m (List D) := bnd a fun d => bnd b fun k => lif ((asI k).bind fun k => (ixN xs.length k).map fun j => xs.set j d)
def setDV (kvs : List (Key × D)) (a b : m D) : m (List (Key × D)) := bnd a fun d => bnd b fun k => lif ((asKey k).bind fun k => if kvs.length < sizeLine then some (putDk kvs k d) else none)
def coG {Acc : Type} (step : D → Acc → m Acc) : List D → Acc → m Acc
  | [], acc => ok acc
  | d :: r, acc => bnd (nox (step d acc)) fun acc' => coG step r acc'
def putKV (acc : List (Key × D)) (a b : m D) : m (List (Key × D)) := bnd a fun y => bnd b fun z => lif ((asKey y).bind fun k => if acc.length < sizeLine then some (putDk acc k z) else none)
def putTV (acc : List (List Int)) (a b : m D) : m (List (List Int)) := bnd a fun y => bnd b fun _ => lif ((asTI y).bind fun k => if acc.length < sizeLine then some (if k ∈ acc then acc else acc ++ [k]) else none)
def addV (acc : List Int) (a : m D) : m (List Int) := bnd a fun y => lif ((asI y).bind fun k => if acc.length < 1000 then some (acc ++ [k]) else none)
def in2V {Acc : Type} (l : m (List D)) (st : D → Acc → m Acc) (acc : Acc) : m Acc := bnd l fun ds => coG st ds acc
def dkV (l : m (List D)) (st : D → List (Key × D) → m (List (Key × D))) : m D := bnd l fun ds => bnd (coG st ds []) fun acc => ok (.dct acc)
def dtV (l : m (List D)) (st : D → List (List Int) → m (List (List Int))) : m D := bnd l fun ds => bnd (coG st ds []) fun acc => ok (.dtp acc)
def ssV (l : m (List D)) (st : D → List Int → m (List Int)) : m D := bnd l fun ds => bnd (coG st ds []) fun acc => if acc.length < 64 then ok (.lst ((sortI acc).map dI)) else no
/-! the same, so that nobody goes into what is done later -/
variable {Acc α β γ : Type}
def bndL (x : m α) (k : α → m β) (_ : Tg k := ⟨⟩) : m β := bnd x k
def thL (x : m (Ot α γ)) (k : α → m (Ot β γ)) (_ : Tg k := ⟨⟩) : m (Ot β γ) := thV x k
def ifL (c : m Bool) (a b : m α) (_ : Tg a := ⟨⟩) (_ : Tg b := ⟨⟩) : m α := ifV c a b
def andL (a b : m Bool) (_ : Tg b := ⟨⟩) : m Bool := andB a b
def orL (a b : m Bool) (_ : Tg b := ⟨⟩) : m Bool := orB a b
def andXL (a b : m D) (_ : Tg b := ⟨⟩) : m D := andX a b
def orXL (a b : m D) (_ : Tg b := ⟨⟩) : m D := orX a b
def stpL (c : m Bool) (a : m D) (_ : Tg a := ⟨⟩) : m (Option D) := stp c a
def lcL (l : m (List D)) (st : D → m (Option D)) (_ : Tg st := ⟨⟩) : m D := lcV l st
def forL (body : D → β → m (Ot β β)) (ds : List D) (b : β) (_ : Tg body := ⟨⟩) : m (Ot β γ) := forV body ds b
def whiL (c : β → m Bool) (body : β → m (Ot β β)) (n : Nat) (b : β) (_ : Tg c := ⟨⟩) (_ : Tg body := ⟨⟩) (_ : Tg n := ⟨⟩) : m (Ot β γ) := whiV c body n b
def un2L (d : D) (k : D → D → m α) (_ : Tg k := ⟨⟩) : m α := un2 d k
def un3L (d : D) (k : D → D → D → m α) (_ : Tg k := ⟨⟩) : m α := un3 d k
def un4L (d : D) (k : D → D → D → D → m α) (_ : Tg k := ⟨⟩) : m α := un4 d k
def un5L (d : D) (k : D → D → D → D → D → m α) (_ : Tg k := ⟨⟩) : m α := un5 d k
def pp2L (x : m (D × List D)) (k : D → List D → m α) (_ : Tg k := ⟨⟩) : m α := pp2 x k
def chnL (f g : D → D → Option D) (a b c : m D) (_ : Tg c := ⟨⟩) : m D := chnX f g a b c
def in2L (l : m (List D)) (st : D → Acc → m Acc) (acc : Acc) (_ : Tg st := ⟨⟩) : m Acc := in2V l st acc
def dkL (l : m (List D)) (st : D → List (Key × D) → m (List (Key × D))) (_ : Tg st := ⟨⟩) : m D := dkV l st
def dtL (l : m (List D)) (st : D → List (List Int) → m (List (List Int))) (_ : Tg st := ⟨⟩) : m D := dtV l st
def ssL (l : m (List D)) (st : D → List Int → m (List Int)) (_ : Tg st := ⟨⟩) : m D := ssV l st
variable {S : Type} [WM m S]
variable {A B C : TX S} {ρ : Env} {a b c : m D} {d x y : D} {i j : Nat} {L : TL S} {l : m (List D)} {U V : TB S} {u v : m Bool} {T U' V' : TP S} {Rn : β → Env → Prop} {Rl : γ → Env → Prop} {P : Post S} {x2 : m (Ot β γ)}
theorem rs_assocC (h : RS (pCut T (pSeq U' V')) ρ Rn Rl x2) : RS (pSeq (pCut T U') V') ρ Rn Rl x2 := ⟨fun s P w => h.go s P w⟩
theorem rs_pop {xs : List D} {gd : GD} {k : D → List D → m (Ot β γ)} (e : ownL ρ i = some xs) (hk : ∀ d ys, RT gd d (ρ.set i (.own (.lst ys))) (k d ys) fun ρ1 x => RS U' ρ1 Rn Rl x) : RS (pSeq (pPop i gd) U') ρ Rn Rl (pp2 (popV xs) k) := ⟨fun s P w => by
  refine ck_opt e ?_
  have w1 := WM.wp_bnd w
  unfold popV at w1
  cases q : xs.getLast? with
  | none => rw [q] at w1; exact (WM.wp_no w1).elim
  | some d =>
    rw [q] at w1
    have w2 := (WM.wp_ok w1 :)
    rcases hk d xs.dropLast with e | ⟨ρ1, e, r⟩
    · have w3 : WM.wp (k d xs.dropLast) s (poS P Rn Rl) P.ex := w2
      rw [e] at w3
      exact (WM.wp_no w3).elim
    · exact ck_opt rfl (ck_opt e (r.go s P w2))⟩
theorem rs_popAt {xs : List D} {gd : GD} {k : D → List D → m (Ot β γ)} (e : ownL ρ i = some xs) (h : RD A ρ a) (hk : ∀ d ys, RT gd d (ρ.set i (.own (.lst ys))) (k d ys) fun ρ1 x => RS U' ρ1 Rn Rl x) : RS (pSeq (pPopAt i A gd) U') ρ Rn Rl (pp2 (popAV xs a) k) := ⟨fun s P w => by
  refine ⟨by rw [e]; rfl, rd_mono h (WM.wp_bnd (WM.wp_bnd w)) (fun n s1 q => ?_) fun _ _ q => q⟩
  refine ck_opt e ?_
  split at q
  · rename_i n' en
    refine ck_opt en ?_
    split at q
    · rename_i hn
      refine ⟨hn.1, hn.2, ?_⟩
      split at q
      · rename_i d ed
        refine ck_opt ed ?_
        have w2 := (WM.wp_ok q :)
        rcases hk d (xs.eraseIdx n'.toNat) with e | ⟨ρ1, e, r⟩
        · have w3 : WM.wp (k d (xs.eraseIdx n'.toNat)) s1 (poS P Rn Rl) P.ex := w2
          rw [e] at w3
          exact (WM.wp_no w3).elim
        · exact ck_opt e (r.go s1 P w2)
      · exact (WM.wp_no q).elim
    · exact (WM.wp_no q).elim
  · exact (WM.wp_no q).elim⟩
theorem rs_setL {xs : List D} {k : List D → m (Ot β γ)} (e : ρ[i]? = some (.own (.lst xs))) (h : RD A ρ a) (h2 : RD B ρ b) (hk : ∀ ys, RS U' (ρ.set i (.own (.lst ys))) Rn Rl (k ys)) : RS (pSeq (pSetX i A B) U') ρ Rn Rl (bnd (setLV xs a b) k) := ⟨fun s P w => by
  refine ⟨⟨_, e⟩, rd_mono h (WM.wp_bnd (WM.wp_bnd w)) (fun d s1 q => rd_mono h2 (WM.wp_bnd q) (fun n s2 q => ?_) fun _ _ q => q) fun _ _ q => q⟩
  obtain ⟨ys, ey, q⟩ := opt_ex (wp_lif q)
  refine ck_opt (x := .lst ys) ?_ ((hk ys).go s2 P q)
  unfold putX
  rw [e]
  obtain ⟨z, ez, ey⟩ := Option.bind_eq_some_iff.mp ey
  obtain ⟨j, ej, rfl⟩ := Option.map_eq_some_iff.mp ey
  show (asI n).bind _ = _
  rw [ez]
  show (ixN xs.length z).map _ = _
  rw [ej]
  rfl⟩
theorem rs_setD {xs : List (Key × D)} {k : List (Key × D) → m (Ot β γ)} (e : ρ[i]? = some (.own (.dct xs))) (h : RD A ρ a) (h2 : RD B ρ b) (hk : ∀ ys, RS U' (ρ.set i (.own (.dct ys))) Rn Rl (k ys)) : RS (pSeq (pSetX i A B) U') ρ Rn Rl (bnd (setDV xs a b) k) := ⟨fun s P w => by
  refine ⟨⟨_, e⟩, rd_mono h (WM.wp_bnd (WM.wp_bnd w)) (fun d s1 q => rd_mono h2 (WM.wp_bnd q) (fun n s2 q => ?_) fun _ _ q => q) fun _ _ q => q⟩
  obtain ⟨ys, ey, q⟩ := opt_ex (wp_lif q)
  refine ck_opt (x := .dct ys) ?_ ((hk ys).go s2 P q)
  unfold putX
  rw [e]
  obtain ⟨z, ez, ey⟩ := Option.bind_eq_some_iff.mp ey
  show (asKey n).bind _ = _
  rw [ez]
  show (if xs.length < sizeLine then some (Cell.dct (putDk xs z d)) else none) = _
  split at ey
  · rename_i hl; cases ey; rw [if_pos hl]
  · cases ey⟩
theorem rs_parFF {k : List D → List D → m (Ot β γ)} (h : RD A ρ a) (h2 : RD B ρ b) (hk : ∀ x y, RS U' ((ρ.set i (.own (.lst x))).set j (.own (.lst y))) Rn Rl (k x y)) : RS (pSeq (pParFF A B i j) U') ρ Rn Rl (bnd (asLs a) fun x => bnd (asLs b) fun y => k x y) := ⟨fun s P w => by
  refine rd_mono h (WM.wp_bnd (WM.wp_bnd w)) (fun d s1 q => ?_) fun _ _ q => q
  split at q
  · rename_i xs
    refine rd_mono h2 (WM.wp_bnd (WM.wp_bnd (WM.wp_ok q :))) (fun d2 s2 q => ?_) fun _ _ q => q
    split at q
    · exact (hk _ _).go s2 P (WM.wp_ok q :)
    · exact (WM.wp_no q).elim
  · exact (WM.wp_no q).elim⟩
/-! comprehensions of any sort -/
structure RK {Acc : Type} (st : Stepper S Acc) (ρ : Env) (acc : Acc) (x : m Acc) : Prop where
  go : ∀ s Q X, WM.wp (nox x) s Q X → st ρ s acc Q
structure RCA {Acc : Type} (st : Stepper S Acc) (U : TB S) (ρ : Env) (acc : Acc) (x : m Acc) : Prop where
  go : ∀ s Q, WM.wp x s Q (fun _ _ => False) → U ρ s (fun z s1 => if z = true then st ρ s1 acc Q else Q acc s1) fun _ _ => False
structure RK' {Acc : Type} (st : Stepper S Acc) (ρ : Env) (acc : Acc) (x : m Acc) : Prop where
  go : ∀ s Q, WM.wp x s Q (fun _ _ => False) → st ρ s acc Q
theorem rca {Acc : Type} {st : Stepper S Acc} {acc : Acc} {x : m Acc} (hc : RB' U ρ u) (h : RK' st ρ acc x) : RCA st U ρ acc (ifV u x (ok acc)) := ⟨fun s Q w => rb_mono hc (WM.wp_bnd w) (fun z s1 q => by
  cases z with
  | true => exact h.go s1 Q q
  | false => exact (WM.wp_ok q :)) fun _ _ q => q⟩
theorem rk_putK {acc : List (Key × D)} (h : RD A ρ a) (h2 : RD B ρ b) : RK' (stPutK A B) ρ acc (putKV acc a b) := ⟨fun s Q w => rd_mono h (WM.wp_bnd w) (fun y s1 q => rd_mono h2 (WM.wp_bnd q) (fun z s2 q => by
  obtain ⟨ys, ey, q⟩ := opt_ex (wp_lif q)
  obtain ⟨k, ek, ey⟩ := Option.bind_eq_some_iff.mp ey
  refine ck_opt ek ?_
  split at ey
  · rename_i hl; cases ey; exact ⟨hl, q⟩
  · cases ey) fun _ _ q => q) fun _ _ q => q⟩
theorem rk_putT {acc : List (List Int)} (h : RD A ρ a) (h2 : RD B ρ b) : RK' (stPutT A B) ρ acc (putTV acc a b) := ⟨fun s Q w => rd_mono h (WM.wp_bnd w) (fun y s1 q => rd_mono h2 (WM.wp_bnd q) (fun z s2 q => by
  obtain ⟨ys, ey, q⟩ := opt_ex (wp_lif q)
  obtain ⟨k, ek, ey⟩ := Option.bind_eq_some_iff.mp ey
  refine ck_opt ek ?_
  split at ey
  · rename_i hl; cases ey; exact ⟨hl, q⟩
  · cases ey) fun _ _ q => q) fun _ _ q => q⟩
theorem rk_add {acc : List Int} (h : RD A ρ a) : RK' (stAdd A) ρ acc (addV acc a) := ⟨fun s Q w => rd_mono h (WM.wp_bnd w) (fun y s1 q => by
  obtain ⟨ys, ey, q⟩ := opt_ex (wp_lif q)
  obtain ⟨k, ek, ey⟩ := Option.bind_eq_some_iff.mp ey
  refine ck_opt ek ?_
  split at ey
  · rename_i hl; cases ey; exact ⟨hl, q⟩
  · cases ey) fun _ _ q => q⟩
theorem coT_v {Acc : Type} {gd : GD} {step : Stepper S Acc} {st : D → Acc → m Acc} {Q : Acc → S → Prop} {X : Exn → S → Prop} (h : ∀ d acc, RT gd d ρ (st d acc) fun ρ1 x => RCA step U ρ1 acc x) : ∀ (ds : List D) (acc : Acc) (s : S), WM.wp (coG st ds acc) s Q X → coT gd U step Q ρ ds acc s
  | [], acc, s, w => (WM.wp_ok w :)
  | d :: r, acc, s, w => by
    unfold coT
    have w1 := WM.wp_nox (WM.wp_bnd w)
    rcases h d acc with e | ⟨ρ1, e, rc⟩
    · rw [e] at w1
      exact (WM.wp_no w1).elim
    · rw [e]
      exact rc.go s _ (WM.wp_mono w1 (fun acc' s1 q => coT_v h r acc' s1 q) fun _ _ q => q)
theorem rk_in {Acc : Type} {gd1 : GD} {C1 : TB S} {step1 : Stepper S Acc} {vs1 : List Nat} {st : D → Acc → m Acc} {acc : Acc} (hl : RL L ρ l) (h : ∀ d acc, RT gd1 d (wipeE ρ vs1) (st d acc) fun ρ1 x => RCA step1 C1 ρ1 acc x) : RK' (stIn L gd1 C1 vs1 step1) ρ acc (in2V l st acc) :=
  ⟨fun s Q w => rl_mono hl (WM.wp_bnd w) (fun ds s1 q => coT_v h ds acc s1 q) fun _ _ q => q⟩
theorem rd_dk {gd : GD} {vs : List Nat} {st : D → List (Key × D) → m (List (Key × D))} (hl : RL L ρ l) (h : ∀ d acc, RT gd d (inE ρ vs) (st d acc) fun ρ1 x => RCA (stPutK A B) U ρ1 acc x) : RD (xDk L gd U A B vs) ρ (dkV l st) :=
  ⟨fun s Q X w => rl_mono hl (WM.wp_bnd w) (fun ds s1 q => coT_v h ds [] s1 (WM.wp_mono (WM.wp_bnd q) (fun acc s2 q => (WM.wp_ok q :)) fun _ _ q => q)) fun _ _ q => q⟩
theorem rd_dt {gd : GD} {vs : List Nat} {st : D → List (List Int) → m (List (List Int))} (hl : RL L ρ l) (h : ∀ d acc, RT gd d (inE ρ vs) (st d acc) fun ρ1 x => RCA (stPutT A B) U ρ1 acc x) : RD (xDt L gd U A B vs) ρ (dtV l st) :=
  ⟨fun s Q X w => rl_mono hl (WM.wp_bnd w) (fun ds s1 q => coT_v h ds [] s1 (WM.wp_mono (WM.wp_bnd q) (fun acc s2 q => (WM.wp_ok q :)) fun _ _ q => q)) fun _ _ q => q⟩
theorem rd_ss {gd : GD} {vs : List Nat} {step : Stepper S (List Int)} {st : D → List Int → m (List Int)} (hl : RL L ρ l) (h : ∀ d acc, RT gd d (inE ρ vs) (st d acc) fun ρ1 x => RCA step U ρ1 acc x) : RD (xSs (Acc := Unit) L gd U step vs) ρ (ssV l st) :=
  ⟨fun s Q X w => rl_mono hl (WM.wp_bnd w) (fun ds s1 q => coT_v h ds [] s1 (WM.wp_mono (WM.wp_bnd q) (fun acc s2 q => by
    split at q
    · rename_i z; exact ⟨z, (WM.wp_ok q :)⟩
    · exact (WM.wp_no q).elim) fun _ _ q => q)) fun _ _ q => q⟩
end
end L2.DL
/-! Names of what texts use; calls by keywords in any order; repr of data with dicts -/
namespace L2.DL
open L2 L2.My NdefX PySem PySem.Spec PyProof.Rows
open PM
abbrev ltV : D → D → Option D := cmpD (fun i j => decide (i < j)) (fun i j => decide (i < j))
abbrev leV : D → D → Option D := cmpD (fun i j => decide (i ≤ j)) (fun i j => !decide (j < i))
abbrev gtV : D → D → Option D := cmpD (fun i j => decide (j < i)) (fun i j => decide (j < i))
abbrev geV : D → D → Option D := cmpD (fun i j => decide (j ≤ i)) (fun i j => !decide (i < j))
abbrev subV : D → D → Option D := ii fun i j => some (dI (i - j))
abbrev divV : D → D → Option D := ii fun i j => if divB i j = true then some (dI (i / j)) else none
abbrev modV : D → D → Option D := ii fun i j => if modB i j = true then some (dI (i % j)) else none
abbrev powV : D → D → Option D := ii fun i j => if powB i j = true then some (dI (i ^ j.toNat)) else none
def negD : D → Option D
  | .v (.int i) => some (dI (-i))
  | _ => none
theorem p1_neg {K : W.Frag} : P1 K .s (rU fun i => .int (-i)) negD := by
  intro g m H v d c Q hm r e k
  unfold negD at e
  split at e
  · cases e
    exact ⟨_, RBo.sc r, k _ H (Same.refl _) (.v _)⟩
  · cases e
/-- a great number that nothing reckons with -/
def FUEL : Nat := 1000000
/-! ### keywords in any order -/
def prm {β : Type} (pm : List Nat) (xs : List β) : List β := pm.filterMap fun i => xs[i]?
theorem vals_at {i : Nat} : ∀ {vs : List V} {us : List Value}, Vals vs us → (vs[i]? = none ∧ us[i]? = none) ∨ ∃ v u, vs[i]? = some v ∧ us[i]? = some u ∧ RelV v u := by
  intro vs us r
  induction r generalizing i with
  | nil => exact .inl ⟨by simp, by simp⟩
  | cons a r ih =>
    cases i with
    | zero => exact .inr ⟨_, _, rfl, rfl, a⟩
    | succ i => simpa using ih
theorem vals_prm {vs : List V} {us : List Value} (r : Vals vs us) : ∀ pm : List Nat, Vals (prm pm vs) (prm pm us)
  | [] => .nil
  | i :: pm => by
    unfold prm
    rcases vals_at (i := i) r with ⟨e1, e2⟩ | ⟨v, u, e1, e2, q⟩
    · rw [List.filterMap_cons_none e1, List.filterMap_cons_none e2]; exact vals_prm r pm
    · rw [List.filterMap_cons_some e1, List.filterMap_cons_some e2]; exact .cons q (vals_prm r pm)
/-- a def called with keywords alone -/
structure CalP (P : Program) (w : World) (K : W.Frag) (mg : Str → Option Value) (base : Heap) (CX : CXT) (k : Nat) (x : Str) (sp : Sp) (ks : List Str) (pm : List Nat) : Prop where
  ex : ∃ (f : Addr) (fd : FuncData) (ps : List Str), FnG P w K mg base CX k f fd ps sp ∧ mg x = some (.ref f) ∧ W.keepIn K (.ref f) = true ∧ (∀ (s : Shared) (ws : List Value), ws.length = ks.length → BindsTo s fd ⟨[], ks.zip ws⟩ (ps.zip (prm pm ws)))
def tPrm (n : Nat) (pm : List Nat) (t : TA) : TA := fun σ H Q => t σ H fun zs H1 => zs.length = n ∧ Q (prm pm zs) H1
section
variable {X : Cx} {CX : CXT} {k n : Nat} {f C : Addr} {fd : FuncData} {ps ks : List Str} {sp : Sp} {E : XK} {x : Str} {p pos : Pos} {e : Expr} {kws : List Keyword} {t : TA} {pm : List Nat}
theorem pe_kwp {j : Nat} (c : CalP X.prog X.w X.K X.mg X.base CX j x sp ks pm) (hr : Room k X.A) (hjk : j ≤ k) (hq : My.Quiet X.A) (hx : Passes CX X E) (hg : Gl X x) (hkw : PK X kws t)
    (hall : (backToKw pos (keywordEach kws X.env)).all (·.1.isSome) = true := by rfl) (hks : (backToKw pos (keywordEach kws X.env)).filterMap (·.1) = ks := by rfl) (hdb : (x == ("__debug__" : Str)) = false := by decide)
    (hpl : ((backTo pos (starEach [] X.env)).any (·.1) || (backToKw pos (keywordEach kws X.env)).any (·.1.isNone)) = false := by rfl) :
    PE X (.Call (.Name x p) [] kws pos) (tCall sp [] E (tPrm ks.length pm t)) := by
  obtain ⟨f, fd, ps, F, hm, hk, hb⟩ := c.ex
  constructor
  intro pins s σ H Q I h
  refine wpAny_Call_Name_kw (ld_glob I hg hm ?_ hdb)
  refine W.callWith_KW0 (h₀ := X.base) I.ok.mod.kin hk hall ?_ hpl
  refine thn (hkw.run pos pins s σ H _ I h) ?_
  rintro ws s1 ⟨vs, H1, I1, r, hl, q⟩
  refine ⟨I1.kIn, ?_⟩
  rw [hks]
  rw [List.append_nil] at q
  refine wpAny_call (codeAny_mono ((F.up hjk).runs X.A X.stack s1 H1 ⟨[], ks.zip ws⟩ _ _ Q E hr hq I1.env0 (hb s1 ws (r.length.symm.trans hl)) (vals_prm r pm) q) ?_)
  intro res s' z
  match res, z with
  | .error er, z => exact hx pins σ H1 s1 er s' I1 z
  | .ok (.ret u), z => exact I1.after z
end
section
variable {S : Type} {Γ : Fr S} {K : W.Frag} {E : XK} {tl : TA} {L : TL S} {os : List Mo}
def xPrm (pm : List Nat) (L : TL S) : TL S := fun ρ s Q X => L ρ s (fun ds s1 => Q (prm pm ds) s1) X
theorem arel_at {g m : Msk} {H0 H : Hp} {i : Nat} : ∀ {os : List Mo} {vs : List V} {ds : List D}, ARel K g os m H0 H vs ds → (os[i]? = none ∧ vs[i]? = none ∧ ds[i]? = none) ∨ ∃ o v d, os[i]? = some o ∧ vs[i]? = some v ∧ ds[i]? = some d ∧ RR K g o m H0 H v d := by
  induction i with
  | zero =>
    intro os vs ds r
    match os, vs, ds, r with
    | [], [], [], _ => exact .inl ⟨rfl, rfl, rfl⟩
    | o :: _, v :: _, d :: _, r => exact .inr ⟨o, v, d, rfl, rfl, rfl, r.1⟩
  | succ i ih =>
    intro os vs ds r
    match os, vs, ds, r with
    | [], [], [], _ => exact .inl ⟨rfl, rfl, rfl⟩
    | o :: _, v :: _, d :: _, r => simpa using ih r.2
theorem arel_prm {g m : Msk} {H0 H : Hp} {os : List Mo} {vs : List V} {ds : List D} (r : ARel K g os m H0 H vs ds) : ∀ pm : List Nat, ARel K g (prm pm os) m H0 H (prm pm vs) (prm pm ds)
  | [] => trivial
  | i :: pm => by
    unfold prm
    rcases arel_at (i := i) r with ⟨e1, e2, e3⟩ | ⟨o, v, d, e1, e2, e3, q⟩
    · rw [List.filterMap_cons_none e1, List.filterMap_cons_none e2, List.filterMap_cons_none e3]; exact arel_prm r pm
    · rw [List.filterMap_cons_some e1, List.filterMap_cons_some e2, List.filterMap_cons_some e3]; exact ⟨q, arel_prm r pm⟩
theorem ln_prm {n : Nat} {pm : List Nat} {os' : List Mo} (hn : os.length = n) (ho : prm pm os = os') (h : LnA Γ K E os tl L) : LnA Γ K E os' (tPrm n pm tl) (xPrm pm L) := by
  subst ho
  intro M α σ H ρ s ok st QD QX Q q k kx
  refine h ok st _ QX _ q (fun vs H1 ds s1 p1 st1 r z => ?_) kx
  exact ⟨by rw [(ARel.len r).1, hn], k _ H1 _ s1 p1 st1 (arel_prm r pm) z⟩
end
section
variable {m : Type → Type} [PM m]
def kwV (pm : List Nat) (g : List D → Om D) (l : List (m D)) : m D := bnd (seqV l) fun ds => lft (g (prm pm ds))
variable {S : Type} [WM m S] {L : TL S} {ρ : Env} {l : List (m D)} {g : List D → Om D}
theorem rd_kw {pm : List Nat} (h : RA L ρ l) : RD (xCall (foF g) (xPrm pm L)) ρ (kwV pm g l) := ⟨fun s Q X w => h.go _ _ _ (WM.wp_mono (WM.wp_bnd w) (fun ds s1 q => wp_lft q) fun _ _ q => q)⟩
end
/-! ### repr of data with dicts -/
mutual
def toQ : D → Option PyData
  | .v .non => some .none
  | .v (.bl b) => some (.bool b)
  | .v (.int i) => some (.int i)
  | .v (.str x) => some (.str x)
  | .v _ => none
  | .tup xs => (toQs xs).map .tuple
  | .lst xs => (toQs xs).map .list
  | .dct kvs => (toQk kvs).map .dict
  | .obj _ _ => none
  | .exc _ _ => none
  | .dtp _ => none
def toQs : List D → Option (List PyData)
  | [] => some []
  | x :: r => (toQ x).bind fun a => (toQs r).map fun b => a :: b
def toQk : List (Key × D) → Option (List (PyData × PyData))
  | [] => some []
  | (k, x) :: r => (toQ x).bind fun a => (toQk r).map fun b => (keyD k, a) :: b
end
section
variable {K : W.Frag} {G H : Hp}
mutual
theorem q_dq : ∀ {d : D} {v : V} {p : PyData}, R K G v d → toQ d = some p → Dq K G v p
  | .v x, _, p, .v _, e => by
    cases x with
    | non => simp only [toQ, Option.some.injEq] at e; subst e; exact .non
    | bl b => simp only [toQ, Option.some.injEq] at e; subst e; exact .bl b
    | int i => simp only [toQ, Option.some.injEq] at e; subst e; exact .int i
    | str x => simp only [toQ, Option.some.injEq] at e; subst e; exact .str x
    | byt _ => simp [toQ] at e
    | flt _ => simp [toQ] at e
    | ref _ => simp [toQ] at e
    | ty _ => simp [toQ] at e
  | .tup xs, _, p, .tup h1 h2, e => by
    simp only [toQ, Option.map_eq_some_iff] at e
    obtain ⟨ps, e, rfl⟩ := e
    exact .tup h1 (q_dqs h2 e)
  | .lst xs, _, p, .lst h1 h2, e => by
    simp only [toQ, Option.map_eq_some_iff] at e
    obtain ⟨ps, e, rfl⟩ := e
    exact .lst (.inl (.inl h1)) (q_dqs h2 e)
  | .dct xs, _, p, .dct h1 h2, e => by
    simp only [toQ, Option.map_eq_some_iff] at e
    obtain ⟨ps, e, rfl⟩ := e
    exact .dic h1 (q_dqk h2 e)
  | .obj _ _, _, _, _, e => by simp [toQ] at e
  | .exc _ _, _, _, _, e => by simp [toQ] at e
  | .dtp _, _, _, _, e => by simp [toQ] at e
theorem q_dqs : ∀ {ds : List D} {vs : List V} {ps : List PyData}, RAll K G vs ds → toQs ds = some ps → DqAll K G vs ps
  | [], _, _, .nil, e => by simp only [toQs, Option.some.injEq] at e; subst e; exact .nil
  | d :: ds, _, _, .cons h t, e => by
    simp only [toQs, Option.bind_eq_some_iff, Option.map_eq_some_iff] at e
    obtain ⟨a, ea, b, eb, rfl⟩ := e
    exact .cons (q_dq h ea) (q_dqs t eb)
theorem q_dqk : ∀ {ds : List (Key × D)} {vs : List (Key × V)} {ps : List (PyData × PyData)}, RKv K G vs ds → toQk ds = some ps → DqKv K G vs ps
  | [], _, _, .nil, e => by simp only [toQk, Option.some.injEq] at e; subst e; exact .nil
  | (k, d) :: ds, _, _, .cons h t, e => by
    simp only [toQk, Option.bind_eq_some_iff, Option.map_eq_some_iff] at e
    obtain ⟨a, ea, b, eb, rfl⟩ := e
    exact .cons (q_dq h ea) (q_dqk t eb)
end
mutual
theorem Dq.same (s : Same G H) : ∀ {v : V} {p : PyData}, Dq K G v p → Dq K H v p
  | _, _, .non => .non
  | _, _, .bl b => .bl b
  | _, _, .int i => .int i
  | _, _, .str x => .str x
  | _, _, .lst h t => .lst (SqL.same s h) (DqAll.same s t)
  | _, _, .tup h t => .tup (SqT.same s h) (DqAll.same s t)
  | _, _, .dic h t => .dic (s _ _ h) (DqKv.same s t)
theorem DqAll.same (s : Same G H) : ∀ {v : List V} {p : List PyData}, DqAll K G v p → DqAll K H v p
  | _, _, .nil => .nil
  | _, _, .cons h t => .cons (Dq.same s h) (DqAll.same s t)
theorem DqKv.same (s : Same G H) : ∀ {v : List (Key × V)} {p : List (PyData × PyData)}, DqKv K G v p → DqKv K H v p
  | _, _, .nil => .nil
  | _, _, .cons h t => .cons (Dq.same s h) (DqKv.same s t)
end
theorem rb_dq {g m : Msk} {v : V} {d : D} {p : PyData} (r : RB K g m H v d) (e : toQ d = some p) : Dq K H v p := by
  rcases r with r | ⟨a, c, rfl, rfl, n, r⟩
  · exact Dq.same cut_le (q_dq r e)
  · cases c with
    | lst xs =>
      obtain ⟨vs, h, t⟩ := r
      simp only [Cell.toD, toQ, Option.map_eq_some_iff] at e
      obtain ⟨ps, e, rfl⟩ := e
      exact .lst (.inl (.inl h)) (DqAll.same cut_le (q_dqs t e))
    | dct xs =>
      obtain ⟨vs, h, t⟩ := r
      simp only [Cell.toD, toQ, Option.map_eq_some_iff] at e
      obtain ⟨ps, e, rfl⟩ := e
      exact .dic h (DqKv.same cut_le (q_dqk t e))
    | obj C xs => simp [Cell.toD, toQ] at e
end
def reprX (RF : Addr → Option Fn) (d : D) : Option D := match d with
  | .obj C _ => (RF C).bind fun F => resS (F [d])
  | _ => (toQ d).bind fun p => if p.showable = true ∧ p.depth ≤ 60 ∧ p.shown.length ≤ sizeLine then some (dS p.shown) else none
theorem p1_reprX {K : W.Frag} {RF : Addr → Option Fn} : P1 K .s (fun v => rReprA K (DRp K RF) [v]) (reprX RF) := by
  intro g m H v d e Q hm r he k
  unfold reprX at he
  split at he
  · rename_i C fs
    obtain ⟨F, eF, he⟩ := Option.bind_eq_some_iff.mp he
    obtain ⟨y, ey, rfl⟩ := resS_ex he
    obtain ⟨a, dx, vs, rfl, h1, _⟩ := RBo.obj r
    refine .inr ⟨a, C, dx, vs, _, rfl, h1, ⟨F, eF, rfl⟩, spF_one hm r ey fun v' H' s r' => ?_⟩
    cases r'
    exact ⟨y, rfl, k _ H' s (.v _)⟩
  · obtain ⟨p, ep, he⟩ := Option.bind_eq_some_iff.mp he
    split at he
    · rename_i hp
      cases he
      exact .inl ⟨v, p, rfl, rb_dq r ep, hp.1, hp.2.1, hp.2.2, k _ H (Same.refl _) (.v _)⟩
    · cases he
theorem call_reprN {X : Cx} {n : Nat} {m : Str → Option Value} (hs : X.base.Ns sysModules m) (hq : My.Quiet X.A) (hr : Room (n + 1) X.A) : CallR X (.builtin "repr") (rReprA X.K (DRp X.K fun _ => none)) :=
  call_reprA hs hq hr fun C sp h => by
    obtain ⟨F, e, _⟩ := h
    cases e
/-- where no instance is shown -/
abbrev reprQ : D → Option D := reprX fun _ => none
end L2.DL
/-! sets of ints out of tuples; their numbers -/
namespace L2.DL
open L2 L2.My NdefX PySem PySem.Spec PyProof.Rows
open PM
section
variable {X : Cx}
def rSetOfU (K : PySem.W.Frag) (w : World) : List V → Hp → VK → Prop := fun xs H Q => ∃ (l : Addr) (ns : List Int), xs = [V.ref l] ∧ (SqL K H l (ns.map V.int) ∨ SqT K H l (ns.map V.int)) ∧ ns.length < 64 ∧ ∀ a c, H a = none → c ≤ ns.length → Q (.ref a) (upd H a (SetO w a (fun j => decide (j ∈ ns)) c))
theorem cr_setOfU (hc : X.calm = true) : CallR X (.type "set") (rSetOfU X.K X.w) := by
  intro pins s σ H xs us Q I r h
  obtain ⟨l, ns, rfl, hl, hf, q⟩ := h
  rcases hl with hl | hl
  · exact cr_setOfI hc pins s σ H _ us Q I r ⟨l, ns, rfl, hl, hf, q⟩
  · rw [Vals.ref1 r]
    obtain ⟨its, rv, pl, hz⟩ := I.tuple hl
    have hn : H s.heap.objs.size = none := I.hok.fresh (Nat.le_refl _)
    refine call_set_tupI ns (I.ok.hd hc) pl (by simpa using rv.ints) (by unfold scanBound; omega) fun h' tk c R hc' k => ?_
    exact ⟨.ref s.heap.objs.size, upd H s.heap.objs.size (SetO X.w s.heap.objs.size (fun j => decide (j ∈ ns)) c), I.laid (t' := tk) k (Nat.le_refl _) (setO_new R), rfl, q _ c hn hc'⟩
def ddI (ns : List Int) : Nat := (PyProof.Rows.firstMet (fun i => ns.getD i 0) ns.length).length
def rLenSet (K : PySem.W.Frag) : V → Hp → VK → Prop := fun x H Q => ∃ (l : Addr) (ns : List Int), x = .ref l ∧ SqL K H l (ns.map V.int) ∧ ns.length ≤ 4000 ∧ Q (.int (ddI ns : Nat)) H
theorem pe_lenSetV {a : Expr} {ta : TE} {p p2 q pos : Pos} (hc : X.calm = true) (hg : Gl X "len") (hm : X.mg "len" = none) (hg2 : Gl X "set") (hm2 : X.mg "set" = none) (ha : PE X a ta)
    (na : starEach [a] X.env = (false, eval a X.env) :: starEach [] X.env := by rfl) : PE X (.Call (.Name "len" p) [.Call (.Name "set" p2) [a] [] q] [] pos) (tUn (rLenSet X.K) ta) := by
  refine ⟨fun pins s σ H Q I h => ?_⟩
  refine Call_ (ld_blt I hg hm PySem.boot_len ?_)
  refine PyProof.Rows.callWith_builtin1 (PyProof.Rows.args_cons ?_ rfl) rfl rfl
  refine Call_ (ld_blt I hg2 hm2 PyProof.Rows.boot_set ?_)
  refine PyProof.Rows.callWith_type1 (PyProof.Rows.args_cons (L2.thn (ha.run pins s σ H _ I h) fun v s1 ⟨x, H1, I1, r1, q1⟩ => PyProof.Rows.args_nil ?_) na) na rfl
  obtain ⟨l, ns, rfl, hq, hl, q1⟩ := q1
  cases r1
  obtain ⟨its, r, pl, hz⟩ := I1.list hq
  have hlen : its.toArray.size = ns.length := by rw [List.size_toArray, ← r.length, List.length_map]
  refine call_set_list (I1.ok.hd hc) pl.isList (ns := ns) (by simpa using r.ints) (by rw [hlen]; unfold scanBound; omega) fun h' tk hS hk => ?_
  refine PyProof.Rows.args_nil ?_
  rw [hlen] at hS
  have hb := PyProof.Rows.firstMet_length_le (fun i => ns.getD i 0) ns.length
  obtain ⟨o, es, ep, t, ho, hex, hd, _, _, _, hf, hn⟩ := hS
  have I2 : Inv X pins σ H1 { s1 with heap := h', toks := tk } := I1.kept fun b o e => hk b o (Heap.lt_size e) e
  exact call_len_set ho hex hd hf (by rw [hn] <;> omega) ⟨.int (ddI ns : Nat), H1, I2.tok _, ⟨_, by unfold ddI; rw [hn]⟩, q1⟩
end
def ssU : D → Option D
  | .lst ds => (asIs ds).bind fun ns => if ns.length < 64 then some (.lst ((sortI ns).map dI)) else none
  | .tup ds => (asIs ds).bind fun ns => if ns.length < 64 then some (.lst ((sortI ns).map dI)) else none
  | _ => none
def lsetD : D → Option D
  | .lst ds => (asIs ds).bind fun ns => if ns.length ≤ 4000 then some (dI (ddI ns : Nat)) else none
  | _ => none
section
variable {K : W.Frag}
theorem p1_lset : P1 K .s (rLenSet K) lsetD := by
  intro g m H v d c Q hm r e k
  unfold lsetD at e
  split at e
  · obtain ⟨ns, en, e⟩ := Option.bind_eq_some_iff.mp e
    split at e
    · rename_i hl
      cases e
      obtain ⟨a, rfl, h1⟩ := rb_ints r en
      exact ⟨a, ns, rfl, h1, hl, k _ H (Same.refl _) (.v _)⟩
    · cases e
  · cases e
theorem p1_ssU {w : World} : P1 K .f (fun v H Q => rSetOfU K w [v] H fun s H1 => rSortedSet w [s] H1 Q) ssU := by
  have main : ∀ {g m : Msk} {H : Hp} {l : Addr} {ns : List Int} {Q : VK}, (∀ a, m a → H a ≠ none) → (SqL K H l (ns.map V.int) ∨ SqT K H l (ns.map V.int)) → ns.length < 64 → (∀ v' H', Same H H' → RR K g .f m H H' v' (.lst ((sortI ns).map dI)) → Q v' H') → rSetOfU K w [.ref l] H fun s H1 => rSortedSet w [s] H1 Q := by
    intro g m H l ns Q hm hl hf k
    refine ⟨l, ns, rfl, hl, hf, fun A cn hA lc => ⟨A, _, cn, rfl, upd_same, by omega, fun out p asc mem len hp => ?_⟩⟩
    have eo : out = sortI ns := asc_eq (κ := id) asc (sortK_asc ns) fun y => by rw [mem y, sortI_mem]; simp
    subst eo
    have s1 := same_upd (o := SetO w A (fun j => decide (j ∈ ns)) cn) hA
    have s2 := same_upd (o := HO.lst ((sortI ns).map V.int)) hp
    have hp0 : H p = none := by
      cases q : H p with
      | none => rfl
      | some o => rw [s1 p o q] at hp; cases hp
    refine k _ _ (fun b o q => s2 b o (s1 b o q)) ⟨p, .lst ((sortI ns).map dI), rfl, rfl, hp0, _, upd_same, ?_⟩
    have := RAll.ofV (K := K) (G := cut (fun b => m b ∨ b = p) (upd (upd H A (SetO w A (fun j => decide (j ∈ ns)) cn)) p (.lst ((sortI ns).map V.int)))) (xs := (sortI ns).map V.int)
    rwa [List.map_map] at this
  intro g m H v d c Q hm r e k
  unfold ssU at e
  split at e
  · obtain ⟨ns, en, e⟩ := Option.bind_eq_some_iff.mp e
    split at e
    · rename_i hl
      cases e
      obtain ⟨a, rfl, h1⟩ := rb_ints r en
      exact main hm (.inl h1) hl k
    · cases e
  · obtain ⟨ns, en, e⟩ := Option.bind_eq_some_iff.mp e
    split at e
    · rename_i hl
      cases e
      obtain ⟨a, xs, rfl, h1, h2⟩ := RBo.tup r
      exact main hm (.inr (by rw [← asIs_rel h2 en]; exact h1)) hl k
    · cases e
  · cases e
variable {S : Type} {Γ : Fr S} {E : XK} {ta : TE} {A : TX S}
theorem ln_ssU {w : World} (ha : Ln Γ K E .b ta A) : Ln Γ K E .f (tCB (rSortedSet w) (tCons (tCB (rSetOfU K w) (tCons ta tNil)) tNil)) (xUn ssU A) := fun ok st QD QX Q q k kx => ln_un (r := fun v H Q => rSetOfU K w [v] H fun s H1 => rSortedSet w [s] H1 Q) ha p1_ssU ok st QD QX Q q k kx
end
end L2.DL
/-! How functions of data are reckoned: equations, loops, comprehensions -/
namespace L2.DL
open L2 L2.My NdefX PySem PySem.Spec PyProof.Rows
open PM
section
variable {m : Type → Type} [PM m] [LM m] {α β γ δ : Type}
@[simp] theorem okL (a : α) (f : α → m β) (t : Tg f) : bndL (ok a : m α) f t = f a := ok_bnd a f
@[simp] theorem erL (x : Exn) (f : α → m β) (t : Tg f) : bndL (er x : m α) f t = er x := er_bnd x f
@[simp] theorem noL (f : α → m β) (t : Tg f) : bndL (no : m α) f t = no := no_bnd f
theorem bndL_bnd (x : m α) (f : α → m β) (g : β → m γ) (t : Tg g) : bndL (bnd x f) g t = bnd x fun a => bndL (f a) g := bnd_bnd x f g
@[simp] theorem thK_nx (k : α → m (Ot β γ)) (b : α) : thK k (.nx b) = k b := rfl
@[simp] theorem thK_rt (k : α → m (Ot β γ)) (d : D) : thK k (.rt d) = ok (.rt d) := rfl
@[simp] theorem thK_bk (k : α → m (Ot β γ)) (d : γ) : thK k (.bk d) = ok (.bk d) := rfl
@[simp] theorem thK_ct (k : α → m (Ot β γ)) (d : γ) : thK k (.ct d) = ok (.ct d) := rfl
@[simp] theorem thV_ok (k : α → m (Ot β γ)) (o : Ot α γ) (t : Tg k) : thL (ok o) k t = thK k o := ok_bnd _ _
@[simp] theorem thV_no (k : α → m (Ot β γ)) (t : Tg k) : thL no k t = no := no_bnd _
@[simp] theorem thV_er (k : α → m (Ot β γ)) (x : Exn) (t : Tg k) : thL (er x) k t = er x := er_bnd _ _
@[simp] theorem retV_nx (b : β) : retV (ok (.nx b : Ot β γ) : m (Ot β γ)) = ok dN := ok_bnd _ _
@[simp] theorem retV_rt (d : D) : retV (ok (.rt d : Ot β γ) : m (Ot β γ)) = ok d := ok_bnd _ _
@[simp] theorem retV_er (x : Exn) : retV (er x : m (Ot β γ)) = er x := er_bnd _ _
@[simp] theorem retV_no : retV (no : m (Ot β γ)) = no := no_bnd _
@[simp] theorem forV_nil (body : D → β → m (Ot β β)) (b : β) (t : Tg body) : (forL body [] b t : m (Ot β γ)) = ok (.nx b) := rfl
/-- one turn -/
def turnV (body : D → β → m (Ot β β)) (r : List D) : Ot β β → m (Ot β γ)
  | .nx b' => forL body r b'
  | .ct b' => forL body r b'
  | .bk b' => ok (.nx b')
  | .rt d => ok (.rt d)
theorem forV_cons (body : D → β → m (Ot β β)) (d : D) (r : List D) (b : β) (t : Tg body) : (forL body (d :: r) b t : m (Ot β γ)) = bndL (body d b) (turnV body r) := by
  show bnd (body d b) _ = _
  refine congrArg (bnd (body d b)) (funext fun o => ?_)
  cases o <;> rfl
@[simp] theorem turnV_nx (body : D → β → m (Ot β β)) (r : List D) (b : β) : (turnV body r (.nx b) : m (Ot β γ)) = forL body r b := rfl
@[simp] theorem turnV_ct (body : D → β → m (Ot β β)) (r : List D) (b : β) : (turnV body r (.ct b) : m (Ot β γ)) = forL body r b := rfl
@[simp] theorem turnV_bk (body : D → β → m (Ot β β)) (r : List D) (b : β) : (turnV body r (.bk b) : m (Ot β γ)) = ok (.nx b) := rfl
@[simp] theorem turnV_rt (body : D → β → m (Ot β β)) (r : List D) (d : D) : (turnV body r (.rt d) : m (Ot β γ)) = ok (.rt d) := rfl
def turnW (c : β → m Bool) (body : β → m (Ot β β)) (n : Nat) : Ot β β → m (Ot β γ)
  | .nx b' => whiL c body n b'
  | .ct b' => whiL c body n b'
  | .bk b' => ok (.nx b')
  | .rt d => ok (.rt d)
@[simp] theorem turnW_nx (c : β → m Bool) (body : β → m (Ot β β)) (n : Nat) (b : β) : (turnW c body n (.nx b) : m (Ot β γ)) = whiL c body n b := rfl
@[simp] theorem turnW_ct (c : β → m Bool) (body : β → m (Ot β β)) (n : Nat) (b : β) : (turnW c body n (.ct b) : m (Ot β γ)) = whiL c body n b := rfl
@[simp] theorem turnW_bk (c : β → m Bool) (body : β → m (Ot β β)) (n : Nat) (b : β) : (turnW c body n (.bk b) : m (Ot β γ)) = ok (.nx b) := rfl
@[simp] theorem turnW_rt (c : β → m Bool) (body : β → m (Ot β β)) (n : Nat) (d : D) : (turnW c body n (.rt d) : m (Ot β γ)) = ok (.rt d) := rfl
theorem whiV_succ (c : β → m Bool) (body : β → m (Ot β β)) (n : Nat) (b : β) (t1 : Tg c) (t2 : Tg body) (t3 : Tg (n + 1)) : (whiL c body (n + 1) b t1 t2 t3 : m (Ot β γ)) = ifL (c b) (bndL (body b) (turnW c body n)) (ok (.nx b)) := by
  show bnd (c b) _ = bnd (c b) _
  refine congrArg (bnd (c b)) (funext fun z => ?_)
  cases z with
  | false => rfl
  | true => exact congrArg (bnd (body b)) (funext fun o => by cases o <;> rfl)
@[simp] theorem op1_ok (f : D → Option D) (x : D) : op1 f (ok x : m D) = lif (f x) := ok_bnd _ _
@[simp] theorem op2_ok (f : D → D → Option D) (x y : D) : op2 f (ok x : m D) (ok y) = lif (f x y) := by unfold op2; rw [ok_bnd, ok_bnd]
@[simp] theorem op3_ok (f : D → Option Int → Option Int → Option D) (x : D) (a b : Option Int) : op3 f (ok x : m D) (ok a) (ok b) = lif (f x a b) := by unfold op3; rw [ok_bnd, ok_bnd, ok_bnd]
@[simp] theorem seqV_nil : seqV ([] : List (m D)) = ok [] := rfl
@[simp] theorem seqV_cons (a : D) (r : List (m D)) : seqV (ok a :: r) = bnd (seqV r) fun xs => ok (a :: xs) := ok_bnd _ _
@[simp] theorem tst_ok (b : Bool) : tst (ok (dB b) : m D) = ok b := ok_bnd _ _
@[simp] theorem andB_ok (a : Bool) (b : m Bool) (t : Tg b) : andL (ok a) b t = if a = true then b else ok false := ok_bnd _ _
@[simp] theorem orB_ok (a : Bool) (b : m Bool) (t : Tg b) : orL (ok a) b t = if a = true then ok true else b := ok_bnd _ _
@[simp] theorem notB_ok (a : Bool) : notB (ok a : m Bool) = ok (!a) := ok_bnd _ _
@[simp] theorem andX_ok (a : Bool) (b : m D) (t : Tg b) : andXL (ok (dB a)) b t = if a = true then b else ok (dB false) := by unfold andXL andX; rw [ok_bnd]; exact ok_bnd _ _
@[simp] theorem orX_ok (a : Bool) (b : m D) (t : Tg b) : orXL (ok (dB a)) b t = if a = true then ok (dB true) else b := by unfold orXL orX; rw [ok_bnd]; exact ok_bnd _ _
@[simp] theorem notX_ok (a : Bool) : notX (ok (dB a) : m D) = ok (dB !a) := by unfold notX; rw [ok_bnd]; exact ok_bnd _ _
@[simp] theorem ifV_ok (c : Bool) (a b : m α) (t : Tg a) (t2 : Tg b) : ifL (ok c) a b t t2 = if c = true then a else b := ok_bnd _ _
@[simp] theorem intV_ok (i : Int) : intV (ok (dI i) : m D) = ok (some i) := by unfold intV; rw [ok_bnd]; exact ok_bnd _ _
@[simp] theorem itV_ok (x : D) : itV (ok x : m D) = lif (asIt x) := ok_bnd _ _
@[simp] theorem asLs_ok (xs : List D) : asLs (ok (.lst xs) : m D) = ok xs := ok_bnd _ _
@[simp] theorem asDc_ok (xs : List (Key × D)) : asDc (ok (.dct xs) : m D) = ok xs := ok_bnd _ _
theorem appV_ok {xs : List D} (d : D) (h : xs.length < sizeLine) : appV xs (ok d : m D) = ok (xs ++ [d]) := by unfold appV; rw [ok_bnd, if_pos h]
theorem extV_ok {xs ys : List D} (h : xs.length + ys.length ≤ sizeLine) : extV xs (ok (.lst ys) : m D) = ok (xs ++ ys) := by unfold extV; rw [ok_bnd]; exact if_pos h
@[simp] theorem rng1_ok {j : Int} (h : inR j = true) : rng1 (ok (dI j) : m D) = ok (rngD 0 j) := by unfold rng1; rw [ok_bnd]; exact if_pos h
theorem rng2_ok {i j : Int} (h : inR i = true) (h2 : inR j = true) : rng2 (ok (dI i) : m D) (ok (dI j)) = ok (rngD i j) := by unfold rng2; rw [ok_bnd, ok_bnd]; exact if_pos ⟨h, h2⟩
@[simp] theorem pp2_ok (x : D) (ys : List D) (k : D → List D → m α) (t : Tg k) : pp2L (ok (x, ys)) k t = k x ys := ok_bnd _ _
@[simp] theorem un2_ok (a b : D) (k : D → D → m α) (t : Tg k) : un2L (.tup [a, b]) k t = k a b := rfl
@[simp] theorem un3_ok (a b c : D) (k : D → D → D → m α) (t : Tg k) : un3L (.tup [a, b, c]) k t = k a b c := rfl
@[simp] theorem un4_ok (a b c d : D) (k : D → D → D → D → m α) (t : Tg k) : un4L (.tup [a, b, c, d]) k t = k a b c d := rfl
@[simp] theorem un5_ok (a b c d e : D) (k : D → D → D → D → D → m α) (t : Tg k) : un5L (.tup [a, b, c, d, e]) k t = k a b c d e := rfl
@[simp] theorem stp_ok (c : Bool) (a : m D) (t : Tg a) : stpL (ok c) a t = if c = true then bnd a fun x => ok (some x) else ok none := ok_bnd _ _
@[simp] theorem asIt_l (xs : List D) : asIt (.lst xs) = some xs := rfl
@[simp] theorem asIt_t (xs : List D) : asIt (.tup xs) = some xs := rfl
@[simp] theorem asIt_s (z : Str) : asIt (dS z) = some (z.cps.toList.map fun c => dS ⟨#[c]⟩) := rfl
@[simp] theorem prm3 (a b c : D) : prm [2, 1, 0] [a, b, c] = [c, b, a] := rfl
end
/-! ### places -/
theorem atI_nat {α : Type} {xs : List α} {k : Int} {x : α} (hk : 0 ≤ k) (h : xs[k.toNat]? = some x) : atI xs k = some x := by
  unfold atI ixN
  have l : k.toNat < xs.length := (List.getElem?_eq_some_iff.mp h).1
  rw [if_pos hk, if_pos (by omega)]
  exact h
theorem atI_neg {α : Type} {xs : List α} {k : Int} {x : α} (hk : k < 0) (hl : -(xs.length : Int) ≤ k) (h : xs[(k + xs.length).toNat]? = some x) : atI xs k = some x := by
  unfold atI ixN
  rw [if_neg (by omega), if_pos hl]
  exact h
theorem ixD_t {xs : List D} {k : Int} {x : D} (hk : 0 ≤ k) (h : xs[k.toNat]? = some x) : ixD (.tup xs) (dI k) = some x := atI_nat hk h
theorem ixD_l {xs : List D} {k : Int} {x : D} (hk : 0 ≤ k) (h : xs[k.toNat]? = some x) : ixD (.lst xs) (dI k) = some x := atI_nat hk h
@[simp] theorem ixD_t0 {x : D} {r : List D} : ixD (.tup (x :: r)) (dI 0) = some x := ixD_t (by decide) rfl
@[simp] theorem ixD_t1 {x y : D} {r : List D} : ixD (.tup (x :: y :: r)) (dI 1) = some y := ixD_t (by decide) rfl
@[simp] theorem ixD_t2 {x y z : D} {r : List D} : ixD (.tup (x :: y :: z :: r)) (dI 2) = some z := ixD_t (by decide) rfl
@[simp] theorem ixD_t3 {x y z u : D} {r : List D} : ixD (.tup (x :: y :: z :: u :: r)) (dI 3) = some u := ixD_t (by decide) rfl
@[simp] theorem ixD_l0 {x : D} {r : List D} : ixD (.lst (x :: r)) (dI 0) = some x := ixD_l (by decide) rfl
@[simp] theorem ixD_l1 {x y : D} {r : List D} : ixD (.lst (x :: y :: r)) (dI 1) = some y := ixD_l (by decide) rfl
@[simp] theorem ixD_l2 {x y z : D} {r : List D} : ixD (.lst (x :: y :: z :: r)) (dI 2) = some z := ixD_l (by decide) rfl
@[simp] theorem isD_n {b : Bool} : isD b dN dN = some (dB b) := by cases b <;> rfl
@[simp] theorem isD_b {b x : Bool} : isD b (dB x) dN = some (dB !b) := by cases b <;> rfl
@[simp] theorem isD_i {b : Bool} {x : Int} : isD b (dI x) dN = some (dB !b) := by cases b <;> rfl
@[simp] theorem isD_s {b : Bool} {x : Str} : isD b (dS x) dN = some (dB !b) := by cases b <;> rfl
@[simp] theorem isD_t {b : Bool} {x : List D} : isD b (.tup x) dN = some (dB !b) := by cases b <;> rfl
@[simp] theorem isD_l {b : Bool} {x : List D} : isD b (.lst x) dN = some (dB !b) := by cases b <;> rfl
@[simp] theorem isD_d {b : Bool} {x : List (Key × D)} : isD b (.dct x) dN = some (dB !b) := by cases b <;> rfl
@[simp] theorem isD_o {b : Bool} {C : Addr} {x : List (Str × D)} : isD b (.obj C x) dN = some (dB !b) := by cases b <;> rfl
@[simp] theorem isD_x {b : Bool} {C : Addr} {x : List (Str × D)} : isD b (.exc C x) dN = some (dB !b) := by cases b <;> rfl
@[simp] theorem isD_bb {b x y : Bool} : isD b (dB x) (dB y) = some (dB (b == decide (x = y))) := rfl
@[simp] theorem addD_i {i j : Int} : addD (dI i) (dI j) = some (dI (i + j)) := rfl
@[simp] theorem subV_i {i j : Int} : subV (dI i) (dI j) = some (dI (i - j)) := rfl
theorem addD_t {xs ys : List D} (h : xs.length + ys.length ≤ 1000) : addD (.tup xs) (.tup ys) = some (.tup (xs ++ ys)) := if_pos (le_line h)
theorem addD_l {xs ys : List D} (h : xs.length + ys.length ≤ 1000) : addD (.lst xs) (.lst ys) = some (.lst (xs ++ ys)) := if_pos (le_line h)
@[simp] theorem lenD_l' {xs : List D} : lenD (.lst xs) = some (dI xs.length) := rfl
@[simp] theorem lenD_t' {xs : List D} : lenD (.tup xs) = some (dI xs.length) := rfl
@[simp] theorem cmpD_i' {p : Int → Int → Bool} {q : List Nat → List Nat → Bool} {i j : Int} : cmpD p q (dI i) (dI j) = some (dB (p i j)) := rfl
@[simp] theorem eqD_s' {b : Bool} {x y : Str} : eqD b (dS x) (dS y) = some (dB (b == (x == y))) := eqD_s
@[simp] theorem eqD_i' {b : Bool} {x y : Int} : eqD b (dI x) (dI y) = some (dB (b == (x == y))) := eqD_i
@[simp] theorem eqD_b' {b x y : Bool} : eqD b (dB x) (dB y) = some (dB (b == (x == y))) := eqD_b
@[simp] theorem eqD_n' {b : Bool} : eqD b dN dN = some (dB b) := eqD_n
@[simp] theorem eqD_in' {b : Bool} {x : Int} : eqD b (dI x) dN = some (dB !b) := eqD_in
@[simp] theorem eqD_ni' {b : Bool} {x : Int} : eqD b dN (dI x) = some (dB !b) := eqD_ni
@[simp] theorem eqD_sn' {b : Bool} {x : Str} : eqD b (dS x) dN = some (dB !b) := eqD_sn
@[simp] theorem eqD_ns' {b : Bool} {x : Str} : eqD b dN (dS x) = some (dB !b) := eqD_ns
theorem py_parts : ∀ {xs : List D} {ps : List PyData}, toPyAll xs = some ps → ∀ x ∈ xs, ∃ p, toPy x = some p
  | [], _, _ => fun _ z => nomatch z
  | x :: r, _, h => by
    rw [toPyAll] at h
    split at h
    · rename_i a b e1 e2
      intro y hy
      rcases List.mem_cons.mp hy with rfl | hy
      · exact ⟨_, e1⟩
      · exact py_parts e2 y hy
    · cases h
section
variable {m : Type → Type} [PM m] [LM m] {α β γ δ : Type}
/-- comprehensions: what is gone through is told by e, what is kept by g -/
theorem lcG_map {ι : Type} (e : ι → D) (g : ι → Option D) (st : D → m (Option D)) : ∀ (xs : List ι), (∀ x ∈ xs, st (e x) = ok (g x)) → lcG st (xs.map e) = ok (xs.filterMap g)
  | [], _ => rfl
  | x :: r, h => by
    rw [List.map_cons, lcG, h x List.mem_cons_self, nox_okk, ok_bnd, lcG_map e g st r fun y hy => h y (List.mem_cons_of_mem _ hy), ok_bnd]
    cases q : g x with
    | none => rw [List.filterMap_cons_none q]
    | some d => rw [List.filterMap_cons_some q]
theorem lcV_map {ι : Type} (e : ι → D) (g : ι → Option D) {st : D → m (Option D)} {xs : List ι} (hl : xs.length ≤ sizeLine) (h : ∀ x ∈ xs, st (e x) = ok (g x)) : lcL (ok (xs.map e)) st = ok (.lst (xs.filterMap g)) := by
  unfold lcL lcV
  rw [ok_bnd, if_pos (by rw [List.length_map]; exact hl), lcG_map e g st xs h, ok_bnd]
theorem filterMap_if {ι κ : Type} (p : ι → Bool) (f : ι → κ) : ∀ l : List ι, (l.filterMap fun x => if p x = true then some (f x) else none) = (l.filter p).map f
  | [] => rfl
  | x :: r => by
    cases q : p x with
    | true => rw [List.filterMap_cons_some (b := f x) (by rw [q]; rfl), List.filter_cons_of_pos (by rw [q]), List.map_cons, filterMap_if p f r]
    | false => rw [List.filterMap_cons_none (by rw [q]; rfl), List.filter_cons_of_neg (by rw [q]; decide), filterMap_if p f r]
theorem filterMap_all {ι κ : Type} (f : ι → κ) (l : List ι) : (l.filterMap fun x => some (f x)) = l.map f := by
  rw [← List.filterMap_eq_map]
  rfl
theorem lcV_if {ι : Type} (e : ι → D) (p : ι → Bool) (f : ι → D) {st : D → m (Option D)} {xs : List ι} (hl : xs.length ≤ sizeLine) (h : ∀ x ∈ xs, st (e x) = ok (if p x = true then some (f x) else none)) : lcL (ok (xs.map e)) st = ok (.lst ((xs.filter p).map f)) := by
  rw [lcV_map e _ hl h, filterMap_if]
theorem lcV_all {ι : Type} (e : ι → D) (f : ι → D) {st : D → m (Option D)} {xs : List ι} (hl : xs.length ≤ sizeLine) (h : ∀ x ∈ xs, st (e x) = ok (some (f x))) : lcL (ok (xs.map e)) st = ok (.lst (xs.map f)) := by
  rw [lcV_map e _ hl h, filterMap_all]
theorem ite_ok {c : Bool} {a b : α} : (if c = true then (ok a : m α) else ok b) = ok (if c = true then a else b) := by split <;> rfl
theorem lcV_stp {ι : Type} (e : ι → D) (p : ι → Bool) (f : ι → D) {c : D → m Bool} {a : D → m D} {xs : List ι} (hl : xs.length ≤ sizeLine) (h : ∀ x ∈ xs, c (e x) = ok (p x)) (h2 : ∀ x ∈ xs, p x = true → a (e x) = ok (f x)) : lcL (ok (xs.map e)) (fun d => stpL (c d) (a d)) = ok (.lst ((xs.filter p).map f)) :=
  lcV_if e p f hl fun x hx => by
    rw [h x hx, stp_ok]
    cases q : p x with
    | true => rw [if_pos rfl, if_pos rfl, h2 x hx q, ok_bnd]
    | false => rw [if_neg (by decide), if_neg (by decide)]
/-- any sort of comprehension -/
theorem coG_fold {ι Acc : Type} (e : ι → D) (f : Acc → ι → Acc) (I : List ι → Acc → Prop) (st : D → Acc → m Acc) (h : ∀ x r acc, I (x :: r) acc → st (e x) acc = ok (f acc x) ∧ I r (f acc x)) : ∀ (xs : List ι) (acc : Acc), I xs acc → coG st (xs.map e) acc = ok (xs.foldl f acc)
  | [], _, _ => rfl
  | x :: r, acc, i => by
    obtain ⟨h1, h2⟩ := h x r acc i
    rw [List.map_cons, coG, h1, nox_okk, ok_bnd, List.foldl_cons]
    exact coG_fold e f I st h r _ h2
/-- loops that run to their end -/
theorem forV_fold {ι : Type} (e : ι → D) (f : β → ι → β) (I : List ι → β → Prop) (body : D → β → m (Ot β β)) (h : ∀ x r b, I (x :: r) b → body (e x) b = ok (.nx (f b x)) ∧ I r (f b x)) : ∀ (xs : List ι) (b : β), I xs b → (forL body (xs.map e) b : m (Ot β γ)) = ok (.nx (xs.foldl f b))
  | [], _, _ => rfl
  | x :: r, b, i => by
    obtain ⟨h1, h2⟩ := h x r b i
    rw [List.map_cons, forV_cons, h1, okL, turnV_nx, List.foldl_cons]
    exact forV_fold e f I body h r _ h2
end
/-! ### slices -/
theorem cut_hi {β : Type} {xs : List β} {i : Int} (h : 0 ≤ i) : cutL xs none (some i) = xs.take i.toNat := by
  obtain ⟨k, rfl⟩ : ∃ k : Nat, i = k := ⟨i.toNat, by omega⟩
  unfold cutL
  rw [HT.sIx_none, HT.sIx_nat, List.drop_zero, Nat.sub_zero, Int.toNat_natCast, ← List.take_eq_take_min]
theorem cut_lo {β : Type} {xs : List β} {i : Int} (h : 0 ≤ i) : cutL xs (some i) none = xs.drop i.toNat := by
  obtain ⟨k, rfl⟩ : ∃ k : Nat, i = k := ⟨i.toNat, by omega⟩
  unfold cutL
  rw [HT.sIx_none, HT.sIx_nat, Int.toNat_natCast]
  by_cases hk : k ≤ xs.length
  · rw [Nat.min_eq_left hk, List.take_of_length_le (by rw [List.length_drop]; omega)]
  · rw [Nat.min_eq_right (by omega), Nat.sub_self, List.take_zero, List.drop_of_length_le (by omega)]
@[simp] theorem slD_th {xs : List D} {i : Int} (h : 0 ≤ i) : slD (.tup xs) none (some i) = some (.tup (xs.take i.toNat)) := congrArg (fun x => some (D.tup x)) (cut_hi h)
@[simp] theorem slD_tl {xs : List D} {i : Int} (h : 0 ≤ i) : slD (.tup xs) (some i) none = some (.tup (xs.drop i.toNat)) := congrArg (fun x => some (D.tup x)) (cut_lo h)
/-! ### draws: what holds on all ways -/
section
variable {α β γ : Type} {P P' : α → Prop}
theorem All_ok {c : Nat} {a : α} (h : P a) : Tm.All c P (ok a : Tm α) := h
theorem All_bndL {Q : β → Prop} {x : Tm α} {f : α → Tm β} {t : Tg f} (c1 c2 : Nat) {c : Nat} (P : α → Prop) (h : Tm.All c1 P x) (k : ∀ a, P a → Tm.All c2 Q (f a)) (hc : c1 + c2 ≤ c) : Tm.All c Q (bndL x f t) := Tm.All.imp hc (fun _ z => z) (Tm.All.bnd k h)
theorem All_bnd {Q : β → Prop} {x : Tm α} {f : α → Tm β} (c1 c2 : Nat) {c : Nat} (P : α → Prop) (h : Tm.All c1 P x) (k : ∀ a, P a → Tm.All c2 Q (f a)) (hc : c1 + c2 ≤ c) : Tm.All c Q (bnd x f) := Tm.All.imp hc (fun _ z => z) (Tm.All.bnd k h)
theorem All_imp {x : Tm α} {c c' : Nat} (h : Tm.All c P x) (hc : c ≤ c') (k : ∀ a, P a → P' a) : Tm.All c' P' x := Tm.All.imp hc k h
theorem All_drw {n : Int} (h : 0 < n) (h2 : n.natAbs < 2 ^ 200) : Tm.All 1 (fun d => ∃ i : Int, 0 ≤ i ∧ i < n ∧ d = dI i) (drw (ok (dI n))) := ⟨h, h2, 0, rfl, fun d h1 h2 => ⟨d, h1, h2, rfl⟩⟩
/-- a loop that draws: at most c draws a turn -/
theorem All_for {ι : Type} (e : ι → D) (c : Nat) (I : List ι → β → Prop) (body : D → β → Tm (Ot β β)) (h : ∀ x r b, I (x :: r) b → Tm.All c (fun o => ∃ b', o = .nx b' ∧ I r b') (body (e x) b)) : ∀ (xs : List ι) (b : β), I xs b → Tm.All (c * xs.length) (fun o => ∃ b', o = (.nx b' : Ot β γ) ∧ I [] b') (forL body (xs.map e) b)
  | [], b, i => ⟨b, rfl, i⟩
  | x :: r, b, i => by
    rw [List.map_cons, forV_cons]
    refine All_bndL c (c * r.length) _ (h x r b i) ?_ (by rw [List.length_cons, Nat.mul_add]; omega)
    rintro o ⟨b', rfl, i'⟩
    exact All_for e c I body h r b' i'
theorem All_wp {P : D → Prop} {x : Tm D} {c : Nat} (h : Tm.All c P x) (hc : c ≤ 100000) (k : ∀ d, P d → d = dB true) : Tm.wp x 0 (fun d _ => d = dB true) fun _ _ => False := Tm.All.wp h (by omega) fun d _ p _ _ => k d p
end
end L2.DL
/-! What can be shown: repr of data has bounds -/
namespace L2.DL
open L2 L2.My NdefX PySem PySem.Spec PyProof.Rows
open PM
/-- d can be shown: n bounds its text, h its depth -/
def Sh (n h : Nat) (d : D) : Prop := ∃ p, toQ d = some p ∧ p.showable = true ∧ p.depth ≤ h ∧ p.shown.length ≤ n
def Shs (n h : Nat) (ds : List D) : Prop := ∃ ps, toQs ds = some ps ∧ PyData.showableAll ps = true ∧ PyData.depthAll ps ≤ h ∧ piled (PyData.shownAll ps) ≤ n
theorem Sh.mono {n n' h h' : Nat} {d : D} (a : n ≤ n') (b : h ≤ h') (s : Sh n h d) : Sh n' h' d := by
  obtain ⟨p, e1, e2, e3, e4⟩ := s
  exact ⟨p, e1, e2, by omega, by omega⟩
theorem Shs.mono {n n' h h' : Nat} {d : List D} (a : n ≤ n') (b : h ≤ h') (s : Shs n h d) : Shs n' h' d := by
  obtain ⟨p, e1, e2, e3, e4⟩ := s
  exact ⟨p, e1, e2, by omega, by omega⟩
theorem shs_nil {n h : Nat} : Shs n h [] := ⟨[], rfl, rfl, Nat.zero_le _, Nat.zero_le _⟩
theorem shs_cons {n n' h : Nat} {d : D} {ds : List D} (a : Sh n h d) (b : Shs n' h ds) : Shs (n + 2 + n') h (d :: ds) := by
  obtain ⟨p, e1, e2, e3, e4⟩ := a
  obtain ⟨ps, f1, f2, f3, f4⟩ := b
  refine ⟨p :: ps, by rw [toQs, e1, f1]; rfl, ?_, ?_, ?_⟩
  · rw [PyData.showableAll, e2, f2]; rfl
  · rw [PyData.depthAll]; omega
  · rw [PyData.shownAll, piled_cons]; omega
theorem shs_app {n' h : Nat} {es : List D} (b : Shs n' h es) : ∀ {n : Nat} {ds : List D}, Shs n h ds → Shs (n + n') h (ds ++ es)
  | n, [], _ => b.mono (by omega) (Nat.le_refl _)
  | n, d :: ds, a => by
    obtain ⟨ps, f1, f2, f3, f4⟩ := a
    rw [toQs] at f1
    simp only [Option.bind_eq_some_iff, Option.map_eq_some_iff] at f1
    obtain ⟨p, e1, qs, e2, rfl⟩ := f1
    rw [PyData.showableAll, Bool.and_eq_true] at f2
    rw [PyData.depthAll] at f3
    rw [PyData.shownAll, piled_cons] at f4
    have ih := shs_app (h := h) b (n := n - (p.shown.length + 2)) (ds := ds) ⟨qs, e2, f2.2, by omega, by omega⟩
    exact (shs_cons (h := h) ⟨p, e1, f2.1, by omega, Nat.le_refl _⟩ ih).mono (by omega) (Nat.le_refl _)
theorem shs_all {n h : Nat} : ∀ {ds : List D}, (∀ d ∈ ds, Sh n h d) → Shs ((n + 2) * ds.length) h ds
  | [], _ => shs_nil
  | d :: ds, a => by
    have := shs_cons (a d List.mem_cons_self) (shs_all fun x hx => a x (List.mem_cons_of_mem _ hx))
    exact this.mono (by rw [List.length_cons, Nat.mul_add]; omega) (Nat.le_refl _)
/-- and back: parts of what can be shown -/
theorem Shs.head {n h : Nat} {d : D} {ds : List D} (s : Shs n h (d :: ds)) : ∃ n1 n2, n1 + 2 + n2 ≤ n ∧ Sh n1 h d ∧ Shs n2 h ds := by
  obtain ⟨ps, f1, f2, f3, f4⟩ := s
  rw [toQs] at f1
  simp only [Option.bind_eq_some_iff, Option.map_eq_some_iff] at f1
  obtain ⟨p, e1, qs, e2, rfl⟩ := f1
  rw [PyData.showableAll, Bool.and_eq_true] at f2
  rw [PyData.depthAll] at f3
  rw [PyData.shownAll, piled_cons] at f4
  exact ⟨p.shown.length, n - (p.shown.length + 2), by omega, ⟨p, e1, f2.1, by omega, Nat.le_refl _⟩, ⟨qs, e2, f2.2, by omega, by omega⟩⟩
theorem join_le : ∀ ts : List Str, (Str.join ", " ts).length ≤ piled ts
  | [] => Nat.zero_le _
  | t :: ts => by have := join_length_add (t :: ts) (by simp); omega
theorem sh_tup {n h : Nat} {ds : List D} (a : Shs n h ds) : Sh (n + 4) (h + 1) (.tup ds) := by
  obtain ⟨ps, f1, f2, f3, f4⟩ := a
  refine ⟨.tuple ps, by rw [toQ, f1]; rfl, by rw [PyData.showable]; exact f2, by rw [PyData.depth]; omega, ?_⟩
  rw [PyData.shown, tupleText, strLen_append, strLen_append]
  have := join_le (PyData.shownAll ps)
  have l1 : ("(" : Str).length = 1 := rfl
  have l2 : ((if (PyData.shownAll ps).length == 1 then ",)" else ")" : String) : Str).length ≤ 2 := by split <;> decide
  omega
theorem sh_lst {n h : Nat} {ds : List D} (a : Shs n h ds) : Sh (n + 4) (h + 1) (.lst ds) := by
  obtain ⟨ps, f1, f2, f3, f4⟩ := a
  refine ⟨.list ps, by rw [toQ, f1]; rfl, by rw [PyData.showable]; exact f2, by rw [PyData.depth]; omega, ?_⟩
  rw [PyData.shown, listText_eq_join, strLen_append, strLen_append]
  have := join_le (PyData.shownAll ps)
  have l1 : ("[" : Str).length = 1 := rfl
  have l2 : ("]" : Str).length = 1 := rfl
  omega
theorem Sh.tup {n h : Nat} {ds : List D} (a : Sh n h (.tup ds)) : ∃ h', h' + 1 = h ∧ Shs n h' ds := by
  obtain ⟨p, e1, e2, e3, e4⟩ := a
  rw [toQ] at e1
  obtain ⟨ps, e5, rfl⟩ := Option.map_eq_some_iff.mp e1
  rw [PyData.showable] at e2
  rw [PyData.depth] at e3
  rw [PyData.shown, tupleText, strLen_append, strLen_append] at e4
  refine ⟨h - 1, by omega, ps, e5, e2, by omega, ?_⟩
  have l1 : ("(" : Str).length = 1 := rfl
  have l2 : 1 ≤ ((if (PyData.shownAll ps).length == 1 then ",)" else ")" : String) : Str).length := by split <;> decide
  cases q : PyData.shownAll ps with
  | nil => exact Nat.zero_le _
  | cons t ts =>
    have := join_length_add (t :: ts) (by simp)
    rw [q] at e4 l2
    omega
theorem Sh.lst {n h : Nat} {ds : List D} (a : Sh n h (.lst ds)) : ∃ h', h' + 1 = h ∧ Shs n h' ds := by
  obtain ⟨p, e1, e2, e3, e4⟩ := a
  rw [toQ] at e1
  obtain ⟨ps, e5, rfl⟩ := Option.map_eq_some_iff.mp e1
  rw [PyData.showable] at e2
  rw [PyData.depth] at e3
  rw [PyData.shown, listText_eq_join, strLen_append, strLen_append] at e4
  refine ⟨h - 1, by omega, ps, e5, e2, by omega, ?_⟩
  have l1 : ("[" : Str).length = 1 := rfl
  have l2 : ("]" : Str).length = 1 := rfl
  cases q : PyData.shownAll ps with
  | nil => exact Nat.zero_le _
  | cons t ts =>
    have := join_length_add (t :: ts) (by simp)
    rw [q] at e4
    omega
theorem sh_emp {n h : Nat} (hn : 2 ≤ n) (hh : 1 ≤ h) : Sh n h (.dct []) := ⟨.dict [], rfl, rfl, by simpa [PyData.depth, PyData.depthKv] using hh, by simp [PyData.shown, PyData.shownKv]; exact hn⟩
theorem sh_non {n h : Nat} (hn : 4 ≤ n) : Sh n h dN := ⟨.none, rfl, rfl, Nat.zero_le _, hn⟩
theorem sh_bl {n h : Nat} {b : Bool} (hn : 5 ≤ n) : Sh n h (dB b) := ⟨.bool b, rfl, rfl, Nat.zero_le _, by cases b <;> (refine Nat.le_trans ?_ hn; decide)⟩
theorem sh_str {n h : Nat} {x : Str} (hn : (reprText x).length ≤ n) : Sh n h (dS x) := ⟨.str x, rfl, rfl, Nat.zero_le _, hn⟩
theorem repr_Sh {n h : Nat} {d : D} (s : Sh n h d) (hn : n ≤ sizeLine) (hh : h ≤ 60) : ∃ z, reprQ d = some (dS z) := by
  obtain ⟨p, e1, e2, e3, e4⟩ := s
  unfold reprQ reprX
  split
  · simp [toQ] at e1
  · rw [e1]
    exact ⟨p.shown, if_pos ⟨e2, by omega, by omega⟩⟩
def smlI (i : Int) : Bool := decide (PyData.showable (.int i) = true) && decide (((PyData.int i).shown).length ≤ 5)
theorem smlI_all : ∀ n : Fin 201, smlI ((n.val : Int) - 100) = true := by decide +kernel
theorem sh_int {n h : Nat} {i : Int} (h1 : -100 ≤ i) (h2 : i ≤ 100) (hn : 5 ≤ n) : Sh n h (dI i) := by
  have := smlI_all ⟨(i + 100).toNat, by omega⟩
  have e : (((i + 100).toNat : Nat) : Int) - 100 = i := by omega
  simp only [e, smlI, Bool.and_eq_true, decide_eq_true_eq] at this
  exact ⟨.int i, rfl, this.1, Nat.zero_le _, by omega⟩
end L2.DL
/-! What holds on all ways of a draw -/
namespace L2.DL
open L2 L2.My NdefX PySem PySem.Spec PyProof.Rows
open PM
section
variable {α β γ : Type} {c1 c2 c : Nat}
theorem All_le {P : α → Prop} {x : Tm α} (h : Tm.All c1 P x) (hc : c1 ≤ c) : Tm.All c P x := Tm.All.imp hc (fun _ z => z) h
theorem All_to {P Q : α → Prop} {x : Tm α} (h : Tm.All c P x) (k : ∀ a, P a → Q a) : Tm.All c Q x := Tm.All.imp (Nat.le_refl _) k h
theorem All_eq {P : α → Prop} {x y : Tm α} (e : x = y) (h : Tm.All c P y) : Tm.All c P x := e ▸ h
theorem All_drw' {n : Int} {x : Tm D} (e : x = ok (dI n)) (h : 0 < n) (h2 : n.natAbs < 2 ^ 200) : Tm.All 1 (fun d => ∃ i : Int, 0 ≤ i ∧ i < n ∧ d = dI i) (drw x) := e ▸ All_drw h h2
/-- how a block may end, for what is returned -/
def oRt (P : D → Prop) : Ot β γ → Prop
  | .nx _ => P dN
  | .rt d => P d
  | _ => False
theorem All_retV {P : D → Prop} {x : Tm (Ot β γ)} (h : Tm.All c (oRt P) x) : Tm.All c P (retV x) := by
  refine All_bnd c 0 _ h ?_ (Nat.le_refl _)
  rintro o p
  cases o with
  | nx b => exact p
  | rt d => exact p
  | bk b => exact p.elim
  | ct b => exact p.elim
theorem All_thL {I : α → Prop} {Q : Ot β γ → Prop} {x : Tm (Ot α γ)} {k : α → Tm (Ot β γ)} {t : Tg k} (c1 c2 : Nat) (h : Tm.All c1 (fun o => ∃ b, o = .nx b ∧ I b) x) (hk : ∀ b, I b → Tm.All c2 Q (k b)) (hc : c1 + c2 ≤ c) : Tm.All c Q (thL x k t) := by
  refine All_bnd c1 c2 _ h ?_ hc
  rintro o ⟨b, rfl, i⟩
  exact hk b i
/-- a loop that may return -/
theorem All_thR {I : α → Prop} {Q : Ot β γ → Prop} {x : Tm (Ot α γ)} {k : α → Tm (Ot β γ)} {t : Tg k} (c1 c2 : Nat) (h : Tm.All c1 (fun o => (∃ b, o = .nx b ∧ I b) ∨ ∃ d, o = .rt d ∧ Q (.rt d)) x) (hk : ∀ b, I b → Tm.All c2 Q (k b)) (hc : c1 + c2 ≤ c) : Tm.All c Q (thL x k t) := by
  refine All_bnd c1 c2 _ h ?_ hc
  rintro o (⟨b, rfl, i⟩ | ⟨d, rfl, i⟩)
  · exact hk b i
  · exact All_ok i
theorem All_ifL {P : Bool → Prop} {Q : α → Prop} {u : Tm Bool} {a b : Tm α} {t1 : Tg a} {t2 : Tg b} (c1 c2 : Nat) (h : Tm.All c1 P u) (ht : P true → Tm.All c2 Q a) (hf : P false → Tm.All c2 Q b) (hc : c1 + c2 ≤ c) : Tm.All c Q (ifL u a b t1 t2) := by
  refine All_bnd c1 c2 _ h ?_ hc
  intro z p
  cases z with
  | true => exact ht p
  | false => exact hf p
theorem All_pp2 {P : D → List D → Prop} {Q : α → Prop} {x : Tm (D × List D)} {k : D → List D → Tm α} {t : Tg k} (c1 c2 : Nat) (h : Tm.All c1 (fun z => P z.1 z.2) x) (hk : ∀ d ys, P d ys → Tm.All c2 Q (k d ys)) (hc : c1 + c2 ≤ c) : Tm.All c Q (pp2L x k t) :=
  All_bnd c1 c2 _ h (fun z p => hk z.1 z.2 p) hc
theorem All_tst {P : D → Prop} {Q : Bool → Prop} {x : Tm D} (h : Tm.All c P x) (k : ∀ d, P d → ∃ b, asB d = some b ∧ Q b) : Tm.All c Q (tst x) := by
  refine All_bnd c 0 _ h ?_ (Nat.le_refl _)
  intro d p
  obtain ⟨b, e, q⟩ := k d p
  rw [e]
  exact q
theorem All_op1 {P Q : D → Prop} {f : D → Option D} {x : Tm D} (h : Tm.All c P x) (k : ∀ d, P d → ∃ b, f d = some b ∧ Q b) : Tm.All c Q (op1 f x) := by
  refine All_bnd c 0 _ h ?_ (Nat.le_refl _)
  intro d p
  obtain ⟨b, e, q⟩ := k d p
  rw [e]
  exact q
theorem All_op2 {P1 P2 Q : D → Prop} {f : D → D → Option D} {x y : Tm D} (c1 c2 : Nat) (h : Tm.All c1 P1 x) (h2 : Tm.All c2 P2 y) (k : ∀ d e, P1 d → P2 e → ∃ b, f d e = some b ∧ Q b) (hc : c1 + c2 ≤ c) : Tm.All c Q (op2 f x y) := by
  refine All_bnd c1 c2 _ h ?_ hc
  intro d p
  refine All_bnd c2 0 _ h2 ?_ (Nat.le_refl _)
  intro e q
  obtain ⟨b, eq, q⟩ := k d e p q
  rw [eq]
  exact q
/-- only the right, only the left operand is drawn -/
theorem All_op2r {P2 Q : D → Prop} {f : D → D → Option D} {x : D} {y : Tm D} (h2 : Tm.All c P2 y) (k : ∀ e, P2 e → ∃ b, f x e = some b ∧ Q b) : Tm.All c Q (op2 f (ok x) y) := All_op2 (P1 := fun d => d = x) 0 c rfl h2 (fun d e a b => a ▸ k e b) (by omega)
theorem All_op2l {P1 Q : D → Prop} {f : D → D → Option D} {x : Tm D} {y : D} (h : Tm.All c P1 x) (k : ∀ d, P1 d → ∃ b, f d y = some b ∧ Q b) : Tm.All c Q (op2 f x (ok y)) := All_op2 (P2 := fun d => d = y) c 0 h rfl (fun d e a b => b ▸ k d a) (by omega)
theorem All_rng1 {P : D → Prop} {Q : List D → Prop} {x : Tm D} (h : Tm.All c P x) (k : ∀ d, P d → ∃ j, d = dI j ∧ inR j = true ∧ Q (rngD 0 j)) : Tm.All c Q (rng1 x) := by
  refine All_bnd c 0 _ h ?_ (Nat.le_refl _)
  intro d p
  obtain ⟨j, rfl, e, q⟩ := k d p
  show Tm.All 0 Q (if inR j = true then ok (rngD 0 j) else no)
  rw [if_pos e]
  exact q
theorem All_andL {P : Bool → Prop} {Q : Bool → Prop} {a b : Tm Bool} {t : Tg b} (c1 c2 : Nat) (h : Tm.All c1 P a) (ht : P true → Tm.All c2 Q b) (hf : P false → Q false) (hc : c1 + c2 ≤ c) : Tm.All c Q (andL a b t) := by
  refine All_bnd c1 c2 _ h ?_ hc
  intro z p
  cases z with
  | true => exact ht p
  | false => exact hf p
theorem All_orL {P : Bool → Prop} {Q : Bool → Prop} {a b : Tm Bool} {t : Tg b} (c1 c2 : Nat) (h : Tm.All c1 P a) (ht : P true → Q true) (hf : P false → Tm.All c2 Q b) (hc : c1 + c2 ≤ c) : Tm.All c Q (orL a b t) := by
  refine All_bnd c1 c2 _ h ?_ hc
  intro z p
  cases z with
  | true => exact ht p
  | false => exact hf p
theorem All_appV {P : D → Prop} {Q : List D → Prop} {xs : List D} {x : Tm D} (h : Tm.All c P x) (hl : xs.length < sizeLine) (k : ∀ d, P d → Q (xs ++ [d])) : Tm.All c Q (appV xs x) := by
  refine All_bnd c 0 _ h ?_ (Nat.le_refl _)
  intro d p
  rw [if_pos hl]
  exact k d p
theorem All_popA {Q : D × List D → Prop} {xs : List D} {x : Tm D} (h : Tm.All c (fun d => ∃ i : Int, 0 ≤ i ∧ i < xs.length ∧ d = dI i) x) (hl : xs.length ≤ 1000) (k : ∀ (i : Nat) (d : D), xs[i]? = some d → Q (d, xs.eraseIdx i)) : Tm.All c Q (popAV xs x) := by
  refine All_bnd c 0 _ h ?_ (Nat.le_refl _)
  rintro d ⟨i, h1, h2, rfl⟩
  show Tm.All 0 Q (if 0 ≤ i ∧ i < 2 ^ 63 then (match xs[i.toNat]? with | some d => ok (d, xs.eraseIdx i.toNat) | none => no) else no)
  rw [if_pos ⟨h1, by omega⟩]
  have lt : i.toNat < xs.length := by omega
  rw [List.getElem?_eq_getElem lt]
  exact k i.toNat _ (List.getElem?_eq_getElem lt)
/-- calls -/
theorem All_penV {P : List D → Prop} {Q : D → Prop} {g : List D → Tm D} {l : List (Tm D)} (c1 c2 : Nat) (h : Tm.All c1 P (seqV l)) (k : ∀ ds, P ds → Tm.All c2 Q (g ds)) (hc : c1 + c2 ≤ c) : Tm.All c Q (penV g l) := All_bnd c1 c2 P h k hc
@[simp] theorem penV0 (f : Tm D) : penV (ap0 f) [] = f := by cases f <;> rfl
@[simp] theorem penV1 (f : D → Tm D) (a : D) : penV (ap1 f) [ok a] = f a := rfl
@[simp] theorem penV2 (f : D → D → Tm D) (a b : D) : penV (ap2 f) [ok a, ok b] = f a b := rfl
@[simp] theorem penV3 (f : D → D → D → Tm D) (a b c : D) : penV (ap3 f) [ok a, ok b, ok c] = f a b c := rfl
@[simp] theorem penV4 (f : D → D → D → D → Tm D) (a b c d : D) : penV (ap4 f) [ok a, ok b, ok c, ok d] = f a b c d := rfl
@[simp] theorem calV0 {m : Type → Type} [PM m] [LM m] (f : Om D) : calV (m := m) (ap0 f) [] = lft f := by simp [calV]
@[simp] theorem calV1 {m : Type → Type} [PM m] [LM m] (f : D → Om D) (a : D) : calV (m := m) (ap1 f) [ok a] = lft (f a) := by simp [calV]
@[simp] theorem calV2 {m : Type → Type} [PM m] [LM m] (f : D → D → Om D) (a b : D) : calV (m := m) (ap2 f) [ok a, ok b] = lft (f a b) := by simp [calV]
@[simp] theorem calV3 {m : Type → Type} [PM m] [LM m] (f : D → D → D → Om D) (a b c : D) : calV (m := m) (ap3 f) [ok a, ok b, ok c] = lft (f a b c) := by simp [calV]
@[simp] theorem calV4 {m : Type → Type} [PM m] [LM m] (f : D → D → D → D → Om D) (a b c d : D) : calV (m := m) (ap4 f) [ok a, ok b, ok c, ok d] = lft (f a b c d) := by simp [calV]
@[simp] theorem calV5 {m : Type → Type} [PM m] [LM m] (f : D → D → D → D → D → Om D) (a b c d e : D) : calV (m := m) (ap5 f) [ok a, ok b, ok c, ok d, ok e] = lft (f a b c d e) := by simp [calV]
/-- displays -/
@[simp] theorem tupV0 {m : Type → Type} [PM m] [LM m] : tupV (m := m) [] = ok (.tup []) := by simp [tupV]
@[simp] theorem lstV0 {m : Type → Type} [PM m] [LM m] : lstV (m := m) [] = ok (.lst []) := by simp [lstV]
@[simp] theorem tupV1 {m : Type → Type} [PM m] [LM m] (a : D) : tupV (m := m) [ok a] = ok (.tup [a]) := by simp [tupV]
@[simp] theorem lstV1 {m : Type → Type} [PM m] [LM m] (a : D) : lstV (m := m) [ok a] = ok (.lst [a]) := by simp [lstV]
@[simp] theorem tupV2 {m : Type → Type} [PM m] [LM m] (a b : D) : tupV (m := m) [ok a, ok b] = ok (.tup [a, b]) := by simp [tupV]
@[simp] theorem lstV2 {m : Type → Type} [PM m] [LM m] (a b : D) : lstV (m := m) [ok a, ok b] = ok (.lst [a, b]) := by simp [lstV]
@[simp] theorem tupV3 {m : Type → Type} [PM m] [LM m] (a b c : D) : tupV (m := m) [ok a, ok b, ok c] = ok (.tup [a, b, c]) := by simp [tupV]
@[simp] theorem lstV3 {m : Type → Type} [PM m] [LM m] (a b c : D) : lstV (m := m) [ok a, ok b, ok c] = ok (.lst [a, b, c]) := by simp [lstV]
@[simp] theorem tupV4 {m : Type → Type} [PM m] [LM m] (a b c d : D) : tupV (m := m) [ok a, ok b, ok c, ok d] = ok (.tup [a, b, c, d]) := by simp [tupV]
@[simp] theorem lstV4 {m : Type → Type} [PM m] [LM m] (a b c d : D) : lstV (m := m) [ok a, ok b, ok c, ok d] = ok (.lst [a, b, c, d]) := by simp [lstV]
theorem All_seqN {Q : List D → Prop} (h : Q []) : Tm.All c Q (seqV ([] : List (Tm D))) := h
theorem All_seqC {P : D → Prop} {Q : List D → Prop} {x : Tm D} {r : List (Tm D)} (c1 c2 : Nat) (h : Tm.All c1 P x) (k : ∀ d, P d → Tm.All c2 (fun xs => Q (d :: xs)) (seqV r)) (hc : c1 + c2 ≤ c) : Tm.All c Q (seqV (x :: r)) := by
  refine All_bnd c1 c2 _ h (fun d p => ?_) hc
  exact All_bnd c2 0 _ (k d p) (fun xs q => q) (Nat.le_refl _)
theorem All_tupV {Q : D → Prop} {l : List (Tm D)} (h : Tm.All c (fun xs => Q (.tup xs)) (seqV l)) : Tm.All c Q (tupV l) := All_bnd c 0 _ h (fun xs q => q) (Nat.le_refl _)
theorem All_lstV {Q : D → Prop} {l : List (Tm D)} (h : Tm.All c (fun xs => Q (.lst xs)) (seqV l)) : Tm.All c Q (lstV l) := All_bnd c 0 _ h (fun xs q => q) (Nat.le_refl _)
/-- while -/
theorem All_whi {Q : β → Prop} (cc : Nat) (I : β → Nat → Prop) (u : β → Tm Bool) (body : β → Tm (Ot β β)) (h : ∀ b k, I b k → (u b = ok false ∧ Q b) ∨ ∃ k', k = k' + 1 ∧ u b = ok true ∧ Tm.All cc (fun o => ∃ b', o = .nx b' ∧ I b' k') (body b)) : ∀ (n k : Nat) (b : β), I b k → k < n → Tm.All (cc * k) (fun o => ∃ b', o = (.nx b' : Ot β γ) ∧ Q b') (whiL u body n b)
  | 0, k, b, _, hn => by omega
  | n + 1, k, b, i, hn => by
    rw [whiV_succ]
    rcases h b k i with ⟨e, q⟩ | ⟨k', rfl, e, hb⟩
    · rw [e, ifV_ok, if_neg (by decide)]
      exact ⟨b, rfl, q⟩
    · rw [e, ifV_ok, if_pos rfl]
      refine All_bndL cc (cc * k') _ hb ?_ (by rw [Nat.mul_add]; omega)
      rintro o ⟨b', rfl, i'⟩
      exact All_whi cc I u body h n k' b' i' (by omega)
end
/-! numbers from a range -/
theorem rngD_nat (n : Nat) : rngD 0 (n : Int) = (List.range n).map fun (i : Nat) => dI (i : Int) := by
  unfold rngD
  simp
end L2.DL
namespace L2.K57
open L2 L2.My L2.DL NdefX PySem PySem.Spec PyProof.Rows
open PM
def are_integers_V (value : D) : Om D := retV (β := Unit) (γ := Unit) (bndL (andXL (op2 isiD (ok value) (ok (.v (.ty "tuple")))) (op1 allD (lcL (itV (ok value)) fun e => stpL (ok true) (andXL (op2 isiD (ok e) (ok (.v (.ty "int")))) (notX (op2 isiD (ok e) (ok (.v (.ty "bool"))))))))) fun d => ok (.rt d))

def without_V (pairs numbers : D) : Om D := retV (β := Unit) (γ := Unit) (bndL (dkL (itV (ok numbers)) fun e acc => ifL (ok true) (putKV acc (ok e) (ok (dB true))) (ok acc)) fun barred =>
    (bndL (lcL (itV (ok pairs)) fun e_1 => stpL (andL (tst (op2 (inX false) (op2 ixD (ok e_1) (ok (dI 0))) (ok barred))) (tst (op2 (inX false) (op2 ixD (ok e_1) (ok (dI 1))) (ok barred)))) (ok e_1)) fun d => ok (.rt d)))

def partners_of_V (pairs number : D) : Om D := retV (β := Unit) (γ := Unit) (bndL (op1 tupD (ssL (itV (ok pairs)) fun e acc => ifL (ok true) (in2L (itV (ok e)) (fun e_1 acc_1 => ifL (andL (tst (op2 (inX true) (ok number) (ok e))) (tst (op2 (eqD false) (ok e_1) (ok number)))) (addV acc_1 (ok e_1)) (ok acc_1)) acc) (ok acc))) fun d => ok (.rt d))

def are_apart_V (pairs value : D) : Om D := retV (β := Unit) (γ := Unit) (ifL (notB (tst (op2 isiD (ok value) (ok (.v (.ty "tuple"))))))
    (bndL (ok (dB false)) fun d => ok (.rt d))
    (bndL (dtL (itV (ok pairs)) fun e acc => ifL (ok true) (putTV acc (ok e) (ok (dB true))) (ok acc)) fun known =>
    (bndL (asDc (ok (.dct []))) fun taken =>
    (bndL (itV (ok value)) fun ds => thL (forL (fun e_1 (q : (List (Key × D))) =>
    (ifL (orL (notB (tst (calV (ap1 are_integers_V) [(ok e_1)]))) (orL (tst (op2 (inX false) (ok e_1) (ok known))) (orL (tst (op2 (inX true) (op2 ixD (ok e_1) (ok (dI 0))) (ok (.dct q)))) (tst (op2 (inX true) (op2 ixD (ok e_1) (ok (dI 1))) (ok (.dct q)))))))
    (bndL (ok (dB false)) fun d => ok (.rt d))
    (bndL (setDV q (ok (dB true)) (op2 ixD (ok e_1) (ok (dI 0)))) fun taken_1 =>
    (bndL (setDV taken_1 (ok (dB true)) (op2 ixD (ok e_1) (ok (dI 1)))) fun taken_2 =>
    (ok (.nx taken_2)))))) ds taken) fun (q : (List (Key × D))) =>
    (bndL (ok (dB true)) fun d => ok (.rt d))))))

def parts_of_cover_V (pairs most paper : D) : Om D := retV (β := Unit) (γ := Unit) (ifL (tst (op2 (isD true) (ok paper) (ok dN)))
    (bndL (ifL (tst (op2 ltV (ok most) (ok (dI 0)))) (lstV []) (ok dN)) fun d => ok (.rt d))
    (ifL (orL (notB (tst (op2 isiD (ok paper) (ok (.v (.ty "tuple")))))) (tst (op2 ltV (op1 lenD (ok paper)) (ok (dI 2)))))
    (bndL (ok dN) fun d => ok (.rt d))
    (ifL (tst (op2 (eqD true) (op2 ixD (ok paper) (ok (dI 0))) (ok (dS "pairs"))))
    (bndL (ifL (andL (tst (op2 (eqD true) (op1 lenD (ok paper)) (ok (dI 2)))) (andL (tst (calV (ap2 are_apart_V) [(ok pairs), (op2 ixD (ok paper) (ok (dI 1)))])) (tst (op2 gtV (op1 lenD (op2 ixD (ok paper) (ok (dI 1)))) (ok most))))) (lstV []) (ok dN)) fun d => ok (.rt d))
    (ifL (orL (tst (op2 (eqD false) (op2 ixD (ok paper) (ok (dI 0))) (ok (dS "case")))) (tst (op2 (eqD false) (op1 lenD (ok paper)) (ok (dI 4)))))
    (bndL (ok dN) fun d => ok (.rt d))
    (bndL (ok paper) fun x => (un4L x fun x_1 number taken spared => (ifL (orL (notB (tst (calV (ap1 are_integers_V) [(tupV [(ok number)])]))) (tst (op2 (inX true) (tupV [(ok number), (ok number)]) (ok pairs))))
    (bndL (ok dN) fun d => ok (.rt d))
    (bndL (calV (ap2 partners_of_V) [(ok pairs), (ok number)]) fun partners =>
    (ifL (tst (op2 (eqD true) (op1 lenD (ok partners)) (ok (dI 0))))
    (bndL (ok dN) fun d => ok (.rt d))
    (bndL (lstV [(tupV [(calV (ap2 without_V) [(ok pairs), (tupV [(ok number)])]), (op2 subV (ok most) (ok (dI 1))), (ok taken)]), (tupV [(calV (ap2 without_V) [(ok pairs), (ok partners)]), (op2 subV (ok most) (op1 lenD (ok partners))), (ok spared)])]) fun d => ok (.rt d)))))))))))

def shows_cover_V (pairs c paper : D) : Om D := retV (β := Unit) (γ := Unit) (bndL (asLs (lstV [(tupV [(op1 listD (ok pairs)), (ok c), (ok paper)])])) fun left =>
    (thL (whiL (fun (q : (List D)) => (tst (op2 gtV (op1 lenD (ok (.lst q))) (ok (dI 0))))) (fun (q : (List D)) =>
    (pp2L (popV q) fun x left_1 => (un3L x fun some' most part => (bndL (calV (ap3 parts_of_cover_V) [(ok some'), (ok most), (ok part)]) fun parts =>
    (ifL (tst (op2 (isD true) (ok parts) (ok dN)))
    (bndL (ok (dB false)) fun d => ok (.rt d))
    (bndL (extV left_1 (ok parts)) fun left_2 =>
    (ok (.nx left_2)))))))) FUEL left) fun (q : (List D)) =>
    (bndL (ok (dB true)) fun d => ok (.rt d))))

end L2.K57
namespace L2.K57
open L2 L2.My L2.DL NdefX PySem PySem.Spec PyProof.Rows
open PM
def top (i : Nat) : Stmt := PySem.Challenge.pw_latelands_k57_cover_papers_looked_at.main.body.getD i (.Pass ⟨0, 0, 0, 0⟩)
section
variable {P : Program} {w : World} {K : W.Frag} {mg : Str → Option Value} {base : Heap}
abbrev s_are_integers : Stmt := top 1
theorem sc_are_integers : FnScope ["value", "each"] ["value"] (defScope s_are_integers) := ⟨rfl, rfl, rfl, by decide +kernel, rfl, by decide +kernel, by decide +kernel⟩
theorem vok_are_integers {f : Addr} {fd : FuncData} (F : Fun K "are_integers" "are_integers" s_are_integers f fd) (m_all : mg "all" = none) (m_isinstance : mg "isinstance" = none) (m_bool : mg "bool" = none) (m_int : mg "int" = none) (m_tuple : mg "tuple" = none) :
    FnG P w K mg base (L2.CX P w) 1 f fd ["value"] (spF K [.b] (foF (ap1 are_integers_V))) := by
  refine fn_V F sc_are_integers rfl rfl ?_
  intro cdv A outer s H E hr hq
  have hu := hr.units
  have hp := @passX (cxOf (L2.CX P w) P w K mg base ["value", "each"] "are_integers" (defScope s_are_integers) f cdv A outer s H E) E (takes_of rfl rfl rfl rfl)
  refine ⟨_, (pss_one (ps_ret (pe_and (pe_callB call_isA (by rfl) m_isinstance (by decide +kernel) (pa_cons (pv 0) (pa_cons (pe_bty "tuple" rfl m_tuple (by decide +kernel)) pa_nil))) (pe_one (pe_callB (cr_all rfl) (by rfl) m_all (by decide +kernel) (pa_cons (pe_lc (own := [("each", 1)]) (g := gName 1) (tt := tYes) rfl sc_are_integers.nd (pi_seq (pv 0)) (blkOk_by (N := ["value", "each"]) (sc := defScope (top 1)) (by decide +kernel)) (fun _ _ _ _ _ => (pg_name (i := 1) sc_are_integers.nd rfl (Or.inl rfl))) (fun _ _ _ _ _ => pts_nil) (fun _ _ _ _ _ => (pe_and (pe_callB (show CallR _ (.builtin "isinstance") (rIsA K) from call_isA) (by rfl) m_isinstance (by decide +kernel) (pa_cons (pv 1) (pa_cons (pe_bty "int" rfl m_int (by decide +kernel)) pa_nil))) (pe_one (pe_not (pe_callB (show CallR _ (.builtin "isinstance") (rIsA K) from call_isA) (by rfl) m_isinstance (by decide +kernel) (pa_cons (pv 1) (pa_cons (pe_bty "bool" rfl m_bool (by decide +kernel)) pa_nil)))))))) pa_nil)))))), fun S Γ => ⟨_, (ls_end (ls_ret (ln_andM (mo := .s) (by decide) (Ln.lend (ln_cb2 ln_varb (Ln.lend ln_c) p2_isi)) (ln_cb1 (Ln.lend (Ln.weak (ln_lc rfl (li_seqb ln_varb) lg_name lt_yes (ln_andM (mo := .s) (by decide) (Ln.lend (ln_cb2 ln_varb (Ln.lend ln_c) p2_isi)) (ln_not (Ln.lend (ln_cb2 ln_varb (Ln.lend ln_c) p2_isi))))))) p1_all)))), ?_⟩⟩
  exact db1 fun value => .go (Rn := fun _ _ => True) (Rl := fun _ _ => True) (rs_ret (rd_and (rd_op (rd_vB rfl) rd_c) (rd_un (rd_lc (rl_seq (rd_vB rfl)) fun e => (rt_n (rc_stp (rd_and (rd_op (rd_vb rfl) rd_c) (rd_not (rd_op (rd_vb rfl) rd_c))) rb_yes))))))

abbrev s_without : Stmt := top 3
theorem sc_without : FnScope ["pairs", "numbers", "barred", "number", "pair"] ["pairs", "numbers"] (defScope s_without) := ⟨rfl, rfl, rfl, by decide +kernel, rfl, by decide +kernel, by decide +kernel⟩
theorem vok_without {f : Addr} {fd : FuncData} (F : Fun K "without" "without" s_without f fd)  :
    FnG P w K mg base (L2.CX P w) 1 f fd ["pairs", "numbers"] (spF K [.b, .b] (foF (ap2 without_V))) := by
  refine fn_V F sc_without rfl rfl ?_
  intro cdv A outer s H E hr hq
  have hu := hr.units
  have hp := @passX (cxOf (L2.CX P w) P w K mg base ["pairs", "numbers", "barred", "number", "pair"] "without" (defScope s_without) f cdv A outer s H E) E (takes_of rfl rfl rfl rfl)
  refine ⟨_, (pss_cons (ps_set (i := 2) sc_without.nd rfl (Or.inr rfl) (pe_dcK (own := [("number", 3)]) (g := gName 3) (tt := tYes) rfl sc_without.nd (pi_seq (pv 1)) (blkOk_by (N := ["pairs", "numbers", "barred", "number", "pair"]) (sc := defScope (top 3)) (by decide +kernel)) (fun _ _ _ _ _ => (pg_name (i := 3) sc_without.nd rfl (Or.inl rfl))) (fun _ _ _ _ _ => pts_nil) (fun _ _ _ _ _ => (pv 3)) (fun _ _ _ _ _ => pe_bl)))
    (pss_one (ps_ret (pe_lc (own := [("pair", 4)]) (g := gName 4) (tt := _) rfl sc_without.nd (pi_seq (pv 0)) (blkOk_by (N := ["pairs", "numbers", "barred", "number", "pair"]) (sc := defScope (top 3)) (by decide +kernel)) (fun _ _ _ _ _ => (pg_name (i := 4) sc_without.nd rfl (Or.inl rfl))) (fun _ _ _ _ _ => (pts_one (PW.pt (pw_and (pt_cmpR (show OpR _ (compareOp .NotIn) (rInX K false) from (op_notInX hu)) (pe_ix (show IxR _ (rIx K) from ix_seq) (pv 4) pe_int (fun _ _ => rfl)) (pv 2) (by rfl)) (pw_and1 (pt_cmpR (show OpR _ (compareOp .NotIn) (rInX K false) from (op_notInX hu)) (pe_ix (show IxR _ (rIx K) from ix_seq) (pv 4) pe_int (fun _ _ => rfl)) (pv 2) (by rfl))))))) (fun _ _ _ _ _ => (pv 4)))))), fun S Γ => ⟨_, (ls_seq (ls_set (Ln.weak (ln_dcK rfl (li_seqb ln_varb) (fun _ => lg_name) lt_yes ln_varb ln_c))) (ls_end (ls_ret (Ln.weak (ln_lc rfl (li_seqb ln_varb) lg_name ((lt_and (lt_test (Ln.lend (ln_op (Ln.lend (ln_op ln_varb (Ln.lend ln_c) p2_ix)) ln_varb p2_inX))) (lt_test (Ln.lend (ln_op (Ln.lend (ln_op ln_varb (Ln.lend ln_c) p2_ix)) ln_varb p2_inX))))) ln_var))))), ?_⟩⟩
  exact db2 fun pairs numbers => .go (Rn := fun _ _ => True) (Rl := fun _ _ => True) (rs_set (rd_dk (rl_seq (rd_vB rfl)) fun e acc => (rt_n (rca rb_yes (rk_putK (rd_vb rfl) rd_c)))) fun barred => (rs_ret (rd_lc (rl_seq (rd_vB rfl)) fun e_1 => (rt_n (rc_stp (rd_v rfl) (rb_and (rb_test (rd_op (rd_op (rd_vb rfl) rd_c) (rd_vb rfl))) (rb_test (rd_op (rd_op (rd_vb rfl) rd_c) (rd_vb rfl)))))))))

abbrev s_partners_of : Stmt := top 4
theorem sc_partners_of : FnScope ["pairs", "number", "pair", "other"] ["pairs", "number"] (defScope s_partners_of) := ⟨rfl, rfl, rfl, by decide +kernel, rfl, by decide +kernel, by decide +kernel⟩
theorem vok_partners_of {f : Addr} {fd : FuncData} (F : Fun K "partners_of" "partners_of" s_partners_of f fd) (m_tuple : mg "tuple" = none) (m_sorted : mg "sorted" = none) :
    FnG P w K mg base (L2.CX P w) 1 f fd ["pairs", "number"] (spF K [.b, .b] (foF (ap2 partners_of_V))) := by
  refine fn_V F sc_partners_of rfl rfl ?_
  intro cdv A outer s H E hr hq
  have hu := hr.units
  have hp := @passX (cxOf (L2.CX P w) P w K mg base ["pairs", "number", "pair", "other"] "partners_of" (defScope s_partners_of) f cdv A outer s H E) E (takes_of rfl rfl rfl rfl)
  refine ⟨_, (pss_one (ps_ret (pe_callTy call_tuple_of (by rfl) m_tuple (by decide +kernel) (pa_cons (pe_callB (cr_sortedSet rfl) (by rfl) m_sorted (by decide +kernel) (pa_cons (pe_set2 (own := [("pair", 2), ("other", 3)]) (vs1 := [3]) (g := gName 2) (tt := tYes) (g1 := gName 3) (tt1 := _) rfl sc_partners_of.nd (pi_seq (pv 0)) (blkOk_by (N := ["pairs", "number", "pair", "other"]) (sc := defScope (top 4)) (by decide +kernel)) (by decide) (fun _ _ _ _ _ => (pg_name (i := 2) sc_partners_of.nd rfl (Or.inl rfl))) (fun _ _ _ _ _ => pts_nil) (fun _ _ _ _ _ => (pv 3)) (fun _ _ _ _ _ => (show PI _ _ _ (iSeq K _) from (pi_seq (pv 2)))) (fun _ _ _ _ _ => (pg_name (i := 3) sc_partners_of.nd rfl (Or.inl rfl))) (fun _ _ _ _ _ => (pts_one (PW.pt (pw_and (pt_cmpR (show OpR _ (compareOp .In) (rInX K true) from (op_inX hu)) (pv 1) (pv 2) (by rfl)) (pw_and1 (pt_cmpR (show OpR _ (compareOp .NotEq) (rEqP K false) from (op_neP hu)) (pv 3) (pv 1) (nomark _)))))))) pa_nil)) pa_nil)))), fun S Γ => ⟨_, (ls_end (ls_ret (ln_cb1 (Ln.lend (Ln.weak (ln_ss2 rfl (li_seqb ln_varb) (fun _ => lg_name) lt_yes (la_in (AR := arS _) arS_mono rfl (lis_seq ln_var) (fun _ => lg_name) (lt_and (lt_test (Ln.lend (ln_op ln_varb ln_varb p2_inX))) (lt_test (Ln.lend (ln_op ln_varb ln_varb p2_eq)))) (la_add ln_varb))))) p1_tup))), ?_⟩⟩
  exact db2 fun pairs number => .go (Rn := fun _ _ => True) (Rl := fun _ _ => True) (rs_ret (rd_un (rd_ss (rl_seq (rd_vB rfl)) fun e acc => (rt_n (rca rb_yes (rk_in (rl_seq (rd_v rfl)) fun e_1 acc_1 => (rt_n (rca (rb_and (rb_test (rd_op (rd_vB rfl) (rd_vb rfl))) (rb_test (rd_op (rd_vb rfl) (rd_vB rfl)))) (rk_add (rd_vb rfl))))))))))

abbrev s_are_apart : Stmt := top 8
theorem sc_are_apart : FnScope ["pairs", "value", "known", "taken", "pair"] ["pairs", "value"] (defScope s_are_apart) := ⟨rfl, rfl, rfl, by decide +kernel, rfl, by decide +kernel, by decide +kernel⟩
theorem vok_are_apart {f : Addr} {fd : FuncData} (F : Fun K "are_apart" "are_apart" s_are_apart f fd) (m_isinstance : mg "isinstance" = none) (m_tuple : mg "tuple" = none) (c_are_integers : CalG P w K mg base (L2.CX P w) 1 "are_integers" (spF K [.b] (foF (ap1 are_integers_V)))) :
    FnG P w K mg base (L2.CX P w) 2 f fd ["pairs", "value"] (spF K [.b, .b] (foF (ap2 are_apart_V))) := by
  refine fn_V F sc_are_apart rfl rfl ?_
  intro cdv A outer s H E hr hq
  have hu := hr.units
  have hp := @passX (cxOf (L2.CX P w) P w K mg base ["pairs", "value", "known", "taken", "pair"] "are_apart" (defScope s_are_apart) f cdv A outer s H E) E (takes_of rfl rfl rfl rfl)
  refine ⟨_, (pss_cons (ps_if (pt_not (pt_val (pe_callB call_isA (by rfl) m_isinstance (by decide +kernel) (pa_cons (pv 1) (pa_cons (pe_bty "tuple" rfl m_tuple (by decide +kernel)) pa_nil))))) (pss_one (ps_ret pe_bl)) pss_nil)
    (pss_cons (ps_setDcT (i := 2) (own := [("pair", 4)]) (g := gName 4) (tt := tYes) (Nat.lt_of_le_of_lt (Nat.le_add_right _ _) hu) rfl sc_are_apart.nd rfl rfl (sw_trueD rfl rfl rfl rfl) (pi_seq (pv 0)) (blkOk_by (N := ["pairs", "value", "known", "taken", "pair"]) (sc := defScope (top 8)) (by decide +kernel)) (fun _ _ _ _ _ => (pg_name (i := 4) sc_are_apart.nd rfl (Or.inl rfl))) (fun _ _ _ _ _ => pts_nil) (fun _ _ _ _ _ => (pv 4)) (fun _ _ _ _ _ => pe_bl))
    (pss_cons (ps_set (i := 3) sc_are_apart.nd rfl (Or.inl rfl) pe_dnewK)
    (pss_cons (ps_for PassesOwn.leaving rfl (pi_seq (pv 1)) (pg_name (i := 4) sc_are_apart.nd rfl (Or.inl rfl)) (pss_cons (ps_if (PW.pt (pw_or (pt_not (pt_val (pe_g c_are_integers hr (by first | decide | omega) hq hp rfl (pa_cons (pv 4) pa_nil)))) (pw_or (pt_cmpR (op_notInX hu) (pv 4) (pv 2) (by rfl)) (pw_or (pt_cmpR (op_inX hu) (pe_ix ix_seq (pv 4) pe_int (fun _ _ => rfl)) (pv 3) (by rfl)) (pw_or1 (pt_cmpR (op_inX hu) (pe_ix ix_seq (pv 4) pe_int (fun _ _ => rfl)) (pv 3) (by rfl))))))) (pss_one (ps_ret pe_bl)) pss_nil)
    (pss_cons (ps_asg pe_bl (pg_sub (pv 3) (pe_ix ix_seq (pv 4) pe_int (fun _ _ => rfl)) (set_any (Nat.lt_of_le_of_lt (Nat.add_le_add_left (Nat.le_of_ble_eq_true rfl : 1 ≤ 64) _) hu))))
    (pss_one (ps_asg pe_bl (pg_sub (pv 3) (pe_ix ix_seq (pv 4) pe_int (fun _ _ => rfl)) (set_any (Nat.lt_of_le_of_lt (Nat.add_le_add_left (Nat.le_of_ble_eq_true rfl : 1 ≤ 64) _) hu))))))))
    (pss_one (ps_ret pe_bl)))))), fun S Γ => ⟨_, (ls_seq (ls_if (lt_not (lt_val (Ln.lend (ln_cb2 ln_varb (Ln.lend ln_c) p2_isi)))) (ls_end (ls_ret ln_c)) ls_next) (ls_seq (ls_set (ln_dcT rfl (li_seqb ln_varb) (fun _ => lg_name) lt_yes ln_var ln_c)) (ls_seq (ls_own (by decide) ln_dct0) (ls_seq (ls_for li_seqp lg_name (ls_seq (ls_if (lt_or (lt_not (lt_val (Ln.lend (ln_call rfl (ln_cons rfl ln_varb ln_nil))))) (lt_or (lt_test (Ln.lend (ln_op ln_varb ln_varb p2_inX))) (lt_or (lt_test (Ln.lend (ln_op (Ln.lend (ln_op ln_varb (Ln.lend ln_c) p2_ix)) ln_varb p2_inX))) (lt_test (Ln.lend (ln_op (Ln.lend (ln_op ln_varb (Ln.lend ln_c) p2_ix)) ln_varb p2_inX)))))) (ls_end (ls_ret ln_c)) ls_next) (ls_seq (ls_setX ln_c (Ln.lend (ln_op ln_varb (Ln.lend ln_c) p2_ix))) (ls_end (ls_setX ln_c (Ln.lend (ln_op ln_varb (Ln.lend ln_c) p2_ix))))))) (ls_end (ls_ret ln_c)))))), ?_⟩⟩
  exact db2 fun pairs value => .go (Rn := fun _ _ => True) (Rl := fun _ _ => True) (rs_if (rb_not (rb_test (rd_op (rd_vB rfl) rd_c))) (rs_assoc (rs_ret rd_c)) (rs_skip (rs_set (rd_dt (rl_seq (rd_vB rfl)) fun e acc => (rt_n (rca rb_yes (rk_putT (rd_v rfl) rd_c)))) fun known => (rs_ownD rd_c fun taken => (rs_for (R1 := (fun (q : (List (Key × D))) ρ => ρ = [.bor (pairs), .bor (value), .d (known), .own (.dct (q)), .no])) (rl_seqb rfl) rfl (fun e_1 q ρ h => by obtain rfl := h; exact (rt_n (rs_if (rb_or (rb_not (rb_test (rd_call (ra_cons (rd_vb rfl) ra_nil)))) (rb_or (rb_test (rd_op (rd_vb rfl) (rd_vb rfl))) (rb_or (rb_test (rd_op (rd_op (rd_vb rfl) rd_c) (rd_vOd rfl))) (rb_test (rd_op (rd_op (rd_vb rfl) rd_c) (rd_vOd rfl)))))) (rs_assoc (rs_ret rd_c)) (rs_skip (rs_setD rfl rd_c (rd_op (rd_vb rfl) rd_c) fun taken_1 => (rs_setD rfl rd_c (rd_op (rd_vb rfl) rd_c) fun taken_2 => (rs_next ⟨rfl, rfl⟩))))))) (fun q ρ h => by obtain rfl := h; exact (rs_ret rd_c)))))))

abbrev s_parts_of_cover : Stmt := top 7
theorem sc_parts_of_cover : FnScope ["pairs", "most", "paper", "_", "number", "taken", "spared", "partners"] ["pairs", "most", "paper"] (defScope s_parts_of_cover) := ⟨rfl, rfl, rfl, by decide +kernel, rfl, by decide +kernel, by decide +kernel⟩
theorem vok_parts_of_cover {f : Addr} {fd : FuncData} (F : Fun K "parts_of_cover" "parts_of_cover" s_parts_of_cover f fd) (m_isinstance : mg "isinstance" = none) (m_tuple : mg "tuple" = none) (m_len : mg "len" = none) (c_are_apart : CalG P w K mg base (L2.CX P w) 2 "are_apart" (spF K [.b, .b] (foF (ap2 are_apart_V)))) (c_are_integers : CalG P w K mg base (L2.CX P w) 1 "are_integers" (spF K [.b] (foF (ap1 are_integers_V)))) (c_partners_of : CalG P w K mg base (L2.CX P w) 1 "partners_of" (spF K [.b, .b] (foF (ap2 partners_of_V)))) (c_without : CalG P w K mg base (L2.CX P w) 1 "without" (spF K [.b, .b] (foF (ap2 without_V)))) :
    FnG P w K mg base (L2.CX P w) 3 f fd ["pairs", "most", "paper"] (spF K [.b, .b, .s] (foF (ap3 parts_of_cover_V))) := by
  refine fn_V F sc_parts_of_cover rfl rfl ?_
  intro cdv A outer s H E hr hq
  have hu := hr.units
  have hp := @passX (cxOf (L2.CX P w) P w K mg base ["pairs", "most", "paper", "_", "number", "taken", "spared", "partners"] "parts_of_cover" (defScope s_parts_of_cover) f cdv A outer s H E) E (takes_of rfl rfl rfl rfl)
  refine ⟨_, (pss_cons (ps_if (pt_cmpR op_isD (pv 2) pe_non (nomark _)) (pss_one (ps_ret (pe_ifExp (pt_cmpR op_ltD (pv 1) pe_int (nomark _)) (pe_lst pa_nil) pe_non))) pss_nil)
    (pss_cons (ps_if (PW.pt (pw_or (pt_not (pt_val (pe_callB call_isA (by rfl) m_isinstance (by decide +kernel) (pa_cons (pv 2) (pa_cons (pe_bty "tuple" rfl m_tuple (by decide +kernel)) pa_nil))))) (pw_or1 (pt_cmpR op_ltD (pe_callB c_lenD (by rfl) m_len PySem.boot_len (pa_cons (pv 2) pa_nil)) pe_int (nomark _))))) (pss_one (ps_ret pe_non)) pss_nil)
    (pss_cons (ps_if (pt_cmpR (op_eqP hu) (pe_ix ix_seq (pv 2) pe_int (fun _ _ => rfl)) pe_str (nomark _)) (pss_one (ps_ret (pe_ifExp (PW.pt (pw_and (pt_cmpR (op_eqP hu) (pe_callB c_lenD (by rfl) m_len PySem.boot_len (pa_cons (pv 2) pa_nil)) pe_int (nomark _)) (pw_and (pt_val (pe_g c_are_apart hr (by first | decide | omega) hq hp rfl (pa_cons (pv 0) (pa_cons (pe_ix ix_seq (pv 2) pe_int (fun _ _ => rfl)) pa_nil)))) (pw_and1 (pt_cmpR op_gtD (pe_callB c_lenD (by rfl) m_len PySem.boot_len (pa_cons (pe_ix ix_seq (pv 2) pe_int (fun _ _ => rfl)) pa_nil)) (pv 1) (nomark _)))))) (pe_lst pa_nil) pe_non))) pss_nil)
    (pss_cons (ps_if (PW.pt (pw_or (pt_cmpR (op_neP hu) (pe_ix ix_seq (pv 2) pe_int (fun _ _ => rfl)) pe_str (nomark _)) (pw_or1 (pt_cmpR (op_neP hu) (pe_callB c_lenD (by rfl) m_len PySem.boot_len (pa_cons (pv 2) pa_nil)) pe_int (nomark _))))) (pss_one (ps_ret pe_non)) pss_nil)
    (pss_cons (ps_asg (pv 2) (pg_tup rfl (pgs_cons (pg_name (i := 3) sc_parts_of_cover.nd rfl (Or.inl rfl)) (pgs_cons (pg_name (i := 4) sc_parts_of_cover.nd rfl (Or.inl rfl)) (pgs_cons (pg_name (i := 5) sc_parts_of_cover.nd rfl (Or.inl rfl)) (pgs_cons (pg_name (i := 6) sc_parts_of_cover.nd rfl (Or.inl rfl)) pgs_nil))))))
    (pss_cons (ps_if (PW.pt (pw_or (pt_not (pt_val (pe_g c_are_integers hr (by first | decide | omega) hq hp rfl (pa_cons (pe_tup (pa_cons (pv 4) pa_nil)) pa_nil)))) (pw_or1 (pt_cmpR (op_inX hu) (pe_tup (pa_cons (pv 4) (pa_cons (pv 4) pa_nil))) (pv 0) (by rfl))))) (pss_one (ps_ret pe_non)) pss_nil)
    (pss_cons (ps_set (i := 7) sc_parts_of_cover.nd rfl (Or.inl rfl) (pe_g c_partners_of hr (by first | decide | omega) hq hp rfl (pa_cons (pv 0) (pa_cons (pv 4) pa_nil))))
    (pss_cons (ps_if (pt_cmpR (op_eqP hu) (pe_callB c_lenD (by rfl) m_len PySem.boot_len (pa_cons (pv 7) pa_nil)) pe_int (nomark _)) (pss_one (ps_ret pe_non)) pss_nil)
    (pss_one (ps_ret (pe_lst (pa_cons (pe_tup (pa_cons (pe_g c_without hr (by first | decide | omega) hq hp rfl (pa_cons (pv 0) (pa_cons (pe_tup (pa_cons (pv 4) pa_nil)) pa_nil))) (pa_cons (pe_op op_sub (pv 1) pe_int) (pa_cons (pv 5) pa_nil)))) (pa_cons (pe_tup (pa_cons (pe_g c_without hr (by first | decide | omega) hq hp rfl (pa_cons (pv 0) (pa_cons (pv 7) pa_nil))) (pa_cons (pe_op op_sub (pv 1) (pe_callB c_lenD (by rfl) m_len PySem.boot_len (pa_cons (pv 7) pa_nil))) (pa_cons (pv 6) pa_nil)))) pa_nil))))))))))))), fun S Γ => ⟨_, (ls_seq (ls_if (lt_test (Ln.lend (ln_op ln_varb (Ln.lend ln_c) p2_is))) (ls_end (ls_ret (ln_if (lt_test (Ln.lend (ln_op ln_varb (Ln.lend ln_c) p2_cmp))) (Ln.weak (ln_lst rfl ln_nil)) ln_c))) ls_next) (ls_seq (ls_if (lt_or (lt_not (lt_val (Ln.lend (ln_cb2 ln_varb (Ln.lend ln_c) p2_isi)))) (lt_test (Ln.lend (ln_op (Ln.lend (ln_cb1 ln_varb p1_len)) (Ln.lend ln_c) p2_cmp)))) (ls_end (ls_ret ln_c)) ls_next) (ls_seq (ls_if (lt_test (Ln.lend (ln_op (Ln.lend (ln_op ln_varb (Ln.lend ln_c) p2_ix)) (Ln.lend ln_c) p2_eq))) (ls_end (ls_ret (ln_if (lt_and (lt_test (Ln.lend (ln_op (Ln.lend (ln_cb1 ln_varb p1_len)) (Ln.lend ln_c) p2_eq))) (lt_and (lt_val (Ln.lend (ln_call rfl (ln_cons rfl ln_varb (ln_cons rfl (Ln.lend (ln_op ln_varb (Ln.lend ln_c) p2_ix)) ln_nil))))) (lt_test (Ln.lend (ln_op (Ln.lend (ln_cb1 (Ln.lend (ln_op ln_varb (Ln.lend ln_c) p2_ix)) p1_len)) ln_varb p2_cmp))))) (Ln.weak (ln_lst rfl ln_nil)) ln_c))) ls_next) (ls_seq (ls_if (lt_or (lt_test (Ln.lend (ln_op (Ln.lend (ln_op ln_varb (Ln.lend ln_c) p2_ix)) (Ln.lend ln_c) p2_eq))) (lt_test (Ln.lend (ln_op (Ln.lend (ln_cb1 ln_varb p1_len)) (Ln.lend ln_c) p2_eq)))) (ls_end (ls_ret ln_c)) ls_next) (ls_seq (ls_asg ln_var (lg_tup (lg_cons lg_name (lg_cons lg_name (lg_cons lg_name (lg_cons lg_name lg_nil)))))) (ls_seq (ls_if (lt_or (lt_not (lt_val (Ln.lend (ln_call rfl (ln_cons rfl (Ln.lend (ln_tup rfl (ln_cons rfl ln_var ln_nil))) ln_nil))))) (lt_test (Ln.lend (ln_op (Ln.lend (ln_tup rfl (ln_cons rfl ln_var (ln_cons rfl ln_var ln_nil)))) ln_varb p2_inX)))) (ls_end (ls_ret ln_c)) ls_next) (ls_seq (ls_set (ln_call rfl (ln_cons rfl ln_varb (ln_cons rfl ln_varb ln_nil)))) (ls_seq (ls_if (lt_test (Ln.lend (ln_op (Ln.lend (ln_cb1 ln_varb p1_len)) (Ln.lend ln_c) p2_eq))) (ls_end (ls_ret ln_c)) ls_next) (ls_end (ls_ret (Ln.weak (ln_lst rfl (ln_cons rfl (ln_tup rfl (ln_cons rfl (ln_call rfl (ln_cons rfl ln_varb (ln_cons rfl (Ln.lend (ln_tup rfl (ln_cons rfl ln_var ln_nil))) ln_nil))) (ln_cons rfl (ln_op ln_varb (Ln.lend ln_c) p2_rI0) (ln_cons rfl ln_var ln_nil)))) (ln_cons rfl (ln_tup rfl (ln_cons rfl (ln_call rfl (ln_cons rfl ln_varb (ln_cons rfl ln_varb ln_nil))) (ln_cons rfl (ln_op ln_varb (Ln.lend (ln_cb1 ln_varb p1_len)) p2_rI0) (ln_cons rfl ln_var ln_nil)))) ln_nil)))))))))))))), ?_⟩⟩
  exact db3 fun pairs most paper => .go (Rn := fun _ _ => True) (Rl := fun _ _ => True) (rs_if (rb_test (rd_op (rd_vb rfl) rd_c)) (rs_assoc (rs_ret (rd_if (rb_test (rd_op (rd_vB rfl) rd_c)) (rd_lst ra_nil (Nat.le_of_ble_eq_true rfl)) rd_c))) (rs_skip (rs_if (rb_or (rb_not (rb_test (rd_op (rd_vb rfl) rd_c))) (rb_test (rd_op (rd_un (rd_vb rfl)) rd_c))) (rs_assoc (rs_ret rd_c)) (rs_skip (rs_if (rb_test (rd_op (rd_op (rd_vb rfl) rd_c) rd_c)) (rs_assoc (rs_ret (rd_if (rb_and (rb_test (rd_op (rd_un (rd_vb rfl)) rd_c)) (rb_and (rb_test (rd_call (ra_cons (rd_vB rfl) (ra_cons (rd_op (rd_vb rfl) rd_c) ra_nil)))) (rb_test (rd_op (rd_un (rd_op (rd_vb rfl) rd_c)) (rd_vB rfl))))) (rd_lst ra_nil (Nat.le_of_ble_eq_true rfl)) rd_c))) (rs_skip (rs_if (rb_or (rb_test (rd_op (rd_op (rd_vb rfl) rd_c) rd_c)) (rb_test (rd_op (rd_un (rd_vb rfl)) rd_c))) (rs_assoc (rs_ret rd_c)) (rs_skip (rs_asg (rd_v rfl) fun x => (rt_4 fun x_1 number taken spared => (rs_if (rb_or (rb_not (rb_test (rd_call (ra_cons (rd_tup (ra_cons (rd_v rfl) ra_nil) (Nat.le_of_ble_eq_true rfl)) ra_nil)))) (rb_test (rd_op (rd_tup (ra_cons (rd_v rfl) (ra_cons (rd_v rfl) ra_nil)) (Nat.le_of_ble_eq_true rfl)) (rd_vB rfl)))) (rs_assoc (rs_ret rd_c)) (rs_skip (rs_set (rd_call (ra_cons (rd_vB rfl) (ra_cons (rd_vb rfl) ra_nil))) fun partners => (rs_if (rb_test (rd_op (rd_un (rd_vb rfl)) rd_c)) (rs_assoc (rs_ret rd_c)) (rs_skip (rs_ret (rd_lst (ra_cons (rd_tup (ra_cons (rd_call (ra_cons (rd_vB rfl) (ra_cons (rd_tup (ra_cons (rd_v rfl) ra_nil) (Nat.le_of_ble_eq_true rfl)) ra_nil))) (ra_cons (rd_op (rd_vB rfl) rd_c) (ra_cons (rd_v rfl) ra_nil))) (Nat.le_of_ble_eq_true rfl)) (ra_cons (rd_tup (ra_cons (rd_call (ra_cons (rd_vB rfl) (ra_cons (rd_vb rfl) ra_nil))) (ra_cons (rd_op (rd_vB rfl) (rd_un (rd_vb rfl))) (ra_cons (rd_v rfl) ra_nil))) (Nat.le_of_ble_eq_true rfl)) ra_nil)) (Nat.le_of_ble_eq_true rfl))))))))))))))))))

abbrev s_shows_cover : Stmt := top 6
theorem sc_shows_cover : FnScope ["pairs", "c", "paper", "left", "some", "most", "part", "parts"] ["pairs", "c", "paper"] (defScope s_shows_cover) := ⟨rfl, rfl, rfl, by decide +kernel, rfl, by decide +kernel, by decide +kernel⟩
theorem vok_shows_cover {f : Addr} {fd : FuncData} (F : Fun K "shows_cover" "shows_cover" s_shows_cover f fd) (m_list : mg "list" = none) (m_len : mg "len" = none) (c_parts_of_cover : CalG P w K mg base (L2.CX P w) 3 "parts_of_cover" (spF K [.b, .b, .s] (foF (ap3 parts_of_cover_V)))) :
    FnG P w K mg base (L2.CX P w) 4 f fd ["pairs", "c", "paper"] (spF K [.b, .s, .s] (foF (ap3 shows_cover_V))) := by
  refine fn_V F sc_shows_cover rfl rfl ?_
  intro cdv A outer s H E hr hq
  have hu := hr.units
  have hp := @passX (cxOf (L2.CX P w) P w K mg base ["pairs", "c", "paper", "left", "some", "most", "part", "parts"] "shows_cover" (defScope s_shows_cover) f cdv A outer s H E) E (takes_of rfl rfl rfl rfl)
  refine ⟨_, (pss_cons (ps_set (i := 3) sc_shows_cover.nd rfl (Or.inl rfl) (pe_lst (pa_cons (pe_tup (pa_cons (pe_callTy c_list (by rfl) m_list (by decide +kernel) (pa_cons (pv 0) pa_nil)) (pa_cons (pv 1) (pa_cons (pv 2) pa_nil)))) pa_nil)))
    (pss_cons (ps_while PassesOwn.leaving (pt_cmpR op_gtD (pe_callB c_lenD (by rfl) m_len PySem.boot_len (pa_cons (pv 3) pa_nil)) pe_int (nomark _)) (pss_cons (ps_asg (pe_bm0 PySem.F.plainAttrs_list PySem.F.slot_list_pop PySem.F.type_list_pop mt_pop (pv 3)) (pg_tup rfl (pgs_cons (pg_name (i := 4) sc_shows_cover.nd rfl (Or.inl rfl)) (pgs_cons (pg_name (i := 5) sc_shows_cover.nd rfl (Or.inl rfl)) (pgs_cons (pg_name (i := 6) sc_shows_cover.nd rfl (Or.inl rfl)) pgs_nil)))))
    (pss_cons (ps_set (i := 7) sc_shows_cover.nd rfl (Or.inl rfl) (pe_g c_parts_of_cover hr (by first | decide | omega) hq hp rfl (pa_cons (pv 4) (pa_cons (pv 5) (pa_cons (pv 6) pa_nil)))))
    (pss_cons (ps_if (pt_cmpR op_isD (pv 7) pe_non (nomark _)) (pss_one (ps_ret pe_bl)) pss_nil)
    (pss_one (ps_expr (pe_bm PySem.F.plainAttrs_list PySem.F.slot_list_extend PySem.F.type_list_extend mt_extend (pv 3) (pa_cons (pv 7) pa_nil))))))))
    (pss_one (ps_ret pe_bl)))), fun S Γ => ⟨_, (ls_seq (ls_own (by decide) (ln_lst rfl (ln_cons rfl (ln_tup rfl (ln_cons rfl (Ln.weak (ln_cb1 ln_varb p1_list)) (ln_cons rfl ln_var (ln_cons rfl ln_var ln_nil)))) ln_nil))) (ls_seq (ls_while (lt_test (Ln.lend (ln_op (Ln.lend (ln_cb1 ln_varb p1_len)) (Ln.lend ln_c) p2_cmp))) (ls_seq (ls_pop (lg_tup (lg_cons lg_name (lg_cons lg_name (lg_cons lg_name lg_nil))))) (ls_seq (ls_set (ln_call rfl (ln_cons rfl ln_varb (ln_cons rfl ln_varb (ln_cons rfl ln_var ln_nil))))) (ls_seq (ls_if (lt_test (Ln.lend (ln_op ln_varb (Ln.lend ln_c) p2_is))) (ls_end (ls_ret ln_c)) ls_next) (ls_end (ls_extend ln_var)))))) (ls_end (ls_ret ln_c)))), ?_⟩⟩
  exact db3 fun pairs c paper => .go (Rn := fun _ _ => True) (Rl := fun _ _ => True) (rs_own (rd_lst (ra_cons (rd_tup (ra_cons (rd_un (rd_vB rfl)) (ra_cons (rd_v rfl) (ra_cons (rd_v rfl) ra_nil))) (Nat.le_of_ble_eq_true rfl)) ra_nil) (Nat.le_of_ble_eq_true rfl)) fun left => (rs_while (R1 := (fun (q : (List D)) ρ => ρ = [.bor (pairs), .d (c), .d (paper), .own (.lst (q)), .no, .no, .no, .no])) rfl (fun q ρ h => by obtain rfl := h; exact (rb_test (rd_op (rd_un (rd_vOl rfl)) rd_c))) (fun q ρ h => by obtain rfl := h; exact (rs_pop rfl fun x left_1 => (rt_3 fun some' most part => (rs_set (rd_call (ra_cons (rd_vb rfl) (ra_cons (rd_vb rfl) (ra_cons (rd_v rfl) ra_nil)))) fun parts => (rs_if (rb_test (rd_op (rd_vb rfl) rd_c)) (rs_assoc (rs_ret rd_c)) (rs_skip (rs_ext rfl (rd_v rfl) fun left_2 => (rs_next ⟨rfl, rfl⟩)))))))) (fun q ρ h => by obtain rfl := h; exact (rs_ret rd_c))))

end
end L2.K57
namespace L2.K57
open L2 L2.My L2.DL NdefX PySem PySem.Spec PyProof.Rows
open PM
def pairs_V : Tm D := retV (β := Unit) (γ := Unit) (bndL (asLs (lstV [])) fun found =>
    (bndL (rng1 (drw (ok (dI 10)))) fun ds => thL (forL (fun e (q : (List D)) =>
    (bndL (drw (ok (dI 7))) fun one =>
    (bndL (drw (ok (dI 7))) fun other =>
    (bndL (appV q (tupV [(op2 min2D (ok one) (ok other)), (op2 max2D (ok one) (ok other))])) fun found_1 =>
    (ok (.nx found_1)))))) ds found) fun (q : (List D)) =>
    (bndL (ok (.lst q)) fun d => ok (.rt d))))

def left_V (some' gone : D) : Om D := retV (β := Unit) (γ := Unit) (bndL (lcL (itV (ok some')) fun e => stpL (andL (tst (op2 (inX false) (op2 ixD (ok e) (ok (dI 0))) (ok gone))) (tst (op2 (inX false) (op2 ixD (ok e) (ok (dI 1))) (ok gone)))) (ok e)) fun d => ok (.rt d))

def mates_V (some' number : D) : Om D := retV (β := Unit) (γ := Unit) (bndL (op1 ssU (lcL (itV (ok some')) fun e => stpL (tst (op2 (inX true) (ok number) (ok e))) (op2 subV (op2 addD (op2 ixD (ok e) (ok (dI 0))) (op2 ixD (ok e) (ok (dI 1)))) (ok number)))) fun d => ok (.rt d))

def apart_V (some' : D) : Tm D := retV (β := Unit) (γ := Unit) (bndL (asLs (lstV [])) fun found =>
    (bndL (asLs (op1 listD (ok some'))) fun spare =>
    (thL (whiL (fun (q : (List D) × (List D)) => (tst (op2 (eqD false) (ok (.lst q.2)) (lstV [])))) (fun (q : (List D) × (List D)) =>
    (pp2L (popAV q.2 (drw (op1 lenD (ok (.lst q.2))))) fun x spare_1 => (ifL (tst (op2 (eqD true) (lcL (itV (ok (.lst q.1))) fun e => stpL (orL (tst (op2 (inX true) (op2 ixD (ok e) (ok (dI 0))) (ok x))) (tst (op2 (inX true) (op2 ixD (ok e) (ok (dI 1))) (ok x)))) (ok e)) (lstV [])))
    (bndL (appV q.1 (ok x)) fun found_1 =>
    (ok (.nx (found_1, spare_1))))
    (ok (.nx (q.1, spare_1)))))) FUEL (found, spare)) fun (q : (List D) × (List D)) =>
    (bndL (op1 tupD (ok (.lst q.1))) fun d => ok (.rt d)))))

def is_pair_V (item : D) : Om D := retV (β := Unit) (γ := Unit) (ifL (orL (notB (tst (op2 isiD (ok item) (ok (.v (.ty "tuple")))))) (tst (op2 (eqD false) (op1 lenD (ok item)) (ok (dI 2)))))
    (bndL (ok (dB false)) fun d => ok (.rt d))
    (bndL (op2 (eqD true) (lcL (itV (ok item)) fun e => stpL (orL (notB (tst (op2 isiD (ok e) (ok (.v (.ty "int")))))) (tst (op2 isiD (ok e) (ok (.v (.ty "bool")))))) (ok e)) (lstV [])) fun d => ok (.rt d)))

def fits_V : Nat → D → D → D → Om D
  | 0, _, _, _ => no
  | n + 1, some', most, item => retV (β := Unit) (γ := Unit) (ifL (tst (op2 (isD true) (ok item) (ok dN)))
    (bndL (op2 ltV (ok most) (ok (dI 0))) fun d => ok (.rt d))
    (ifL (orL (notB (tst (op2 isiD (ok item) (ok (.v (.ty "tuple")))))) (orL (tst (op2 (inX false) (op1 lenD (ok item)) (tupV [(ok (dI 2)), (ok (dI 4))]))) (notB (tst (op2 isiD (op2 ixD (ok item) (ok (dI 0))) (ok (.v (.ty "str"))))))))
    (bndL (ok (dB false)) fun d => ok (.rt d))
    (ifL (tst (op2 (eqD true) (op1 lenD (ok item)) (ok (dI 2))))
    (ifL (orL (tst (op2 (eqD false) (op2 ixD (ok item) (ok (dI 0))) (ok (dS "pairs")))) (notB (tst (op2 isiD (op2 ixD (ok item) (ok (dI 1))) (ok (.v (.ty "tuple")))))))
    (bndL (ok (dB false)) fun d => ok (.rt d))
    (ifL (tst (op2 (eqD false) (lcL (itV (op2 ixD (ok item) (ok (dI 1)))) fun e => stpL (orL (notB (tst (calV (ap1 is_pair_V) [(ok e)]))) (tst (op2 (inX false) (ok e) (ok some')))) (ok e)) (lstV [])))
    (bndL (ok (dB false)) fun d => ok (.rt d))
    (bndL (lstV []) fun shown =>
    (bndL (itV (op2 ixD (ok item) (ok (dI 1)))) fun ds => thL (forL (fun e_1 (q : (D)) =>
    (bndL (op2 addD (ok q) (op1 ssU (ok e_1))) fun shown_1 =>
    (ok (.nx shown_1)))) ds shown) fun (q : (D)) =>
    (bndL (andXL (op2 (eqD true) (op1 lsetD (ok q)) (op1 lenD (ok q))) (op2 gtV (op1 lenD (op2 ixD (ok item) (ok (dI 1)))) (ok most))) fun d => ok (.rt d))))))
    (bndL (op2 ixD (ok item) (ok (dI 1))) fun number =>
    (ifL (orL (tst (op2 (eqD false) (op2 ixD (ok item) (ok (dI 0))) (ok (dS "case")))) (orL (notB (tst (op2 isiD (ok number) (ok (.v (.ty "int")))))) (tst (op2 isiD (ok number) (ok (.v (.ty "bool")))))))
    (bndL (ok (dB false)) fun d => ok (.rt d))
    (bndL (calV (ap2 mates_V) [(ok some'), (ok number)]) fun mates_here =>
    (ifL (orL (tst (op2 (eqD true) (ok mates_here) (lstV []))) (tst (op2 (inX true) (ok number) (ok mates_here))))
    (bndL (ok (dB false)) fun d => ok (.rt d))
    (ifL (notB (tst (calV (ap3 (fits_V n)) [(calV (ap2 left_V) [(ok some'), (lstV [(ok number)])]), (op2 subV (ok most) (ok (dI 1))), (op2 ixD (ok item) (ok (dI 2)))])))
    (bndL (ok (dB false)) fun d => ok (.rt d))
    (bndL (calV (ap3 (fits_V n)) [(calV (ap2 left_V) [(ok some'), (ok mates_here)]), (op2 subV (ok most) (op1 lenD (ok mates_here))), (op2 ixD (ok item) (ok (dI 3)))]) fun d => ok (.rt d))))))))))

def odd_V : Tm D := retV (β := Unit) (γ := Unit) (bndL (lstV [(ok dN), (ok (dB true)), (ok (dI 0)), (ok (dS "")), (ok (dS "pairs")), (tupV []), (lstV []), (ok (.dct [])), (tupV [(ok (dS "pairs"))]), (tupV [(ok (dS "pairs")), (tupV [])]), (tupV [(ok (dS "pairs")), (ok dN)]), (tupV [(ok (dS "pairs")), (lstV [(tupV [(ok (dI 0)), (ok (dI 1))])])])]) fun some' =>
    (bndL (op2 addD (ok some') (lstV [(tupV [(ok (dS "case")), (ok (dI 0)), (ok dN), (ok dN)]), (tupV [(ok (dS "case")), (ok (dB true)), (ok dN), (ok dN)]), (lstV [(ok (dS "pairs")), (tupV [])]), (tupV [(ok (dS "pairs")), (tupV [(tupV [(ok (dI 0)), (ok (dI 1))])])])])) fun some'_1 =>
    (bndL (op2 addD (ok some'_1) (lstV [(tupV [(ok (dS "pairs")), (tupV [(tupV [(ok (dI 1)), (ok (dI 0))])])]), (tupV [(ok (dS "pairs")), (tupV [(tupV [(ok (dB false)), (ok (dI 1))])])]), (tupV [(ok (dS "case")), (ok (dI 0)), (ok dN)]), (tupV [(ok (dS "pairs")), (tupV []), (tupV [])]), (tupV [(tupV []), (tupV [])])])) fun some'_2 =>
    (bndL (op2 ixD (ok some'_2) (drw (op1 lenD (ok some'_2)))) fun d => ok (.rt d)))))

def bent_V : Nat → D → Tm D
  | 0, _ => no
  | n + 1, item => retV (β := Unit) (γ := Unit) (bndL (drw (ok (dI 9))) fun pick =>
    (ifL (orL (notB (tst (op2 isiD (ok item) (ok (.v (.ty "tuple")))))) (orL (tst (op2 ltV (op1 lenD (ok item)) (ok (dI 2)))) (tst (op2 (eqD true) (ok pick) (ok (dI 0))))))
    (bndL (penV (ap0 odd_V) []) fun d => ok (.rt d))
    (ifL (tst (op2 (eqD true) (ok pick) (ok (dI 1))))
    (bndL (op1 listD (ok item)) fun d => ok (.rt d))
    (ifL (tst (op2 (eqD true) (ok pick) (ok (dI 2))))
    (bndL (op2 addD (ok item) (tupV [(ok dN)])) fun d => ok (.rt d))
    (ifL (andL (tst (op2 (eqD true) (op2 ixD (ok item) (ok (dI 0))) (ok (dS "case")))) (tst (op2 (eqD true) (op1 lenD (ok item)) (ok (dI 4)))))
    (ifL (tst (op2 (eqD true) (ok pick) (ok (dI 3))))
    (bndL (op2 addD (tupV [(ok (dS "case")), (drw (ok (dI 8)))]) (op3 slD (ok item) (intV (ok (dI 2))) (ok none))) fun d => ok (.rt d))
    (ifL (tst (op2 (eqD true) (ok pick) (ok (dI 4))))
    (bndL (op2 addD (op3 slD (ok item) (ok none) (intV (ok (dI 2)))) (tupV [(op2 ixD (ok item) (ok (dI 3))), (op2 ixD (ok item) (ok (dI 2)))])) fun d => ok (.rt d))
    (ifL (tst (op2 ltV (ok pick) (ok (dI 7))))
    (bndL (op2 addD (op2 addD (op3 slD (ok item) (ok none) (intV (ok (dI 2)))) (tupV [(penV (ap1 (bent_V n)) [(op2 ixD (ok item) (ok (dI 2)))])])) (op3 slD (ok item) (intV (ok (dI 3))) (ok none))) fun d => ok (.rt d))
    (bndL (op2 addD (op3 slD (ok item) (ok none) (intV (ok (dI 3)))) (tupV [(penV (ap1 (bent_V n)) [(op2 ixD (ok item) (ok (dI 3)))])])) fun d => ok (.rt d)))))
    (ifL (notB (tst (op2 isiD (op2 ixD (ok item) (ok (dI 1))) (ok (.v (.ty "tuple"))))))
    (bndL (penV (ap0 odd_V) []) fun d => ok (.rt d))
    (bndL (drw (op2 addD (op1 lenD (op2 ixD (ok item) (ok (dI 1)))) (ok (dI 1)))) fun at' =>
    (bndL (tupV [(drw (ok (dI 7))), (drw (ok (dI 7)))]) fun pair =>
    (ifL (tst (op2 ltV (ok pick) (ok (dI 6))))
    (bndL (tupV [(ok (dS "pairs")), (op2 addD (op3 slD (op2 ixD (ok item) (ok (dI 1))) (ok none) (intV (ok at'))) (op3 slD (op2 ixD (ok item) (ok (dI 1))) (intV (op2 addD (ok at') (ok (dI 1)))) (ok none)))]) fun d => ok (.rt d))
    (bndL (tupV [(ok (dS "pairs")), (op2 addD (op2 addD (op3 slD (op2 ixD (ok item) (ok (dI 1))) (ok none) (intV (ok at'))) (tupV [(ok pair)])) (op3 slD (op2 ixD (ok item) (ok (dI 1))) (intV (op2 subV (op2 addD (ok at') (ok pick)) (ok (dI 6)))) (ok none)))]) fun d => ok (.rt d)))))))))))

def grown_V : Nat → D → D → Tm D
  | 0, _, _ => no
  | n + 1, some', most => retV (β := Unit) (γ := Unit) (bndL (penV (ap1 apart_V) [(ok some')]) fun apart_so =>
    (ifL (andL (tst (op2 ltV (ok most) (ok (dI 0)))) (tst (op2 gtV (drw (ok (dI 3))) (ok (dI 0)))))
    (bndL (ok dN) fun d => ok (.rt d))
    (bndL (lcL (rng1 (ok (dI 7))) fun e => stpL (andL (tst (op2 (inX false) (ok e) (calV (ap2 mates_V) [(ok some'), (ok e)]))) (tst (op2 (eqD false) (calV (ap2 mates_V) [(ok some'), (ok e)]) (lstV [])))) (ok e)) fun numbers =>
    (ifL (orL (tst (op2 (eqD true) (ok numbers) (lstV []))) (orL (tst (op2 ltV (ok most) (ok (dI 0)))) (andL (tst (op2 gtV (op1 lenD (ok apart_so)) (ok most))) (tst (op2 gtV (drw (ok (dI 3))) (ok (dI 0)))))))
    (bndL (tupV [(ok (dS "pairs")), (ok apart_so)]) fun d => ok (.rt d))
    (bndL (op2 ixD (ok numbers) (drw (op1 lenD (ok numbers)))) fun number =>
    (bndL (calV (ap2 mates_V) [(ok some'), (ok number)]) fun mates_here =>
    (bndL (penV (ap2 (grown_V n)) [(calV (ap2 left_V) [(ok some'), (lstV [(ok number)])]), (op2 subV (ok most) (ok (dI 1)))]) fun taken =>
    (bndL (tupV [(ok (dS "case")), (ok number), (ok taken), (penV (ap2 (grown_V n)) [(calV (ap2 left_V) [(ok some'), (ok mates_here)]), (op2 subV (ok most) (op1 lenD (ok mates_here)))])]) fun d => ok (.rt d)))))))))

def law_V : Tm D := retV (β := Unit) (γ := Unit) (bndL (rng1 (ok (dI 8))) fun ds => thL (forL (fun e (q : Unit) =>
    (bndL (penV (ap0 pairs_V) []) fun some' =>
    (bndL (op2 subV (drw (ok (dI 7))) (ok (dI 1))) fun most =>
    (bndL (penV (ap2 (grown_V 10)) [(ok some'), (ok most)]) fun item =>
    (bndL (penV (ap1 (bent_V 24)) [(ok item)]) fun bent_here =>
    (bndL (itV (tupV [(ok item), (ok bent_here), (penV (ap1 (bent_V 24)) [(ok bent_here)]), (penV (ap0 odd_V) [])])) fun ds => thL (forL (fun e_1 (q_1 : Unit) =>
    (bndL (op1 reprQ (tupV [(ok some'), (ok e_1)])) fun kept =>
    (bndL (op1 reprQ (calV (ap3 (fits_V 12)) [(ok some'), (ok most), (ok e_1)])) fun due =>
    (ifL (orL (tst (op2 (eqD false) (op1 reprQ (calV (ap3 shows_cover_V) [(ok some'), (ok most), (ok e_1)])) (ok due))) (tst (op2 (eqD false) (op1 reprQ (tupV [(ok some'), (ok e_1)])) (ok kept))))
    (bndL (ok (dB false)) fun d => ok (.rt d))
    (ifL (tst (op2 (eqD false) (op1 reprQ (kwV [2, 1, 0] (ap3 shows_cover_V) [(ok e_1), (ok most), (op1 tupD (ok some'))])) (ok due)))
    (bndL (ok (dB false)) fun d => ok (.rt d))
    (ok (.nx ()))))))) ds ()) fun (q_1 : Unit) =>
    (ok (.nx ())))))))) ds ()) fun (q : Unit) =>
    (bndL (op2 powV (ok (dI 10)) (ok (dI 20))) fun far =>
    (bndL (lstV [(tupV [(ok (dI 5)), (ok far)]), (tupV [(ok far), (op2 addD (ok far) (ok (dI 1)))]), (tupV [(ok (dI 5)), (op2 addD (ok far) (ok (dI 1)))])]) fun ring =>
    (ifL (tst (op2 (isD false) (calV (ap3 shows_cover_V) [(ok ring), (ok (dI 1)), (tupV [(ok (dS "case")), (ok far), (tupV [(ok (dS "pairs")), (tupV [(tupV [(ok (dI 5)), (op2 addD (ok far) (ok (dI 1)))])])]), (ok dN)])]) (ok (dB true))))
    (bndL (ok (dB false)) fun d => ok (.rt d))
    (bndL (andXL (op2 (isD true) (calV (ap3 shows_cover_V) [(lstV []), (op1 negD (ok (dI 1))), (ok dN)]) (ok (dB true))) (op2 (isD true) (calV (ap3 shows_cover_V) [(lstV []), (ok (dI 0)), (tupV [(ok (dS "pairs")), (tupV [])])]) (ok (dB false)))) fun d => ok (.rt d))))))

end L2.K57
namespace L2.K57
open L2 L2.My L2.DL NdefX PySem PySem.Spec PyProof.Rows
open PM
section
variable {P : Program} {w : World} {K : W.Frag} {mg : Str → Option Value} {base : Heap}
abbrev s_pairs : Stmt := top 12
theorem sc_pairs : FnScope ["_law_pen_here", "_law_found", "_law_lap", "_law_one", "_law_other"] ["_law_pen_here"] (defScope s_pairs) := ⟨rfl, rfl, rfl, by decide +kernel, rfl, by decide +kernel, by decide +kernel⟩
theorem vok_pairs {f : Addr} {fd : FuncData} (F : Fun K "_law_pairs" "_law_pairs" s_pairs f fd) (m_range : mg "range" = none) (c__law_draw : CalG P w K mg base (L2.CX P w) 1 "_law_draw" spDraw) (m_max : mg "max" = none) (m_min : mg "min" = none) :
    FnG P w K mg base (L2.CX P w) 2 f fd ["_law_pen_here"] (spT K [] (ap0 pairs_V)) := by
  refine fn_T F sc_pairs rfl rfl ?_
  intro cdv A outer s H E hr hq
  have hu := hr.units
  have hp := @passX (cxOf (L2.CX P w) P w K mg base ["_law_pen_here", "_law_found", "_law_lap", "_law_one", "_law_other"] "_law_pairs" (defScope s_pairs) f cdv A outer s H E) E (takes_of rfl rfl rfl rfl)
  refine ⟨_, (pss_cons (ps_set (i := 1) sc_pairs.nd rfl (Or.inl rfl) (pe_lst pa_nil))
    (pss_cons (ps_for PassesOwn.leaving rfl (pi_range1 rfl m_range (pa_cons (pe_g c__law_draw hr (by first | decide | omega) hq hp rfl (pa_cons (pv 0) (pa_cons pe_int pa_nil))) pa_nil)) (pg_name (i := 2) sc_pairs.nd rfl (Or.inl rfl)) (pss_cons (ps_par (i := 3) (j := 4) rfl sc_pairs.nd rfl rfl (by decide) rfl rfl (pa_cons (pe_g c__law_draw hr (by first | decide | omega) hq hp rfl (pa_cons (pv 0) (pa_cons pe_int pa_nil))) (pa_cons (pe_g c__law_draw hr (by first | decide | omega) hq hp rfl (pa_cons (pv 0) (pa_cons pe_int pa_nil))) pa_nil)) rfl)
    (pss_one (ps_expr (pe_bm PySem.F.plainAttrs_list PySem.F.slot_list_append PySem.F.type_list_append mt_append (pv 1) (pa_cons (pe_tup (pa_cons (pe_callB (call_min2 rfl) (by rfl) m_min (by decide +kernel) (pa_cons (pv 3) (pa_cons (pv 4) pa_nil))) (pa_cons (pe_callB (call_max2 rfl) (by rfl) m_max (by decide +kernel) (pa_cons (pv 3) (pa_cons (pv 4) pa_nil))) pa_nil))) pa_nil))))))
    (pss_one (ps_ret (pv 1))))), fun p q ns => ⟨_, (ls_seq (ls_own (by decide) (ln_lst rfl ln_nil)) (ls_seq (ls_for (li_rng1 (Ln.lend (ln_draw (ln_cons rfl ln_varb (ln_cons rfl (Ln.lend ln_c) ln_nil))))) lg_name (ls_seq (ls_par (ln_cons rfl (ln_draw (ln_cons rfl ln_varb (ln_cons rfl (Ln.lend ln_c) ln_nil))) (ln_cons rfl (ln_draw (ln_cons rfl ln_varb (ln_cons rfl (Ln.lend ln_c) ln_nil))) ln_nil))) (ls_end (ls_append (ln_tup rfl (ln_cons rfl (ln_cb2 ln_varb ln_varb p2_min2) (ln_cons rfl (ln_cb2 ln_varb ln_varb p2_max2) ln_nil))))))) (ls_end (ls_ret ln_var)))), ?_⟩⟩
  exact db0 (.go (Rn := fun _ _ => True) (Rl := fun _ _ => True) (rs_own (rd_lst ra_nil (Nat.le_of_ble_eq_true rfl)) fun found => (rs_for (R1 := (fun (q : (List D)) ρ => ρ = [.bor ((.v (.ref p))), .own (.lst (q)), .no, .no, .no])) (rl_rng1 (rd_drw (rd_vB rfl) rd_c)) rfl (fun e q ρ h => by obtain rfl := h; exact (rt_n (rs_par (rd_drw (rd_vB rfl) rd_c) (rd_drw (rd_vB rfl) rd_c) fun one other => (rs_app rfl (rd_tup (ra_cons (rd_op (rd_vb rfl) (rd_vb rfl)) (ra_cons (rd_op (rd_vb rfl) (rd_vb rfl)) ra_nil)) (Nat.le_of_ble_eq_true rfl)) fun found_1 => (rs_next ⟨rfl, rfl⟩))))) (fun q ρ h => by obtain rfl := h; exact (rs_ret (rd_v rfl))))))

abbrev s_left : Stmt := top 13
theorem sc_left : FnScope ["_law_some", "_law_gone", "_law_pair"] ["_law_some", "_law_gone"] (defScope s_left) := ⟨rfl, rfl, rfl, by decide +kernel, rfl, by decide +kernel, by decide +kernel⟩
theorem vok_left {f : Addr} {fd : FuncData} (F : Fun K "_law_left" "_law_left" s_left f fd)  :
    FnG P w K mg base (L2.CX P w) 1 f fd ["_law_some", "_law_gone"] (spF K [.b, .b] (foF (ap2 left_V))) := by
  refine fn_V F sc_left rfl rfl ?_
  intro cdv A outer s H E hr hq
  have hu := hr.units
  have hp := @passX (cxOf (L2.CX P w) P w K mg base ["_law_some", "_law_gone", "_law_pair"] "_law_left" (defScope s_left) f cdv A outer s H E) E (takes_of rfl rfl rfl rfl)
  refine ⟨_, (pss_one (ps_ret (pe_lc (own := [("_law_pair", 2)]) (g := gName 2) (tt := _) rfl sc_left.nd (pi_seq (pv 0)) (blkOk_by (N := ["_law_some", "_law_gone", "_law_pair"]) (sc := defScope (top 13)) (by decide +kernel)) (fun _ _ _ _ _ => (pg_name (i := 2) sc_left.nd rfl (Or.inl rfl))) (fun _ _ _ _ _ => (pts_one (PW.pt (pw_and (pt_cmpR (show OpR _ (compareOp .NotIn) (rInX K false) from (op_notInX hu)) (pe_ix (show IxR _ (rIx K) from ix_seq) (pv 2) pe_int (fun _ _ => rfl)) (pv 1) (by rfl)) (pw_and1 (pt_cmpR (show OpR _ (compareOp .NotIn) (rInX K false) from (op_notInX hu)) (pe_ix (show IxR _ (rIx K) from ix_seq) (pv 2) pe_int (fun _ _ => rfl)) (pv 1) (by rfl))))))) (fun _ _ _ _ _ => (pv 2))))), fun S Γ => ⟨_, (ls_end (ls_ret (Ln.weak (ln_lc rfl (li_seqb ln_varb) lg_name ((lt_and (lt_test (Ln.lend (ln_op (Ln.lend (ln_op ln_varb (Ln.lend ln_c) p2_ix)) ln_varb p2_inX))) (lt_test (Ln.lend (ln_op (Ln.lend (ln_op ln_varb (Ln.lend ln_c) p2_ix)) ln_varb p2_inX))))) ln_var)))), ?_⟩⟩
  exact db2 fun some' gone => .go (Rn := fun _ _ => True) (Rl := fun _ _ => True) (rs_ret (rd_lc (rl_seq (rd_vB rfl)) fun e => (rt_n (rc_stp (rd_v rfl) (rb_and (rb_test (rd_op (rd_op (rd_vb rfl) rd_c) (rd_vB rfl))) (rb_test (rd_op (rd_op (rd_vb rfl) rd_c) (rd_vB rfl))))))))

abbrev s_mates : Stmt := top 14
theorem sc_mates : FnScope ["_law_some", "_law_number", "_law_pair"] ["_law_some", "_law_number"] (defScope s_mates) := ⟨rfl, rfl, rfl, by decide +kernel, rfl, by decide +kernel, by decide +kernel⟩
theorem vok_mates {f : Addr} {fd : FuncData} (F : Fun K "_law_mates" "_law_mates" s_mates f fd) (m_set : mg "set" = none) (m_sorted : mg "sorted" = none) :
    FnG P w K mg base (L2.CX P w) 1 f fd ["_law_some", "_law_number"] (spF K [.b, .b] (foF (ap2 mates_V))) := by
  refine fn_V F sc_mates rfl rfl ?_
  intro cdv A outer s H E hr hq
  have hu := hr.units
  have hp := @passX (cxOf (L2.CX P w) P w K mg base ["_law_some", "_law_number", "_law_pair"] "_law_mates" (defScope s_mates) f cdv A outer s H E) E (takes_of rfl rfl rfl rfl)
  refine ⟨_, (pss_one (ps_ret (pe_callB (cr_sortedSet rfl) (by rfl) m_sorted (by decide +kernel) (pa_cons (pe_callTy (cr_setOfU rfl) (by rfl) m_set (by decide +kernel) (pa_cons (pe_lc (own := [("_law_pair", 2)]) (g := gName 2) (tt := _) rfl sc_mates.nd (pi_seq (pv 0)) (blkOk_by (N := ["_law_some", "_law_number", "_law_pair"]) (sc := defScope (top 14)) (by decide +kernel)) (fun _ _ _ _ _ => (pg_name (i := 2) sc_mates.nd rfl (Or.inl rfl))) (fun _ _ _ _ _ => (pts_one (pt_cmpR (show OpR _ (compareOp .In) (rInX K true) from (op_inX hu)) (pv 1) (pv 2) (by rfl)))) (fun _ _ _ _ _ => (pe_op op_sub (pe_op op_addD (pe_ix (show IxR _ (rIx K) from ix_seq) (pv 2) pe_int (fun _ _ => rfl)) (pe_ix (show IxR _ (rIx K) from ix_seq) (pv 2) pe_int (fun _ _ => rfl))) (pv 1)))) pa_nil)) pa_nil)))), fun S Γ => ⟨_, (ls_end (ls_ret (Ln.weak (ln_ssU (Ln.lend (Ln.weak (ln_lc rfl (li_seqb ln_varb) lg_name ((lt_test (Ln.lend (ln_op ln_varb ln_varb p2_inX)))) (ln_op (Ln.lend (ln_op (Ln.lend (ln_op ln_varb (Ln.lend ln_c) p2_ix)) (Ln.lend (ln_op ln_varb (Ln.lend ln_c) p2_ix)) p2_add)) ln_varb p2_rI0)))))))), ?_⟩⟩
  exact db2 fun some' number => .go (Rn := fun _ _ => True) (Rl := fun _ _ => True) (rs_ret (rd_un (rd_lc (rl_seq (rd_vB rfl)) fun e => (rt_n (rc_stp (rd_op (rd_op (rd_op (rd_vb rfl) rd_c) (rd_op (rd_vb rfl) rd_c)) (rd_vB rfl)) (rb_test (rd_op (rd_vB rfl) (rd_vb rfl))))))))

abbrev s_apart : Stmt := top 15
theorem sc_apart : FnScope ["_law_pen_here", "_law_some", "_law_found", "_law_spare", "_law_pair", "_law_one"] ["_law_pen_here", "_law_some"] (defScope s_apart) := ⟨rfl, rfl, rfl, by decide +kernel, rfl, by decide +kernel, by decide +kernel⟩
theorem vok_apart {f : Addr} {fd : FuncData} (F : Fun K "_law_apart" "_law_apart" s_apart f fd) (m_list : mg "list" = none) (c__law_draw : CalG P w K mg base (L2.CX P w) 1 "_law_draw" spDraw) (m_len : mg "len" = none) (m_tuple : mg "tuple" = none) :
    FnG P w K mg base (L2.CX P w) 2 f fd ["_law_pen_here", "_law_some"] (spT K [.b] (ap1 apart_V)) := by
  refine fn_T F sc_apart rfl rfl ?_
  intro cdv A outer s H E hr hq
  have hu := hr.units
  have hp := @passX (cxOf (L2.CX P w) P w K mg base ["_law_pen_here", "_law_some", "_law_found", "_law_spare", "_law_pair", "_law_one"] "_law_apart" (defScope s_apart) f cdv A outer s H E) E (takes_of rfl rfl rfl rfl)
  refine ⟨_, (pss_cons (ps_par (i := 2) (j := 3) rfl sc_apart.nd rfl rfl (by decide) rfl rfl (pa_cons (pe_lst pa_nil) (pa_cons (pe_callTy c_list (by rfl) m_list (by decide +kernel) (pa_cons (pv 1) pa_nil)) pa_nil)) rfl)
    (pss_cons (ps_while PassesOwn.leaving (pt_cmpR (op_neP hu) (pv 3) (pe_lst pa_nil) (nomark _)) (pss_cons (ps_set (i := 4) sc_apart.nd rfl (Or.inr rfl) (pe_bm PySem.F.plainAttrs_list PySem.F.slot_list_pop PySem.F.type_list_pop mt_popAt (pv 3) (pa_cons (pe_g c__law_draw hr (by first | decide | omega) hq hp rfl (pa_cons (pv 0) (pa_cons (pe_callB c_lenD (by rfl) m_len PySem.boot_len (pa_cons (pv 3) pa_nil)) pa_nil))) pa_nil)))
    (pss_one (ps_if (pt_cmpR (op_eqP hu) (pe_lc (own := [("_law_one", 5)]) (g := gName 5) (tt := _) rfl sc_apart.nd (pi_seq (pv 2)) (blkOk_by (N := ["_law_pen_here", "_law_some", "_law_found", "_law_spare", "_law_pair", "_law_one"]) (sc := defScope (top 15)) (by decide +kernel)) (fun _ _ _ _ _ => (pg_name (i := 5) sc_apart.nd rfl (Or.inl rfl))) (fun _ _ _ _ _ => (pts_one (PW.pt (pw_or (pt_cmpR (show OpR _ (compareOp .In) (rInX K true) from (op_inX hu)) (pe_ix (show IxR _ (rIx K) from ix_seq) (pv 5) pe_int (fun _ _ => rfl)) (pv 4) (by rfl)) (pw_or1 (pt_cmpR (show OpR _ (compareOp .In) (rInX K true) from (op_inX hu)) (pe_ix (show IxR _ (rIx K) from ix_seq) (pv 5) pe_int (fun _ _ => rfl)) (pv 4) (by rfl))))))) (fun _ _ _ _ _ => (pv 5))) (pe_lst pa_nil) (nomark _)) (pss_one (ps_expr (pe_bm PySem.F.plainAttrs_list PySem.F.slot_list_append PySem.F.type_list_append mt_append (pv 2) (pa_cons (pv 4) pa_nil)))) pss_nil))))
    (pss_one (ps_ret (pe_callTy call_tuple_of (by rfl) m_tuple (by decide +kernel) (pa_cons (pv 2) pa_nil)))))), fun p q ns => ⟨_, (ls_seq (ls_parFF (by decide) (by decide) (ln_lst rfl ln_nil) (ln_cb1 ln_varb p1_list)) (ls_seq (ls_while (lt_test (Ln.lend (ln_op ln_varb (Ln.lend (Ln.weak (ln_lst rfl ln_nil))) p2_eq))) (ls_seq (ls_popAt lg_name (Ln.lend (ln_draw (ln_cons rfl ln_varb (ln_cons rfl (Ln.lend (ln_cb1 ln_varb p1_len)) ln_nil))))) (ls_end (ls_if (lt_test (Ln.lend (ln_op (Ln.lend (Ln.weak (ln_lc rfl (li_seqb ln_varb) lg_name ((lt_or (lt_test (Ln.lend (ln_op (Ln.lend (ln_op ln_varb (Ln.lend ln_c) p2_ix)) ln_varb p2_inX))) (lt_test (Ln.lend (ln_op (Ln.lend (ln_op ln_varb (Ln.lend ln_c) p2_ix)) ln_varb p2_inX))))) ln_var))) (Ln.lend (Ln.weak (ln_lst rfl ln_nil))) p2_eq))) (ls_end (ls_append ln_var)) ls_next)))) (ls_end (ls_ret (ln_cb1 ln_varb p1_tup))))), ?_⟩⟩
  exact db1 fun some' => .go (Rn := fun _ _ => True) (Rl := fun _ _ => True) (rs_parFF (rd_lst ra_nil (Nat.le_of_ble_eq_true rfl)) (rd_un (rd_vB rfl)) fun found spare => (rs_while (R1 := (fun (q : (List D) × (List D)) ρ => ρ = [.bor ((.v (.ref p))), .bor (some'), .own (.lst (q.1)), .own (.lst (q.2)), .no, .no])) rfl (fun q ρ h => by obtain rfl := h; exact (rb_test (rd_op (rd_vOl rfl) (rd_lst ra_nil (Nat.le_of_ble_eq_true rfl))))) (fun q ρ h => by obtain rfl := h; exact (rs_popAt rfl (rd_drw (rd_vB rfl) (rd_un (rd_vOl rfl))) fun x spare_1 => (rt_n (rs_if (rb_test (rd_op (rd_lc (rl_seq (rd_vOl rfl)) fun e => (rt_n (rc_stp (rd_v rfl) (rb_or (rb_test (rd_op (rd_op (rd_vb rfl) rd_c) (rd_vb rfl))) (rb_test (rd_op (rd_op (rd_vb rfl) rd_c) (rd_vb rfl))))))) (rd_lst ra_nil (Nat.le_of_ble_eq_true rfl)))) (rs_assoc (rs_app rfl (rd_v rfl) fun found_1 => (rs_skip (rs_next ⟨rfl, rfl⟩)))) (rs_skip (rs_next ⟨rfl, rfl⟩)))))) (fun q ρ h => by obtain rfl := h; exact (rs_ret (rd_un (rd_vb rfl))))))

abbrev s_is_pair : Stmt := top 17
theorem sc_is_pair : FnScope ["_law_item", "_law_one"] ["_law_item"] (defScope s_is_pair) := ⟨rfl, rfl, rfl, by decide +kernel, rfl, by decide +kernel, by decide +kernel⟩
theorem vok_is_pair {f : Addr} {fd : FuncData} (F : Fun K "_law_is_pair" "_law_is_pair" s_is_pair f fd) (m_isinstance : mg "isinstance" = none) (m_tuple : mg "tuple" = none) (m_len : mg "len" = none) (m_int : mg "int" = none) (m_bool : mg "bool" = none) :
    FnG P w K mg base (L2.CX P w) 1 f fd ["_law_item"] (spF K [.b] (foF (ap1 is_pair_V))) := by
  refine fn_V F sc_is_pair rfl rfl ?_
  intro cdv A outer s H E hr hq
  have hu := hr.units
  have hp := @passX (cxOf (L2.CX P w) P w K mg base ["_law_item", "_law_one"] "_law_is_pair" (defScope s_is_pair) f cdv A outer s H E) E (takes_of rfl rfl rfl rfl)
  refine ⟨_, (pss_cons (ps_if (PW.pt (pw_or (pt_not (pt_val (pe_callB call_isA (by rfl) m_isinstance (by decide +kernel) (pa_cons (pv 0) (pa_cons (pe_bty "tuple" rfl m_tuple (by decide +kernel)) pa_nil))))) (pw_or1 (pt_cmpR (op_neP hu) (pe_callB c_lenD (by rfl) m_len PySem.boot_len (pa_cons (pv 0) pa_nil)) pe_int (nomark _))))) (pss_one (ps_ret pe_bl)) pss_nil)
    (pss_one (ps_ret (pe_cmpR (op_eqP hu) (pe_lc (own := [("_law_one", 1)]) (g := gName 1) (tt := _) rfl sc_is_pair.nd (pi_seq (pv 0)) (blkOk_by (N := ["_law_item", "_law_one"]) (sc := defScope (top 17)) (by decide +kernel)) (fun _ _ _ _ _ => (pg_name (i := 1) sc_is_pair.nd rfl (Or.inl rfl))) (fun _ _ _ _ _ => (pts_one (PW.pt (pw_or (pt_not (pt_val (pe_callB (show CallR _ (.builtin "isinstance") (rIsA K) from call_isA) (by rfl) m_isinstance (by decide +kernel) (pa_cons (pv 1) (pa_cons (pe_bty "int" rfl m_int (by decide +kernel)) pa_nil))))) (pw_or1 (pt_val (pe_callB (show CallR _ (.builtin "isinstance") (rIsA K) from call_isA) (by rfl) m_isinstance (by decide +kernel) (pa_cons (pv 1) (pa_cons (pe_bty "bool" rfl m_bool (by decide +kernel)) pa_nil))))))))) (fun _ _ _ _ _ => (pv 1))) (pe_lst pa_nil) (nomark _))))), fun S Γ => ⟨_, (ls_seq (ls_if (lt_or (lt_not (lt_val (Ln.lend (ln_cb2 ln_varb (Ln.lend ln_c) p2_isi)))) (lt_test (Ln.lend (ln_op (Ln.lend (ln_cb1 ln_varb p1_len)) (Ln.lend ln_c) p2_eq)))) (ls_end (ls_ret ln_c)) ls_next) (ls_end (ls_ret (ln_op (Ln.lend (Ln.weak (ln_lc rfl (li_seqb ln_varb) lg_name ((lt_or (lt_not (lt_val (Ln.lend (ln_cb2 ln_varb (Ln.lend ln_c) p2_isi)))) (lt_val (Ln.lend (ln_cb2 ln_varb (Ln.lend ln_c) p2_isi))))) ln_var))) (Ln.lend (Ln.weak (ln_lst rfl ln_nil))) p2_eq)))), ?_⟩⟩
  exact db1 fun item => .go (Rn := fun _ _ => True) (Rl := fun _ _ => True) (rs_if (rb_or (rb_not (rb_test (rd_op (rd_vB rfl) rd_c))) (rb_test (rd_op (rd_un (rd_vB rfl)) rd_c))) (rs_assoc (rs_ret rd_c)) (rs_skip (rs_ret (rd_op (rd_lc (rl_seq (rd_vB rfl)) fun e => (rt_n (rc_stp (rd_v rfl) (rb_or (rb_not (rb_test (rd_op (rd_vb rfl) rd_c))) (rb_test (rd_op (rd_vb rfl) rd_c)))))) (rd_lst ra_nil (Nat.le_of_ble_eq_true rfl))))))

abbrev s_fits : Stmt := top 18
theorem sc_fits : FnScope ["_law_some", "_law_most", "_law_item", "_law_shown", "_law_pair", "_law_number", "_law_mates_here"] ["_law_some", "_law_most", "_law_item"] (defScope s_fits) := ⟨rfl, rfl, rfl, by decide +kernel, rfl, by decide +kernel, by decide +kernel⟩
theorem vok_fits (n : Nat) {f : Addr} {fd : FuncData} (F : Fun K "_law_fits" "_law_fits" s_fits f fd) (m_isinstance : mg "isinstance" = none) (m_tuple : mg "tuple" = none) (m_len : mg "len" = none) (m_str : mg "str" = none) (c__law_is_pair : CalG P w K mg base (L2.CX P w) 1 "_law_is_pair" (spF K [.b] (foF (ap1 is_pair_V)))) (m_set : mg "set" = none) (m_sorted : mg "sorted" = none) (m_int : mg "int" = none) (m_bool : mg "bool" = none) (c__law_mates : CalG P w K mg base (L2.CX P w) 1 "_law_mates" (spF K [.b, .b] (foF (ap2 mates_V)))) (c__law_fits : CalG P w K mg base (L2.CX P w) (2 + n) "_law_fits" (spF K [.b, .b, .b] (foF (ap3 (fits_V n))))) (c__law_left : CalG P w K mg base (L2.CX P w) 1 "_law_left" (spF K [.b, .b] (foF (ap2 left_V)))) :
    FnG P w K mg base (L2.CX P w) (2 + n + 1) f fd ["_law_some", "_law_most", "_law_item"] (spF K [.b, .b, .b] (foF (ap3 (fits_V (n + 1))))) := by
  refine fn_V F sc_fits rfl rfl ?_
  intro cdv A outer s H E hr hq
  have hu := hr.units
  have hp := @passX (cxOf (L2.CX P w) P w K mg base ["_law_some", "_law_most", "_law_item", "_law_shown", "_law_pair", "_law_number", "_law_mates_here"] "_law_fits" (defScope s_fits) f cdv A outer s H E) E (takes_of rfl rfl rfl rfl)
  refine ⟨_, (pss_cons (ps_if (pt_cmpR op_isD (pv 2) pe_non (nomark _)) (pss_one (ps_ret (pe_cmpR op_ltD (pv 1) pe_int (nomark _)))) pss_nil)
    (pss_cons (ps_if (PW.pt (pw_or (pt_not (pt_val (pe_callB call_isA (by rfl) m_isinstance (by decide +kernel) (pa_cons (pv 2) (pa_cons (pe_bty "tuple" rfl m_tuple (by decide +kernel)) pa_nil))))) (pw_or (pt_cmpR (op_notInX hu) (pe_callB c_lenD (by rfl) m_len PySem.boot_len (pa_cons (pv 2) pa_nil)) (pe_tup (pa_cons pe_int (pa_cons pe_int pa_nil))) (by rfl)) (pw_or1 (pt_not (pt_val (pe_callB call_isA (by rfl) m_isinstance (by decide +kernel) (pa_cons (pe_ix ix_seq (pv 2) pe_int (fun _ _ => rfl)) (pa_cons (pe_bty "str" rfl m_str (by decide +kernel)) pa_nil))))))))) (pss_one (ps_ret pe_bl)) pss_nil)
    (pss_cons (ps_if (pt_cmpR (op_eqP hu) (pe_callB c_lenD (by rfl) m_len PySem.boot_len (pa_cons (pv 2) pa_nil)) pe_int (nomark _)) (pss_cons (ps_if (PW.pt (pw_or (pt_cmpR (op_neP hu) (pe_ix ix_seq (pv 2) pe_int (fun _ _ => rfl)) pe_str (nomark _)) (pw_or1 (pt_not (pt_val (pe_callB call_isA (by rfl) m_isinstance (by decide +kernel) (pa_cons (pe_ix ix_seq (pv 2) pe_int (fun _ _ => rfl)) (pa_cons (pe_bty "tuple" rfl m_tuple (by decide +kernel)) pa_nil)))))))) (pss_one (ps_ret pe_bl)) pss_nil)
    (pss_cons (ps_if (pt_cmpR (op_neP hu) (pe_lc (own := [("_law_pair", 4)]) (g := gName 4) (tt := _) rfl sc_fits.nd (pi_seq (pe_ix ix_seq (pv 2) pe_int (fun _ _ => rfl))) (blkOk_by (N := ["_law_some", "_law_most", "_law_item", "_law_shown", "_law_pair", "_law_number", "_law_mates_here"]) (sc := defScope (top 18)) (by decide +kernel)) (fun _ _ _ _ _ => (pg_name (i := 4) sc_fits.nd rfl (Or.inl rfl))) (fun _ _ _ _ _ => (pts_one (PW.pt (pw_or (pt_not (pt_val (pe_g c__law_is_pair hr (by first | decide | omega) hq passF rfl (pa_cons (pv 4) pa_nil)))) (pw_or1 (pt_cmpR (show OpR _ (compareOp .NotIn) (rInX K false) from (op_notInX hu)) (pv 4) (pv 0) (by rfl))))))) (fun _ _ _ _ _ => (pv 4))) (pe_lst pa_nil) (nomark _)) (pss_one (ps_ret pe_bl)) pss_nil)
    (pss_cons (ps_set (i := 3) sc_fits.nd rfl (Or.inl rfl) (pe_lst pa_nil))
    (pss_cons (ps_for PassesOwn.leaving rfl (pi_seq (pe_ix ix_seq (pv 2) pe_int (fun _ _ => rfl))) (pg_name (i := 4) sc_fits.nd rfl (Or.inl rfl)) (pss_one (ps_set (i := 3) sc_fits.nd rfl (Or.inl rfl) (pe_op op_addD (pv 3) (pe_callB (cr_sortedSet rfl) (by rfl) m_sorted (by decide +kernel) (pa_cons (pe_callTy (cr_setOfU rfl) (by rfl) m_set (by decide +kernel) (pa_cons (pv 4) pa_nil)) pa_nil))))))
    (pss_one (ps_ret (pe_and (pe_cmpR (op_eqP hu) (pe_lenSetV rfl rfl m_len rfl m_set (pv 3)) (pe_callB c_lenD (by rfl) m_len PySem.boot_len (pa_cons (pv 3) pa_nil)) (nomark _)) (pe_one (pe_cmpR op_gtD (pe_callB c_lenD (by rfl) m_len PySem.boot_len (pa_cons (pe_ix ix_seq (pv 2) pe_int (fun _ _ => rfl)) pa_nil)) (pv 1) (nomark _)))))))))) pss_nil)
    (pss_cons (ps_set (i := 5) sc_fits.nd rfl (Or.inl rfl) (pe_ix ix_seq (pv 2) pe_int (fun _ _ => rfl)))
    (pss_cons (ps_if (PW.pt (pw_or (pt_cmpR (op_neP hu) (pe_ix ix_seq (pv 2) pe_int (fun _ _ => rfl)) pe_str (nomark _)) (pw_or (pt_not (pt_val (pe_callB call_isA (by rfl) m_isinstance (by decide +kernel) (pa_cons (pv 5) (pa_cons (pe_bty "int" rfl m_int (by decide +kernel)) pa_nil))))) (pw_or1 (pt_val (pe_callB call_isA (by rfl) m_isinstance (by decide +kernel) (pa_cons (pv 5) (pa_cons (pe_bty "bool" rfl m_bool (by decide +kernel)) pa_nil)))))))) (pss_one (ps_ret pe_bl)) pss_nil)
    (pss_cons (ps_set (i := 6) sc_fits.nd rfl (Or.inl rfl) (pe_g c__law_mates hr (by first | decide | omega) hq hp rfl (pa_cons (pv 0) (pa_cons (pv 5) pa_nil))))
    (pss_cons (ps_if (PW.pt (pw_or (pt_cmpR (op_eqP hu) (pv 6) (pe_lst pa_nil) (nomark _)) (pw_or1 (pt_cmpR (op_inX hu) (pv 5) (pv 6) (by rfl))))) (pss_one (ps_ret pe_bl)) pss_nil)
    (pss_cons (ps_if (pt_not (pt_val (pe_g c__law_fits hr (by first | decide | omega) hq hp rfl (pa_cons (pe_g c__law_left hr (by first | decide | omega) hq hp rfl (pa_cons (pv 0) (pa_cons (pe_lst (pa_cons (pv 5) pa_nil)) pa_nil))) (pa_cons (pe_op op_sub (pv 1) pe_int) (pa_cons (pe_ix ix_seq (pv 2) pe_int (fun _ _ => rfl)) pa_nil)))))) (pss_one (ps_ret pe_bl)) pss_nil)
    (pss_one (ps_ret (pe_g c__law_fits hr (by first | decide | omega) hq hp rfl (pa_cons (pe_g c__law_left hr (by first | decide | omega) hq hp rfl (pa_cons (pv 0) (pa_cons (pv 6) pa_nil))) (pa_cons (pe_op op_sub (pv 1) (pe_callB c_lenD (by rfl) m_len PySem.boot_len (pa_cons (pv 6) pa_nil))) (pa_cons (pe_ix ix_seq (pv 2) pe_int (fun _ _ => rfl)) pa_nil)))))))))))))), fun S Γ => ⟨_, (ls_seq (ls_if (lt_test (Ln.lend (ln_op ln_varb (Ln.lend ln_c) p2_is))) (ls_end (ls_ret (ln_op ln_varb (Ln.lend ln_c) p2_cmp))) ls_next) (ls_seq (ls_if (lt_or (lt_not (lt_val (Ln.lend (ln_cb2 ln_varb (Ln.lend ln_c) p2_isi)))) (lt_or (lt_test (Ln.lend (ln_op (Ln.lend (ln_cb1 ln_varb p1_len)) (Ln.lend (ln_tup rfl (ln_cons rfl ln_c (ln_cons rfl ln_c ln_nil)))) p2_inX))) (lt_not (lt_val (Ln.lend (ln_cb2 (Ln.lend (ln_op ln_varb (Ln.lend ln_c) p2_ix)) (Ln.lend ln_c) p2_isi)))))) (ls_end (ls_ret ln_c)) ls_next) (ls_seq (ls_if (lt_test (Ln.lend (ln_op (Ln.lend (ln_cb1 ln_varb p1_len)) (Ln.lend ln_c) p2_eq))) (ls_seq (ls_if (lt_or (lt_test (Ln.lend (ln_op (Ln.lend (ln_op ln_varb (Ln.lend ln_c) p2_ix)) (Ln.lend ln_c) p2_eq))) (lt_not (lt_val (Ln.lend (ln_cb2 (Ln.lend (ln_op ln_varb (Ln.lend ln_c) p2_ix)) (Ln.lend ln_c) p2_isi))))) (ls_end (ls_ret ln_c)) ls_next) (ls_seq (ls_if (lt_test (Ln.lend (ln_op (Ln.lend (Ln.weak (ln_lc rfl (li_seqb (Ln.lend (ln_op ln_varb (Ln.lend ln_c) p2_ix))) lg_name ((lt_or (lt_not (lt_val (Ln.lend (ln_call rfl (ln_cons rfl ln_varb ln_nil))))) (lt_test (Ln.lend (ln_op ln_varb ln_varb p2_inX))))) ln_var))) (Ln.lend (Ln.weak (ln_lst rfl ln_nil))) p2_eq))) (ls_end (ls_ret ln_c)) ls_next) (ls_seq (ls_set (Ln.weak (ln_lst rfl ln_nil))) (ls_seq (ls_for (li_seq (ln_op ln_varb (Ln.lend ln_c) p2_ix)) lg_name (ls_end (ls_set (ln_op ln_varb (Ln.lend (Ln.weak (ln_ssU ln_varb))) p2_add)))) (ls_end (ls_ret (ln_andM (mo := .s) (by decide) (Ln.lend (ln_op (Ln.lend (ln_un ln_varb p1_lset)) (Ln.lend (ln_cb1 ln_varb p1_len)) p2_eq)) (ln_op (Ln.lend (ln_cb1 (Ln.lend (ln_op ln_varb (Ln.lend ln_c) p2_ix)) p1_len)) ln_varb p2_cmp)))))))) ls_next) (ls_seq (ls_set (ln_op ln_varb (Ln.lend ln_c) p2_ix)) (ls_seq (ls_if (lt_or (lt_test (Ln.lend (ln_op (Ln.lend (ln_op ln_varb (Ln.lend ln_c) p2_ix)) (Ln.lend ln_c) p2_eq))) (lt_or (lt_not (lt_val (Ln.lend (ln_cb2 ln_varb (Ln.lend ln_c) p2_isi)))) (lt_val (Ln.lend (ln_cb2 ln_varb (Ln.lend ln_c) p2_isi))))) (ls_end (ls_ret ln_c)) ls_next) (ls_seq (ls_set (ln_call rfl (ln_cons rfl ln_varb (ln_cons rfl ln_varb ln_nil)))) (ls_seq (ls_if (lt_or (lt_test (Ln.lend (ln_op ln_varb (Ln.lend (Ln.weak (ln_lst rfl ln_nil))) p2_eq))) (lt_test (Ln.lend (ln_op ln_varb ln_varb p2_inX)))) (ls_end (ls_ret ln_c)) ls_next) (ls_seq (ls_if (lt_not (lt_val (Ln.lend (ln_call rfl (ln_cons rfl (Ln.lend (ln_call rfl (ln_cons rfl ln_varb (ln_cons rfl (Ln.lend (Ln.weak (ln_lst rfl (ln_cons rfl ln_var ln_nil)))) ln_nil)))) (ln_cons rfl (Ln.lend (ln_op ln_varb (Ln.lend ln_c) p2_rI0)) (ln_cons rfl (Ln.lend (ln_op ln_varb (Ln.lend ln_c) p2_ix)) ln_nil))))))) (ls_end (ls_ret ln_c)) ls_next) (ls_end (ls_ret (ln_call rfl (ln_cons rfl (Ln.lend (ln_call rfl (ln_cons rfl ln_varb (ln_cons rfl ln_varb ln_nil)))) (ln_cons rfl (Ln.lend (ln_op ln_varb (Ln.lend (ln_cb1 ln_varb p1_len)) p2_rI0)) (ln_cons rfl (Ln.lend (ln_op ln_varb (Ln.lend ln_c) p2_ix)) ln_nil)))))))))))))), ?_⟩⟩
  exact db3 fun some' most item => .go (Rn := fun _ _ => True) (Rl := fun _ _ => True) (rs_if (rb_test (rd_op (rd_vB rfl) rd_c)) (rs_assoc (rs_ret (rd_op (rd_vB rfl) rd_c))) (rs_skip (rs_if (rb_or (rb_not (rb_test (rd_op (rd_vB rfl) rd_c))) (rb_or (rb_test (rd_op (rd_un (rd_vB rfl)) (rd_tup (ra_cons rd_c (ra_cons rd_c ra_nil)) (Nat.le_of_ble_eq_true rfl)))) (rb_not (rb_test (rd_op (rd_op (rd_vB rfl) rd_c) rd_c))))) (rs_assoc (rs_ret rd_c)) (rs_skip (rs_if (rb_test (rd_op (rd_un (rd_vB rfl)) rd_c)) (rs_assoc (rs_if (rb_or (rb_test (rd_op (rd_op (rd_vB rfl) rd_c) rd_c)) (rb_not (rb_test (rd_op (rd_op (rd_vB rfl) rd_c) rd_c)))) (rs_assoc (rs_ret rd_c)) (rs_skip (rs_assoc (rs_if (rb_test (rd_op (rd_lc (rl_seq (rd_op (rd_vB rfl) rd_c)) fun e => (rt_n (rc_stp (rd_v rfl) (rb_or (rb_not (rb_test (rd_call (ra_cons (rd_vb rfl) ra_nil)))) (rb_test (rd_op (rd_vb rfl) (rd_vB rfl))))))) (rd_lst ra_nil (Nat.le_of_ble_eq_true rfl)))) (rs_assoc (rs_ret rd_c)) (rs_skip (rs_assoc (rs_set (rd_lst ra_nil (Nat.le_of_ble_eq_true rfl)) fun shown => (rs_assoc (rs_for (R1 := (fun (q : (D)) ρ => ρ = [.bor (some'), .bor (most), .bor (item), .d (q), .no, .no, .no])) (rl_seq (rd_op (rd_vB rfl) rd_c)) rfl (fun e_1 q ρ h => by obtain rfl := h; exact (rt_n (rs_set (rd_op (rd_vb rfl) (rd_un (rd_vb rfl))) fun shown_1 => (rs_next ⟨rfl, rfl⟩)))) (fun q ρ h => by obtain rfl := h; exact (rs_assoc (rs_ret (rd_and (rd_op (rd_un (rd_vb rfl)) (rd_un (rd_vb rfl))) (rd_op (rd_un (rd_op (rd_vB rfl) rd_c)) (rd_vB rfl)))))))))))))))) (rs_skip (rs_set (rd_op (rd_vB rfl) rd_c) fun number => (rs_if (rb_or (rb_test (rd_op (rd_op (rd_vB rfl) rd_c) rd_c)) (rb_or (rb_not (rb_test (rd_op (rd_vb rfl) rd_c))) (rb_test (rd_op (rd_vb rfl) rd_c)))) (rs_assoc (rs_ret rd_c)) (rs_skip (rs_set (rd_call (ra_cons (rd_vB rfl) (ra_cons (rd_vb rfl) ra_nil))) fun mates_here => (rs_if (rb_or (rb_test (rd_op (rd_vb rfl) (rd_lst ra_nil (Nat.le_of_ble_eq_true rfl)))) (rb_test (rd_op (rd_vb rfl) (rd_vb rfl)))) (rs_assoc (rs_ret rd_c)) (rs_skip (rs_if (rb_not (rb_test (rd_call (ra_cons (rd_call (ra_cons (rd_vB rfl) (ra_cons (rd_lst (ra_cons (rd_v rfl) ra_nil) (Nat.le_of_ble_eq_true rfl)) ra_nil))) (ra_cons (rd_op (rd_vB rfl) rd_c) (ra_cons (rd_op (rd_vB rfl) rd_c) ra_nil)))))) (rs_assoc (rs_ret rd_c)) (rs_skip (rs_ret (rd_call (ra_cons (rd_call (ra_cons (rd_vB rfl) (ra_cons (rd_vb rfl) ra_nil))) (ra_cons (rd_op (rd_vB rfl) (rd_un (rd_vb rfl))) (ra_cons (rd_op (rd_vB rfl) rd_c) ra_nil)))))))))))))))))))

abbrev s_odd : Stmt := top 19
theorem sc_odd : FnScope ["_law_pen_here", "_law_some"] ["_law_pen_here"] (defScope s_odd) := ⟨rfl, rfl, rfl, by decide +kernel, rfl, by decide +kernel, by decide +kernel⟩
theorem vok_odd {f : Addr} {fd : FuncData} (F : Fun K "_law_odd" "_law_odd" s_odd f fd) (c__law_draw : CalG P w K mg base (L2.CX P w) 1 "_law_draw" spDraw) (m_len : mg "len" = none) :
    FnG P w K mg base (L2.CX P w) 2 f fd ["_law_pen_here"] (spT K [] (ap0 odd_V)) := by
  refine fn_T F sc_odd rfl rfl ?_
  intro cdv A outer s H E hr hq
  have hu := hr.units
  have hp := @passX (cxOf (L2.CX P w) P w K mg base ["_law_pen_here", "_law_some"] "_law_odd" (defScope s_odd) f cdv A outer s H E) E (takes_of rfl rfl rfl rfl)
  refine ⟨_, (pss_cons (ps_set (i := 1) sc_odd.nd rfl (Or.inl rfl) (pe_lst (pa_cons pe_non (pa_cons pe_bl (pa_cons pe_int (pa_cons pe_str (pa_cons pe_str (pa_cons (pe_tup pa_nil) (pa_cons (pe_lst pa_nil) (pa_cons pe_dnewK (pa_cons (pe_tup (pa_cons pe_str pa_nil)) (pa_cons (pe_tup (pa_cons pe_str (pa_cons (pe_tup pa_nil) pa_nil))) (pa_cons (pe_tup (pa_cons pe_str (pa_cons pe_non pa_nil))) (pa_cons (pe_tup (pa_cons pe_str (pa_cons (pe_lst (pa_cons (pe_tup (pa_cons pe_int (pa_cons pe_int pa_nil))) pa_nil)) pa_nil))) pa_nil))))))))))))))
    (pss_cons (ps_set (i := 1) sc_odd.nd rfl (Or.inl rfl) (pe_op op_addD (pv 1) (pe_lst (pa_cons (pe_tup (pa_cons pe_str (pa_cons pe_int (pa_cons pe_non (pa_cons pe_non pa_nil))))) (pa_cons (pe_tup (pa_cons pe_str (pa_cons pe_bl (pa_cons pe_non (pa_cons pe_non pa_nil))))) (pa_cons (pe_lst (pa_cons pe_str (pa_cons (pe_tup pa_nil) pa_nil))) (pa_cons (pe_tup (pa_cons pe_str (pa_cons (pe_tup (pa_cons (pe_tup (pa_cons pe_int (pa_cons pe_int pa_nil))) pa_nil)) pa_nil))) pa_nil)))))))
    (pss_cons (ps_set (i := 1) sc_odd.nd rfl (Or.inl rfl) (pe_op op_addD (pv 1) (pe_lst (pa_cons (pe_tup (pa_cons pe_str (pa_cons (pe_tup (pa_cons (pe_tup (pa_cons pe_int (pa_cons pe_int pa_nil))) pa_nil)) pa_nil))) (pa_cons (pe_tup (pa_cons pe_str (pa_cons (pe_tup (pa_cons (pe_tup (pa_cons pe_bl (pa_cons pe_int pa_nil))) pa_nil)) pa_nil))) (pa_cons (pe_tup (pa_cons pe_str (pa_cons pe_int (pa_cons pe_non pa_nil)))) (pa_cons (pe_tup (pa_cons pe_str (pa_cons (pe_tup pa_nil) (pa_cons (pe_tup pa_nil) pa_nil)))) (pa_cons (pe_tup (pa_cons (pe_tup pa_nil) (pa_cons (pe_tup pa_nil) pa_nil))) pa_nil))))))))
    (pss_one (ps_ret (pe_ix ix_seq (pv 1) (pe_g c__law_draw hr (by first | decide | omega) hq hp rfl (pa_cons (pv 0) (pa_cons (pe_callB c_lenD (by rfl) m_len PySem.boot_len (pa_cons (pv 1) pa_nil)) pa_nil))) (fun _ _ => rfl))))))), fun p q ns => ⟨_, (ls_seq (ls_set (Ln.weak (ln_lst rfl (ln_cons rfl ln_c (ln_cons rfl ln_c (ln_cons rfl ln_c (ln_cons rfl ln_c (ln_cons rfl ln_c (ln_cons rfl (ln_tup rfl ln_nil) (ln_cons rfl (Ln.weak (ln_lst rfl ln_nil)) (ln_cons rfl (Ln.weak ln_dct0) (ln_cons rfl (ln_tup rfl (ln_cons rfl ln_c ln_nil)) (ln_cons rfl (ln_tup rfl (ln_cons rfl ln_c (ln_cons rfl (ln_tup rfl ln_nil) ln_nil))) (ln_cons rfl (ln_tup rfl (ln_cons rfl ln_c (ln_cons rfl ln_c ln_nil))) (ln_cons rfl (ln_tup rfl (ln_cons rfl ln_c (ln_cons rfl (Ln.weak (ln_lst rfl (ln_cons rfl (ln_tup rfl (ln_cons rfl ln_c (ln_cons rfl ln_c ln_nil))) ln_nil))) ln_nil))) ln_nil))))))))))))))) (ls_seq (ls_set (ln_op ln_varb (Ln.lend (Ln.weak (ln_lst rfl (ln_cons rfl (ln_tup rfl (ln_cons rfl ln_c (ln_cons rfl ln_c (ln_cons rfl ln_c (ln_cons rfl ln_c ln_nil))))) (ln_cons rfl (ln_tup rfl (ln_cons rfl ln_c (ln_cons rfl ln_c (ln_cons rfl ln_c (ln_cons rfl ln_c ln_nil))))) (ln_cons rfl (Ln.weak (ln_lst rfl (ln_cons rfl ln_c (ln_cons rfl (ln_tup rfl ln_nil) ln_nil)))) (ln_cons rfl (ln_tup rfl (ln_cons rfl ln_c (ln_cons rfl (ln_tup rfl (ln_cons rfl (ln_tup rfl (ln_cons rfl ln_c (ln_cons rfl ln_c ln_nil))) ln_nil)) ln_nil))) ln_nil))))))) p2_add)) (ls_seq (ls_set (ln_op ln_varb (Ln.lend (Ln.weak (ln_lst rfl (ln_cons rfl (ln_tup rfl (ln_cons rfl ln_c (ln_cons rfl (ln_tup rfl (ln_cons rfl (ln_tup rfl (ln_cons rfl ln_c (ln_cons rfl ln_c ln_nil))) ln_nil)) ln_nil))) (ln_cons rfl (ln_tup rfl (ln_cons rfl ln_c (ln_cons rfl (ln_tup rfl (ln_cons rfl (ln_tup rfl (ln_cons rfl ln_c (ln_cons rfl ln_c ln_nil))) ln_nil)) ln_nil))) (ln_cons rfl (ln_tup rfl (ln_cons rfl ln_c (ln_cons rfl ln_c (ln_cons rfl ln_c ln_nil)))) (ln_cons rfl (ln_tup rfl (ln_cons rfl ln_c (ln_cons rfl (ln_tup rfl ln_nil) (ln_cons rfl (ln_tup rfl ln_nil) ln_nil)))) (ln_cons rfl (ln_tup rfl (ln_cons rfl (ln_tup rfl ln_nil) (ln_cons rfl (ln_tup rfl ln_nil) ln_nil))) ln_nil)))))))) p2_add)) (ls_end (ls_ret (ln_op ln_varb (Ln.lend (ln_draw (ln_cons rfl ln_varb (ln_cons rfl (Ln.lend (ln_cb1 ln_varb p1_len)) ln_nil)))) p2_ix)))))), ?_⟩⟩
  exact db0 (.go (Rn := fun _ _ => True) (Rl := fun _ _ => True) (rs_set (rd_lst (ra_cons rd_c (ra_cons rd_c (ra_cons rd_c (ra_cons rd_c (ra_cons rd_c (ra_cons (rd_tup ra_nil (Nat.le_of_ble_eq_true rfl)) (ra_cons (rd_lst ra_nil (Nat.le_of_ble_eq_true rfl)) (ra_cons rd_c (ra_cons (rd_tup (ra_cons rd_c ra_nil) (Nat.le_of_ble_eq_true rfl)) (ra_cons (rd_tup (ra_cons rd_c (ra_cons (rd_tup ra_nil (Nat.le_of_ble_eq_true rfl)) ra_nil)) (Nat.le_of_ble_eq_true rfl)) (ra_cons (rd_tup (ra_cons rd_c (ra_cons rd_c ra_nil)) (Nat.le_of_ble_eq_true rfl)) (ra_cons (rd_tup (ra_cons rd_c (ra_cons (rd_lst (ra_cons (rd_tup (ra_cons rd_c (ra_cons rd_c ra_nil)) (Nat.le_of_ble_eq_true rfl)) ra_nil) (Nat.le_of_ble_eq_true rfl)) ra_nil)) (Nat.le_of_ble_eq_true rfl)) ra_nil)))))))))))) (Nat.le_of_ble_eq_true rfl)) fun some' => (rs_set (rd_op (rd_vb rfl) (rd_lst (ra_cons (rd_tup (ra_cons rd_c (ra_cons rd_c (ra_cons rd_c (ra_cons rd_c ra_nil)))) (Nat.le_of_ble_eq_true rfl)) (ra_cons (rd_tup (ra_cons rd_c (ra_cons rd_c (ra_cons rd_c (ra_cons rd_c ra_nil)))) (Nat.le_of_ble_eq_true rfl)) (ra_cons (rd_lst (ra_cons rd_c (ra_cons (rd_tup ra_nil (Nat.le_of_ble_eq_true rfl)) ra_nil)) (Nat.le_of_ble_eq_true rfl)) (ra_cons (rd_tup (ra_cons rd_c (ra_cons (rd_tup (ra_cons (rd_tup (ra_cons rd_c (ra_cons rd_c ra_nil)) (Nat.le_of_ble_eq_true rfl)) ra_nil) (Nat.le_of_ble_eq_true rfl)) ra_nil)) (Nat.le_of_ble_eq_true rfl)) ra_nil)))) (Nat.le_of_ble_eq_true rfl))) fun some'_1 => (rs_set (rd_op (rd_vb rfl) (rd_lst (ra_cons (rd_tup (ra_cons rd_c (ra_cons (rd_tup (ra_cons (rd_tup (ra_cons rd_c (ra_cons rd_c ra_nil)) (Nat.le_of_ble_eq_true rfl)) ra_nil) (Nat.le_of_ble_eq_true rfl)) ra_nil)) (Nat.le_of_ble_eq_true rfl)) (ra_cons (rd_tup (ra_cons rd_c (ra_cons (rd_tup (ra_cons (rd_tup (ra_cons rd_c (ra_cons rd_c ra_nil)) (Nat.le_of_ble_eq_true rfl)) ra_nil) (Nat.le_of_ble_eq_true rfl)) ra_nil)) (Nat.le_of_ble_eq_true rfl)) (ra_cons (rd_tup (ra_cons rd_c (ra_cons rd_c (ra_cons rd_c ra_nil))) (Nat.le_of_ble_eq_true rfl)) (ra_cons (rd_tup (ra_cons rd_c (ra_cons (rd_tup ra_nil (Nat.le_of_ble_eq_true rfl)) (ra_cons (rd_tup ra_nil (Nat.le_of_ble_eq_true rfl)) ra_nil))) (Nat.le_of_ble_eq_true rfl)) (ra_cons (rd_tup (ra_cons (rd_tup ra_nil (Nat.le_of_ble_eq_true rfl)) (ra_cons (rd_tup ra_nil (Nat.le_of_ble_eq_true rfl)) ra_nil)) (Nat.le_of_ble_eq_true rfl)) ra_nil))))) (Nat.le_of_ble_eq_true rfl))) fun some'_2 => (rs_ret (rd_op (rd_vb rfl) (rd_drw (rd_vB rfl) (rd_un (rd_vb rfl)))))))))

abbrev s_bent : Stmt := top 20
theorem sc_bent : FnScope ["_law_pen_here", "_law_item", "_law_pick", "_law_at", "_law_pair"] ["_law_pen_here", "_law_item"] (defScope s_bent) := ⟨rfl, rfl, rfl, by decide +kernel, rfl, by decide +kernel, by decide +kernel⟩
theorem vok_bent (n : Nat) {f : Addr} {fd : FuncData} (F : Fun K "_law_bent" "_law_bent" s_bent f fd) (c__law_draw : CalG P w K mg base (L2.CX P w) 1 "_law_draw" spDraw) (m_isinstance : mg "isinstance" = none) (m_tuple : mg "tuple" = none) (m_len : mg "len" = none) (c__law_odd : CalG P w K mg base (L2.CX P w) 2 "_law_odd" (spT K [] (ap0 odd_V))) (m_list : mg "list" = none) (c__law_bent : CalG P w K mg base (L2.CX P w) (3 + n) "_law_bent" (spT K [.b] (ap1 (bent_V n)))) :
    FnG P w K mg base (L2.CX P w) (3 + n + 1) f fd ["_law_pen_here", "_law_item"] (spT K [.b] (ap1 (bent_V (n + 1)))) := by
  refine fn_T F sc_bent rfl rfl ?_
  intro cdv A outer s H E hr hq
  have hu := hr.units
  have hp := @passX (cxOf (L2.CX P w) P w K mg base ["_law_pen_here", "_law_item", "_law_pick", "_law_at", "_law_pair"] "_law_bent" (defScope s_bent) f cdv A outer s H E) E (takes_of rfl rfl rfl rfl)
  refine ⟨_, (pss_cons (ps_set (i := 2) sc_bent.nd rfl (Or.inl rfl) (pe_g c__law_draw hr (by first | decide | omega) hq hp rfl (pa_cons (pv 0) (pa_cons pe_int pa_nil))))
    (pss_cons (ps_if (PW.pt (pw_or (pt_not (pt_val (pe_callB call_isA (by rfl) m_isinstance (by decide +kernel) (pa_cons (pv 1) (pa_cons (pe_bty "tuple" rfl m_tuple (by decide +kernel)) pa_nil))))) (pw_or (pt_cmpR op_ltD (pe_callB c_lenD (by rfl) m_len PySem.boot_len (pa_cons (pv 1) pa_nil)) pe_int (nomark _)) (pw_or1 (pt_cmpR (op_eqP hu) (pv 2) pe_int (nomark _)))))) (pss_one (ps_ret (pe_g c__law_odd hr (by first | decide | omega) hq hp rfl (pa_cons (pv 0) pa_nil)))) pss_nil)
    (pss_cons (ps_if (pt_cmpR (op_eqP hu) (pv 2) pe_int (nomark _)) (pss_one (ps_ret (pe_callTy c_list (by rfl) m_list (by decide +kernel) (pa_cons (pv 1) pa_nil)))) pss_nil)
    (pss_cons (ps_if (pt_cmpR (op_eqP hu) (pv 2) pe_int (nomark _)) (pss_one (ps_ret (pe_op op_addD (pv 1) (pe_tup (pa_cons pe_non pa_nil))))) pss_nil)
    (pss_cons (ps_if (PW.pt (pw_and (pt_cmpR (op_eqP hu) (pe_ix ix_seq (pv 1) pe_int (fun _ _ => rfl)) pe_str (nomark _)) (pw_and1 (pt_cmpR (op_eqP hu) (pe_callB c_lenD (by rfl) m_len PySem.boot_len (pa_cons (pv 1) pa_nil)) pe_int (nomark _))))) (pss_cons (ps_if (pt_cmpR (op_eqP hu) (pv 2) pe_int (nomark _)) (pss_one (ps_ret (pe_op op_addD (pe_tup (pa_cons pe_str (pa_cons (pe_g c__law_draw hr (by first | decide | omega) hq hp rfl (pa_cons (pv 0) (pa_cons pe_int pa_nil))) pa_nil))) (pe_slice sl_D (pv 1) (po_some pe_int) po_none)))) pss_nil)
    (pss_cons (ps_if (pt_cmpR (op_eqP hu) (pv 2) pe_int (nomark _)) (pss_one (ps_ret (pe_op op_addD (pe_slice sl_D (pv 1) po_none (po_some pe_int)) (pe_tup (pa_cons (pe_ix ix_seq (pv 1) pe_int (fun _ _ => rfl)) (pa_cons (pe_ix ix_seq (pv 1) pe_int (fun _ _ => rfl)) pa_nil)))))) pss_nil)
    (pss_cons (ps_if (pt_cmpR op_ltD (pv 2) pe_int (nomark _)) (pss_one (ps_ret (pe_op op_addD (pe_op op_addD (pe_slice sl_D (pv 1) po_none (po_some pe_int)) (pe_tup (pa_cons (pe_g c__law_bent hr (by first | decide | omega) hq hp rfl (pa_cons (pv 0) (pa_cons (pe_ix ix_seq (pv 1) pe_int (fun _ _ => rfl)) pa_nil))) pa_nil))) (pe_slice sl_D (pv 1) (po_some pe_int) po_none)))) pss_nil)
    (pss_one (ps_ret (pe_op op_addD (pe_slice sl_D (pv 1) po_none (po_some pe_int)) (pe_tup (pa_cons (pe_g c__law_bent hr (by first | decide | omega) hq hp rfl (pa_cons (pv 0) (pa_cons (pe_ix ix_seq (pv 1) pe_int (fun _ _ => rfl)) pa_nil))) pa_nil)))))))) pss_nil)
    (pss_cons (ps_if (pt_not (pt_val (pe_callB call_isA (by rfl) m_isinstance (by decide +kernel) (pa_cons (pe_ix ix_seq (pv 1) pe_int (fun _ _ => rfl)) (pa_cons (pe_bty "tuple" rfl m_tuple (by decide +kernel)) pa_nil))))) (pss_one (ps_ret (pe_g c__law_odd hr (by first | decide | omega) hq hp rfl (pa_cons (pv 0) pa_nil)))) pss_nil)
    (pss_cons (ps_par (i := 3) (j := 4) rfl sc_bent.nd rfl rfl (by decide) rfl rfl (pa_cons (pe_g c__law_draw hr (by first | decide | omega) hq hp rfl (pa_cons (pv 0) (pa_cons (pe_op op_addD (pe_callB c_lenD (by rfl) m_len PySem.boot_len (pa_cons (pe_ix ix_seq (pv 1) pe_int (fun _ _ => rfl)) pa_nil)) pe_int) pa_nil))) (pa_cons (pe_tup (pa_cons (pe_g c__law_draw hr (by first | decide | omega) hq hp rfl (pa_cons (pv 0) (pa_cons pe_int pa_nil))) (pa_cons (pe_g c__law_draw hr (by first | decide | omega) hq hp rfl (pa_cons (pv 0) (pa_cons pe_int pa_nil))) pa_nil))) pa_nil)) rfl)
    (pss_cons (ps_if (pt_cmpR op_ltD (pv 2) pe_int (nomark _)) (pss_one (ps_ret (pe_tup (pa_cons pe_str (pa_cons (pe_op op_addD (pe_slice sl_D (pe_ix ix_seq (pv 1) pe_int (fun _ _ => rfl)) po_none (po_some (pv 3))) (pe_slice sl_D (pe_ix ix_seq (pv 1) pe_int (fun _ _ => rfl)) (po_some (pe_op op_addD (pv 3) pe_int)) po_none)) pa_nil))))) pss_nil)
    (pss_one (ps_ret (pe_tup (pa_cons pe_str (pa_cons (pe_op op_addD (pe_op op_addD (pe_slice sl_D (pe_ix ix_seq (pv 1) pe_int (fun _ _ => rfl)) po_none (po_some (pv 3))) (pe_tup (pa_cons (pv 4) pa_nil))) (pe_slice sl_D (pe_ix ix_seq (pv 1) pe_int (fun _ _ => rfl)) (po_some (pe_op op_sub (pe_op op_addD (pv 3) (pv 2)) pe_int)) po_none)) pa_nil))))))))))))), fun p q ns => ⟨_, (ls_seq (ls_set (ln_draw (ln_cons rfl ln_varb (ln_cons rfl (Ln.lend ln_c) ln_nil)))) (ls_seq (ls_if (lt_or (lt_not (lt_val (Ln.lend (ln_cb2 ln_varb (Ln.lend ln_c) p2_isi)))) (lt_or (lt_test (Ln.lend (ln_op (Ln.lend (ln_cb1 ln_varb p1_len)) (Ln.lend ln_c) p2_cmp))) (lt_test (Ln.lend (ln_op ln_varb (Ln.lend ln_c) p2_eq))))) (ls_end (ls_ret (ln_penV rfl (ln_cons rfl ln_varb ln_nil)))) ls_next) (ls_seq (ls_if (lt_test (Ln.lend (ln_op ln_varb (Ln.lend ln_c) p2_eq))) (ls_end (ls_ret (Ln.weak (ln_cb1 ln_varb p1_list)))) ls_next) (ls_seq (ls_if (lt_test (Ln.lend (ln_op ln_varb (Ln.lend ln_c) p2_eq))) (ls_end (ls_ret (ln_op ln_varb (Ln.lend (ln_tup rfl (ln_cons rfl ln_c ln_nil))) p2_add))) ls_next) (ls_seq (ls_if (lt_and (lt_test (Ln.lend (ln_op (Ln.lend (ln_op ln_varb (Ln.lend ln_c) p2_ix)) (Ln.lend ln_c) p2_eq))) (lt_test (Ln.lend (ln_op (Ln.lend (ln_cb1 ln_varb p1_len)) (Ln.lend ln_c) p2_eq)))) (ls_seq (ls_if (lt_test (Ln.lend (ln_op ln_varb (Ln.lend ln_c) p2_eq))) (ls_end (ls_ret (ln_op (Ln.lend (ln_tup rfl (ln_cons rfl ln_c (ln_cons rfl (ln_draw (ln_cons rfl ln_varb (ln_cons rfl (Ln.lend ln_c) ln_nil))) ln_nil)))) (Ln.lend (ln_sl (f := slD) ln_varb (lo_some (Ln.lend ln_c)) lo_none p3_sl)) p2_add))) ls_next) (ls_seq (ls_if (lt_test (Ln.lend (ln_op ln_varb (Ln.lend ln_c) p2_eq))) (ls_end (ls_ret (ln_op (Ln.lend (ln_sl (f := slD) ln_varb lo_none (lo_some (Ln.lend ln_c)) p3_sl)) (Ln.lend (ln_tup rfl (ln_cons rfl (ln_op ln_varb (Ln.lend ln_c) p2_ix) (ln_cons rfl (ln_op ln_varb (Ln.lend ln_c) p2_ix) ln_nil)))) p2_add))) ls_next) (ls_seq (ls_if (lt_test (Ln.lend (ln_op ln_varb (Ln.lend ln_c) p2_cmp))) (ls_end (ls_ret (ln_op (Ln.lend (ln_op (Ln.lend (ln_sl (f := slD) ln_varb lo_none (lo_some (Ln.lend ln_c)) p3_sl)) (Ln.lend (ln_tup rfl (ln_cons rfl (ln_penV rfl (ln_cons rfl ln_varb (ln_cons rfl (Ln.lend (ln_op ln_varb (Ln.lend ln_c) p2_ix)) ln_nil))) ln_nil))) p2_add)) (Ln.lend (ln_sl (f := slD) ln_varb (lo_some (Ln.lend ln_c)) lo_none p3_sl)) p2_add))) ls_next) (ls_end (ls_ret (ln_op (Ln.lend (ln_sl (f := slD) ln_varb lo_none (lo_some (Ln.lend ln_c)) p3_sl)) (Ln.lend (ln_tup rfl (ln_cons rfl (ln_penV rfl (ln_cons rfl ln_varb (ln_cons rfl (Ln.lend (ln_op ln_varb (Ln.lend ln_c) p2_ix)) ln_nil))) ln_nil))) p2_add)))))) ls_next) (ls_seq (ls_if (lt_not (lt_val (Ln.lend (ln_cb2 (Ln.lend (ln_op ln_varb (Ln.lend ln_c) p2_ix)) (Ln.lend ln_c) p2_isi)))) (ls_end (ls_ret (ln_penV rfl (ln_cons rfl ln_varb ln_nil)))) ls_next) (ls_seq (ls_par (ln_cons rfl (ln_draw (ln_cons rfl ln_varb (ln_cons rfl (Ln.lend (ln_op (Ln.lend (ln_cb1 (Ln.lend (ln_op ln_varb (Ln.lend ln_c) p2_ix)) p1_len)) (Ln.lend ln_c) p2_add)) ln_nil))) (ln_cons rfl (ln_tup rfl (ln_cons rfl (ln_draw (ln_cons rfl ln_varb (ln_cons rfl (Ln.lend ln_c) ln_nil))) (ln_cons rfl (ln_draw (ln_cons rfl ln_varb (ln_cons rfl (Ln.lend ln_c) ln_nil))) ln_nil))) ln_nil))) (ls_seq (ls_if (lt_test (Ln.lend (ln_op ln_varb (Ln.lend ln_c) p2_cmp))) (ls_end (ls_ret (ln_tup rfl (ln_cons rfl ln_c (ln_cons rfl (ln_op (Ln.lend (ln_sl (f := slD) (Ln.lend (ln_op ln_varb (Ln.lend ln_c) p2_ix)) lo_none (lo_some ln_varb) p3_sl)) (Ln.lend (ln_sl (f := slD) (Ln.lend (ln_op ln_varb (Ln.lend ln_c) p2_ix)) (lo_some (Ln.lend (ln_op ln_varb (Ln.lend ln_c) p2_add))) lo_none p3_sl)) p2_add) ln_nil))))) ls_next) (ls_end (ls_ret (ln_tup rfl (ln_cons rfl ln_c (ln_cons rfl (ln_op (Ln.lend (ln_op (Ln.lend (ln_sl (f := slD) (Ln.lend (ln_op ln_varb (Ln.lend ln_c) p2_ix)) lo_none (lo_some ln_varb) p3_sl)) (Ln.lend (ln_tup rfl (ln_cons rfl ln_var ln_nil))) p2_add)) (Ln.lend (ln_sl (f := slD) (Ln.lend (ln_op ln_varb (Ln.lend ln_c) p2_ix)) (lo_some (Ln.lend (ln_op (Ln.lend (ln_op ln_varb ln_varb p2_add)) (Ln.lend ln_c) p2_rI0))) lo_none p3_sl)) p2_add) ln_nil))))))))))))), ?_⟩⟩
  exact db1 fun item => .go (Rn := fun _ _ => True) (Rl := fun _ _ => True) (rs_set (rd_drw (rd_vB rfl) rd_c) fun pick => (rs_if (rb_or (rb_not (rb_test (rd_op (rd_vB rfl) rd_c))) (rb_or (rb_test (rd_op (rd_un (rd_vB rfl)) rd_c)) (rb_test (rd_op (rd_vb rfl) rd_c)))) (rs_assoc (rs_ret (rd_pen (rd_vB rfl) ra_nil))) (rs_skip (rs_if (rb_test (rd_op (rd_vb rfl) rd_c)) (rs_assoc (rs_ret (rd_un (rd_vB rfl)))) (rs_skip (rs_if (rb_test (rd_op (rd_vb rfl) rd_c)) (rs_assoc (rs_ret (rd_op (rd_vB rfl) (rd_tup (ra_cons rd_c ra_nil) (Nat.le_of_ble_eq_true rfl))))) (rs_skip (rs_if (rb_and (rb_test (rd_op (rd_op (rd_vB rfl) rd_c) rd_c)) (rb_test (rd_op (rd_un (rd_vB rfl)) rd_c))) (rs_assoc (rs_if (rb_test (rd_op (rd_vb rfl) rd_c)) (rs_assoc (rs_ret (rd_op (rd_tup (ra_cons rd_c (ra_cons (rd_drw (rd_vB rfl) rd_c) ra_nil)) (Nat.le_of_ble_eq_true rfl)) (rd_sl (rd_vB rfl) (ro_some rd_c) ro_none)))) (rs_skip (rs_assoc (rs_if (rb_test (rd_op (rd_vb rfl) rd_c)) (rs_assoc (rs_ret (rd_op (rd_sl (rd_vB rfl) ro_none (ro_some rd_c)) (rd_tup (ra_cons (rd_op (rd_vB rfl) rd_c) (ra_cons (rd_op (rd_vB rfl) rd_c) ra_nil)) (Nat.le_of_ble_eq_true rfl))))) (rs_skip (rs_assoc (rs_if (rb_test (rd_op (rd_vb rfl) rd_c)) (rs_assoc (rs_ret (rd_op (rd_op (rd_sl (rd_vB rfl) ro_none (ro_some rd_c)) (rd_tup (ra_cons (rd_pen (rd_vB rfl) (ra_cons (rd_op (rd_vB rfl) rd_c) ra_nil)) ra_nil) (Nat.le_of_ble_eq_true rfl))) (rd_sl (rd_vB rfl) (ro_some rd_c) ro_none)))) (rs_skip (rs_assoc (rs_ret (rd_op (rd_sl (rd_vB rfl) ro_none (ro_some rd_c)) (rd_tup (ra_cons (rd_pen (rd_vB rfl) (ra_cons (rd_op (rd_vB rfl) rd_c) ra_nil)) ra_nil) (Nat.le_of_ble_eq_true rfl)))))))))))))) (rs_skip (rs_if (rb_not (rb_test (rd_op (rd_op (rd_vB rfl) rd_c) rd_c))) (rs_assoc (rs_ret (rd_pen (rd_vB rfl) ra_nil))) (rs_skip (rs_par (rd_drw (rd_vB rfl) (rd_op (rd_un (rd_op (rd_vB rfl) rd_c)) rd_c)) (rd_tup (ra_cons (rd_drw (rd_vB rfl) rd_c) (ra_cons (rd_drw (rd_vB rfl) rd_c) ra_nil)) (Nat.le_of_ble_eq_true rfl)) fun at' pair => (rs_if (rb_test (rd_op (rd_vb rfl) rd_c)) (rs_assoc (rs_ret (rd_tup (ra_cons rd_c (ra_cons (rd_op (rd_sl (rd_op (rd_vB rfl) rd_c) ro_none (ro_some (rd_vb rfl))) (rd_sl (rd_op (rd_vB rfl) rd_c) (ro_some (rd_op (rd_vb rfl) rd_c)) ro_none)) ra_nil)) (Nat.le_of_ble_eq_true rfl)))) (rs_skip (rs_ret (rd_tup (ra_cons rd_c (ra_cons (rd_op (rd_op (rd_sl (rd_op (rd_vB rfl) rd_c) ro_none (ro_some (rd_vb rfl))) (rd_tup (ra_cons (rd_v rfl) ra_nil) (Nat.le_of_ble_eq_true rfl))) (rd_sl (rd_op (rd_vB rfl) rd_c) (ro_some (rd_op (rd_op (rd_vb rfl) (rd_vb rfl)) rd_c)) ro_none)) ra_nil)) (Nat.le_of_ble_eq_true rfl)))))))))))))))))

abbrev s_grown : Stmt := top 16
theorem sc_grown : FnScope ["_law_pen_here", "_law_some", "_law_most", "_law_apart_so", "_law_numbers", "_law_number", "_law_mates_here", "_law_taken", "_law_one"] ["_law_pen_here", "_law_some", "_law_most"] (defScope s_grown) := ⟨rfl, rfl, rfl, by decide +kernel, rfl, by decide +kernel, by decide +kernel⟩
theorem vok_grown (n : Nat) {f : Addr} {fd : FuncData} (F : Fun K "_law_grown" "_law_grown" s_grown f fd) (c__law_apart : CalG P w K mg base (L2.CX P w) 2 "_law_apart" (spT K [.b] (ap1 apart_V))) (c__law_draw : CalG P w K mg base (L2.CX P w) 1 "_law_draw" spDraw) (m_range : mg "range" = none) (c__law_mates : CalG P w K mg base (L2.CX P w) 1 "_law_mates" (spF K [.b, .b] (foF (ap2 mates_V)))) (m_len : mg "len" = none) (c__law_grown : CalG P w K mg base (L2.CX P w) (3 + n) "_law_grown" (spT K [.b, .b] (ap2 (grown_V n)))) (c__law_left : CalG P w K mg base (L2.CX P w) 1 "_law_left" (spF K [.b, .b] (foF (ap2 left_V)))) :
    FnG P w K mg base (L2.CX P w) (3 + n + 1) f fd ["_law_pen_here", "_law_some", "_law_most"] (spT K [.b, .b] (ap2 (grown_V (n + 1)))) := by
  refine fn_T F sc_grown rfl rfl ?_
  intro cdv A outer s H E hr hq
  have hu := hr.units
  have hp := @passX (cxOf (L2.CX P w) P w K mg base ["_law_pen_here", "_law_some", "_law_most", "_law_apart_so", "_law_numbers", "_law_number", "_law_mates_here", "_law_taken", "_law_one"] "_law_grown" (defScope s_grown) f cdv A outer s H E) E (takes_of rfl rfl rfl rfl)
  refine ⟨_, (pss_cons (ps_set (i := 3) sc_grown.nd rfl (Or.inl rfl) (pe_g c__law_apart hr (by first | decide | omega) hq hp rfl (pa_cons (pv 0) (pa_cons (pv 1) pa_nil))))
    (pss_cons (ps_if (PW.pt (pw_and (pt_cmpR op_ltD (pv 2) pe_int (nomark _)) (pw_and1 (pt_cmpR op_gtD (pe_g c__law_draw hr (by first | decide | omega) hq hp rfl (pa_cons (pv 0) (pa_cons pe_int pa_nil))) pe_int (nomark _))))) (pss_one (ps_ret pe_non)) pss_nil)
    (pss_cons (ps_setLc (i := 4) (own := [("_law_one", 8)]) (g := gName 8) (tt := _) rfl sc_grown.nd rfl rfl (sw_true rfl rfl rfl rfl) (pi_range1 rfl m_range (pa_cons pe_int pa_nil)) (blkOk_by (N := ["_law_pen_here", "_law_some", "_law_most", "_law_apart_so", "_law_numbers", "_law_number", "_law_mates_here", "_law_taken", "_law_one"]) (sc := defScope (top 16)) (by decide +kernel)) (fun _ _ _ _ _ => (pg_name (i := 8) sc_grown.nd rfl (Or.inl rfl))) (fun _ _ _ _ _ => (pts_one (PW.pt (pw_and (pt_cmpR (show OpR _ (compareOp .NotIn) (rInX K false) from (op_notInX hu)) (pv 8) (pe_g c__law_mates hr (by first | decide | omega) hq passF rfl (pa_cons (pv 1) (pa_cons (pv 8) pa_nil))) (by rfl)) (pw_and1 (pt_cmpR (show OpR _ (compareOp .NotEq) (rEqP K false) from (op_neP hu)) (pe_g c__law_mates hr (by first | decide | omega) hq passF rfl (pa_cons (pv 1) (pa_cons (pv 8) pa_nil))) (pe_lst pa_nil) (nomark _))))))) (fun _ _ _ _ _ => (pv 8)))
    (pss_cons (ps_if (PW.pt (pw_or (pt_cmpR (op_eqP hu) (pv 4) (pe_lst pa_nil) (nomark _)) (pw_or (pt_cmpR op_ltD (pv 2) pe_int (nomark _)) (pw_or1 (PW.pt (pw_and (pt_cmpR op_gtD (pe_callB c_lenD (by rfl) m_len PySem.boot_len (pa_cons (pv 3) pa_nil)) (pv 2) (nomark _)) (pw_and1 (pt_cmpR op_gtD (pe_g c__law_draw hr (by first | decide | omega) hq hp rfl (pa_cons (pv 0) (pa_cons pe_int pa_nil))) pe_int (nomark _))))))))) (pss_one (ps_ret (pe_tup (pa_cons pe_str (pa_cons (pv 3) pa_nil))))) pss_nil)
    (pss_cons (ps_set (i := 5) sc_grown.nd rfl (Or.inl rfl) (pe_ix ix_seq (pv 4) (pe_g c__law_draw hr (by first | decide | omega) hq hp rfl (pa_cons (pv 0) (pa_cons (pe_callB c_lenD (by rfl) m_len PySem.boot_len (pa_cons (pv 4) pa_nil)) pa_nil))) (fun _ _ => rfl)))
    (pss_cons (ps_set (i := 6) sc_grown.nd rfl (Or.inl rfl) (pe_g c__law_mates hr (by first | decide | omega) hq hp rfl (pa_cons (pv 1) (pa_cons (pv 5) pa_nil))))
    (pss_cons (ps_set (i := 7) sc_grown.nd rfl (Or.inl rfl) (pe_g c__law_grown hr (by first | decide | omega) hq hp rfl (pa_cons (pv 0) (pa_cons (pe_g c__law_left hr (by first | decide | omega) hq hp rfl (pa_cons (pv 1) (pa_cons (pe_lst (pa_cons (pv 5) pa_nil)) pa_nil))) (pa_cons (pe_op op_sub (pv 2) pe_int) pa_nil)))))
    (pss_one (ps_ret (pe_tup (pa_cons pe_str (pa_cons (pv 5) (pa_cons (pv 7) (pa_cons (pe_g c__law_grown hr (by first | decide | omega) hq hp rfl (pa_cons (pv 0) (pa_cons (pe_g c__law_left hr (by first | decide | omega) hq hp rfl (pa_cons (pv 1) (pa_cons (pv 6) pa_nil))) (pa_cons (pe_op op_sub (pv 2) (pe_callB c_lenD (by rfl) m_len PySem.boot_len (pa_cons (pv 6) pa_nil))) pa_nil)))) pa_nil)))))))))))))), fun p q ns => ⟨_, (ls_seq (ls_set (ln_penV rfl (ln_cons rfl ln_varb (ln_cons rfl ln_varb ln_nil)))) (ls_seq (ls_if (lt_and (lt_test (Ln.lend (ln_op ln_varb (Ln.lend ln_c) p2_cmp))) (lt_test (Ln.lend (ln_op (Ln.lend (ln_draw (ln_cons rfl ln_varb (ln_cons rfl (Ln.lend ln_c) ln_nil)))) (Ln.lend ln_c) p2_cmp)))) (ls_end (ls_ret ln_c)) ls_next) (ls_seq (ls_set (Ln.weak (ln_lc rfl (li_rng1 (Ln.lend ln_c)) lg_name ((lt_and (lt_test (Ln.lend (ln_op ln_varb (Ln.lend (ln_call rfl (ln_cons rfl ln_varb (ln_cons rfl ln_varb ln_nil)))) p2_inX))) (lt_test (Ln.lend (ln_op (Ln.lend (ln_call rfl (ln_cons rfl ln_varb (ln_cons rfl ln_varb ln_nil)))) (Ln.lend (Ln.weak (ln_lst rfl ln_nil))) p2_eq))))) ln_var))) (ls_seq (ls_if (lt_or (lt_test (Ln.lend (ln_op ln_varb (Ln.lend (Ln.weak (ln_lst rfl ln_nil))) p2_eq))) (lt_or (lt_test (Ln.lend (ln_op ln_varb (Ln.lend ln_c) p2_cmp))) (lt_and (lt_test (Ln.lend (ln_op (Ln.lend (ln_cb1 ln_varb p1_len)) ln_varb p2_cmp))) (lt_test (Ln.lend (ln_op (Ln.lend (ln_draw (ln_cons rfl ln_varb (ln_cons rfl (Ln.lend ln_c) ln_nil)))) (Ln.lend ln_c) p2_cmp)))))) (ls_end (ls_ret (ln_tup rfl (ln_cons rfl ln_c (ln_cons rfl ln_var ln_nil))))) ls_next) (ls_seq (ls_set (ln_op ln_varb (Ln.lend (ln_draw (ln_cons rfl ln_varb (ln_cons rfl (Ln.lend (ln_cb1 ln_varb p1_len)) ln_nil)))) p2_ix)) (ls_seq (ls_set (ln_call rfl (ln_cons rfl ln_varb (ln_cons rfl ln_varb ln_nil)))) (ls_seq (ls_set (ln_penV rfl (ln_cons rfl ln_varb (ln_cons rfl (Ln.lend (ln_call rfl (ln_cons rfl ln_varb (ln_cons rfl (Ln.lend (Ln.weak (ln_lst rfl (ln_cons rfl ln_var ln_nil)))) ln_nil)))) (ln_cons rfl (Ln.lend (ln_op ln_varb (Ln.lend ln_c) p2_rI0)) ln_nil))))) (ls_end (ls_ret (ln_tup rfl (ln_cons rfl ln_c (ln_cons rfl ln_var (ln_cons rfl ln_var (ln_cons rfl (ln_penV rfl (ln_cons rfl ln_varb (ln_cons rfl (Ln.lend (ln_call rfl (ln_cons rfl ln_varb (ln_cons rfl ln_varb ln_nil)))) (ln_cons rfl (Ln.lend (ln_op ln_varb (Ln.lend (ln_cb1 ln_varb p1_len)) p2_rI0)) ln_nil)))) ln_nil)))))))))))))), ?_⟩⟩
  exact db2 fun some' most => .go (Rn := fun _ _ => True) (Rl := fun _ _ => True) (rs_set (rd_pen (rd_vB rfl) (ra_cons (rd_vB rfl) ra_nil)) fun apart_so => (rs_if (rb_and (rb_test (rd_op (rd_vB rfl) rd_c)) (rb_test (rd_op (rd_drw (rd_vB rfl) rd_c) rd_c))) (rs_assoc (rs_ret rd_c)) (rs_skip (rs_set (rd_lc (rl_rng1 rd_c) fun e => (rt_n (rc_stp (rd_v rfl) (rb_and (rb_test (rd_op (rd_vb rfl) (rd_call (ra_cons (rd_vB rfl) (ra_cons (rd_vb rfl) ra_nil))))) (rb_test (rd_op (rd_call (ra_cons (rd_vB rfl) (ra_cons (rd_vb rfl) ra_nil))) (rd_lst ra_nil (Nat.le_of_ble_eq_true rfl)))))))) fun numbers => (rs_if (rb_or (rb_test (rd_op (rd_vb rfl) (rd_lst ra_nil (Nat.le_of_ble_eq_true rfl)))) (rb_or (rb_test (rd_op (rd_vB rfl) rd_c)) (rb_and (rb_test (rd_op (rd_un (rd_vb rfl)) (rd_vB rfl))) (rb_test (rd_op (rd_drw (rd_vB rfl) rd_c) rd_c))))) (rs_assoc (rs_ret (rd_tup (ra_cons rd_c (ra_cons (rd_v rfl) ra_nil)) (Nat.le_of_ble_eq_true rfl)))) (rs_skip (rs_set (rd_op (rd_vb rfl) (rd_drw (rd_vB rfl) (rd_un (rd_vb rfl)))) fun number => (rs_set (rd_call (ra_cons (rd_vB rfl) (ra_cons (rd_vb rfl) ra_nil))) fun mates_here => (rs_set (rd_pen (rd_vB rfl) (ra_cons (rd_call (ra_cons (rd_vB rfl) (ra_cons (rd_lst (ra_cons (rd_v rfl) ra_nil) (Nat.le_of_ble_eq_true rfl)) ra_nil))) (ra_cons (rd_op (rd_vB rfl) rd_c) ra_nil))) fun taken => (rs_ret (rd_tup (ra_cons rd_c (ra_cons (rd_v rfl) (ra_cons (rd_v rfl) (ra_cons (rd_pen (rd_vB rfl) (ra_cons (rd_call (ra_cons (rd_vB rfl) (ra_cons (rd_vb rfl) ra_nil))) (ra_cons (rd_op (rd_vB rfl) (rd_un (rd_vb rfl))) ra_nil))) ra_nil)))) (Nat.le_of_ble_eq_true rfl))))))))))))

end
end L2.K57
namespace L2.K57
open L2 L2.My L2.DL NdefX PySem PySem.Spec PyProof.Rows
open PM
section
variable {P : Program} {w : World} {K : W.Frag} {mg : Str → Option Value} {base : Heap}
abbrev s_law : Stmt := top 21
theorem sc_law : FnScope ["_law_script", "_law_pen_here", "_law_turn", "_law_some", "_law_most", "_law_item", "_law_bent_here", "_law_thing", "_law_kept", "_law_due", "_law_far", "_law_ring"] ["_law_script"] (defScope s_law) := ⟨rfl, rfl, rfl, by decide +kernel, rfl, by decide +kernel, by decide +kernel⟩
theorem vok_law {f : Addr} {fd : FuncData} (F : Fun K "law" "law" s_law f fd) (hg : Tm.wp law_V 0 (fun d _ => d = dB true) fun _ _ => False) {sm : Str → Option Value} (hs : base.Ns sysModules sm) (c__law_pen : CalG P w K mg base (L2.CX P w) 1 "_law_pen" (spPen K)) (m_range : mg "range" = none) (c__law_pairs : CalG P w K mg base (L2.CX P w) 2 "_law_pairs" (spT K [] (ap0 pairs_V))) (c__law_draw : CalG P w K mg base (L2.CX P w) 1 "_law_draw" spDraw) (c__law_grown : CalG P w K mg base (L2.CX P w) 13 "_law_grown" (spT K [.b, .b] (ap2 (grown_V 10)))) (c__law_bent : CalG P w K mg base (L2.CX P w) 27 "_law_bent" (spT K [.b] (ap1 (bent_V 24)))) (c__law_odd : CalG P w K mg base (L2.CX P w) 2 "_law_odd" (spT K [] (ap0 odd_V))) (m_repr : mg "repr" = none) (c__law_fits : CalG P w K mg base (L2.CX P w) 14 "_law_fits" (spF K [.b, .b, .b] (foF (ap3 (fits_V 12))))) (c_shows_cover : CalG P w K mg base (L2.CX P w) 4 "shows_cover" (spF K [.b, .s, .s] (foF (ap3 shows_cover_V)))) (w_shows_cover : CalP P w K mg base (L2.CX P w) 4 "shows_cover" (spF K [.b, .s, .s] (foF (ap3 shows_cover_V))) ["paper", "c", "pairs"] [2, 1, 0]) (m_tuple : mg "tuple" = none) :
    FnG P w K mg base CX0 28 f fd ["_law_script"] (spLaw K) := by
  refine fn_lawV F sc_law (by decide) rfl hg ?_
  intro cdv A outer s H hr hq
  have hu := hr.units
  refine ⟨_, (ps_set (i := 1) sc_law.nd rfl (Or.inl rfl) (pe_g c__law_pen hr (by first | decide | omega) hq passF rfl (pa_cons (pv 0) pa_nil))), (pss_cons (ps_for PassesOwn.never rfl (pi_range1 rfl m_range (pa_cons pe_int pa_nil)) (pg_name (i := 2) sc_law.nd rfl (Or.inl rfl)) (pss_cons (ps_set (i := 3) sc_law.nd rfl (Or.inl rfl) (pe_g c__law_pairs hr (by first | decide | omega) hq passF rfl (pa_cons (pv 1) pa_nil)))
    (pss_cons (ps_set (i := 4) sc_law.nd rfl (Or.inl rfl) (pe_op op_sub (pe_g c__law_draw hr (by first | decide | omega) hq passF rfl (pa_cons (pv 1) (pa_cons pe_int pa_nil))) pe_int))
    (pss_cons (ps_set (i := 5) sc_law.nd rfl (Or.inl rfl) (pe_g c__law_grown hr (by first | decide | omega) hq passF rfl (pa_cons (pv 1) (pa_cons (pv 3) (pa_cons (pv 4) pa_nil)))))
    (pss_cons (ps_set (i := 6) sc_law.nd rfl (Or.inl rfl) (pe_g c__law_bent hr (by first | decide | omega) hq passF rfl (pa_cons (pv 1) (pa_cons (pv 5) pa_nil))))
    (pss_one (ps_for PassesOwn.never rfl (pi_seq (pe_tup (pa_cons (pv 5) (pa_cons (pv 6) (pa_cons (pe_g c__law_bent hr (by first | decide | omega) hq passF rfl (pa_cons (pv 1) (pa_cons (pv 6) pa_nil))) (pa_cons (pe_g c__law_odd hr (by first | decide | omega) hq passF rfl (pa_cons (pv 1) pa_nil)) pa_nil)))))) (pg_name (i := 7) sc_law.nd rfl (Or.inl rfl)) (pss_cons (ps_set (i := 8) sc_law.nd rfl (Or.inl rfl) (pe_callB (call_reprN (n := 0) hs hq (hr.mono (by first | decide | omega))) (by rfl) m_repr (by decide +kernel) (pa_cons (pe_tup (pa_cons (pv 3) (pa_cons (pv 7) pa_nil))) pa_nil)))
    (pss_cons (ps_set (i := 9) sc_law.nd rfl (Or.inl rfl) (pe_callB (call_reprN (n := 0) hs hq (hr.mono (by first | decide | omega))) (by rfl) m_repr (by decide +kernel) (pa_cons (pe_g c__law_fits hr (by first | decide | omega) hq passF rfl (pa_cons (pv 3) (pa_cons (pv 4) (pa_cons (pv 7) pa_nil)))) pa_nil)))
    (pss_cons (ps_if (PW.pt (pw_or (pt_cmpR (op_neP hu) (pe_callB (call_reprN (n := 0) hs hq (hr.mono (by first | decide | omega))) (by rfl) m_repr (by decide +kernel) (pa_cons (pe_g c_shows_cover hr (by first | decide | omega) hq passF rfl (pa_cons (pv 3) (pa_cons (pv 4) (pa_cons (pv 7) pa_nil)))) pa_nil)) (pv 9) (nomark _)) (pw_or1 (pt_cmpR (op_neP hu) (pe_callB (call_reprN (n := 0) hs hq (hr.mono (by first | decide | omega))) (by rfl) m_repr (by decide +kernel) (pa_cons (pe_tup (pa_cons (pv 3) (pa_cons (pv 7) pa_nil))) pa_nil)) (pv 8) (nomark _))))) (pss_one (ps_ret pe_bl)) pss_nil)
    (pss_one (ps_if (pt_cmpR (op_neP hu) (pe_callB (call_reprN (n := 0) hs hq (hr.mono (by first | decide | omega))) (by rfl) m_repr (by decide +kernel) (pa_cons (pe_kwp w_shows_cover hr (by first | decide | omega) hq passF rfl (pk_cons (pv 7) (pk_cons (pv 4) (pk_cons (pe_callTy call_tuple_of (by rfl) m_tuple (by decide +kernel) (pa_cons (pv 3) pa_nil)) pk_nil)))) pa_nil)) (pv 9) (nomark _)) (pss_one (ps_ret pe_bl)) pss_nil))))))))))))
    (pss_cons (ps_set (i := 10) sc_law.nd rfl (Or.inl rfl) (pe_op op_pow pe_int pe_int))
    (pss_cons (ps_set (i := 11) sc_law.nd rfl (Or.inl rfl) (pe_lst (pa_cons (pe_tup (pa_cons pe_int (pa_cons (pv 10) pa_nil))) (pa_cons (pe_tup (pa_cons (pv 10) (pa_cons (pe_op op_addD (pv 10) pe_int) pa_nil))) (pa_cons (pe_tup (pa_cons pe_int (pa_cons (pe_op op_addD (pv 10) pe_int) pa_nil))) pa_nil)))))
    (pss_cons (ps_if (pt_cmpR op_isNotD (pe_g c_shows_cover hr (by first | decide | omega) hq passF rfl (pa_cons (pv 11) (pa_cons pe_int (pa_cons (pe_tup (pa_cons pe_str (pa_cons (pv 10) (pa_cons (pe_tup (pa_cons pe_str (pa_cons (pe_tup (pa_cons (pe_tup (pa_cons pe_int (pa_cons (pe_op op_addD (pv 10) pe_int) pa_nil))) pa_nil)) pa_nil))) (pa_cons pe_non pa_nil))))) pa_nil)))) pe_bl (nomark _)) (pss_one (ps_ret pe_bl)) pss_nil)
    (pss_one (ps_ret (pe_and (pe_cmpR op_isD (pe_g c_shows_cover hr (by first | decide | omega) hq passF rfl (pa_cons (pe_lst pa_nil) (pa_cons (pe_un un_neg pe_int) (pa_cons pe_non pa_nil)))) pe_bl (nomark _)) (pe_one (pe_cmpR op_isD (pe_g c_shows_cover hr (by first | decide | omega) hq passF rfl (pa_cons (pe_lst pa_nil) (pa_cons pe_int (pa_cons (pe_tup (pa_cons pe_str (pa_cons (pe_tup pa_nil) pa_nil))) pa_nil)))) pe_bl (nomark _)))))))))), fun p q ns => ⟨_, (ls_seq (ls_for (li_rng1 (Ln.lend ln_c)) lg_name (ls_seq (ls_set (ln_penV rfl (ln_cons rfl ln_varb ln_nil))) (ls_seq (ls_set (ln_op (Ln.lend (ln_draw (ln_cons rfl ln_varb (ln_cons rfl (Ln.lend ln_c) ln_nil)))) (Ln.lend ln_c) p2_rI0)) (ls_seq (ls_set (ln_penV rfl (ln_cons rfl ln_varb (ln_cons rfl ln_varb (ln_cons rfl ln_varb ln_nil))))) (ls_seq (ls_set (ln_penV rfl (ln_cons rfl ln_varb (ln_cons rfl ln_varb ln_nil)))) (ls_end (ls_for (li_seq (ln_tup rfl (ln_cons rfl ln_var (ln_cons rfl ln_var (ln_cons rfl (ln_penV rfl (ln_cons rfl ln_varb (ln_cons rfl ln_varb ln_nil))) (ln_cons rfl (ln_penV rfl (ln_cons rfl ln_varb ln_nil)) ln_nil)))))) lg_name (ls_seq (ls_set (ln_cb1 (Ln.lend (ln_tup rfl (ln_cons rfl ln_var (ln_cons rfl ln_var ln_nil)))) p1_reprX)) (ls_seq (ls_set (ln_cb1 (Ln.lend (ln_call rfl (ln_cons rfl ln_varb (ln_cons rfl ln_varb (ln_cons rfl ln_varb ln_nil))))) p1_reprX)) (ls_seq (ls_if (lt_or (lt_test (Ln.lend (ln_op (Ln.lend (ln_cb1 (Ln.lend (ln_call rfl (ln_cons rfl ln_varb (ln_cons rfl ln_var (ln_cons rfl ln_var ln_nil))))) p1_reprX)) ln_varb p2_eq))) (lt_test (Ln.lend (ln_op (Ln.lend (ln_cb1 (Ln.lend (ln_tup rfl (ln_cons rfl ln_var (ln_cons rfl ln_var ln_nil)))) p1_reprX)) ln_varb p2_eq)))) (ls_end (ls_ret ln_c)) ls_next) (ls_end (ls_if (lt_test (Ln.lend (ln_op (Ln.lend (ln_cb1 (Ln.lend (ln_call rfl (ln_prm (os := [.s, .s, .b]) rfl rfl (ln_cons rfl ln_var (ln_cons rfl ln_var (ln_cons rfl (Ln.lend (ln_cb1 ln_varb p1_tup)) ln_nil)))))) p1_reprX)) ln_varb p2_eq))) (ls_end (ls_ret ln_c)) ls_next)))))))))))) (ls_seq (ls_set (ln_op (Ln.lend ln_c) (Ln.lend ln_c) p2_pow)) (ls_seq (ls_set (Ln.weak (ln_lst rfl (ln_cons rfl (ln_tup rfl (ln_cons rfl ln_c (ln_cons rfl ln_var ln_nil))) (ln_cons rfl (ln_tup rfl (ln_cons rfl ln_var (ln_cons rfl (ln_op ln_varb (Ln.lend ln_c) p2_add) ln_nil))) (ln_cons rfl (ln_tup rfl (ln_cons rfl ln_c (ln_cons rfl (ln_op ln_varb (Ln.lend ln_c) p2_add) ln_nil))) ln_nil)))))) (ls_seq (ls_if (lt_test (Ln.lend (ln_op (Ln.lend (ln_call rfl (ln_cons rfl ln_varb (ln_cons rfl ln_c (ln_cons rfl (ln_tup rfl (ln_cons rfl ln_c (ln_cons rfl ln_var (ln_cons rfl (ln_tup rfl (ln_cons rfl ln_c (ln_cons rfl (ln_tup rfl (ln_cons rfl (ln_tup rfl (ln_cons rfl ln_c (ln_cons rfl (ln_op ln_varb (Ln.lend ln_c) p2_add) ln_nil))) ln_nil)) ln_nil))) (ln_cons rfl ln_c ln_nil))))) ln_nil))))) (Ln.lend ln_c) p2_is))) (ls_end (ls_ret ln_c)) ls_next) (ls_end (ls_ret (ln_andM (mo := .s) (by decide) (Ln.lend (ln_op (Ln.lend (ln_call rfl (ln_cons rfl (Ln.lend (Ln.weak (ln_lst rfl ln_nil))) (ln_cons rfl (ln_un (Ln.lend ln_c) p1_neg) (ln_cons rfl ln_c ln_nil))))) (Ln.lend ln_c) p2_is)) (ln_op (Ln.lend (ln_call rfl (ln_cons rfl (Ln.lend (Ln.weak (ln_lst rfl ln_nil))) (ln_cons rfl ln_c (ln_cons rfl (ln_tup rfl (ln_cons rfl ln_c (ln_cons rfl (ln_tup rfl ln_nil) ln_nil))) ln_nil))))) (Ln.lend ln_c) p2_is)))))))), ?_⟩⟩
  exact .go (Rn := fun _ _ => True) (Rl := fun _ _ => True) (rs_for (R1 := (fun (q : Unit) ρ => ρ = [.no, .d ((.v (.ref p))), .no, .no, .no, .no, .no, .no, .no, .no, .no, .no])) (rl_rng1 rd_c) rfl (fun e q ρ h => by obtain rfl := h; exact (rt_n (rs_set (rd_pen (rd_vb rfl) ra_nil) fun some' => (rs_set (rd_op (rd_drw (rd_vb rfl) rd_c) rd_c) fun most => (rs_set (rd_pen (rd_vb rfl) (ra_cons (rd_vb rfl) (ra_cons (rd_vb rfl) ra_nil))) fun item => (rs_set (rd_pen (rd_vb rfl) (ra_cons (rd_vb rfl) ra_nil)) fun bent_here => (rs_for (R1 := (fun (q_1 : Unit) ρ => ρ = [.no, .d ((.v (.ref p))), .d (e), .d (some'), .d (most), .d (item), .d (bent_here), .no, .no, .no, .no, .no])) (rl_seq (rd_tup (ra_cons (rd_v rfl) (ra_cons (rd_v rfl) (ra_cons (rd_pen (rd_vb rfl) (ra_cons (rd_vb rfl) ra_nil)) (ra_cons (rd_pen (rd_vb rfl) ra_nil) ra_nil)))) (Nat.le_of_ble_eq_true rfl))) rfl (fun e_1 q_1 ρ h => by obtain rfl := h; exact (rt_n (rs_set (rd_un (rd_tup (ra_cons (rd_v rfl) (ra_cons (rd_v rfl) ra_nil)) (Nat.le_of_ble_eq_true rfl))) fun kept => (rs_set (rd_un (rd_call (ra_cons (rd_vb rfl) (ra_cons (rd_vb rfl) (ra_cons (rd_vb rfl) ra_nil))))) fun due => (rs_if (rb_or (rb_test (rd_op (rd_un (rd_call (ra_cons (rd_vb rfl) (ra_cons (rd_v rfl) (ra_cons (rd_v rfl) ra_nil))))) (rd_vb rfl))) (rb_test (rd_op (rd_un (rd_tup (ra_cons (rd_v rfl) (ra_cons (rd_v rfl) ra_nil)) (Nat.le_of_ble_eq_true rfl))) (rd_vb rfl)))) (rs_assoc (rs_ret rd_c)) (rs_skip (rs_if (rb_test (rd_op (rd_un (rd_kw (ra_cons (rd_v rfl) (ra_cons (rd_v rfl) (ra_cons (rd_un (rd_vb rfl)) ra_nil))))) (rd_vb rfl))) (rs_assoc (rs_ret rd_c)) (rs_skip (rs_next ⟨rfl, rfl⟩))))))))) (fun q_1 ρ h => by obtain rfl := h; exact (rs_next ⟨rfl, rfl⟩))))))))) (fun q ρ h => by obtain rfl := h; exact (rs_set (rd_op rd_c rd_c) fun far => (rs_set (rd_lst (ra_cons (rd_tup (ra_cons rd_c (ra_cons (rd_v rfl) ra_nil)) (Nat.le_of_ble_eq_true rfl)) (ra_cons (rd_tup (ra_cons (rd_v rfl) (ra_cons (rd_op (rd_vb rfl) rd_c) ra_nil)) (Nat.le_of_ble_eq_true rfl)) (ra_cons (rd_tup (ra_cons rd_c (ra_cons (rd_op (rd_vb rfl) rd_c) ra_nil)) (Nat.le_of_ble_eq_true rfl)) ra_nil))) (Nat.le_of_ble_eq_true rfl)) fun ring => (rs_if (rb_test (rd_op (rd_call (ra_cons (rd_vb rfl) (ra_cons rd_c (ra_cons (rd_tup (ra_cons rd_c (ra_cons (rd_v rfl) (ra_cons (rd_tup (ra_cons rd_c (ra_cons (rd_tup (ra_cons (rd_tup (ra_cons rd_c (ra_cons (rd_op (rd_vb rfl) rd_c) ra_nil)) (Nat.le_of_ble_eq_true rfl)) ra_nil) (Nat.le_of_ble_eq_true rfl)) ra_nil)) (Nat.le_of_ble_eq_true rfl)) (ra_cons rd_c ra_nil)))) (Nat.le_of_ble_eq_true rfl)) ra_nil)))) rd_c)) (rs_assoc (rs_ret rd_c)) (rs_skip (rs_ret (rd_and (rd_op (rd_call (ra_cons (rd_lst ra_nil (Nat.le_of_ble_eq_true rfl)) (ra_cons (rd_un rd_c) (ra_cons rd_c ra_nil)))) rd_c) (rd_op (rd_call (ra_cons (rd_lst ra_nil (Nat.le_of_ble_eq_true rfl)) (ra_cons rd_c (ra_cons (rd_tup (ra_cons rd_c (ra_cons (rd_tup ra_nil (Nat.le_of_ble_eq_true rfl)) ra_nil)) (Nat.le_of_ble_eq_true rfl)) ra_nil)))) rd_c)))))))))

end
end L2.K57
namespace L2.K57
open L2 L2.My PySem PySem.Spec PyProof.Rows
local macro_rules | `(tactic| walk_at "s1") => `(tactic| first
  | with_reducible refine g_seq ?_
  | with_reducible refine g_asg ?_
  | with_reducible refine g_name ?_
  | with_reducible refine g_op ?_
  | ((with_reducible show tVar _ _ _ _); refine g_var rfl ?_)
  | with_reducible refine g_c ?_
  | with_reducible refine g_cons ?_
  | with_reducible refine g_nil ?_
  | with_reducible refine g_cb ?_
  | with_reducible refine g_tests ?_
  | with_reducible refine g_bl ?_
  | with_reducible refine g_tB ?_
  | with_reducible refine g_and ?_
  | with_reducible refine g_or ?_
  | with_reducible refine g_not ?_
  | with_reducible refine g_ifs ?_
  | with_reducible refine g_sub ?_
  | with_reducible refine g_ret ?_
  | with_reducible refine g_retN ?_
  | with_reducible refine g_drop ?_
  | with_reducible refine g_next ?_
  | with_reducible refine g_par ?_
  | with_reducible refine g_two ?_
  | with_reducible refine g_lst ?_
  | with_reducible refine g_tup ?_
  | with_reducible refine g_un ?_
  | with_reducible refine addU_i ?_
  | with_reducible refine rI0_i ?_)
local macro_rules | `(tactic| walk_at "go") => `(tactic| repeat walk_at "s1")
local macro_rules | `(tactic| walk_at "s1") => `(tactic| first
  | ((with_reducible show tOp _ _ _ _ _ _); with_reducible refine g_op ?_)
  | with_reducible refine g_int ?_
  | with_reducible refine g_sl ?_
  | with_reducible refine g_nopart ?_
  | with_reducible refine g_part ?_
  | with_reducible refine g_i ?_
  | with_reducible refine g_bm ?_
  | with_reducible refine g_pair ?_
  | with_reducible refine g_pair0 ?_
  | with_reducible refine g_call ?_
  | with_reducible refine g_intb ?_
  | with_reducible refine g_abs ?_)
local macro_rules | `(tactic| walk_at "look") => `(tactic| first
  | exact upd_same
  | with_reducible assumption
  | (refine same_upd ?_ _ _ ?_; assumption; walk_at "look"))
local macro_rules | `(tactic| walk_at "cat") => `(tactic| (refine' addU_l ?e1 ?e2 ?z ?_; (case e1 => walk_at "look"); (case e2 => walk_at "look"); (case z => exact Nat.le_of_ble_eq_true rfl)))
local macro_rules | `(tactic| walk_at "same") => `(tactic| first
  | exact Same.refl _
  | with_reducible assumption
  | (refine Same.trans ?_ (same_upd ?_); rotate_left; assumption; walk_at "same"))
theorem mixed_small {m a : Int} (m0 : 0 ≤ m) (m1 : m < 2147483629) (a0 : 0 ≤ a) (a1 : a < 100000) : 0 ≤ m * (2 * a + 37) ∧ m * (2 * a + 37) < 429571887526981 := by
  constructor
  · exact Int.mul_nonneg m0 (by omega)
  · have h := Int.mul_le_mul (show m ≤ 2147483628 by omega) (show 2 * a + 37 ≤ 200035 by omega) (by omega) (by omega)
    omega
theorem sq_small {a : Int} (a0 : 0 ≤ a) (a1 : a < 100000) : 0 ≤ 52009 * a * a ∧ 52009 * a * a < 520079598252010 := by
  constructor
  · exact Int.mul_nonneg (by omega) a0
  · have h := Int.mul_le_mul (show 52009 * a ≤ 5200847991 by omega) (show a ≤ 99999 by omega) a0 (by omega)
    omega

section
variable {P : Program} {w : World} {K : W.Frag} {mg : Str → Option Value} {base : Heap}
abbrev sDraw : Stmt := top 11
theorem scDraw : FnScope ["_law_pen_here", "_law_many", "_law_digit", "_law_at", "_law_cell", "_law_great", "_law_mixed"] ["_law_pen_here", "_law_many"] (defScope sDraw) := ⟨rfl, rfl, rfl, by decide +kernel, rfl, by decide +kernel, by decide +kernel⟩
theorem ok_draw {f : Addr} {fd : FuncData} (F : Fun K "_law_draw" "_law_draw" sDraw f fd) (m_int : mg "int" = none) (m_len : mg "len" = none) (m_abs : mg "abs" = none) : FnG P w K mg base CX0 1 f fd ["_law_pen_here", "_law_many"] spDraw := by
  refine body_g0 F scDraw ?_ ?_
  · rintro vs H Q E ⟨p, q, ns, at', big, many, rfl, _⟩
    rfl
  rintro cdv A outer s H vs Q E hr hq ⟨p, q, ns, at', big, many, rfl, m0, m1, pen, a2, z⟩
  have hu := hr.units
  refine ⟨_, (pss_cons (ps_if (pt_cmpR op_gt (pe_ix ix_seq (pv 0) pe_int (fun _ _ => rfl)) pe_int (nomark _)) (pss_cons (ps_set (i := 2) scDraw.nd rfl (Or.inl rfl) (pe_op op_mod (pe_callTy c_int (by rfl) m_int (by decide +kernel) (pa_cons (pe_ix ix_seq (pv 0) pe_int (fun _ _ => rfl)) pa_nil)) (pv 1)))
    (pss_cons (ps_asg (pe_op op_fdivW (pe_ix ix_seq (pv 0) pe_int (fun _ _ => rfl)) (pv 1)) (pg_sub (pv 0) pe_int set_list))
    (pss_one (ps_ret (pv 2))))) pss_nil)
    (pss_cons (ps_set (i := 3) scDraw.nd rfl (Or.inl rfl) (pe_ix ix_seq (pv 0) pe_int (fun _ _ => rfl)))
    (pss_cons (ps_asg (pe_op op_addU (pv 3) pe_int) (pg_sub (pv 0) pe_int set_list))
    (pss_cons (ps_set (i := 4) scDraw.nd rfl (Or.inl rfl) (pe_op op_addU (pe_op op_mulU pe_int (pv 3)) pe_int))
    (C8.pss_cut (ps_if (pt_cmpR (op_neU hu) (pe_ix ix_seq (pv 0) pe_int (fun _ _ => rfl)) (pe_lst pa_nil) (nomark _)) (pss_one (ps_set (i := 4) scDraw.nd rfl (Or.inl rfl) (pe_ix ix_seq (pe_ix ix_seq (pv 0) pe_int (fun _ _ => rfl)) (pe_op op_mod (pe_callTy c_int (by rfl) m_int (by decide +kernel) (pa_cons (pv 3) pa_nil)) (pe_callB c_len (by rfl) m_len PySem.boot_len (pa_cons (pe_ix ix_seq (pv 0) pe_int (fun _ _ => rfl)) pa_nil))) (fun _ _ => rfl)))) pss_nil)
    (C8.pss_cut (ps_if (PW.pt (pw_and (pt_cmpR op_lt (pv 3) (pe_callB c_len (by rfl) m_len PySem.boot_len (pa_cons (pe_ix ix_seq (pv 0) pe_int (fun _ _ => rfl)) pa_nil)) (nomark _)) (pw_and1 (pt_cmpR op_ge (pe_callB c_abs (by rfl) m_abs (by decide +kernel) (pa_cons (pv 4) pa_nil)) (pe_op op_pow pe_int pe_int) (nomark _))))) (pss_cons (ps_set (i := 5) scDraw.nd rfl (Or.inl rfl) (pe_op op_addU (pe_op op_mulU pe_int (pe_op op_sub (pe_callB c_abs (by rfl) m_abs (by decide +kernel) (pa_cons (pv 4) pa_nil)) (pe_op op_pow pe_int pe_int))) (pe_callTy c_int (by rfl) m_int (by decide +kernel) (pa_cons (pe_cmpR op_lt (pv 4) pe_int (nomark _)) pa_nil))))
    (pss_cons (ps_asg (pe_op op_fdivW (pv 5) (pv 1)) (pg_sub (pv 0) pe_int set_list))
    (pss_one (ps_ret (pe_op op_mod (pe_callTy c_int (by rfl) m_int (by decide +kernel) (pa_cons (pv 5) pa_nil)) (pv 1)))))) pss_nil)
    (pss_cons (ps_set (i := 6) scDraw.nd rfl (Or.inl rfl) (pe_op op_mod (pe_callTy c_int (by rfl) m_int (by decide +kernel) (pa_cons (pe_op op_pow (pe_op op_addU (pe_op op_addU (pe_op op_mod (pe_callTy c_int (by rfl) m_int (by decide +kernel) (pa_cons (pv 4) pa_nil)) pe_int) (pe_op op_mulU pe_int (pv 3))) pe_int) pe_int) pa_nil)) pe_int))
    (pss_cons (ps_set (i := 6) scDraw.nd rfl (Or.inl rfl) (pe_op op_mod (pe_callTy c_int (by rfl) m_int (by decide +kernel) (pa_cons (pe_op op_pow (pe_op op_addU (pe_op op_addU (pe_op op_mulU (pv 6) (pe_op op_addU (pe_op op_mulU pe_int (pv 3)) pe_int)) (pe_op op_mulU (pe_op op_mulU pe_int (pv 3)) (pv 3))) pe_int) pe_int) pa_nil)) pe_int))
    (pss_one (ps_ret (pe_op op_mod (pe_callTy c_int (by rfl) m_int (by decide +kernel) (pa_cons (pe_op op_fdivW (pv 6) pe_int) pa_nil)) (pv 1)))))))))))), ?_⟩
  have e2 : SqL K H p [.ref q, .int at', .int big] := .inl (.inl pen.pen)
  have a0 := pen.a0
  have hW : CDivW 1 many := wide_div m0 m1 (by decide) (by decide)
  walk_at "go"
  refine ix_l e2 rfl ?_
  walk_at "go"
  refine ite2 (fun c => ?_) (fun c => ?_)
  · have c' : 0 < big := of_decide_eq_true c
    walk_at "go"
    refine ix_l e2 rfl ?_
    walk_at "go"
    refine rI_i m0 ?_
    walk_at "go"
    refine ix_l e2 rfl ?_
    walk_at "go"
    refine rI_i hW ?_
    walk_at "go"
    refine setL pen.pen rfl ?_
    walk_at "go"
    exact z _ _ _ _ (Int.emod_nonneg _ (by omega)) (Int.emod_lt_of_pos _ m0) (Int.le_refl _) (by omega) (Int.ediv_nonneg pen.b0 (by omega)) but_upd upd_same
  walk_at "go"
  refine ix_l e2 rfl ?_
  walk_at "go"
  refine setL (j := 1) pen.pen rfl ?_
  walk_at "go"
  have npq : q ≠ p := fun e => by
    have h1 := pen.cells
    rw [e, pen.pen] at h1
    have h2 := Option.some.inj h1
    injection h2 with h3
    cases ns with
    | nil => cases h3
    | cons n r => cases h3
  have e3 : upd H p (.lst ([V.ref q, .int at', .int big].set 1 (.int (at' + 1)))) p = some (.lst [.ref q, .int (at' + 1), .int big]) := upd_same
  have e4 : upd H p (.lst ([V.ref q, .int at', .int big].set 1 (.int (at' + 1)))) q = some (.lst (ns.map V.int)) := by rw [upd_ne npq]; exact pen.cells
  have b1 : But H (upd H p (.lst ([V.ref q, .int at', .int big].set 1 (.int (at' + 1))))) p := but_upd
  generalize upd H p (.lst ([V.ref q, .int at', .int big].set 1 (.int (at' + 1)))) = H1 at *
  refine mulU_i (.inl (by omega)) ?_
  walk_at "go"
  refine g_cut (fun σ' H' => ∃ cell : Int, σ' = [some (.ref p), some (.int many), none, some (.int at'), some (.int cell), none, none] ∧ H' p = some (.lst [.ref q, .int (at' + 1), .int big]) ∧ H' q = some (.lst (ns.map V.int)) ∧ But H H' p) ?_ ?_
  · walk_at "go"
    refine ix_l (.inl (.inl e3)) rfl ?_
    walk_at "go"
    refine g_small (by decide) fun l nl => ?_
    have s1 := same_upd (o := .lst []) nl
    refine eqU_ints (ns := ns) (ms := []) (.inl (.inl (s1 _ _ e4))) (.inl (.inl upd_same)) ?_
    walk_at "go"
    refine ite2 (fun c => ?_) (fun c => ?_)
    · have c' : ns ≠ [] := by
        intro e
        rw [e] at c
        exact absurd c (by decide)
      have pos : 0 < (ns.map V.int).length := by
        rw [List.length_map]
        exact List.length_pos_iff.mpr c'
      walk_at "go"
      refine ix_l (.inl (.inl (s1 _ _ e3))) rfl ?_
      walk_at "go"
      refine ix_l (.inl (.inl (s1 _ _ e3))) rfl ?_
      walk_at "go"
      refine g_len (.inl (.inl (s1 _ _ e4))) ?_
      walk_at "go"
      refine rI_i (show (0 : Int) < _ by omega) ?_
      have l0 := Int.emod_nonneg at' (show ((ns.map V.int).length : Int) ≠ 0 by omega)
      have l1 := Int.emod_lt_of_pos at' (show 0 < ((ns.map V.int).length : Int) by omega)
      have len : (ns.map V.int).length = ns.length := List.length_map _
      obtain ⟨n, hn⟩ : ∃ n, atI (ns.map V.int) (at' % ((ns.map V.int).length : Int)) = some (.int n) := by
        have lt : (at' % ((ns.map V.int).length : Int)).toNat < ns.length := by omega
        refine ⟨ns[(at' % ((ns.map V.int).length : Int)).toNat], ?_⟩
        have e := atI_nat (xs := ns.map V.int) (j := (at' % ((ns.map V.int).length : Int)).toNat) (v := .int ns[(at' % ((ns.map V.int).length : Int)).toNat]) (by rw [List.getElem?_map, List.getElem?_eq_getElem lt] <;> rfl)
        rw [Int.toNat_of_nonneg l0] at e
        exact e
      refine ix_l (.inl (.inl (s1 _ _ e4))) hn ?_
      walk_at "go"
      exact ⟨n, rfl, s1 _ _ e3, s1 _ _ e4, b1.same s1⟩
    · walk_at "go"
      exact ⟨_, rfl, s1 _ _ e3, s1 _ _ e4, b1.same s1⟩
  rintro σ' H' ⟨cell, rfl, f3, f4, b2⟩
  refine g_cut (fun σ' H2 => σ' = [some (.ref p), some (.int many), none, some (.int at'), some (.int cell), none, none] ∧ H2 = H') ?_ ?_
  walk_at "go"
  refine ix_l (.inl (.inl f3)) rfl ?_
  walk_at "go"
  refine g_len (.inl (.inl f4)) ?_
  walk_at "go"
  have abs0 : 0 ≤ (if cell < 0 then -cell else cell) := by split <;> omega
  refine ite2 (fun c1 => ?_) (fun c1 => ?_)
  · walk_at "go"
    refine rI_i ⟨by decide, by decide, by decide⟩ ?_
    walk_at "go"
    refine ite2 (fun c2 => ?_) (fun c2 => ?_)
    · have c3 : (10 : Int) ^ (Int.toNat 18) ≤ (if cell < 0 then -cell else cell) := of_decide_eq_true c2
      walk_at "go"
      refine rI_i ⟨by decide, by decide, by decide⟩ ?_
      walk_at "go"
      refine mulU_i (.inl (by omega)) ?_
      walk_at "go"
      refine rI_i hW ?_
      walk_at "go"
      refine setL (j := 2) f3 rfl ?_
      walk_at "go"
      refine rI_i m0 ?_
      walk_at "go"
      refine z _ _ _ _ (Int.emod_nonneg _ (by omega)) (Int.emod_lt_of_pos _ m0) (show at' ≤ at' + 1 by omega) (Int.le_refl _) (Int.ediv_nonneg ?_ (by omega)) b2.upd upd_same
      split <;> omega
    · walk_at "go"
      exact ⟨rfl, rfl⟩
  · walk_at "go"
    refine iteF ?_
    walk_at "go"
    exact ⟨rfl, rfl⟩
  rintro σ' H2 ⟨rfl, rfl⟩
  walk_at "go"
  refine rI_i (show (0 : Int) < 2147483549 by decide) ?_
  walk_at "go"
  refine mulU_i (.inl (by omega)) ?_
  walk_at "go"
  have r0 := Int.emod_nonneg cell (show (2147483549 : Int) ≠ 0 by decide)
  have r1 := Int.emod_lt_of_pos cell (show (0 : Int) < 2147483549 by decide)
  refine rI_i ⟨by decide, by decide, by omega⟩ ?_
  walk_at "go"
  refine rI_i (show (0 : Int) < 2147483629 by decide) ?_
  walk_at "go"
  refine mulU_i (.inl (by omega)) ?_
  walk_at "go"
  generalize hm : (cell % 2147483549 + 47017 * at' + 23) ^ (Int.toNat 5) % 2147483629 = m
  have g0 : 0 ≤ m := by rw [← hm]; exact Int.emod_nonneg _ (by decide)
  have g1 : m < 2147483629 := by rw [← hm]; exact Int.emod_lt_of_pos _ (by decide)
  have p1 := mixed_small g0 g1 a0 a2
  have p2 := sq_small a0 a2
  refine mulU_i (.inl (by omega)) ?_
  walk_at "go"
  refine mulU_i (.inl (by omega)) ?_
  walk_at "go"
  refine mulU_i (.inl (by omega)) ?_
  walk_at "go"
  refine rI_i ⟨by decide, by decide, by omega⟩ ?_
  walk_at "go"
  refine rI_i (show (0 : Int) < 2147483579 by decide) ?_
  walk_at "go"
  refine rI_i (wide_div (b := 6) (by decide) (by decide) (by decide) (by decide)) ?_
  walk_at "go"
  refine rI_i m0 ?_
  walk_at "go"
  exact z _ _ _ _ (Int.emod_nonneg _ (by omega)) (Int.emod_lt_of_pos _ m0) (show at' ≤ at' + 1 by omega) (Int.le_refl _) pen.b0 b2 f3
abbrev sPen : Stmt := top 10
theorem scPen : FnScope ["_law_script"] ["_law_script"] (defScope sPen) := ⟨rfl, rfl, rfl, by decide +kernel, rfl, by decide +kernel, by decide +kernel⟩
theorem ok_pen {f : Addr} {fd : FuncData} (F : Fun K "_law_pen" "_law_pen" sPen f fd) (m_list : mg "list" = none) : FnG P w K mg base CX0 1 f fd ["_law_script"] (spPen K) := by
  refine body_g0 F scPen ?_ ?_
  · rintro vs H Q E ⟨a, ns, rfl, _⟩
    rfl
  rintro cdv A outer s H vs Q E hr hq ⟨a, ns, rfl, hl, z⟩
  refine ⟨_, (pss_one (ps_ret (pe_lst (pa_cons (pe_callTy c_list (by rfl) m_list (by decide +kernel) (pa_cons (pe_slice sl_list (pv 0) po_none (po_some pe_int)) pa_nil)) (pa_cons pe_int (pa_cons pe_int pa_nil)))))), ?_⟩
  walk_at "go"
  refine slL hl fun p1 n1 => ?_
  obtain ⟨ms, em⟩ := cut_ints ns none (some 63)
  rw [em]
  walk_at "go"
  refine g_list (.inl (.inl upd_same)) fun q n2 => ?_
  walk_at "go"
  refine g_small (show 3 ≤ 1000 by decide) fun p n3 => ?_
  walk_at "go"
  have s1 := same_upd (o := .lst (ms.map V.int)) n1
  have s2 := s1.trans (same_upd (o := .lst (ms.map V.int)) n2)
  have s3 := s2.trans (same_upd (o := .lst [V.ref q, .int 0, .int 0]) n3)
  refine z p q ms _ s3 (s2.free n3) ⟨upd_same, ?_, by decide, by decide, by decide⟩
  rw [upd_ne (ne_of_none upd_same n3), upd_same]
end
end L2.K57
namespace L2.K57
open L2 L2.My L2.DL NdefX PySem PySem.Spec PyProof.Rows
open PM
abbrev tP (ps : List Pr) : D := .tup (ps.map dP)
def wo (ps : List Pr) (ns : List Int) : List Pr := ps.filter fun p => decide (p.1 ∉ ns) && decide (p.2 ∉ ns)
def partsP (n : Int) (p : Pr) : List Int := [p.1, p.2].filter fun o => decide (n = p.1 ∨ n = p.2) && decide (o ≠ n)
def partI (ps : List Pr) (n : Int) : List Int := sortI (ps.flatMap (partsP n))
def mateI (ps : List Pr) (n : Int) : List Int := sortI ((ps.filter fun p => decide (n = p.1 ∨ n = p.2)).map fun p => p.1 + p.2 - n)
/-! ### what is an int -/
def isN : D → Bool
  | .v (.int _) => true
  | _ => false
def hasT (d : D) : Prop := ∃ a, tyD d = some a
theorem isi_at {d : D} {b : String} (h : hasT d) (hb : b ∈ tyNames.drop 1) : ∃ a, tyD d = some a ∧ isiD d (.v (.ty b)) = some (dB (isTab a b)) := by
  obtain ⟨a, e⟩ := h
  refine ⟨a, e, ?_⟩
  unfold isiD
  simp only [hb, if_true, e, Option.map_some]
def isTp : D → Bool
  | .tup _ => true
  | _ => false
def isSt : D → Bool
  | .v (.str _) => true
  | _ => false
theorem isi_tup {d : D} (h : hasT d) : isiD d (.v (.ty "tuple")) = some (dB (isTp d)) := by
  obtain ⟨a, e, q⟩ := isi_at h (b := "tuple") (by decide)
  rw [q]
  unfold tyD at e
  split at e <;> (first | (cases e; done) | (cases e; rfl))
theorem isi_str {d : D} (h : hasT d) : isiD d (.v (.ty "str")) = some (dB (isSt d)) := by
  obtain ⟨a, e, q⟩ := isi_at h (b := "str") (by decide)
  rw [q]
  unfold tyD at e
  split at e <;> (first | (cases e; done) | (cases e; rfl))
/-- the test for an int that is no bool, in both ways of writing it -/
theorem isi_int1 {d : D} (h : hasT d) : andXL (op2 isiD (ok d : Om D) (ok (.v (.ty "int")))) (notX (op2 isiD (ok d) (ok (.v (.ty "bool"))))) = ok (dB (isN d)) := by
  obtain ⟨a, e, q⟩ := isi_at h (b := "int") (by decide)
  obtain ⟨a', e', q'⟩ := isi_at h (b := "bool") (by decide)
  rw [op2_ok, op2_ok, q, q', lif_some, lif_some, andX_ok, notX_ok]
  rw [e] at e'
  cases e'
  unfold tyD at e
  split at e <;> (first | (cases e; done) | (cases e; rfl))
theorem isi_int2 {d : D} (h : hasT d) : orL (notB (tst (op2 isiD (ok d : Om D) (ok (.v (.ty "int")))))) (tst (op2 isiD (ok d) (ok (.v (.ty "bool"))))) = ok (!isN d) := by
  obtain ⟨a, e, q⟩ := isi_at h (b := "int") (by decide)
  obtain ⟨a', e', q'⟩ := isi_at h (b := "bool") (by decide)
  rw [op2_ok, op2_ok, q, q', lif_some, lif_some, tst_ok, tst_ok, notB_ok, orB_ok]
  rw [e] at e'
  cases e'
  unfold tyD at e
  split at e <;> (first | (cases e; done) | (cases e; rfl))
def isTI : D → Bool
  | .tup xs => xs.all isN
  | _ => false
theorem are_integers_at {d : D} (h : hasT d) (h2 : ∀ xs, d = .tup xs → xs.length ≤ sizeLine ∧ ∀ x ∈ xs, hasT x) : are_integers_V d = ok (dB (isTI d)) := by
  unfold are_integers_V
  rw [op2_ok, isi_tup h, lif_some, andX_ok]
  cases d with
  | tup xs =>
    obtain ⟨l, hx⟩ := h2 xs rfl
    have e := lcV_all (m := Om) (fun x : D => x) (fun x => dB (isN x)) (xs := xs) (st := fun e => stpL (ok true) (andXL (op2 isiD (ok e) (ok (.v (.ty "int")))) (notX (op2 isiD (ok e) (ok (.v (.ty "bool"))))))) l fun x q => by
      rw [isi_int1 (hx x q), stp_ok, if_pos rfl, ok_bnd]
    rw [List.map_id'] at e
    simp only [isTp, if_true, itV_ok, asIt_t, lif_some, e, op1_ok, allD_l]
    have : asBs (xs.map fun x => dB (isN x)) = some (xs.map isN) := by
      rw [← asBs_map, List.map_map]; rfl
    rw [this]
    simp only [Option.map_some, lif_some, ok_bnd, okL, retV_rt, isTI, List.all_map]
    rfl
  | _ => simp [isTI, isTp]
/-! ### without, partners -/
theorem barred_at (ns : List Int) (hl : ns.length ≤ 1000) : coG (m := Om) (fun e acc => ifL (ok true) (putKV acc (ok e) (ok (dB true))) (ok acc)) (ns.map dI) [] = ok (ns.foldl (fun a n => putDk a (.inl n) (dB true)) []) := by
  refine coG_fold dI (fun a n => putDk a (.inl n) (dB true)) (fun r a => r.length + a.length ≤ 1000) _ (fun x r acc i => ?_) ns [] (by simpa using hl)
  rw [List.length_cons] at i
  have := putDk_len acc (.inl x) (dB true)
  refine ⟨?_, by omega⟩
  rw [ifV_ok, if_pos rfl]
  unfold putKV
  rw [ok_bnd, ok_bnd]
  show lif (if acc.length < sizeLine then _ else _) = _
  rw [if_pos (lt_line (by omega))]
  rfl
theorem barred_any (n : Int) : ∀ (ns : List Int) (a : List (Key × D)), ((ns.foldl (fun a n => putDk a (.inl n) (dB true)) a).any fun kv => decide (kv.1 = Sum.inl n)) = (decide (n ∈ ns) || a.any fun kv => decide (kv.1 = Sum.inl n))
  | [], a => by simp
  | x :: r, a => by
    rw [List.foldl_cons, barred_any n r, putDk_any]
    by_cases h : n ∈ r
    · simp [h]
    · by_cases h2 : n = x
      · subst h2; simp
      · have : (Sum.inl x : Key) ≠ Sum.inl n := fun q => h2 (Sum.inl.inj q).symm
        simp [h, h2, this]
theorem asIt_I (b : Bool) (ns : List Int) : asIt (bif b then .tup (ns.map dI) else .lst (ns.map dI)) = some (ns.map dI) := by cases b <;> rfl
theorem without_at {ps : List Pr} {ns : List Int} (b : Bool) (lp : ps.length ≤ 1000) (ln : ns.length ≤ 1000) : without_V (lP ps) (bif b then .tup (ns.map dI) else .lst (ns.map dI)) = ok (lP (wo ps ns)) := by
  unfold without_V dkL dkV
  rw [itV_ok, asIt_I, lif_some, ok_bnd, barred_at ns ln, ok_bnd, okL]
  rw [itV_ok, asIt_l, lif_some]
  rw [lcV_if (m := Om) dP (fun p => decide (p.1 ∉ ns) && decide (p.2 ∉ ns)) dP (le_line lp) fun p hp => by
    simp only [op2_ok, ix_0, ix_1, lif_some, in_dct, tst_ok, barred_any, List.any_nil, Bool.or_false, andB_ok, stp_ok]
    by_cases h1 : p.1 ∈ ns <;> by_cases h2 : p.2 ∈ ns <;> simp [h1, h2]]
  simp only [ok_bnd, okL, retV_rt]
  rfl
theorem partners_of_at {ps : List Pr} {n : Int} (lp : ps.length ≤ 31) : partners_of_V (lP ps) (dI n) = ok (tI (partI ps n)) := by
  unfold partners_of_V ssL ssV
  rw [itV_ok, asIt_l, lif_some, ok_bnd]
  have := coG_fold (m := Om) dP (fun a p => a ++ partsP n p) (fun r a => a.length + 2 * r.length ≤ 62) (fun e acc => ifL (ok true) (in2L (itV (ok e)) (fun e_1 acc_1 => ifL (andL (tst (op2 (inX true) (ok (dI n)) (ok e))) (tst (op2 (eqD false) (ok e_1) (ok (dI n))))) (addV acc_1 (ok e_1)) (ok acc_1)) acc) (ok acc)) (fun p r a i => ?_) ps [] (by simp; omega)
  · rw [this, ok_bnd]
    have hl : (ps.foldl (fun a p => a ++ partsP n p) []).length < 64 := by
      rw [fold_app, List.nil_append]
      have := flat_len (partsP n) 2 ps fun p _ => List.length_filter_le _ _
      omega
    rw [if_pos hl, fold_app, List.nil_append, op1_ok]
    simp only [tupD, asSeq, Option.map_some, lif_some, ok_bnd, okL, retV_rt]
    rfl
  · rw [List.length_cons] at i
    refine ⟨?_, by have := List.length_filter_le (fun o => decide (n = p.1 ∨ n = p.2) && decide (o ≠ n)) [p.1, p.2]; rw [List.length_append]; unfold partsP; simp only [List.length_cons, List.length_nil] at this; omega⟩
    rw [ifV_ok, if_pos rfl]
    unfold in2L in2V
    have e : asIt (dP p) = some ([p.1, p.2].map dI) := rfl
    rw [itV_ok, e, lif_some, ok_bnd]
    have := coG_fold (m := Om) dI (fun a o => if (decide (n = p.1 ∨ n = p.2) && decide (o ≠ n)) = true then a ++ [o] else a) (fun r b => b.length + r.length ≤ 1000) (fun e_1 acc_1 => ifL (andL (tst (op2 (inX true) (ok (dI n)) (ok (dP p)))) (tst (op2 (eqD false) (ok e_1) (ok (dI n))))) (addV acc_1 (ok e_1)) (ok acc_1)) (fun o r b i => ?_) [p.1, p.2] a (by simp; omega)
    · rw [this]
      congr 1
      simp only [List.foldl_cons, List.foldl_nil, partsP, List.filter_cons, List.filter_nil]
      split <;> split <;> simp_all
    · rw [List.length_cons] at i
      refine ⟨?_, by split <;> (try simp only [List.length_append, List.length_cons, List.length_nil]) <;> omega⟩
      simp only [op2_ok, in_pair, lif_some, tst_ok, eqD_i, andB_ok]
      by_cases h1 : n = p.1 ∨ n = p.2
      · by_cases h2 : o = n
        · simp [h1, h2]
        · simp only [h1, h2, decide_true, beq_self_eq_true, if_true, ne_eq, not_false_eq_true, Bool.and_self, beq_eq_false_iff_ne.mpr h2, ifV_ok, addV, ok_bnd, asI, Option.bind_some]
          rw [if_pos (by omega)]
          rfl
      · simp [h1]
end L2.K57
namespace L2.K57
open L2 L2.My L2.DL NdefX PySem PySem.Spec PyProof.Rows
open PM
/-- any thing that may stand in a paper; its tuples and lists have at most b items -/
inductive Tb (b : Nat) : D → Prop
  | non : Tb b dN
  | bl (x : Bool) : Tb b (dB x)
  | int (i : Int) : Tb b (dI i)
  | str (x : Str) : Tb b (dS x)
  | emp : Tb b (.dct [])
  | lst (xs : List D) (l : xs.length ≤ b) (h : ∀ x ∈ xs, Tb b x) : Tb b (.lst xs)
  | tup (xs : List D) (l : xs.length ≤ b) (h : ∀ x ∈ xs, Tb b x) (hd : ∀ x r, xs = x :: r → r ≠ [] → ∃ p, toPy x = some p) (h2 : ∀ x ys r, xs = x :: .tup ys :: r → ∀ z ∈ ys, ∃ p, toPy z = some p) : Tb b (.tup xs)
abbrev Th := Tb 900
theorem Tb.mono {b c : Nat} (h : b ≤ c) {d : D} (t : Tb b d) : Tb c d := by
  induction t with
  | non => exact .non
  | bl x => exact .bl x
  | int i => exact .int i
  | str x => exact .str x
  | emp => exact .emp
  | lst xs l _ ih => exact .lst xs (by omega) ih
  | tup xs l _ hd h2 ih => exact .tup xs (by omega) ih hd h2
theorem Tb.parts {b : Nat} {xs : List D} (h : Tb b (.tup xs)) : xs.length ≤ b ∧ ∀ x ∈ xs, Tb b x := by cases h with | tup _ l h _ _ => exact ⟨l, h⟩
theorem Tb.ty {b : Nat} {d : D} (h : Tb b d) : hasT d := by cases h <;> exact ⟨_, rfl⟩
theorem Th.ty {d : D} (h : Th d) : hasT d := Tb.ty h
theorem Th.parts {xs : List D} (h : Th (.tup xs)) : xs.length ≤ 900 ∧ ∀ x ∈ xs, Th x := Tb.parts h
theorem Th.ints {d : D} (h : Th d) : are_integers_V d = ok (dB (isTI d)) := are_integers_at h.ty fun xs e => by
  subst e
  exact ⟨le_line (by have := h.parts.1; omega), fun x hx => (h.parts.2 x hx).ty⟩
theorem isTI_ints : ∀ {xs : List D}, xs.all isN = true → ∃ ns : List Int, xs = ns.map dI
  | [], _ => ⟨[], rfl⟩
  | x :: r, h => by
    rw [List.all_cons, Bool.and_eq_true] at h
    obtain ⟨ns, e⟩ := isTI_ints h.2
    unfold isN at h
    split at h
    · exact ⟨_ :: ns, by rw [List.map_cons, e]⟩
    · exact absurd h.1 (by decide)
/-! ### pairs apart -/
/-- the pair that a thing is -/
def asP : D → Option Pr
  | .tup [.v (.int a), .v (.int b)] => some (a, b)
  | _ => none
theorem asP_eq {d : D} {p : Pr} (h : asP d = some p) : d = dP p := by
  unfold asP at h
  split at h
  · cases h; rfl
  · cases h
def apG (ps : List Pr) : List D → List Int → Bool
  | [], _ => true
  | x :: r, tk => match asP x with
    | some p => decide (p ∈ ps) && decide (p.1 ∉ tk) && decide (p.2 ∉ tk) && apG ps r (p.2 :: p.1 :: tk)
    | none => false
def KeysAre (kvs : List (Key × D)) (tk : List Int) : Prop := kvs.length ≤ 2000 ∧ ∀ n, (kvs.any fun kv => decide (kv.1 = Sum.inl n)) = decide (n ∈ tk)
theorem KeysAre.put {kvs : List (Key × D)} {tk : List Int} {x : Int} {d : D} (h : KeysAre kvs tk) (l : kvs.length < 2000) : KeysAre (putDk kvs (.inl x) d) (x :: tk) := by
  refine ⟨by have := putDk_len kvs (.inl x) d; omega, fun n => ?_⟩
  rw [putDk_any, h.2]
  by_cases h2 : n = x
  · subst h2; simp
  · have : (Sum.inl x : Key) ≠ Sum.inl n := fun q => h2 (Sum.inl.inj q).symm
    simp [h2, this]
theorem known_at {ps : List Pr} (lp : ps.length ≤ 1000) : coG (m := Om) (fun e acc => ifL (ok true) (putTV acc (ok e) (ok (dB true))) (ok acc)) (ps.map dP) [] = ok (ps.foldl (fun a p => if [p.1, p.2] ∈ a then a else a ++ [[p.1, p.2]]) []) := by
  refine coG_fold dP (fun a p => if [p.1, p.2] ∈ a then a else a ++ [[p.1, p.2]]) (fun r a => r.length + a.length ≤ 1000) _ (fun x r acc i => ?_) ps [] (by simpa using lp)
  rw [List.length_cons] at i
  refine ⟨?_, by split <;> (try simp only [List.length_append, List.length_cons, List.length_nil]) <;> omega⟩
  rw [ifV_ok, if_pos rfl]
  unfold putTV
  rw [ok_bnd, ok_bnd]
  show lif (if acc.length < sizeLine then _ else _) = _
  rw [if_pos (lt_line (by omega))]
  rfl
theorem known_mem {q : Pr} : ∀ {ps : List Pr} {a : List (List Int)}, [q.1, q.2] ∈ ps.foldl (fun a p => if [p.1, p.2] ∈ a then a else a ++ [[p.1, p.2]]) a ↔ q ∈ ps ∨ [q.1, q.2] ∈ a
  | [], a => by simp
  | p :: ps, a => by
    rw [List.foldl_cons, known_mem]
    by_cases e : q = p
    · subst e
      constructor
      · intro _; exact .inl List.mem_cons_self
      · intro _
        refine .inr ?_
        split
        · assumption
        · simp
    · have ne : [q.1, q.2] ≠ [p.1, p.2] := fun z => e (by
        simp only [List.cons.injEq, and_true] at z
        exact Prod.ext z.1 z.2)
      constructor
      · rintro (h | h)
        · exact .inl (List.mem_cons_of_mem _ h)
        · split at h
          · exact .inr h
          · simp only [List.mem_append, List.mem_singleton, ne, or_false] at h
            exact .inr h
      · rintro (h | h)
        · rcases List.mem_cons.mp h with h | h
          · exact absurd h e
          · exact .inl h
        · refine .inr ?_
          split
          · exact h
          · exact List.mem_append_left _ h
theorem setDV_at {kvs : List (Key × D)} {n : Int} {d : D} (l : kvs.length ≤ 2000) : setDV (m := Om) kvs (ok d) (ok (dI n)) = ok (putDk kvs (.inl n) d) := by
  unfold setDV
  rw [ok_bnd, ok_bnd]
  show lif (if kvs.length < sizeLine then _ else _) = _
  rw [if_pos (by have := sizeLine_eq; omega)]
  rfl
def apBody (ks : List (List Int)) : D → List (Key × D) → Om (Ot (List (Key × D)) (List (Key × D))) := fun e_1 q =>
    (ifL (orL (notB (tst (calV (ap1 are_integers_V) [(ok e_1)]))) (orL (tst (op2 (inX false) (ok e_1) (ok (.dtp ks)))) (orL (tst (op2 (inX true) (op2 ixD (ok e_1) (ok (dI 0))) (ok (.dct q)))) (tst (op2 (inX true) (op2 ixD (ok e_1) (ok (dI 1))) (ok (.dct q)))))))
    (bndL (ok (dB false)) fun d => ok (.rt d))
    (bndL (setDV q (ok (dB true)) (op2 ixD (ok e_1) (ok (dI 0)))) fun taken_1 =>
    (bndL (setDV taken_1 (ok (dB true)) (op2 ixD (ok e_1) (ok (dI 1)))) fun taken_2 =>
    (ok (.nx taken_2)))))
theorem ints_cal {x : D} (tx : Th x) : calV (m := Om) (ap1 are_integers_V) [ok x] = ok (dB (isTI x)) := by simp only [calV, seqV_cons, seqV_nil, ok_bnd, ap1_at, lft_Om, tx.ints]
theorem ap_step {ps : List Pr} {ks : List (List Int)} (hk : ∀ q : Pr, [q.1, q.2] ∈ ks ↔ q ∈ ps) (hk2 : ∀ k ∈ ks, ∃ q : Pr, k = [q.1, q.2]) {x : D} {kvs : List (Key × D)} {tk : List Int} (h : KeysAre kvs tk) (l : kvs.length + 2 ≤ 2000) (tx : Th x) :
    (∃ (p : Pr) (k2 : List (Key × D)), apBody ks x kvs = ok (.nx k2) ∧ KeysAre k2 (p.2 :: p.1 :: tk) ∧ k2.length ≤ kvs.length + 2 ∧ ∀ r, apG ps (x :: r) tk = apG ps r (p.2 :: p.1 :: tk)) ∨ (apBody ks x kvs = ok (.rt (dB false)) ∧ ∀ r, apG ps (x :: r) tk = false) := by
  unfold apBody
  simp only [ints_cal tx, tst_ok, notB_ok, orB_ok]
  cases hi : isTI x with
  | false =>
    refine .inr ⟨by simp, fun r => ?_⟩
    unfold apG
    cases q : asP x with
    | none => rfl
    | some p => rw [asP_eq q] at hi; cases hi
  | true =>
    obtain ⟨xs, rfl⟩ : ∃ xs, x = .tup xs := by cases x <;> first | exact ⟨_, rfl⟩ | cases hi
    obtain ⟨ns, rfl⟩ := isTI_ints hi
    have ek : inX false (.tup (ns.map dI)) (.dtp ks) = some (dB (false == decide (ns ∈ ks))) := by
      show (asTI (.tup (ns.map dI))).map _ = _
      have : asTI (.tup (ns.map dI)) = some ns := asIs_map ns
      rw [this]; rfl
    simp only [op2_ok, ek, lif_some, tst_ok, Bool.not_true, Bool.false_eq_true, if_false, orB_ok]
    by_cases hn : ns ∈ ks
    · obtain ⟨p, rfl⟩ := hk2 ns hn
      have hp := (hk p).mp hn
      have ix0 : ixD (.tup ([p.1, p.2].map dI)) (dI 0) = some (dI p.1) := rfl
      have ix1 : ixD (.tup ([p.1, p.2].map dI)) (dI 1) = some (dI p.2) := rfl
      have ap : ∀ r, apG ps (.tup ([p.1, p.2].map dI) :: r) tk = (decide (p.1 ∉ tk) && decide (p.2 ∉ tk) && apG ps r (p.2 :: p.1 :: tk)) := fun r => by
        show (decide (p ∈ ps) && decide (p.1 ∉ tk) && decide (p.2 ∉ tk) && apG ps r (p.2 :: p.1 :: tk)) = _
        simp [hp]
      simp only [hn, decide_true, ix0, ix1, lif_some, op2_ok, in_dct, tst_ok, h.2, orB_ok, ap]
      by_cases h1 : p.1 ∈ tk
      · exact .inr ⟨by simp [h1], by simp [h1]⟩
      · by_cases h2 : p.2 ∈ tk
        · exact .inr ⟨by simp [h1, h2], by simp [h2]⟩
        · have k1 := h.put (x := p.1) (d := dB true) (by omega)
          have l1 := putDk_len kvs (.inl p.1) (dB true)
          have k2 := k1.put (x := p.2) (d := dB true) (by omega)
          have l2 := putDk_len (putDk kvs (.inl p.1) (dB true)) (.inl p.2) (dB true)
          exact .inl ⟨p, _, by simp [h1, h2, setDV_at h.1, setDV_at k1.1], k2, by omega, by simp [h1, h2]⟩
    · refine .inr ⟨by simp [hn], fun r => ?_⟩
      unfold apG
      cases q : asP (.tup (ns.map dI)) with
      | none => rfl
      | some p =>
        have e := asP_eq q
        have : ns = [p.1, p.2] := mapI_inj (D.tup.inj e)
        have np : p ∉ ps := fun z => hn (by rw [this]; exact (hk p).mpr z)
        simp [np]
theorem apart_loop {ps : List Pr} {ks : List (List Int)} (hk : ∀ q : Pr, [q.1, q.2] ∈ ks ↔ q ∈ ps) (hk2 : ∀ k ∈ ks, ∃ q : Pr, k = [q.1, q.2]) : ∀ (xs : List D) (kvs : List (Key × D)) (tk : List Int), KeysAre kvs tk → kvs.length + 2 * xs.length ≤ 2000 → (∀ x ∈ xs, Th x) →
    (∃ k2, (forL (apBody ks) xs kvs : Om (Ot _ Unit)) = ok (.nx k2) ∧ apG ps xs tk = true) ∨ ((forL (apBody ks) xs kvs : Om (Ot _ Unit)) = ok (.rt (dB false)) ∧ apG ps xs tk = false)
  | [], kvs, tk, _, _, _ => .inl ⟨_, rfl, rfl⟩
  | x :: r, kvs, tk, h, l, hx => by
    rw [List.length_cons] at l
    rw [forV_cons]
    rcases ap_step hk hk2 h (by omega) (hx x List.mem_cons_self) with ⟨p, k2, e, h2, l2, a⟩ | ⟨e, a⟩
    · rw [e, okL, turnV_nx, a]
      exact apart_loop hk hk2 r k2 _ h2 (by omega) fun y hy => hx y (List.mem_cons_of_mem _ hy)
    · rw [e, okL, turnV_rt, a]
      exact .inr ⟨rfl, rfl⟩
theorem known_pairs : ∀ {ps : List Pr} {a : List (List Int)}, (∀ k ∈ a, ∃ q : Pr, k = [q.1, q.2]) → ∀ k ∈ ps.foldl (fun a p => if [p.1, p.2] ∈ a then a else a ++ [[p.1, p.2]]) a, ∃ q : Pr, k = [q.1, q.2]
  | [], a, h, k, hk => h k hk
  | p :: ps, a, h, k, hk => by
    refine known_pairs (ps := ps) (fun k hk => ?_) k hk
    change k ∈ (if [p.1, p.2] ∈ a then a else a ++ [[p.1, p.2]]) at hk
    split at hk
    · exact h k hk
    · rcases List.mem_append.mp hk with q | q
      · exact h k q
      · exact ⟨p, List.mem_singleton.mp q⟩
def apD (ps : List Pr) : D → Bool
  | .tup xs => apG ps xs []
  | _ => false
theorem are_apart_at {ps : List Pr} {d : D} (lp : ps.length ≤ 900) (h : Th d) : are_apart_V (lP ps) d = ok (dB (apD ps d)) := by
  unfold are_apart_V
  rw [op2_ok, isi_tup h.ty, lif_some, tst_ok, notB_ok, ifV_ok]
  cases d with
  | tup xs =>
    unfold dtL dtV
    simp only [isTp, Bool.not_true, Bool.false_eq_true, if_false]
    rw [itV_ok, asIt_l, lif_some, ok_bnd, known_at (by omega), ok_bnd, okL, asDc_ok, okL, itV_ok, asIt_t, lif_some, okL]
    rcases apart_loop (ps := ps) (ks := ps.foldl (fun a p => if [p.1, p.2] ∈ a then a else a ++ [[p.1, p.2]]) []) (fun q => by rw [known_mem]; simp) (known_pairs fun k z => absurd z (by simp)) xs [] [] ⟨by simp, fun n => rfl⟩ (by have := h.parts.1; simp; omega) h.parts.2 with ⟨k2, e, a⟩ | ⟨e, a⟩
    · unfold apBody at e
      rw [e]
      simp [apD, a]
    · unfold apBody at e
      rw [e]
      simp [apD, a]
  | _ => simp [isTp, apD]
end L2.K57
namespace L2.K57
open L2 L2.My L2.DL NdefX PySem PySem.Spec PyProof.Rows
open PM
def isS (z : Str) : D → Bool
  | .v (.str y) => y == z
  | _ => false
theorem eq_isS {b : Bool} {x : D} {z : Str} (h : ∃ p, toPy x = some p) : eqD b x (dS z) = some (dB (b == isS z x)) := by
  obtain ⟨p, h⟩ := h
  have e : toPy (dS z) = some (.str z) := rfl
  unfold eqD
  rw [h, e]
  have hz : (PyData.str z).depth = 0 := by simp [PyData.depth]
  have hd : min p.depth (PyData.str z).depth ≤ 60 := by omega
  show (if min p.depth (PyData.str z).depth ≤ 60 then some (dB (b == PyData.eqv p (.str z))) else none) = _
  rw [if_pos hd]
  congr 2
  congr 1
  cases x with
  | v x =>
    cases x <;> simp only [toPy] at h <;> (first | (cases h; simp [PyData.eqv, isS]) | cases h)
  | tup xs => simp only [toPy, Option.map_eq_some_iff] at h; obtain ⟨_, _, rfl⟩ := h; simp [PyData.eqv, isS]
  | lst xs => simp only [toPy, Option.map_eq_some_iff] at h; obtain ⟨_, _, rfl⟩ := h; simp [PyData.eqv, isS]
  | dct _ => simp [toPy] at h
  | obj _ _ => simp [toPy] at h
  | exc _ _ => simp [toPy] at h
  | dtp _ => simp [toPy] at h
/-- what is still to be looked at -/
structure It where
  ps : List Pr
  m : Int
  d : D
def It.t (x : It) : D := .tup [lP x.ps, dI x.m, x.d]
def lenT : D → Nat
  | .tup xs => xs.length
  | _ => 0
/-- what a paper rests on -/
def parts (ps : List Pr) (m : Int) : D → Option (List It)
  | .v .non => if m < 0 then some [] else none
  | .tup [h, v] => if (isS "pairs" h && apD ps v && decide (m < lenT v)) = true then some [] else none
  | .tup [h, .v (.int n), t, s] => if (isS "case" h && !isS "pairs" h && decide ((n, n) ∉ ps) && decide (partI ps n ≠ [])) = true then some [⟨wo ps [n], m - 1, t⟩, ⟨wo ps (partI ps n), m - (partI ps n).length, s⟩] else none
  | _ => none
def partsR : Option (List It) → D
  | none => dN
  | some l => .lst (l.map It.t)
theorem isS_ne {h : D} (a : isS "pairs" h = true) : isS "case" h = false := by
  unfold isS at *
  split at a
  · rw [beq_iff_eq.mp a]; decide
  · cases a
theorem sortK_len {α : Type} {κ : α → Int} : ∀ l : List α, (sortK κ l).length ≤ l.length
  | [] => Nat.le_refl _
  | x :: r => by
    have ins : ∀ l : List α, (insK κ x l).length ≤ l.length + 1 := fun l => by
      induction l with
      | nil => exact Nat.le_refl _
      | cons y r ih =>
        unfold insK
        split
        · exact Nat.le_refl _
        · split
          · exact Nat.le_succ _
          · rw [List.length_cons, List.length_cons]; omega
    have := sortK_len (κ := κ) r
    have := ins (sortK κ r)
    show (insK κ x (sortK κ r)).length ≤ r.length + 1
    omega
def negD : D → Option D
  | .v (.int i) => some (dI (-i))
  | _ => none
theorem part_len (ps : List Pr) (n : Int) : (partI ps n).length ≤ 2 * ps.length := by
  unfold partI sortI
  have h1 : ∀ l : List Int, (sortK id l).length ≤ l.length := fun l => sortK_len l
  have := flat_len (partsP n) 2 ps fun p _ => List.length_filter_le _ _
  exact Nat.le_trans (h1 _) this
theorem apart_cal {ps : List Pr} {y : D} (lp : ps.length ≤ 31) (ty : Th y) : calV (m := Om) (ap2 are_apart_V) [ok (lP ps), ok y] = ok (dB (apD ps y)) := by simp only [calV, seqV_cons, seqV_nil, ok_bnd, ap2_at, lft_Om, are_apart_at (by omega : ps.length ≤ 900) ty]
theorem parts_at {ps : List Pr} {m : Int} {d : D} (lp : ps.length ≤ 31) (h : Th d) : parts_of_cover_V (lP ps) (dI m) d = ok (partsR (parts ps m d)) := by
  unfold parts_of_cover_V
  cases d with
  | tup xs =>
    have hd : ∀ x r, xs = x :: r → r ≠ [] → ∃ p, toPy x = some p := by cases h with | tup _ _ _ hd _ => exact hd
    simp only [op2_ok, isD_t, lif_some, tst_ok, ifV_ok, isi_tup h.ty, isTp, notB_ok, Bool.not_true, orB_ok, op1_ok, lenD_t, cmpD_i, Bool.false_eq_true, if_false]
    match xs, h, hd with
    | [], _, _ => simp [parts, partsR]
    | [x], _, _ => simp [parts, partsR]
    | x :: y :: r, h, hd =>
      have hp := hd x (y :: r) rfl (by simp)
      have lt : decide (((x :: y :: r).length : Int) < 2) = false := by simp; omega
      simp only [lt, Bool.false_eq_true, if_false, ixD_t0, lif_some, op2_ok, eq_isS hp, tst_ok, ifV_ok, orB_ok, eqD_i]
      cases h1 : isS "pairs" x with
      | true =>
        simp only [beq_self_eq_true, if_true]
        match r with
        | [] =>
          have ty := h.parts.2 y (by simp)
          cases h2 : apD ps y with
          | false => simp [apart_cal lp ty, h2, parts, h1, partsR]
          | true =>
            obtain ⟨ys, rfl⟩ : ∃ ys, y = .tup ys := by cases y <;> first | exact ⟨_, rfl⟩ | cases h2
            by_cases hm : m < ys.length
            · simp [apart_cal lp ty, h2, parts, h1, hm, lstV, partsR, lenT]
            · simp [apart_cal lp ty, h2, parts, h1, hm, partsR, lenT]
        | [z] => simp [parts, partsR]
        | [z, u] =>
          have : parts ps m (.tup [x, y, z, u]) = none := by
            unfold parts
            split <;> simp_all
          simp [this, partsR]
        | z :: u :: v :: r =>
          have : ¬ ((r.length : Int) + 1 + 1 + 1 + 1 + 1 = 2) := by omega
          simp [this, parts, partsR]
      | false =>
        have e0 : (true == false) = false := rfl
        simp only [e0, Bool.false_eq_true, if_false]
        cases h2 : isS "case" x with
        | false =>
          have : parts ps m (.tup (x :: y :: r)) = none := by
            unfold parts
            split <;> simp_all
          simp [this, partsR]
        | true =>
          match r with
          | [] => simp [parts, h1, partsR]
          | [z] => simp [parts, partsR]
          | z :: u :: v :: r =>
            have : ¬ ((r.length : Int) + 1 + 1 + 1 + 1 + 1 = 4) := by omega
            simp [this, parts, partsR]
          | [z, u] =>
            have ty := h.parts.2 y (by simp)
            have t1 : Th (.tup [y]) := .tup [y] (by simp) (by simpa using ty) (fun x r e n => by cases e; exact absurd rfl n) (fun x ys r e => by cases e)
            have ei := t1.ints
            cases hn : isN y with
            | false =>
              have : parts ps m (.tup [x, y, z, u]) = none := by
                unfold parts
                split <;> simp_all [isN]
              simp [calV, tupV, ei, isTI, hn, this, partsR]
            | true =>
              obtain ⟨n, rfl⟩ : ∃ n, y = dI n := by
                unfold isN at hn
                split at hn
                · exact ⟨_, rfl⟩
                · cases hn
              have e2 := partners_of_at (n := n) lp
              have pl := part_len ps n
              have e3 : without_V (lP ps) (.tup [dI n]) = ok (lP (wo ps [n])) := without_at (ns := [n]) true (by omega) (by simp)
              have e4 : without_V (lP ps) (tI (partI ps n)) = ok (lP (wo ps (partI ps n))) := without_at (ns := partI ps n) true (by omega) (by omega)
              have e5 : inX true (.tup [dI n, dI n]) (lP ps) = some (dB (true == decide ((n, n) ∈ ps))) := in_P (p := (n, n))
              by_cases k1 : (n, n) ∈ ps
              · simp [calV, tupV, ei, isTI, hn, e5, k1, parts, partsR]
              · by_cases k2 : partI ps n = []
                · simp [calV, tupV, ei, isTI, hn, e5, e2, k1, k2, parts, partsR]
                · have k3 : (((partI ps n).length : Int) == 0) = false := by
                    rw [beq_eq_false_iff_ne]
                    intro q
                    exact k2 (List.length_eq_zero_iff.mp (by omega))
                  simp [calV, tupV, ei, isTI, hn, e5, e2, e3, e4, k1, k2, k3, parts, h1, h2, lstV, partsR, It.t]
  | v x =>
    cases h with
    | non =>
      simp only [op2_ok, isD_n, lif_some, tst_ok, ifV_ok, if_true, cmpD_i, parts]
      by_cases hm : m < 0
      · simp [hm, lstV, partsR]
      · simp [hm, partsR]
    | bl b => simp [isi_tup (Tb.bl b : Th _).ty, isTp, parts, partsR]
    | int b => simp [isi_tup (Tb.int b : Th _).ty, isTp, parts, partsR]
    | str b => simp [isi_tup (Tb.str b : Th _).ty, isTp, parts, partsR]
  | lst xs => simp [isi_tup h.ty, isTp, parts, partsR]
  | dct xs => simp [isi_tup h.ty, isTp, parts, partsR]
  | obj _ _ => cases h
  | exc _ _ => cases h
  | dtp _ => cases h
end L2.K57
namespace L2.K57
open L2 L2.My L2.DL NdefX PySem PySem.Spec PyProof.Rows
open PM
theorem mem_part {ps : List Pr} {n o : Int} : o ∈ partI ps n ↔ ∃ p ∈ ps, (n = p.1 ∨ n = p.2) ∧ (o = p.1 ∨ o = p.2) ∧ o ≠ n := by
  unfold partI
  rw [sortI_mem, List.mem_flatMap]
  constructor
  · rintro ⟨p, hp, ho⟩
    unfold partsP at ho
    rw [List.mem_filter] at ho
    simp only [List.mem_cons, List.not_mem_nil, or_false, Bool.and_eq_true, decide_eq_true_eq] at ho
    exact ⟨p, hp, ho.2.1, ho.1, ho.2.2⟩
  · rintro ⟨p, hp, h1, h2, h3⟩
    refine ⟨p, hp, ?_⟩
    unfold partsP
    rw [List.mem_filter]
    simp only [List.mem_cons, List.not_mem_nil, or_false, Bool.and_eq_true, decide_eq_true_eq]
    exact ⟨h2, h1, h3⟩
theorem wo_lt {ps : List Pr} {n : Int} (h : partI ps n ≠ []) : (wo ps [n]).length < ps.length ∧ (wo ps (partI ps n)).length < ps.length := by
  obtain ⟨o, ho⟩ := List.exists_mem_of_ne_nil _ h
  obtain ⟨p, hp, h1, h2, h3⟩ := mem_part.mp ho
  have lt : ∀ ns : List Int, (p.1 ∈ ns ∨ p.2 ∈ ns) → (wo ps ns).length < ps.length := fun ns hn => by
    unfold wo
    refine List.length_filter_lt_length_iff_exists.mpr ⟨p, hp, ?_⟩
    simp only [Bool.and_eq_true, decide_eq_true_eq]
    rintro ⟨a, b⟩
    exact hn.elim a b
  exact ⟨lt _ (h1.imp (fun e => by simp [e]) fun e => by simp [e]), lt _ (h2.imp (fun e => by rw [← e]; exact ho) fun e => by rw [← e]; exact ho)⟩
theorem parts_lt {ps : List Pr} {m : Int} {d : D} {l : List It} (h : parts ps m d = some l) : ∀ x ∈ l, x.ps.length < ps.length := by
  unfold parts at h
  split at h
  · split at h <;> cases h; simp
  · split at h <;> cases h; simp
  · split at h
    · rename_i c
      simp only [Bool.and_eq_true, decide_eq_true_eq] at c
      cases h
      have := wo_lt c.2
      intro x hx
      simp only [List.mem_cons, List.not_mem_nil, or_false] at hx
      rcases hx with rfl | rfl
      · exact this.1
      · exact this.2
    · cases h
  · cases h
theorem parts_th {ps : List Pr} {m : Int} {d : D} {l : List It} (h : parts ps m d = some l) (t : Th d) : ∀ x ∈ l, Th x.d := by
  unfold parts at h
  split at h
  · split at h <;> cases h; simp
  · split at h <;> cases h; simp
  · split at h
    · cases h
      intro x hx
      simp only [List.mem_cons, List.not_mem_nil, or_false] at hx
      rcases hx with rfl | rfl
      · exact t.parts.2 _ (by simp)
      · exact t.parts.2 _ (by simp)
    · cases h
  · cases h
theorem parts_len {ps : List Pr} {m : Int} {d : D} {l : List It} (h : parts ps m d = some l) : l.length ≤ 2 := by
  unfold parts at h
  split at h
  · split at h <;> cases h; simp
  · split at h <;> cases h; simp
  · split at h <;> cases h; simp
  · cases h
theorem all_same {α : Type} {p q : α → Bool} : ∀ {l : List α}, (∀ x ∈ l, p x = q x) → l.all p = l.all q
  | [], _ => rfl
  | x :: r, h => by rw [List.all_cons, List.all_cons, h x List.mem_cons_self, all_same fun y hy => h y (List.mem_cons_of_mem _ hy)]
/-- whether a paper is one; k: at least as many turns as there are pairs -/
def ck : Nat → It → Bool
  | 0, _ => false
  | k + 1, x => match parts x.ps x.m x.d with
    | none => false
    | some l => l.all (ck k)
theorem ck_more : ∀ {k : Nat} {x : It}, x.ps.length < k → ck (k + 1) x = ck k x
  | 0, x, h => by omega
  | k + 1, x, h => by
    unfold ck
    cases q : parts x.ps x.m x.d with
    | none => rfl
    | some l =>
      show l.all (ck (k + 1)) = l.all (ck k)
      refine all_same fun y hy => ck_more ?_
      have := parts_lt q y hy
      omega
theorem ck_same {k j : Nat} {x : It} (h : x.ps.length < k) (h2 : k ≤ j) : ck j x = ck k x := by
  induction j with
  | zero => omega
  | succ j ih =>
    by_cases e : k = j + 1
    · rw [e]
    · rw [ck_more (by omega), ih (by omega)]
def chk (x : It) : Bool := ck (x.ps.length + 1) x
theorem chk_eq (x : It) : chk x = match parts x.ps x.m x.d with
    | none => false
    | some l => l.all chk := by
  unfold chk ck
  cases q : parts x.ps x.m x.d with
  | none => rfl
  | some l =>
    show l.all (ck x.ps.length) = l.all _
    refine all_same fun y hy => ?_
    have := parts_lt q y hy
    exact ck_same (k := y.ps.length + 1) (by omega) (by omega)
/-- what is left to do -/
def wgt (x : It) : Nat := 2 ^ (x.ps.length + 1) - 1
theorem wgt_pos (x : It) : 1 ≤ wgt x := by
  unfold wgt
  have := Nat.one_le_two_pow (n := x.ps.length)
  rw [Nat.pow_succ]
  omega
theorem wgt_parts {x : It} {l : List It} (h : parts x.ps x.m x.d = some l) : (l.map wgt).sum + 1 ≤ wgt x := by
  have h1 : ∀ y ∈ l, wgt y ≤ 2 ^ x.ps.length - 1 := fun y hy => by
    have := parts_lt h y hy
    unfold wgt
    have := Nat.pow_le_pow_right (n := 2) (by decide) this
    omega
  have h2 := parts_len h
  have e : wgt x = 2 * (2 ^ x.ps.length - 1) + 1 := by
    unfold wgt
    have := Nat.one_le_two_pow (n := x.ps.length)
    rw [Nat.pow_succ]
    omega
  match l, h1, h2 with
  | [], _, _ => rw [e]; simp
  | [a], h1, _ => have := h1 a (by simp); rw [e]; simp; omega
  | [a, b], h1, _ => have := h1 a (by simp); have := h1 b (by simp); rw [e]; simp; omega
theorem len_wgt : ∀ l : List It, l.length ≤ (l.map wgt).sum
  | [] => Nat.zero_le _
  | x :: r => by have := len_wgt r; have := wgt_pos x; simp; omega
def swC : List D → Om Bool := fun q => (tst (op2 gtV (op1 lenD (ok (.lst q))) (ok (dI 0))))
def swB : List D → Om (Ot (List D) (List D)) := fun q =>
    (pp2L (popV q) fun x left_1 => (un3L x fun some' most part => (bndL (calV (ap3 parts_of_cover_V) [(ok some'), (ok most), (ok part)]) fun parts =>
    (ifL (tst (op2 (isD true) (ok parts) (ok dN)))
    (bndL (ok (dB false)) fun d => ok (.rt d))
    (bndL (extV left_1 (ok parts)) fun left_2 =>
    (ok (.nx left_2)))))))
theorem sw_step {l : List It} {x : It} (lx : x.ps.length ≤ 31) (tx : Th x.d) (hl : l.length ≤ 900000) : swB ((l ++ [x]).map It.t) = match parts x.ps x.m x.d with
    | none => ok (.rt (dB false))
    | some r => ok (.nx ((l ++ r).map It.t)) := by
  have e1 : ((l ++ [x]).map It.t).getLast? = some x.t := by simp
  have e2 : ((l ++ [x]).map It.t).dropLast = l.map It.t := by simp
  unfold swB popV
  rw [e1, e2]
  simp only [pp2_ok, It.t, un3_ok, calV, seqV_cons, seqV_nil, ok_bnd, ap3_at, lft_Om, parts_at lx tx]
  cases q : parts x.ps x.m x.d with
  | none => simp [partsR]
  | some r =>
    have := parts_len q
    have := sizeLine_eq
    have e3 : extV (m := Om) (l.map It.t) (ok (.lst (r.map It.t))) = ok (l.map It.t ++ r.map It.t) := extV_ok (by simp; omega)
    simp [partsR, e3]
theorem sw_loop : ∀ (n : Nat) (l : List It), (l.map wgt).sum < n → (l.map wgt).sum ≤ 900000 → (∀ x ∈ l, x.ps.length ≤ 31 ∧ Th x.d) →
    (whiL swC swB n (l.map It.t) : Om (Ot (List D) Unit)) = if l.all chk = true then ok (.nx []) else ok (.rt (dB false))
  | 0, l, h, _, _ => by omega
  | n + 1, l, h, hs, hl => by
    rw [whiV_succ]
    rcases List.eq_nil_or_concat l with rfl | ⟨r, x, rfl⟩
    · simp [swC, lenD_l, cmpD_i]
    · rw [List.concat_eq_append] at *
      obtain ⟨lx, tx⟩ := hl x (by simp)
      have lr : r.length ≤ (r.map wgt).sum := len_wgt r
      have es : ((r ++ [x]).map wgt).sum = (r.map wgt).sum + wgt x := by simp
      have ec : swC ((r ++ [x]).map It.t) = ok true := by
        unfold swC
        simp only [op1_ok, lenD_l, lif_some, op2_ok, cmpD_i, tst_ok]
        congr 1
        simp
      rw [ec, ifV_ok, if_pos rfl, sw_step lx tx (by omega), List.all_append, List.all_cons, List.all_nil, Bool.and_true, chk_eq x]
      cases q : parts x.ps x.m x.d with
      | none => simp
      | some l2 =>
        have w := wgt_parts q
        have e2 : ((r ++ l2).map wgt).sum = (r.map wgt).sum + (l2.map wgt).sum := by simp
        rw [okL, turnW_nx, sw_loop n (r ++ l2) (by omega) (by omega) fun y hy => ?_, List.all_append]
        rcases List.mem_append.mp hy with hy | hy
        · exact hl y (by simp [hy])
        · have := parts_lt q y hy
          exact ⟨by omega, parts_th q tx y hy⟩
theorem shows_at {ps : List Pr} {m : Int} {d : D} (b : Bool) (lp : ps.length ≤ 9) (t : Th d) : shows_cover_V (bif b then tP ps else lP ps) (dI m) d = ok (dB (chk ⟨ps, m, d⟩)) := by
  have hw : ([⟨ps, m, d⟩].map wgt).sum ≤ 1023 := by
    have := Nat.pow_le_pow_right (n := 2) (by decide) (show ps.length + 1 ≤ 10 by omega)
    simp [wgt]
    omega
  have := sw_loop FUEL [⟨ps, m, d⟩] (by unfold FUEL; omega) (by omega) (by simpa using ⟨by omega, t⟩)
  have el : listD (bif b then tP ps else lP ps) = some (lP ps) := by cases b <;> rfl
  unfold shows_cover_V
  unfold swC swB at this
  simp only [List.map_cons, List.map_nil, It.t] at this
  simp [el, tupV, lstV]
  rw [this]
  simp only [List.all_cons, List.all_nil, Bool.and_true]
  cases chk ⟨ps, m, d⟩ <;> simp
end L2.K57
namespace L2.K57
open L2 L2.My L2.DL NdefX PySem PySem.Spec PyProof.Rows
open PM
theorem left_at {ps : List Pr} {ns : List Int} (lp : ps.length ≤ 900) : left_V (lP ps) (lI ns) = ok (lP (wo ps ns)) := by
  unfold left_V
  rw [itV_ok, asIt_l, lif_some]
  rw [lcV_if (m := Om) dP (fun p => decide (p.1 ∉ ns) && decide (p.2 ∉ ns)) dP (le_line (by omega)) fun p hp => by
    simp only [op2_ok, ix_0, ix_1, lif_some, in_I, tst_ok, andB_ok, stp_ok]
    by_cases h1 : p.1 ∈ ns <;> by_cases h2 : p.2 ∈ ns <;> simp [h1, h2]]
  simp only [okL, retV_rt]
  rfl
theorem mates_at {ps : List Pr} {n : Int} (lp : ps.length ≤ 60) : mates_V (lP ps) (dI n) = ok (lI (mateI ps n)) := by
  unfold mates_V
  rw [itV_ok, asIt_l, lif_some]
  rw [lcV_if (m := Om) dP (fun p => decide (n = p.1 ∨ n = p.2)) (fun p => dI (p.1 + p.2 - n)) (le_line (by omega)) fun p hp => by
    simp only [op2_ok, ix_0, ix_1, lif_some, in_pair, tst_ok, addD_i, subV_i, stp_ok, ok_bnd, Bool.true_beq, ite_ok]]
  rw [op1_ok]
  have e : ((ps.filter fun p => decide (n = p.1 ∨ n = p.2)).map fun p => dI (p.1 + p.2 - n)) = (((ps.filter fun p => decide (n = p.1 ∨ n = p.2)).map fun p => p.1 + p.2 - n)).map dI := by rw [List.map_map]; rfl
  have l := List.length_filter_le (fun p : Pr => decide (n = p.1 ∨ n = p.2)) ps
  have : ssU (.lst ((ps.filter fun p => decide (n = p.1 ∨ n = p.2)).map fun p => dI (p.1 + p.2 - n))) = some (lI (mateI ps n)) := by
    rw [e]
    unfold ssU
    simp only [asIs_map, Option.bind_some, List.length_map]
    rw [if_pos (by omega)]
    rfl
  rw [this, lif_some]
  simp
theorem py_nil {xs : List D} {b : Bool} (h : ∀ x ∈ xs, ∃ p, toPy x = some p) : eqD b (.lst xs) (.lst []) = some (dB (b == xs.isEmpty)) := by
  have all : ∀ xs : List D, (∀ x ∈ xs, ∃ p, toPy x = some p) → ∃ ps, toPyAll xs = some ps ∧ ps.length = xs.length := fun xs => by
    induction xs with
    | nil => exact fun _ => ⟨[], rfl, rfl⟩
    | cons x r ih =>
      intro h
      obtain ⟨p, e⟩ := h x List.mem_cons_self
      obtain ⟨ps, e2, l⟩ := ih fun y hy => h y (List.mem_cons_of_mem _ hy)
      exact ⟨p :: ps, by rw [toPyAll, e, e2], by rw [List.length_cons, List.length_cons, l]⟩
  obtain ⟨ps, e, l⟩ := all xs h
  have e1 : toPy (.lst xs) = some (.list ps) := by rw [toPy, e]; rfl
  have e2 : toPy (.lst []) = some (.list []) := rfl
  unfold eqD
  rw [e1, e2]
  have d0 : (PyData.list []).depth = 1 := by simp [PyData.depth, PyData.depthAll]
  show (if min (PyData.list ps).depth (PyData.list []).depth ≤ 60 then some (dB (b == PyData.eqv (.list ps) (.list []))) else none) = _
  rw [if_pos (by omega)]
  congr 3
  cases xs with
  | nil => cases ps <;> simp_all [PyData.eqv, PyData.eqvAll]
  | cons x r => cases ps <;> simp_all [PyData.eqv, PyData.eqvAll]
theorem is_pair_at {d : D} (h : ∃ p, toPy d = some p) : is_pair_V d = ok (dB (asP d).isSome) := by
  have ht : hasT d := by
    obtain ⟨p, h⟩ := h
    cases d with
    | v x => cases x <;> simp only [toPy] at h <;> first | exact ⟨_, rfl⟩ | cases h
    | tup _ => exact ⟨_, rfl⟩
    | lst _ => exact ⟨_, rfl⟩
    | dct _ => exact ⟨_, rfl⟩
    | obj _ _ => simp [toPy] at h
    | exc _ _ => simp [toPy] at h
    | dtp _ => simp [toPy] at h
  unfold is_pair_V
  simp only [op2_ok, isi_tup ht, lif_some, tst_ok, notB_ok, orB_ok]
  cases d with
  | tup xs =>
    have px : ∀ x ∈ xs, ∃ p, toPy x = some p := by
      obtain ⟨p, h⟩ := h
      rw [toPy] at h
      obtain ⟨ps, h, _⟩ := Option.map_eq_some_iff.mp h
      exact py_parts h
    have tx : ∀ x ∈ xs, hasT x := fun x hx => by
      obtain ⟨p, h⟩ := px x hx
      cases x with
      | v x => cases x <;> simp only [toPy] at h <;> first | exact ⟨_, rfl⟩ | cases h
      | tup _ => exact ⟨_, rfl⟩
      | lst _ => exact ⟨_, rfl⟩
      | dct _ => exact ⟨_, rfl⟩
      | obj _ _ => simp [toPy] at h
      | exc _ _ => simp [toPy] at h
      | dtp _ => simp [toPy] at h
    simp only [isTp, Bool.not_true, Bool.false_eq_true, if_false, op1_ok, lenD_t, lif_some, eqD_i, op2_ok, tst_ok, ifV_ok]
    match xs, px, tx with
    | [], _, _ => simp [asP]
    | [x], _, _ => simp [asP]
    | x :: y :: z :: r, _, _ =>
      have : ¬ ((r.length : Int) + 1 + 1 + 1 = 2) := by omega
      simp [this, asP]
    | [x, y], px, tx =>
      simp only [List.length_cons, List.length_nil, Nat.zero_add, Nat.reduceAdd, Int.cast_ofNat_Int, beq_self_eq_true, Bool.false_eq_true, if_false, show (false == true) = false from rfl]
      have e := lcV_if (m := Om) (fun x : D => x) (fun x => !isN x) (fun x => x) (xs := [x, y]) (st := fun e => stpL (orL (notB (tst (op2 isiD (ok e) (ok (.v (.ty "int")))))) (tst (op2 isiD (ok e) (ok (.v (.ty "bool")))))) (ok e)) (le_line (by simp)) fun x hx => by
        rw [isi_int2 (tx x hx), stp_ok, ok_bnd, ite_ok]
      rw [List.map_id', List.map_id'] at e
      simp only [itV_ok, asIt_t, lif_some, op2_ok] at e ⊢
      rw [e]
      simp only [lstV, seqV_nil, ok_bnd, op2_ok]
      rw [py_nil fun x hx => px x (List.mem_filter.mp hx).1]
      simp only [lif_some, ok_bnd, retV_rt]
      congr 2
      cases x with
      | v x =>
        cases x <;> cases y <;> (first | (rename_i y; cases y <;> rfl) | rfl)
      | _ => rfl
  | _ => simp [isTp, asP]
end L2.K57
namespace L2.K57
open L2 L2.My L2.DL NdefX PySem PySem.Spec PyProof.Rows
open PM
/-! ### how many unlike ints -/
def dd (l acc : List Int) : List Int := l.foldl step_dedup acc
theorem dd_le : ∀ (l acc : List Int), (dd l acc).length ≤ acc.length + l.length
  | [], acc => Nat.le_refl _
  | x :: r, acc => by
    have := dd_le r (step_dedup acc x)
    unfold dd at *
    rw [List.foldl_cons, List.length_cons]
    have : (step_dedup acc x).length ≤ acc.length + 1 := by unfold step_dedup; split <;> simp
    omega
theorem dd_iff : ∀ (l acc : List Int), (dd l acc).length = acc.length + l.length ↔ l.Nodup ∧ ∀ x ∈ l, x ∉ acc
  | [], acc => by simp [dd]
  | x :: r, acc => by
    have e : dd (x :: r) acc = dd r (step_dedup acc x) := rfl
    have le := dd_le r (step_dedup acc x)
    by_cases h : x ∈ acc
    · have s : step_dedup acc x = acc := by unfold step_dedup; rw [if_pos (by rw [List.any_eq_true]; exact ⟨x, h, by simp⟩)]
      rw [e, s, List.length_cons]
      rw [s] at le
      constructor
      · intro q; omega
      · rintro ⟨_, q⟩; exact absurd h (q x List.mem_cons_self)
    · have s : step_dedup acc x = acc ++ [x] := by
        unfold step_dedup
        rw [if_neg]
        rw [List.any_eq_true]
        rintro ⟨y, hy, q⟩
        rw [beq_iff_eq] at q
        exact h (q ▸ hy)
      have ih := dd_iff r (acc ++ [x])
      rw [e, s, List.length_cons]
      rw [List.length_append, List.length_cons, List.length_nil] at ih
      rw [show acc.length + (r.length + 1) = acc.length + (0 + 1) + r.length by omega, ih, List.nodup_cons]
      constructor
      · rintro ⟨a, b⟩
        refine ⟨⟨fun z => b x z (by simp), a⟩, fun y hy => ?_⟩
        rcases List.mem_cons.mp hy with rfl | hy
        · exact h
        · exact fun z => b y hy (by simp [z])
      · rintro ⟨⟨a, b⟩, c⟩
        refine ⟨b, fun y hy z => ?_⟩
        rcases List.mem_append.mp z with z | z
        · exact c y (List.mem_cons_of_mem _ hy) z
        · exact a (by rw [← List.mem_singleton.mp z]; exact hy)
theorem ddI_eq (l : List Int) : ddI l = (dd l []).length := by
  unfold ddI firstMet dd
  congr 2
  refine List.ext_getElem (by simp) fun i h1 h2 => ?_
  simp [List.getD_eq_getElem?_getD, h2]
theorem ddI_iff {l : List Int} : ddI l = l.length ↔ l.Nodup := by
  rw [ddI_eq]
  have := dd_iff l []
  simpa using this
/-! ### pairs apart, told otherwise -/
def two (p : Pr) : List Int := sortI [p.1, p.2]
theorem two_nodup (p : Pr) : (two p).Nodup := (sortK_asc (κ := id) _).imp fun {a b} (q : a < b) e => by omega
theorem mem_two {p : Pr} {x : Int} : x ∈ two p ↔ x = p.1 ∨ x = p.2 := by
  unfold two
  rw [sortI_mem]
  simp
theorem apG_iff {ps : List Pr} : ∀ {vs : List Pr} {tk : List Int}, (∀ v ∈ vs, v ∈ ps) → (apG ps (vs.map dP) tk = true ↔ (vs.flatMap two).Nodup ∧ ∀ x ∈ vs.flatMap two, x ∉ tk)
  | [], tk, _ => by simp [apG]
  | v :: r, tk, h => by
    have hv := h v List.mem_cons_self
    have e : apG ps ((v :: r).map dP) tk = (decide (v ∈ ps) && decide (v.1 ∉ tk) && decide (v.2 ∉ tk) && apG ps (r.map dP) (v.2 :: v.1 :: tk)) := rfl
    rw [e, List.flatMap_cons]
    simp only [hv, decide_true, Bool.true_and, Bool.and_eq_true, decide_eq_true_eq]
    rw [apG_iff fun w hw => h w (List.mem_cons_of_mem _ hw), List.nodup_append]
    constructor
    · rintro ⟨⟨h1, h2⟩, h3, h4⟩
      refine ⟨⟨two_nodup v, h3, fun a ha b hb q => ?_⟩, fun x hx => ?_⟩
      · subst q
        have := h4 a hb
        simp only [List.mem_cons, not_or] at this
        rcases mem_two.mp ha with q | q
        · exact this.2.1 q
        · exact this.1 q
      · rcases List.mem_append.mp hx with hx | hx
        · rcases mem_two.mp hx with rfl | rfl
          · exact h1
          · exact h2
        · have := h4 x hx
          simp only [List.mem_cons, not_or] at this
          exact this.2.2
    · rintro ⟨⟨_, h3, h4⟩, h5⟩
      refine ⟨⟨h5 _ (List.mem_append_left _ (mem_two.mpr (.inl rfl))), h5 _ (List.mem_append_left _ (mem_two.mpr (.inr rfl)))⟩, h3, fun x hx => ?_⟩
      simp only [List.mem_cons, not_or]
      exact ⟨fun q => h4 _ (mem_two.mpr (.inr rfl)) x hx q.symm, fun q => h4 _ (mem_two.mpr (.inl rfl)) x hx q.symm, h5 x (List.mem_append_right _ hx)⟩
/-- a pair of these -/
def okP (ps : List Pr) (x : D) : Bool := match asP x with
  | some p => decide (p ∈ ps)
  | none => false
theorem apG_bad {ps : List Pr} : ∀ {xs : List D} {tk : List Int}, (∃ x ∈ xs, okP ps x = false) → apG ps xs tk = false
  | [], _, ⟨_, h, _⟩ => nomatch h
  | x :: r, tk, ⟨y, hy, hb⟩ => by
    unfold apG
    cases q : asP x with
    | none => rfl
    | some p =>
      rcases List.mem_cons.mp hy with rfl | hy
      · unfold okP at hb
        rw [q] at hb
        have : decide (p ∈ ps) = false := hb
        simp [this]
      · simp [apG_bad ⟨y, hy, hb⟩]
theorem okP_all {ps : List Pr} : ∀ {xs : List D}, (∀ x ∈ xs, okP ps x = true) → ∃ vs : List Pr, xs = vs.map dP ∧ ∀ v ∈ vs, v ∈ ps
  | [], _ => ⟨[], rfl, by simp⟩
  | x :: r, h => by
    obtain ⟨vs, e, hv⟩ := okP_all fun y hy => h y (List.mem_cons_of_mem _ hy)
    have h1 := h x List.mem_cons_self
    unfold okP at h1
    cases q : asP x with
    | none => rw [q] at h1; cases h1
    | some p =>
      rw [q] at h1
      refine ⟨p :: vs, by rw [List.map_cons, ← e, asP_eq q], fun v hv' => ?_⟩
      rcases List.mem_cons.mp hv' with rfl | hv'
      · exact of_decide_eq_true h1
      · exact hv v hv'
/-! ### mates, partners -/
theorem mem_mate {ps : List Pr} {n o : Int} : o ∈ mateI ps n ↔ ∃ p ∈ ps, (n = p.1 ∨ n = p.2) ∧ o = p.1 + p.2 - n := by
  unfold mateI
  rw [sortI_mem, List.mem_map]
  constructor
  · rintro ⟨p, hp, rfl⟩
    rw [List.mem_filter, decide_eq_true_eq] at hp
    exact ⟨p, hp.1, hp.2, rfl⟩
  · rintro ⟨p, hp, h, rfl⟩
    exact ⟨p, List.mem_filter.mpr ⟨hp, decide_eq_true h⟩, rfl⟩
theorem mate_self {ps : List Pr} {n : Int} : n ∈ mateI ps n ↔ (n, n) ∈ ps := by
  rw [mem_mate]
  constructor
  · rintro ⟨p, hp, h1, h2⟩
    have : p = (n, n) := by
      rcases h1 with q | q
      · exact Prod.ext q.symm (by show p.2 = n; omega)
      · exact Prod.ext (by show p.1 = n; omega) q.symm
    rw [← this]; exact hp
  · intro h
    exact ⟨(n, n), h, .inl rfl, by show n = n + n - n; omega⟩
theorem mate_part {ps : List Pr} {n : Int} (h : (n, n) ∉ ps) : mateI ps n = partI ps n := by
  refine asc_eq (κ := id) (sortK_asc _) (sortK_asc _) fun o => ?_
  show o ∈ mateI ps n ↔ o ∈ partI ps n
  rw [mem_mate, mem_part]
  have ne : ∀ p ∈ ps, p.1 = n → p.2 = n → False := fun p hp e1 e2 => h (by rw [show (n, n) = p from Prod.ext e1.symm e2.symm]; exact hp)
  constructor
  · rintro ⟨p, hp, h1, h2⟩
    refine ⟨p, hp, h1, ?_, fun e => ?_⟩
    · rcases h1 with e | e <;> omega
    · rcases h1 with e1 | e1
      · exact ne p hp e1.symm (by omega)
      · exact ne p hp (by omega) e1.symm
  · rintro ⟨p, hp, h1, h2, h3⟩
    refine ⟨p, hp, h1, ?_⟩
    rcases h1 with e | e <;> rcases h2 with e2 | e2 <;> omega
end L2.K57
namespace L2.K57
open L2 L2.My L2.DL NdefX PySem PySem.Spec PyProof.Rows
open PM
theorem eq_I0' {b : Bool} {ns : List Int} : eqD b (lI ns) (.lst []) = some (dB (b == ns.isEmpty)) := eq_I0
theorem two_len (p : Pr) : (two p).length ≤ 2 := sortK_len _
theorem shown_loop (vs : List Pr) (hl : vs.length ≤ 900) : (forL (m := Om) (γ := Unit) (fun e_1 (q : D) => (bndL (op2 addD (ok q) (op1 ssU (ok e_1))) fun shown_1 => (ok (.nx shown_1)))) (vs.map dP) (.lst [])) = ok (.nx (lI (vs.flatMap two))) := by
  have := forV_fold (m := Om) (γ := Unit) dP (fun (q : D) p => match q with | .lst xs => .lst (xs ++ (two p).map dI) | q => q) (fun r q => ∃ ns : List Int, q = lI ns ∧ ns.length + 2 * r.length ≤ 1800) (fun e_1 (q : D) => (bndL (op2 addD (ok q) (op1 ssU (ok e_1))) fun shown_1 => (ok (.nx shown_1)))) (fun p r q => ?_) vs (.lst []) ⟨[], rfl, by simp; omega⟩
  · rw [this]
    have : ∀ (vs : List Pr) (ns : List Int), vs.foldl (fun (q : D) p => match q with | .lst xs => .lst (xs ++ (two p).map dI) | q => q) (lI ns) = lI (ns ++ vs.flatMap two) := fun vs => by
      induction vs with
      | nil => intro ns; simp
      | cons p r ih => intro ns; rw [List.foldl_cons]; show List.foldl _ (D.lst (ns.map dI ++ (two p).map dI)) r = _; rw [← List.map_append, ih]; simp
    have := this vs []
    exact congrArg (fun x => (ok (Ot.nx x) : Om (Ot D Unit))) this
  · rintro ⟨ns, rfl, hn⟩
    rw [List.length_cons] at hn
    have t2 := two_len p
    refine ⟨?_, ns ++ two p, by simp, by rw [List.length_append]; omega⟩
    have e1 : ssU (dP p) = some (lI (two p)) := rfl
    have e2 : addD (lI ns) (lI (two p)) = some (.lst (ns.map dI ++ (two p).map dI)) := if_pos (by simp; have := sizeLine_eq; omega)
    rw [op1_ok, e1, lif_some, op2_ok, e2, lif_some, okL]
theorem fits_at : ∀ (k : Nat) {ps : List Pr} {m : Int} {d : D}, ps.length < k → ps.length ≤ 30 → Th d → fits_V k (lP ps) (dI m) d = ok (dB (chk ⟨ps, m, d⟩))
  | 0, ps, m, d, h, _, _ => by omega
  | k + 1, ps, m, d, hk, lp, t => by
    unfold fits_V
    rw [chk_eq]
    cases d with
    | tup xs =>
      have hd : ∀ x r, xs = x :: r → r ≠ [] → ∃ p, toPy x = some p := by cases t with | tup _ _ _ hd _ => exact hd
      have h2 : ∀ x ys, xs = [x, .tup ys] → ∀ z ∈ ys, ∃ p, toPy z = some p := by cases t with | tup _ _ _ _ h2 => exact fun x ys e => h2 x ys [] e
      have in24 : ∀ n : Int, inX false (dI n) (.tup [dI 2, dI 4]) = some (dB (false == decide (n ∈ ([2, 4] : List Int)))) := fun n => in_tI (ns := [2, 4])
      have it := isi_tup t.ty
      match xs, t, hd, h2, it with
      | [], _, _, _, it => simp [parts, it, isTp, tupV, in24]
      | [x], _, _, _, it => simp [parts, it, isTp, tupV, in24]
      | [x, y, z], _, _, _, it => simp [parts, it, isTp, tupV, in24]
      | x :: y :: z :: u :: v :: r, _, _, _, it =>
        have n1 : ¬ ((r.length : Int) + 1 + 1 + 1 + 1 + 1 = 2) := by omega
        have n2 : ¬ ((r.length : Int) + 1 + 1 + 1 + 1 + 1 = 4) := by omega
        simp [parts, n1, n2, it, isTp, tupV, in24]
      | [x, y], t, hd, h2, it =>
        have hp : ∀ (b : Bool) (z : Str), eqD b x (dS z) = some (dB (b == isS z x)) := fun b z => eq_isS (hd x [y] rfl (by simp))
        have tx := t.parts.2 x (by simp)
        have ty := t.parts.2 y (by simp)
        have ix := isi_str tx.ty
        have iy := isi_tup ty.ty
        cases hs : isSt x with
        | false =>
          have : isS "pairs" x = false := by
            unfold isSt at hs
            unfold isS
            split <;> first | rfl | (split at hs <;> simp_all)
          simp [parts, this, it, isTp, tupV, in24, ix, hs]
        | true =>
          cases h1 : isS "pairs" x with
          | false => simp [parts, h1, it, isTp, tupV, in24, ix, hs, hp]
          | true =>
            cases y with
            | tup ys =>
              have py := h2 x ys rfl
              have ly := ty.parts.1
              have e := lcV_stp (m := Om) (fun x : D => x) (fun x => !okP ps x) (fun x => x) (xs := ys) (c := fun e => (orL (notB (tst (calV (ap1 is_pair_V) [(ok e)]))) (tst (op2 (inX false) (ok e) (ok (lP ps)))))) (a := fun e => ok e) (le_line (by omega)) (fun x hx => by
                have ip := is_pair_at (py x hx)
                unfold okP
                cases q : asP x with
                | none => simp [calV, ip, q]
                | some p =>
                  obtain rfl := asP_eq q
                  simp [calV, ip, q, in_P]) (fun x _ _ => rfl)
              rw [List.map_id', List.map_id'] at e
              by_cases hb : ∃ x ∈ ys, okP ps x = false
              · have ne : (ys.filter fun x => !okP ps x).isEmpty = false := by
                  obtain ⟨x, hx, hb⟩ := hb
                  rw [List.isEmpty_eq_false_iff]
                  intro q
                  have : x ∈ ys.filter fun x => !okP ps x := List.mem_filter.mpr ⟨hx, by simp [hb]⟩
                  rw [q] at this
                  cases this
                have pn := py_nil (b := false) (xs := ys.filter fun x => !okP ps x) fun x hx => py x (List.mem_filter.mp hx).1
                rw [ne] at pn
                simp [it, isTp, tupV, in24, ix, hs, hp, h1, iy, e, lstV, pn, parts, apD, apG_bad hb]
              · have all : ∀ x ∈ ys, okP ps x = true := fun x hx => by
                  cases q : okP ps x with
                  | true => rfl
                  | false => exact absurd ⟨x, hx, q⟩ hb
                have ne : (ys.filter fun x => !okP ps x) = [] := by
                  rw [List.filter_eq_nil_iff]
                  intro x hx
                  simp [all x hx]
                rw [ne] at e
                have pn : eqD false (.lst []) (.lst []) = some (dB false) := py_nil (xs := []) fun x hx => nomatch hx
                obtain ⟨vs, rfl, hv⟩ := okP_all all
                rw [List.length_map] at ly
                have lf := flat_len two 2 vs fun p _ => two_len p
                have lset : lsetD (lI (vs.flatMap two)) = some (dI (ddI (vs.flatMap two) : Nat)) := by
                  unfold lsetD
                  simp only [asIs_map, Option.bind_some]
                  rw [if_pos (by omega)]
                have ap := apG_iff (tk := []) hv
                simp only [List.not_mem_nil, not_false_eq_true, implies_true, and_true] at ap
                have sl := shown_loop vs ly
                by_cases nd : (vs.flatMap two).Nodup
                · have dn := ddI_iff.mpr nd
                  have a1 := ap.mpr nd
                  by_cases hm : m < vs.length <;> simp [it, isTp, tupV, in24, ix, hs, hp, h1, iy, e, lstV, pn, sl, lset, parts, apD, a1, dn, lenT, hm]
                · have a1 : apG ps (vs.map dP) [] = false := by
                    cases q : apG ps (vs.map dP) [] with
                    | false => rfl
                    | true => exact absurd (ap.mp q) nd
                  have dn : ¬ ((ddI (vs.flatMap two) : Int) = ((vs.flatMap two).length : Int)) := by
                    intro q
                    exact nd (ddI_iff.mp (by omega))
                  simp [it, isTp, tupV, in24, ix, hs, hp, h1, iy, e, lstV, pn, sl, lset, parts, apD, a1, lenT]
                  simp at dn
                  simp [dn]
            | _ => simp [isTp, parts, apD, it, tupV, in24, ix, hs, hp, h1, iy]
      | [x, y, z, u], t, hd, h2, it =>
        have hp : ∀ (b : Bool) (z : Str), eqD b x (dS z) = some (dB (b == isS z x)) := fun b w => eq_isS (hd x [y, z, u] rfl (by simp))
        have tx := t.parts.2 x (by simp)
        have ty := t.parts.2 y (by simp)
        have tz := t.parts.2 z (by simp)
        have tu := t.parts.2 u (by simp)
        have ix := isi_str tx.ty
        have i2 := isi_int2 ty.ty
        cases hs : isSt x with
        | false =>
          have : parts ps m (.tup [x, y, z, u]) = none := by
            have : isS "case" x = false := by
              unfold isSt at hs
              unfold isS
              split <;> first | rfl | (split at hs <;> simp_all)
            unfold parts
            split <;> simp_all
          simp [this, it, isTp, tupV, in24, ix, hs]
        | true =>
          cases h1 : isS "case" x with
          | false =>
            have : parts ps m (.tup [x, y, z, u]) = none := by
              unfold parts
              split <;> simp_all
            simp [this, it, isTp, tupV, in24, ix, hs, hp, h1]
          | true =>
            have h0 : isS "pairs" x = false := by
              cases q : isS "pairs" x with
              | false => rfl
              | true => rw [isS_ne q] at h1; cases h1
            rw [op2_ok] at i2
            cases hn : isN y with
            | false =>
              have : parts ps m (.tup [x, y, z, u]) = none := by
                unfold parts
                split <;> simp_all [isN]
              simp [this, it, isTp, tupV, in24, ix, hs, hp, h1, i2, hn]
            | true =>
              obtain ⟨n, rfl⟩ : ∃ n, y = dI n := by
                unfold isN at hn
                split at hn
                · exact ⟨_, rfl⟩
                · cases hn
              have e1 := mates_at (ps := ps) (n := n) (by omega)
              have eq0 : ∀ b ns, eqD b (lI ns) (.lst []) = some (dB (b == ns.isEmpty)) := fun b ns => eq_I0
              have in0 : ∀ b (n : Int) ns, inX b (dI n) (lI ns) = some (dB (b == decide (n ∈ ns))) := fun b n ns => in_I
              by_cases k1 : (n, n) ∈ ps
              · have := mate_self.mpr k1
                simp [it, isTp, tupV, in24, ix, hs, hp, h1, h0, i2, hn, calV, e1, lstV, eq0, in0, parts, k1, this]
              · rw [mate_part k1] at *
                have k3 : n ∉ partI ps n := fun z => k1 (mate_self.mp (by rw [mate_part k1]; exact z))
                by_cases k2 : partI ps n = []
                · have e0 := eq0 true []
                  simp [it, isTp, tupV, in24, ix, hs, hp, h1, h0, i2, hn, calV, e1, lstV, eq0, in0, parts, k1, k2] at e0 ⊢
                · obtain ⟨w1, w2⟩ := wo_lt k2
                  have k4 : (partI ps n).isEmpty = false := List.isEmpty_eq_false_iff.mpr k2
                  have e3 : left_V (lP ps) (.lst [dI n]) = ok (lP (wo ps [n])) := left_at (ns := [n]) (by omega)
                  have e4 : left_V (lP ps) (lI (partI ps n)) = ok (lP (wo ps (partI ps n))) := left_at (by omega)
                  have f1 := fits_at k (ps := wo ps [n]) (m := m - 1) (by omega) (by omega) tz
                  have f2 := fits_at k (ps := wo ps (partI ps n)) (m := m - (partI ps n).length) (by omega) (by omega) tu
                  simp [it, isTp, tupV, in24, ix, hs, hp, h1, h0, i2, hn, calV, e1, lstV, eq0, in0, parts, k1, k2, k3, k4, e3, e4, f1, f2]
                  cases chk ⟨wo ps [n], m - 1, z⟩ <;> simp
    | v x =>
      cases t with
      | non =>
        simp only [op2_ok, isD_n, lif_some, tst_ok, ifV_ok, if_true, cmpD_i, parts, ok_bnd, okL, retV_rt]
        by_cases hm : m < 0 <;> simp [hm]
      | bl b => simp [isi_tup (Tb.bl b : Th _).ty, isTp, parts]
      | int b => simp [isi_tup (Tb.int b : Th _).ty, isTp, parts]
      | str b => simp [isi_tup (Tb.str b : Th _).ty, isTp, parts]
    | lst xs => simp [isi_tup t.ty, isTp, parts]
    | dct xs => simp [isi_tup t.ty, isTp, parts]
    | obj _ _ => cases t
    | exc _ _ => cases t
    | dtp _ => cases t
end L2.K57
namespace L2.K57
open L2 L2.My L2.DL NdefX PySem PySem.Spec PyProof.Rows
open PM
theorem erase_map {α β : Type} (f : α → β) : ∀ (l : List α) (i : Nat), (l.map f).eraseIdx i = (l.eraseIdx i).map f
  | [], _ => rfl
  | _ :: _, 0 => rfl
  | x :: r, i + 1 => by simp [erase_map f r i]
def Small (ps : List Pr) : Prop := ∀ p ∈ ps, 0 ≤ p.1 ∧ p.1 ≤ 6 ∧ 0 ≤ p.2 ∧ p.2 ≤ 6
theorem pairs_at : Tm.All 19 (fun d => ∃ ps : List Pr, d = lP ps ∧ ps.length ≤ 9 ∧ Small ps) pairs_V := by
  unfold pairs_V
  simp only [lstV0, asLs_ok, okL]
  refine All_retV (All_bndL 1 18 (fun ds => ∃ n : Nat, n ≤ 9 ∧ ds = (List.range n).map fun (i : Nat) => dI (i : Int)) ?_ ?_ (by decide))
  · refine All_rng1 (All_drw (by decide) (by decide)) ?_
    rintro _ ⟨i, h1, h2, rfl⟩
    refine ⟨i, rfl, by simp [DL.inR]; omega, i.toNat, by omega, ?_⟩
    rw [← rngD_nat, Int.toNat_of_nonneg h1]
  · rintro _ ⟨n, hn, rfl⟩
    refine All_thL 18 0 (I := fun q => ∃ ps : List Pr, q = ps.map dP ∧ ps.length ≤ 9 ∧ Small ps) ?_ ?_ (by decide)
    · refine All_imp (All_for (fun (i : Nat) => dI (i : Int)) 2 (fun r q => ∃ ps : List Pr, q = ps.map dP ∧ ps.length + r.length ≤ 9 ∧ Small ps) _ ?_ (List.range n) [] ⟨[], rfl, by simp; omega, by simp [Small]⟩) (by simp; omega) ?_
      · rintro x r q ⟨ps, rfl, hl, sm⟩
        rw [List.length_cons] at hl
        refine All_bndL 1 1 _ (All_drw (by decide) (by decide)) ?_ (by decide)
        rintro _ ⟨a, a1, a2, rfl⟩
        refine All_bndL 1 0 _ (All_drw (by decide) (by decide)) ?_ (by decide)
        rintro _ ⟨b, b1, b2, rfl⟩
        have e1 : min2D (dI a) (dI b) = some (dI (if b < a then b else a)) := rfl
        have e2 : max2D (dI a) (dI b) = some (dI (if b > a then b else a)) := rfl
        simp only [op2_ok, e1, e2, lif_some, tupV2]
        rw [appV_ok _ (by simp; exact lt_line (by omega)), okL]
        refine ⟨_, rfl, ps ++ [(if b < a then b else a, if b > a then b else a)], by simp, by rw [List.length_append, List.length_cons, List.length_nil]; omega, fun p hp => ?_⟩
        rcases List.mem_append.mp hp with hp | hp
        · exact sm p hp
        · rw [List.mem_singleton.mp hp]
          refine ⟨?_, ?_, ?_, ?_⟩ <;> (dsimp only; split <;> omega)
      · rintro o ⟨b, rfl, ps, rfl, hl, sm⟩
        exact ⟨_, rfl, ps, rfl, by simpa using hl, sm⟩
    · rintro _ ⟨ps, rfl, hl, sm⟩
      rw [okL]
      exact ⟨ps, rfl, hl, sm⟩
theorem apart_at {ps : List Pr} (lp : ps.length ≤ 900) : Tm.All ps.length (fun d => ∃ vs : List Pr, d = tP vs ∧ vs.length ≤ ps.length ∧ ∀ v ∈ vs, v ∈ ps) (apart_V (lP ps)) := by
  unfold apart_V
  have el : listD (lP ps) = some (lP ps) := rfl
  simp only [lstV0, asLs_ok, okL, op1_ok, el, lif_some]
  refine All_retV (All_thL ps.length 0 (I := fun q : List D × List D => ∃ vs : List Pr, q.1 = vs.map dP ∧ vs.length ≤ ps.length ∧ ∀ v ∈ vs, v ∈ ps) ?_ ?_ (Nat.le_refl _))
  · refine All_imp (All_whi (Q := fun q : List D × List D => ∃ vs : List Pr, q.1 = vs.map dP ∧ vs.length ≤ ps.length ∧ ∀ v ∈ vs, v ∈ ps) 1 (fun (q : List D × List D) k => ∃ vs qs : List Pr, q.1 = vs.map dP ∧ q.2 = qs.map dP ∧ qs.length = k ∧ vs.length + k ≤ ps.length ∧ (∀ v ∈ vs, v ∈ ps) ∧ ∀ v ∈ qs, v ∈ ps) _ _ ?_ FUEL ps.length ([], ps.map dP) ⟨[], ps, rfl, rfl, rfl, by simp, by simp, fun _ z => z⟩ (by unfold FUEL; omega)) (by omega) ?_
    · rintro ⟨q1, q2⟩ k ⟨vs, qs, rfl, rfl, rfl, hl, hv, hq⟩
      cases qs with
      | nil =>
        left
        have e0 : eqD false (.lst []) (.lst []) = some (dB (false == ([] : List Pr).isEmpty)) := eq_P0 (ps := [])
        exact ⟨by simp [e0], vs, rfl, by omega, hv⟩
      | cons q qs =>
        right
        have e0 : eqD false (lP (q :: qs)) (.lst []) = some (dB (false == (q :: qs).isEmpty)) := eq_P0
        refine ⟨qs.length, rfl, ?_, ?_⟩
        · simp only [lstV0, op2_ok, e0, lif_some, tst_ok]
          rfl
        · refine All_pp2 1 0 (P := fun d ys => ∃ (p : Pr) (rs : List Pr), d = dP p ∧ ys = rs.map dP ∧ p ∈ q :: qs ∧ rs.length = qs.length ∧ ∀ v ∈ rs, v ∈ q :: qs) ?_ ?_ (Nat.le_refl _)
          · refine All_popA ?_ (by simp at hl ⊢; omega) ?_
            · refine All_to (All_drw' (n := ((q :: qs).length : Int)) (by simp) (by simp) (by simp at hl ⊢; omega)) ?_
              rintro _ ⟨i, h1, h2, rfl⟩
              exact ⟨i, h1, by simpa using h2, rfl⟩
            · intro i d hd
              rw [List.getElem?_map, Option.map_eq_some_iff] at hd
              obtain ⟨p, hp, rfl⟩ := hd
              have li := (List.getElem?_eq_some_iff.mp hp).1
              refine ⟨p, (q :: qs).eraseIdx i, rfl, erase_map .., List.mem_of_getElem? hp, by rw [List.length_eraseIdx_of_lt li]; rfl, fun v hv => List.mem_of_mem_eraseIdx hv⟩
          · rintro _ _ ⟨p, rs, rfl, rfl, hp, hr, hrs⟩
            have e := lcV_stp (m := Tm) dP (fun v => decide (v.1 = p.1 ∨ v.1 = p.2) || decide (v.2 = p.1 ∨ v.2 = p.2)) dP (xs := vs) (c := fun e => (orL (tst (op2 (inX true) (op2 ixD (ok e) (ok (dI 0))) (ok (dP p)))) (tst (op2 (inX true) (op2 ixD (ok e) (ok (dI 1))) (ok (dP p)))))) (a := fun e => ok e) (le_line (by omega)) (fun v hv => by
              simp only [op2_ok, ix_0, ix_1, lif_some, in_pair, tst_ok, orB_ok, Bool.true_beq]
              by_cases h : v.1 = p.1 ∨ v.1 = p.2 <;> simp [h]) fun _ _ _ => rfl
            have e0 := eq_P0 (b := true) (ps := vs.filter fun v => decide (v.1 = p.1 ∨ v.1 = p.2) || decide (v.2 = p.1 ∨ v.2 = p.2))
            simp only [itV_ok, asIt_l, lif_some, e, lstV0, op2_ok, e0, tst_ok, ifV_ok]
            split
            · rw [appV_ok _ (by simp; exact lt_line (by omega)), okL]
              refine ⟨_, rfl, vs ++ [p], rs, by simp, rfl, hr, by rw [List.length_append]; simp at hl ⊢; omega, fun v hv' => ?_, fun v hv' => hq v (hrs v hv')⟩
              rcases List.mem_append.mp hv' with h | h
              · exact hv v h
              · rw [List.mem_singleton.mp h]; exact hq p hp
            · exact ⟨_, rfl, vs, rs, rfl, rfl, hr, by simp at hl; omega, hv, fun v hv' => hq v (hrs v hv')⟩
    · rintro o ⟨b, rfl, i⟩
      exact ⟨_, rfl, i⟩
  · rintro ⟨q1, q2⟩ ⟨vs, rfl, hl, hv⟩
    have et : tupD (.lst (vs.map dP)) = some (tP vs) := rfl
    simp only [op1_ok, et, lif_some, okL]
    exact ⟨vs, rfl, hl, hv⟩
end L2.K57
namespace L2.K57
open L2 L2.My L2.DL NdefX PySem PySem.Spec PyProof.Rows
open PM
/-! ### parts of lists that can be shown -/
theorem shs_drop {n h : Nat} : ∀ {ds : List D} (k : Nat), Shs n h ds → Shs n h (ds.drop k)
  | ds, 0, s => s
  | [], k + 1, s => s
  | d :: ds, k + 1, s => by
    obtain ⟨n1, n2, l, a, b⟩ := s.head
    exact (shs_drop k b).mono (by omega) (Nat.le_refl _)
theorem shs_take {h : Nat} : ∀ {n : Nat} {ds : List D} (k : Nat), Shs n h ds → Shs n h (ds.take k)
  | n, ds, 0, s => shs_nil
  | n, [], k + 1, s => s
  | n, d :: ds, k + 1, s => by
    obtain ⟨n1, n2, l, a, b⟩ := s.head
    exact (shs_cons a (shs_take k b)).mono (by omega) (Nat.le_refl _)
/-- a thing that can be shown -/
def Bp (b n h : Nat) (d : D) : Prop := Tb b d ∧ Sh n h d
theorem Bp.mono {b b' n n' h h' : Nat} {d : D} (x : b ≤ b') (y : n ≤ n') (z : h ≤ h') (p : Bp b n h d) : Bp b' n' h' d := ⟨p.1.mono x, p.2.mono y z⟩
theorem t_dP (b : Nat) (hb : 2 ≤ b) (p : Pr) : Tb b (dP p) := .tup _ hb (by simpa using ⟨.int _, .int _⟩) (fun x r e _ => by cases e; exact ⟨_, rfl⟩) (fun x ys r e => by cases e)
theorem sh_dP {p : Pr} (h : 0 ≤ p.1 ∧ p.1 ≤ 6 ∧ 0 ≤ p.2 ∧ p.2 ≤ 6) : Sh 18 1 (dP p) := sh_tup (n := 14) (h := 0) ((shs_cons (sh_int (n := 5) (by omega) (by omega) (Nat.le_refl _)) (shs_cons (sh_int (n := 5) (by omega) (by omega) (Nat.le_refl _)) (shs_nil (n := 0)))).mono (by omega) (Nat.le_refl _))
abbrev sPairs : D := dS "pairs"
abbrev sCase : D := dS "case"
theorem sh_pairs {h : Nat} : Sh 7 h sPairs := sh_str (by decide +kernel)
theorem sh_case {h : Nat} : Sh 6 h sCase := sh_str (by decide +kernel)
theorem t_tP (b : Nat) (hb : 2 ≤ b) {vs : List Pr} (l : vs.length ≤ b) : Tb b (tP vs) := .tup _ (by simpa using l) (fun x hx => by
  obtain ⟨p, _, rfl⟩ := List.mem_map.mp hx
  exact t_dP b hb p) (fun x r e _ => by
  cases vs with
  | nil => cases e
  | cons p vs => cases e; exact ⟨_, py_P⟩) (fun x ys r e z hz => by
  cases vs with
  | nil => cases e
  | cons p vs =>
    cases vs with
    | nil => cases e
    | cons q vs =>
      cases e
      simp only [List.mem_cons, List.not_mem_nil, or_false] at hz
      rcases hz with rfl | rfl <;> exact ⟨_, rfl⟩)
/-- ("pairs", a tuple of plain things) -/
theorem t_pairs {b n h : Nat} (hb : 2 ≤ b) {ys : List D} (l : ys.length ≤ b) (ty : ∀ y ∈ ys, Tb b y) (py : ∀ y ∈ ys, ∃ p, toPy y = some p) (hd : Tb b (.tup ys)) (s : Shs n h ys) : Bp b (n + 21) (h + 2) (.tup [sPairs, .tup ys]) := by
  refine ⟨.tup _ (by simpa using hb) (by simpa using ⟨.str _, hd⟩) (fun x r e _ => by cases e; exact ⟨_, rfl⟩) (fun x zs r e z hz => by cases e; exact py z hz), ?_⟩
  exact (sh_tup (shs_cons sh_pairs (shs_cons (sh_tup s) (shs_nil (n := 0))))).mono (by omega) (Nat.le_refl _)
/-! ### odd things -/
theorem odd_at : Tm.All 1 (Bp 4 60 4) odd_V := by
  unfold odd_V
  simp only [lstV, tupV0, tupV1, tupV2, tupV3, tupV4, lstV0, lstV1, lstV2, seqV_cons, seqV_nil, ok_bnd, okL]
  rw [op2_ok, addD_l (by simp), lif_some, okL]
  simp only [lstV, tupV0, tupV1, tupV2, tupV3, tupV4, lstV0, lstV1, lstV2, seqV_cons, seqV_nil, ok_bnd]
  rw [op2_ok, addD_l (by simp), lif_some, okL]
  refine All_retV (All_bndL 1 0 (Bp 4 60 4) (All_op2r (All_drw' (n := 21) (by simp) (by decide) (by decide)) ?_) (fun d p => p) (by decide))
  rintro _ ⟨i, h1, h2, rfl⟩
  obtain ⟨k, rfl⟩ : ∃ k : Nat, i = k := ⟨i.toNat, by omega⟩
  have e0 : Sh 5 0 (dI 0) := sh_int (by decide) (by decide) (Nat.le_refl _)
  have e1 : Sh 5 0 (dI 1) := sh_int (by decide) (by decide) (Nat.le_refl _)
  have n0 : ∀ {h}, Sh 5 h dN := sh_non (by decide)
  have b0 : ∀ {b h}, Sh 5 h (dB b) := sh_bl (by decide)
  have pr : ∀ {a b : D}, Sh 5 0 a → Sh 5 0 b → Sh 18 1 (.tup [a, b]) := fun ha hb => sh_tup (n := 14) (h := 0) ((shs_cons ha (shs_cons hb (shs_nil (n := 0)))).mono (by omega) (Nat.le_refl _))
  have emp : Sh 4 1 (.tup []) := sh_tup (n := 0) shs_nil
  have lemp : Sh 4 1 (.lst []) := sh_lst (n := 0) shs_nil
  have te : Tb 4 (.tup []) := .tup [] (by simp) (by simp) (fun x r e => by cases e) (fun x y r e => by cases e)
  have hk : k < 21 := by omega
  have tp : ∀ {a b : D}, Tb 4 a → Tb 4 b → (∃ p, toPy a = some p) → (∀ ys, b ≠ .tup ys) → Tb 4 (.tup [a, b]) := fun ha hb pa nb => .tup _ (by simp) (by simpa using ⟨ha, hb⟩) (fun x r e _ => by cases e; exact pa) (fun x ys r e => by cases e; exact absurd rfl (nb _))
  match k, hk with
  | 0, _ => exact ⟨_, rfl, .non, (n0 (h := 0)).mono (by decide) (by decide)⟩
  | 1, _ => exact ⟨_, rfl, .bl _, (b0 (h := 0)).mono (by decide) (by decide)⟩
  | 2, _ => exact ⟨_, rfl, .int _, e0.mono (by decide) (by decide)⟩
  | 3, _ => exact ⟨_, rfl, .str _, sh_str (by decide +kernel)⟩
  | 4, _ => exact ⟨_, rfl, .str _, (sh_pairs (h := 0)).mono (by decide) (by decide)⟩
  | 5, _ => exact ⟨_, rfl, te, emp.mono (by decide) (by decide)⟩
  | 6, _ => exact ⟨_, rfl, .lst [] (by simp) (by simp), lemp.mono (by decide) (by decide)⟩
  | 7, _ => exact ⟨_, rfl, .emp, sh_emp (by decide) (by decide)⟩
  | 8, _ => exact ⟨_, rfl, .tup _ (by simp) (by simpa using .str _) (fun x r e n => by cases e; exact absurd rfl n) (fun x y r e => by cases e), (sh_tup (shs_cons (sh_pairs (h := 0)) (shs_nil (n := 0)))).mono (by decide) (by decide)⟩
  | 9, _ => exact ⟨_, rfl, (t_pairs (n := 0) (h := 0) (by decide) (by simp) (by simp) (by simp) te shs_nil).mono (by decide) (by decide) (by decide)⟩
  | 10, _ => exact ⟨_, rfl, tp (.str _) .non ⟨_, rfl⟩ (by simp), (sh_tup (shs_cons (sh_pairs (h := 0)) (shs_cons n0 (shs_nil (n := 0))))).mono (by decide) (by decide)⟩
  | 11, _ =>
    refine ⟨_, rfl, tp (.str _) (.lst _ (by simp) (by simpa using tp (.int _) (.int _) ⟨_, rfl⟩ (by simp))) ⟨_, rfl⟩ (by simp), ?_⟩
    exact (sh_tup (shs_cons (sh_pairs (h := 2)) (shs_cons (sh_lst (shs_cons (pr e0 e1) (shs_nil (n := 0)))) (shs_nil (n := 0))))).mono (by decide) (by decide)
  | 12, _ => exact ⟨_, rfl, .tup _ (by simp) (by simpa using ⟨.str _, .int _, .non⟩) (fun x r e n => by cases e; exact ⟨_, rfl⟩) (fun x y r e => by cases e), (sh_tup (shs_cons (sh_case (h := 0)) (shs_cons e0 (shs_cons n0 (shs_cons n0 (shs_nil (n := 0))))))).mono (by decide) (by decide)⟩
  | 13, _ => exact ⟨_, rfl, .tup _ (by simp) (by simpa using ⟨.str _, .bl _, .non⟩) (fun x r e n => by cases e; exact ⟨_, rfl⟩) (fun x y r e => by cases e), (sh_tup (shs_cons (sh_case (h := 0)) (shs_cons b0 (shs_cons n0 (shs_cons n0 (shs_nil (n := 0))))))).mono (by decide) (by decide)⟩
  | 14, _ => exact ⟨_, rfl, .lst _ (by simp) (by simpa using ⟨.str _, te⟩), (sh_lst (shs_cons (sh_pairs (h := 1)) (shs_cons emp (shs_nil (n := 0))))).mono (by decide) (by decide)⟩
  | 15, _ => exact ⟨_, rfl, (t_pairs (n := 20) (h := 1) (by decide) (by simp) (by simpa using t_dP 4 (by decide) (0, 1)) (by simpa using ⟨_, py_P (p := (0, 1))⟩) (t_tP 4 (by decide) (vs := [(0, 1)]) (by simp)) (shs_cons (pr e0 e1) (shs_nil (n := 0)))).mono (by decide) (by decide) (by decide)⟩
  | 16, _ => exact ⟨_, rfl, (t_pairs (n := 20) (h := 1) (by decide) (by simp) (by simpa using t_dP 4 (by decide) (1, 0)) (by simpa using ⟨_, py_P (p := (1, 0))⟩) (t_tP 4 (by decide) (vs := [(1, 0)]) (by simp)) (shs_cons (pr e1 e0) (shs_nil (n := 0)))).mono (by decide) (by decide) (by decide)⟩
  | 17, _ =>
    have tq : Tb 4 (.tup [dB false, dI 1]) := tp (.bl _) (.int _) ⟨_, rfl⟩ (by simp)
    exact ⟨_, rfl, (t_pairs (b := 4) (n := 20) (h := 1) (by decide) (by simp) (by simpa using tq) (by simpa using ⟨_, rfl⟩) (.tup _ (by simp) (by simpa using tq) (fun x r e n => by cases e; exact absurd rfl n) (fun x y r e => by cases e)) (shs_cons (pr b0 e1) (shs_nil (n := 0)))).mono (by decide) (by decide) (by decide)⟩
  | 18, _ => exact ⟨_, rfl, .tup _ (by simp) (by simpa using ⟨.str _, .int _, .non⟩) (fun x r e n => by cases e; exact ⟨_, rfl⟩) (fun x y r e => by cases e), (sh_tup (shs_cons (sh_case (h := 0)) (shs_cons e0 (shs_cons n0 (shs_nil (n := 0)))))).mono (by decide) (by decide)⟩
  | 19, _ => exact ⟨_, rfl, .tup _ (by simp) (by simpa using ⟨.str _, te⟩) (fun x r e n => by cases e; exact ⟨_, rfl⟩) (fun x y r e => by cases e; simp), (sh_tup (shs_cons (sh_pairs (h := 1)) (shs_cons emp (shs_cons emp (shs_nil (n := 0)))))).mono (by decide) (by decide)⟩
  | 20, _ => exact ⟨_, rfl, .tup _ (by simp) (by simpa using te) (fun x r e n => by cases e; exact ⟨_, rfl⟩) (fun x y r e => by cases e; simp), (sh_tup (shs_cons emp (shs_cons emp (shs_nil (n := 0))))).mono (by decide) (by decide)⟩
end L2.K57
namespace L2.K57
open L2 L2.My L2.DL NdefX PySem PySem.Spec PyProof.Rows
open PM
/-! ### bent papers -/
theorem lenD_T {xs : List D} : op1 lenD (ok (.tup xs) : Tm D) = ok (dI xs.length) := by simp
theorem shs_mid {m h : Nat} {es : List D} (e : Shs m h es) : ∀ {n : Nat} {ds : List D} (i j : Nat), i ≤ j → Shs n h ds → Shs (n + m) h (ds.take i ++ es ++ ds.drop j)
  | n, [], i, j, _, s => by simpa using e.mono (by omega) (Nat.le_refl _)
  | n, d :: ds, 0, j, _, s => by
    have := shs_app (shs_drop j s) e
    simpa using this.mono (by omega) (Nat.le_refl _)
  | n, d :: ds, i + 1, 0, l, s => by omega
  | n, d :: ds, i + 1, j + 1, l, s => by
    obtain ⟨n1, n2, ln, a, b⟩ := s.head
    have := shs_cons a (shs_mid e i j (by omega) b)
    simpa using this.mono (by omega) (Nat.le_refl _)
theorem bent_at : ∀ (k : Nat) {b n h : Nat} {d : D}, h < k → 4 ≤ b → b ≤ 800 → Bp b n h d → Tm.All (4 * k) (Bp (b + 1) (n + 60 + 4 * k) (h + 4)) (bent_V k d)
  | 0, _, _, h, _, hk, _, _, _ => by omega
  | k + 1, b, n, h, d, hk, hb, hb2, ⟨t, s⟩ => by
    unfold bent_V
    have t9 : Th d := t.mono (by omega)
    have it := isi_tup t9.ty
    have odd : Tm.All 1 (Bp (b + 1) (n + 60 + 4 * (k + 1)) (h + 4)) odd_V := All_to odd_at fun d p => p.mono (by omega) (by omega) (by omega)
    refine All_retV (All_bndL 1 (4 * k + 3) _ (All_drw (by decide) (by decide)) ?_ (by omega))
    rintro _ ⟨i, i1, i2, rfl⟩
    have rt : ∀ {c : Nat} {x : Tm D}, Tm.All c (Bp (b + 1) (n + 60 + 4 * (k + 1)) (h + 4)) x → Tm.All c (oRt (β := Unit) (γ := Unit) (Bp (b + 1) (n + 60 + 4 * (k + 1)) (h + 4))) (bndL x fun d => ok (.rt d)) := fun hx => All_bndL _ 0 _ hx (fun d p => p) (Nat.le_refl _)
    cases d with
    | tup xs =>
      obtain ⟨l, hx⟩ := t.parts
      obtain ⟨h', rfl, ss⟩ := s.tup
      have hd : ∀ x r, xs = x :: r → r ≠ [] → ∃ p, toPy x = some p := by cases t with | tup _ _ _ hd _ => exact hd
      have h2 : ∀ x ys r, xs = x :: .tup ys :: r → ∀ z ∈ ys, ∃ p, toPy z = some p := by cases t with | tup _ _ _ _ h2 => exact h2
      have odds : ∀ {u : Bool}, u = true → Tm.All (4 * k + 3) (oRt (β := Unit) (γ := Unit) (Bp (b + 1) (n + 60 + 4 * (k + 1)) (h' + 1 + 4))) (bndL (penV (ap0 odd_V) []) fun d => ok (.rt d)) := fun _ => All_le (rt (by rw [penV0]; exact odd)) (by omega)
      match xs, l, hx, ss, hd, h2, it with
      | [], _, _, _, _, _, it => simp [it, isTp]; simpa using odds rfl
      | [x], _, _, _, _, _, it => simp [it, isTp]; simpa using odds rfl
      | x :: y :: r, l, hx, ss, hd, h2, it =>
        have tx := hx x (by simp)
        have ty := hx y (by simp)
        have px := hd x (y :: r) rfl (by simp)
        obtain ⟨n1, n2, ln, sx, s2⟩ := ss.head
        obtain ⟨n3, n4, ln2, sy, s3⟩ := s2.head
        have n2' : decide (((x :: y :: r).length : Int) < 2) = false := by simp; omega
        simp only [it, isTp, op2_ok, lif_some, tst_ok, notB_ok, orB_ok, Bool.not_true, Bool.false_eq_true, if_false, op1_ok, lenD_t, cmpD_i, n2', eqD_i, ifV_ok]
        by_cases i0 : i = 0
        · subst i0; simpa using odds rfl
        · have e0 : (true == (i == 0)) = false := by simp [i0]
          simp only [e0, Bool.false_eq_true, if_false]
          by_cases i1' : i = 1
          · subst i1'
            have e : listD (.tup (x :: y :: r)) = some (.lst (x :: y :: r)) := rfl
            simp only [e, lif_some, beq_self_eq_true, if_true, okL]
            exact ⟨.lst _ (by omega) fun z hz => (hx z hz).mono (by omega), (sh_lst ss).mono (by omega) (by omega)⟩
          · have e1 : (true == (i == 1)) = false := by simp [i1']
            simp only [e1, Bool.false_eq_true, if_false]
            by_cases i2' : i = 2
            · subst i2'
              simp only [beq_self_eq_true, if_true, tupV1, op2_ok]
              rw [addD_t (by simp at l ⊢; omega), lif_some, okL]
              refine ⟨.tup _ (by simp at l ⊢; omega) (fun z hz => ?_) (fun x' r' e n => by cases e; exact px) (fun x' ys r' e => ?_), (sh_tup (shs_app (shs_cons (sh_non (n := 5) (by decide)) (shs_nil (n := 0))) ss)).mono (by omega) (by omega)⟩
              · rcases List.mem_append.mp hz with hz | hz
                · exact (hx z hz).mono (by omega)
                · rw [List.mem_singleton.mp hz]; exact .non
              · cases e
                exact h2 _ _ _ rfl
            · have e2 : (true == (i == 2)) = false := by simp [i2']
              have ec := eq_isS (b := true) (z := "case") px
              simp only [e2, Bool.false_eq_true, if_false, ixD_t0, lif_some, op2_ok, ec, tst_ok, andB_ok]
              have tail : Tm.All (4 * k + 3) (oRt (β := Unit) (γ := Unit) (Bp (b + 1) (n + 60 + 4 * (k + 1)) (h' + 1 + 4))) (ifL (notB (tst (op2 isiD (op2 ixD (ok (.tup (x :: y :: r))) (ok (dI 1))) (ok (.v (.ty "tuple"))))))
                  (bndL (penV (ap0 odd_V) []) fun d => ok (.rt d))
                  (bndL (drw (op2 addD (op1 lenD (op2 ixD (ok (.tup (x :: y :: r))) (ok (dI 1)))) (ok (dI 1)))) fun at' =>
                  (bndL (tupV [(drw (ok (dI 7))), (drw (ok (dI 7)))]) fun pair =>
                  (ifL (tst (op2 ltV (ok (dI i)) (ok (dI 6))))
                  (bndL (tupV [(ok (dS "pairs")), (op2 addD (op3 slD (op2 ixD (ok (.tup (x :: y :: r))) (ok (dI 1))) (ok none) (intV (ok at'))) (op3 slD (op2 ixD (ok (.tup (x :: y :: r))) (ok (dI 1))) (intV (op2 addD (ok at') (ok (dI 1)))) (ok none)))]) fun d => ok (.rt d))
                  (bndL (tupV [(ok (dS "pairs")), (op2 addD (op2 addD (op3 slD (op2 ixD (ok (.tup (x :: y :: r))) (ok (dI 1))) (ok none) (intV (ok at'))) (tupV [(ok pair)])) (op3 slD (op2 ixD (ok (.tup (x :: y :: r))) (ok (dI 1))) (intV (op2 subV (op2 addD (ok at') (ok (dI i))) (ok (dI 6)))) (ok none)))]) fun d => ok (.rt d)))))) := by
                have iy := isi_tup (ty.mono (by omega) : Th y).ty
                cases y with
                | tup ys =>
                  obtain ⟨ly, hy⟩ := ty.parts
                  have py := h2 x ys r rfl
                  obtain ⟨h'', rfl, sys⟩ := sy.tup
                  simp only [ixD_t1, lif_some, op2_ok, iy, isTp, tst_ok, notB_ok, Bool.not_true, ifV_ok, Bool.false_eq_true, if_false, op1_ok, lenD_t, addD_i]
                  refine All_bndL 1 2 _ (All_drw (by omega) (by simp; omega)) ?_ (by omega)
                  rintro _ ⟨j, j1, j2, rfl⟩
                  refine All_bndL 2 0 (fun d => ∃ p : Pr, d = dP p ∧ 0 ≤ p.1 ∧ p.1 ≤ 6 ∧ 0 ≤ p.2 ∧ p.2 ≤ 6) (All_tupV (All_seqC 1 1 (All_drw (by decide) (by decide)) ?_ (by decide))) ?_ (by omega)
                  · rintro _ ⟨u, u1, u2, rfl⟩
                    refine All_seqC 1 0 (All_drw (by decide) (by decide)) ?_ (by decide)
                    rintro _ ⟨w, w1, w2, rfl⟩
                    exact ⟨(u, w), rfl, u1, by show u ≤ 6; omega, w1, by show w ≤ 6; omega⟩
                  rintro _ ⟨p, rfl, hp⟩
                  have fin : ∀ zs : List D, zs.length ≤ b + 1 → (∀ z ∈ zs, (z ∈ ys ∨ z = dP p)) → Shs (n3 + 20) (h'' + 1) zs → Bp (b + 1) (n + 60 + 4 * (k + 1)) (h'' + 1 + 1 + 4) (.tup [sPairs, .tup zs]) := fun zs lz hz sz => by
                    have tz : ∀ z ∈ zs, Tb (b + 1) z := fun z q => by
                      rcases hz z q with h | rfl
                      · exact (hy z h).mono (by omega)
                      · exact t_dP _ (by omega) p
                    have pz : ∀ z ∈ zs, ∃ q, toPy z = some q := fun z q => by
                      rcases hz z q with h | rfl
                      · exact py z h
                      · exact ⟨_, py_P⟩
                    refine (t_pairs (by omega) lz tz pz (.tup zs lz tz (fun a r' e _ => pz a (by rw [e]; simp)) (fun a as r' e c hc => ?_)) sz).mono (by omega) (by omega) (by omega)
                    obtain ⟨q, e2⟩ := pz (.tup as) (by rw [e]; simp)
                    rw [toPy, Option.map_eq_some_iff] at e2
                    obtain ⟨_, e2, _⟩ := e2
                    exact py_parts e2 c hc
                  by_cases i6 : i < 6
                  · simp only [cmpD_i, i6, decide_true, if_true, ixD_t1, lif_some, op2_ok, tst_ok, ifV_ok, intV_ok, addD_i, op3_ok, slD_th j1, slD_tl (by omega : 0 ≤ j + 1)]
                    rw [addD_t (by simp; omega), lif_some, tupV2, okL]
                    have sm := shs_mid (shs_nil (n := 0)) j.toNat (j + 1).toNat (by omega) sys
                    rw [List.append_nil] at sm
                    refine fin _ (by simp; omega) (fun z hz => .inl ?_) (sm.mono (by omega) (by omega))
                    rcases List.mem_append.mp hz with hz | hz
                    · exact List.mem_of_mem_take hz
                    · exact List.mem_of_mem_drop hz
                  · simp only [cmpD_i, i6, decide_false, Bool.false_eq_true, if_false, ixD_t1, lif_some, op2_ok, tst_ok, ifV_ok, intV_ok, addD_i, subV_i, op3_ok, slD_th j1, slD_tl (by omega : 0 ≤ j + i - 6), tupV1]
                    rw [addD_t (by simp; omega), lif_some, op2_ok, addD_t (by simp; omega), lif_some, tupV2, okL]
                    have sm := shs_mid (shs_cons ((sh_dP hp).mono (Nat.le_refl _) (by omega : 1 ≤ h'' + 1)) (shs_nil (n := 0))) j.toNat (j + i - 6).toNat (by omega) (sys.mono (Nat.le_refl _) (by omega : h'' ≤ h'' + 1))
                    refine fin _ (by simp; omega) (fun z hz => ?_) (sm.mono (by omega) (by omega))
                    rcases List.mem_append.mp hz with hz | hz
                    · rcases List.mem_append.mp hz with hz | hz
                      · exact .inl (List.mem_of_mem_take hz)
                      · exact .inr (List.mem_singleton.mp hz)
                    · exact .inl (List.mem_of_mem_drop hz)
                | v y => simp [iy, isTp]; simpa using odds rfl
                | lst y => simp [iy, isTp]; simpa using odds rfl
                | dct y => simp [iy, isTp]; simpa using odds rfl
                | obj _ _ => cases ty
                | exc _ _ => cases ty
                | dtp _ => cases ty
              cases hc : isS "case" x with
              | false => simpa using tail
              | true =>
                simp only [if_true, beq_self_eq_true]
                by_cases l4 : r.length = 2
                · obtain ⟨z, u, rfl⟩ : ∃ z u, r = [z, u] := by
                    match r, l4 with
                    | [z, u], _ => exact ⟨z, u, rfl⟩
                  have tz := hx z (by simp)
                  have tu := hx u (by simp)
                  obtain ⟨n5, n6, ln3, sz, s4⟩ := s3.head
                  obtain ⟨n7, n8, ln4, su, s5⟩ := s4.head
                  have four : ∀ (a c d e : D) (na nc nd ne : Nat), Tb (b + 1) a → Tb (b + 1) c → Tb (b + 1) d → Tb (b + 1) e → (∃ p, toPy a = some p) → (∀ ys, c = .tup ys → ∀ z ∈ ys, ∃ p, toPy z = some p) → Sh na (h' + 4) a → Sh nc (h' + 4) c → Sh nd (h' + 4) d → Sh ne (h' + 4) e → na + nc + nd + ne + 12 ≤ n + 60 + 4 * (k + 1) → Bp (b + 1) (n + 60 + 4 * (k + 1)) (h' + 1 + 4) (.tup [a, c, d, e]) := fun a c d e na nc nd ne ta tc td te pa pc sa sc sd se hn => by
                    refine ⟨.tup _ (by simp; omega) (by simpa using ⟨ta, tc, td, te⟩) (fun x r e _ => by cases e; exact pa) (fun x ys r e => by cases e; exact pc ys rfl), ?_⟩
                    exact (sh_tup (shs_cons sa (shs_cons sc (shs_cons sd (shs_cons se (shs_nil (n := 0))))))).mono (by omega) (by omega)
                  have up : ∀ {q : D}, Tb b q → Tb (b + 1) q := fun h => h.mono (by omega)
                  have su4 : ∀ {q : D} {nq : Nat}, Sh nq h' q → Sh nq (h' + 4) q := fun h => h.mono (Nat.le_refl _) (by omega)
                  have py : ∀ ys, y = .tup ys → ∀ z ∈ ys, ∃ p, toPy z = some p := fun ys e => h2 x ys [z, u] (by rw [e])
                  have fin : ∀ {c : Nat} {q : Tm D}, Tm.All c (Bp (b + 1) (n + 60 + 4 * (k + 1)) (h' + 1 + 4)) q → c ≤ 4 * k + 3 → Tm.All (4 * k + 3) (oRt (β := Unit) (γ := Unit) (Bp (b + 1) (n + 60 + 4 * (k + 1)) (h' + 1 + 4))) (bndL q fun d => ok (.rt d)) := fun hq hc => All_le (rt hq) hc
                  have ix2 : ixD (.tup [x, y, z, u]) (dI 2) = some z := rfl
                  have ix3 : ixD (.tup [x, y, z, u]) (dI 3) = some u := rfl
                  simp [ix2, ix3]
                  by_cases i3 : i = 3
                  · simp only [i3, if_true]
                    refine fin (c := 1) (All_op2l (P1 := fun d => ∃ j : Int, 0 ≤ j ∧ j < 8 ∧ d = .tup [sCase, dI j]) (All_tupV (All_seqC 0 1 (P := fun d => d = sCase) rfl ?_ (by decide))) ?_) (by omega)
                    · rintro _ rfl
                      refine All_seqC 1 0 (All_drw (by decide) (by decide)) ?_ (by decide)
                      rintro _ ⟨j, j1, j2, rfl⟩
                      exact ⟨j, j1, j2, rfl⟩
                    · rintro _ ⟨j, j1, j2, rfl⟩
                      refine ⟨_, addD_t (by simp), four _ _ _ _ 6 5 n5 n7 (.str _) (.int _) (up tz) (up tu) ⟨_, rfl⟩ (by simp) sh_case (sh_int (by omega) (by omega) (Nat.le_refl _)) (su4 sz) (su4 su) (by omega)⟩
                  · simp only [i3, if_false]
                    by_cases i4 : i = 4
                    · simp only [i4, if_true]
                      rw [addD_t (by simp), lif_some, okL]
                      exact four _ _ _ _ n1 n3 n7 n5 (up tx) (up ty) (up tu) (up tz) px py (su4 sx) (su4 sy) (su4 su) (su4 sz) (by omega)
                    · simp only [i4, if_false]
                      by_cases i7 : i < 7
                      · simp only [i7, if_true]
                        have ih := bent_at k (h := h') (by omega) hb hb2 ⟨tz, sz⟩
                        refine fin (c := 4 * k) (All_op2l (P1 := fun d => ∃ q, d = .tup [x, y, q] ∧ Bp (b + 1) (n5 + 60 + 4 * k) (h' + 4) q) (All_op2r (P2 := fun d => ∃ q, d = .tup [q] ∧ Bp (b + 1) (n5 + 60 + 4 * k) (h' + 4) q) (All_tupV (All_seqC (4 * k) 0 ih (fun q hq => All_seqN ⟨q, rfl, hq⟩) (Nat.le_refl _))) ?_) ?_) (by omega)
                        · rintro _ ⟨q, rfl, hq⟩
                          exact ⟨_, addD_t (by simp), q, rfl, hq⟩
                        · rintro _ ⟨q, rfl, hq⟩
                          exact ⟨_, addD_t (by simp), four _ _ _ _ n1 n3 (n5 + 60 + 4 * k) n7 (up tx) (up ty) hq.1 (up tu) px py (su4 sx) (su4 sy) hq.2 (su4 su) (by omega)⟩
                      · simp only [i7, if_false]
                        have ih := bent_at k (h := h') (by omega) hb hb2 ⟨tu, su⟩
                        refine fin (c := 4 * k) (All_op2r (P2 := fun d => ∃ q, d = .tup [q] ∧ Bp (b + 1) (n7 + 60 + 4 * k) (h' + 4) q) (All_tupV (All_seqC (4 * k) 0 ih (fun q hq => All_seqN ⟨q, rfl, hq⟩) (Nat.le_refl _))) ?_) (by omega)
                        rintro _ ⟨q, rfl, hq⟩
                        exact ⟨_, addD_t (by simp), four _ _ _ _ n1 n3 n5 (n7 + 60 + 4 * k) (up tx) (up ty) (up tz) hq.1 px py (su4 sx) (su4 sy) (su4 sz) hq.2 (by omega)⟩
                · have : ¬ ((r.length : Int) + 1 + 1 = 4) := by omega
                  simpa [this] using tail
    | v x => simp [it, isTp]; exact All_le (rt odd) (by omega)
    | lst xs => simp [it, isTp]; exact All_le (rt odd) (by omega)
    | dct xs => simp [it, isTp]; exact All_le (rt odd) (by omega)
    | obj _ _ => cases t
    | exc _ _ => cases t
    | dtp _ => cases t
end L2.K57
namespace L2.K57
open L2 L2.My L2.DL NdefX PySem PySem.Spec PyProof.Rows
open PM
/-! ### grown papers -/
def gC : Nat → Nat
  | 0 => 2
  | k + 1 => (k + 1) + 3 + 2 * gC k
def gN : Nat → Nat
  | 0 => 230
  | k + 1 => 2 * gN k + 30
theorem gC_le : ∀ {i j : Nat}, i ≤ j → gC i ≤ gC j
  | i, 0, h => by rw [Nat.le_zero.mp h]; exact Nat.le_refl _
  | i, j + 1, h => by
    by_cases e : i = j + 1
    · rw [e]; exact Nat.le_refl _
    · have := gC_le (i := i) (j := j) (by omega)
      show gC i ≤ (j + 1) + 3 + 2 * gC j
      omega
theorem gN_le : ∀ {i j : Nat}, i ≤ j → gN i ≤ gN j
  | i, 0, h => by rw [Nat.le_zero.mp h]; exact Nat.le_refl _
  | i, j + 1, h => by
    by_cases e : i = j + 1
    · rw [e]; exact Nat.le_refl _
    · have := gN_le (i := i) (j := j) (by omega)
      show gN i ≤ 2 * gN j + 30
      omega
theorem small_wo {ps : List Pr} {ns : List Int} (h : Small ps) : Small (wo ps ns) := fun p hp => h p (List.mem_filter.mp hp).1
def numP (ps : List Pr) (i : Int) : Bool := decide (i ∉ mateI ps i) && !(mateI ps i).isEmpty
theorem grown_at : ∀ (k : Nat) {ps : List Pr} {m : Int}, ps.length < k → ps.length ≤ 9 → Small ps → Tm.All (gC ps.length) (Bp 9 (gN ps.length) (ps.length + 3)) (grown_V k (lP ps) (dI m))
  | 0, ps, m, h, _, _ => by omega
  | k + 1, ps, m, hk, lp, sm => by
    unfold grown_V
    have base : ∀ vs : List Pr, vs.length ≤ ps.length → (∀ v ∈ vs, v ∈ ps) → Bp 9 (gN ps.length) (ps.length + 3) (.tup [sPairs, tP vs]) := fun vs hl hv => by
      have st : Shs 180 1 (vs.map dP) := (shs_all (n := 18) fun d hd => by
        obtain ⟨v, hv', rfl⟩ := List.mem_map.mp hd
        exact sh_dP (sm v (hv v hv'))).mono (by rw [List.length_map]; omega) (Nat.le_refl _)
      have g0 : 230 ≤ gN ps.length := gN_le (i := 0) (by omega)
      exact (t_pairs (b := 9) (by decide) (by rw [List.length_map]; omega) (fun y hy => by
        obtain ⟨v, _, rfl⟩ := List.mem_map.mp hy
        exact t_dP 9 (by decide) v) (fun y hy => by
        obtain ⟨v, _, rfl⟩ := List.mem_map.mp hy
        exact ⟨_, py_P⟩) (t_tP 9 (by decide) (by omega)) st).mono (Nat.le_refl _) (by omega) (by omega)
    have hm7 : ∀ i : Int, mates_V (lP ps) (dI i) = ok (lI (mateI ps i)) := fun i => mates_at (by omega)
    have cN : ∀ i j : Nat, i ≤ j → gC i ≤ gC j := fun i j => gC_le
    refine All_retV (All_bndL ps.length (gC ps.length - ps.length) (fun d => ∃ vs : List Pr, d = tP vs ∧ vs.length ≤ ps.length ∧ ∀ v ∈ vs, v ∈ ps) (by rw [penV1]; exact apart_at (by omega)) ?_ (by cases ps.length <;> simp [gC] <;> omega))
    rintro _ ⟨vs, rfl, lv, hv⟩
    have g2 : ps.length + 2 ≤ gC ps.length := by cases ps.length <;> simp [gC] <;> omega
    -- the first question
    by_cases hm : m < 0
    · refine All_ifL 1 (gC ps.length - ps.length - 1) (P := fun _ => True) ?_ (fun _ => ?_) (fun _ => ?_) (by omega)
      · simp only [op2_ok, cmpD_i, hm, decide_true, lif_some, tst_ok, andB_ok, if_true]
        refine All_tst (P := fun d => ∃ b, d = dB b) (All_op2l (All_drw (by decide) (by decide)) ?_) ?_
        · rintro _ ⟨i, _, _, rfl⟩; exact ⟨_, rfl, _, rfl⟩
        · rintro _ ⟨b, rfl⟩; exact ⟨b, rfl, trivial⟩
      · rw [okL]
        exact ⟨.non, sh_non (Nat.le_trans (by decide) (gN_le (i := 0) (by omega : 0 ≤ ps.length)))⟩
      · have e := lcV_stp (m := Tm) (fun i : Int => dI i) (numP ps) dI (xs := [0, 1, 2, 3, 4, 5, 6]) (c := fun e => (andL (tst (op2 (inX false) (ok e) (calV (ap2 mates_V) [(ok (lP ps)), (ok e)]))) (tst (op2 (eqD false) (calV (ap2 mates_V) [(ok (lP ps)), (ok e)]) (lstV []))))) (a := fun e => ok e) (le_line (by decide)) (fun i hi => by
          simp only [calV2, hm7, lft_ok, op2_ok, in_I, lif_some, tst_ok, andB_ok, lstV0, eq_I0]
          unfold numP
          by_cases h : i ∈ mateI ps i <;> simp [h]) fun _ _ _ => rfl
        have er : rng1 (m := Tm) (ok (dI 7)) = ok ([0, 1, 2, 3, 4, 5, 6].map dI) := rfl
        rw [er, e, okL]
        have e0 := eq_I0 (b := true) (ns := [0, 1, 2, 3, 4, 5, 6].filter (numP ps))
        simp only [lstV0, op2_ok, e0, lif_some, tst_ok, cmpD_i, hm, decide_true]
        have : ∀ b : Bool, orL (ok b) (orL (tst (op2 ltV (ok (dI m)) (ok (dI 0)))) (andL (tst (op2 gtV (op1 lenD (ok (tP vs))) (ok (dI m)))) (tst (op2 gtV (drw (ok (dI 3))) (ok (dI 0)))))) = (ok true : Tm Bool) := fun b => by
          rw [orB_ok]
          cases b
          · simp [hm]
          · rfl
        rw [this, ifV_ok, if_pos rfl, tupV2, okL]
        exact base vs lv hv
    · refine All_eq (y := _) (by
        simp only [op2_ok, cmpD_i, hm, decide_false, lif_some, tst_ok, andB_ok, Bool.false_eq_true, if_false, ifV_ok]
        rfl) ?_
      have e := lcV_stp (m := Tm) (fun i : Int => dI i) (numP ps) dI (xs := [0, 1, 2, 3, 4, 5, 6]) (c := fun e => (andL (tst (op2 (inX false) (ok e) (calV (ap2 mates_V) [(ok (lP ps)), (ok e)]))) (tst (op2 (eqD false) (calV (ap2 mates_V) [(ok (lP ps)), (ok e)]) (lstV []))))) (a := fun e => ok e) (le_line (by decide)) (fun i hi => by
        simp only [calV2, hm7, lft_ok, op2_ok, in_I, lif_some, tst_ok, andB_ok, lstV0, eq_I0]
        unfold numP
        by_cases h : i ∈ mateI ps i <;> simp [h]) fun _ _ _ => rfl
      have er : rng1 (m := Tm) (ok (dI 7)) = ok ([0, 1, 2, 3, 4, 5, 6].map dI) := rfl
      rw [er, e, okL]
      have e0 := eq_I0 (b := true) (ns := [0, 1, 2, 3, 4, 5, 6].filter (numP ps))
      refine All_ifL 1 (gC ps.length - ps.length - 1) (P := fun b => b = false → ([0, 1, 2, 3, 4, 5, 6].filter (numP ps)) ≠ []) ?_ (fun _ => ?_) (fun hn => ?_) (by omega)
      · simp only [lstV0, op2_ok, e0, lif_some, tst_ok, cmpD_i, hm, decide_false, orB_ok]
        cases hq : ([0, 1, 2, 3, 4, 5, 6].filter (numP ps)).isEmpty with
        | true => exact fun z => by cases z
        | false =>
          have ne : ([0, 1, 2, 3, 4, 5, 6].filter (numP ps)) ≠ [] := List.isEmpty_eq_false_iff.mp hq
          simp only [show (true == false) = false from rfl, Bool.false_eq_true, if_false, op2_ok, cmpD_i, hm, decide_false, lif_some, tst_ok, orB_ok, op1_ok, lenD_t, List.length_map, andB_ok]
          by_cases hv' : m < vs.length
          all_goals simp only [hv', decide_true, decide_false, Bool.false_eq_true, if_true, if_false]
          · refine All_tst (P := fun d => ∃ b, d = dB b) (All_op2l (All_drw (n := 3) (by decide) (by decide)) ?_) ?_
            · rintro _ ⟨i, _, _, rfl⟩; exact ⟨_, rfl, _, rfl⟩
            · rintro _ ⟨b, rfl⟩; exact ⟨b, rfl, fun _ => ne⟩
          · exact fun _ => ne
      · rw [tupV2, okL]
        exact base vs lv hv
      · have hn := hn rfl
        generalize hN : [0, 1, 2, 3, 4, 5, 6].filter (numP ps) = N at hn e0 ⊢
        have N7 : N.length ≤ 7 := by rw [← hN]; exact List.length_filter_le _ _
        have hlen : 0 < N.length := List.length_pos_iff.mpr hn
        obtain ⟨L, hL⟩ : ∃ L, ps.length = L + 1 := by
          obtain ⟨n, hn'⟩ := List.exists_mem_of_ne_nil _ hn
          rw [← hN] at hn'
          have := (List.mem_filter.mp hn').2
          simp only [numP, Bool.and_eq_true, Bool.not_eq_true', List.isEmpty_eq_false_iff] at this
          obtain ⟨o, ho⟩ := List.exists_mem_of_ne_nil _ this.2
          obtain ⟨p, hp, _⟩ := mem_mate.mp ho
          have := List.length_pos_of_mem hp
          exact ⟨ps.length - 1, by omega⟩
        have gg : gC ps.length = (L + 1) + 3 + 2 * gC L := by rw [hL]; rfl
        have gn : gN ps.length = 2 * gN L + 30 := by rw [hL]; rfl
        refine All_bndL 1 (2 * gC L) (fun d => ∃ n : Int, d = dI n ∧ n ∈ N) (All_op2r (All_drw' (n := (N.length : Int)) (by simp) (by omega) (by omega)) ?_) ?_ (by omega)
        · rintro _ ⟨i, i1, i2, rfl⟩
          have lt : i.toNat < N.length := by omega
          exact ⟨_, ixD_l i1 (by rw [List.getElem?_map, List.getElem?_eq_getElem lt]; rfl), N[i.toNat], rfl, List.getElem_mem lt⟩
        rintro _ ⟨n, rfl, hn'⟩
        rw [← hN] at hn'
        have n7 : -100 ≤ n ∧ n ≤ 100 := by
          have := (List.mem_filter.mp hn').1
          simp at this
          omega
        have np := (List.mem_filter.mp hn').2
        simp only [numP, Bool.and_eq_true, Bool.not_eq_true', List.isEmpty_eq_false_iff, decide_eq_true_eq] at np
        have ns : (n, n) ∉ ps := fun z => np.1 (mate_self.mpr z)
        have mp := mate_part ns
        obtain ⟨w1, w2⟩ := wo_lt (ps := ps) (n := n) (by rw [← mp]; exact np.2)
        rw [← mp] at w2
        have e3 : left_V (lP ps) (.lst [dI n]) = ok (lP (wo ps [n])) := left_at (ns := [n]) (by omega)
        have e4 : left_V (lP ps) (lI (mateI ps n)) = ok (lP (wo ps (mateI ps n))) := left_at (by omega)
        have r1 : Tm.All (gC L) (Bp 9 (gN L) (L + 3)) (grown_V k (lP (wo ps [n])) (dI (m - 1))) := All_imp (grown_at k (by omega) (by omega) (small_wo sm)) (gC_le (by omega)) fun d p => p.mono (Nat.le_refl _) (gN_le (by omega)) (by omega)
        have r2 : Tm.All (gC L) (Bp 9 (gN L) (L + 3)) (grown_V k (lP (wo ps (mateI ps n))) (dI (m - (mateI ps n).length))) := All_imp (grown_at k (by omega) (by omega) (small_wo sm)) (gC_le (by omega)) fun d p => p.mono (Nat.le_refl _) (gN_le (by omega)) (by omega)
        simp only [calV2, hm7, lft_ok, okL, lstV1, e3, op2_ok, subV_i, lif_some, penV2]
        refine All_bndL (gC L) (gC L) _ r1 ?_ (by omega)
        rintro t ⟨t1, t2⟩
        simp only [calV2, e4, lft_ok, op1_ok, lenD_l, List.length_map, lif_some, op2_ok, subV_i, penV2]
        refine All_bndL (gC L) 0 (Bp 9 (gN ps.length) (ps.length + 3)) (All_tupV (All_seqC 0 (gC L) (P := fun d => d = sCase) rfl ?_ (by omega))) (fun d p => p) (by omega)
        rintro _ rfl
        refine All_seqC 0 (gC L) (P := fun d => d = dI n) rfl ?_ (by omega)
        rintro _ rfl
        refine All_seqC 0 (gC L) (P := fun d => d = t) rfl ?_ (by omega)
        rintro _ rfl
        refine All_seqC (gC L) 0 r2 ?_ (by omega)
        rintro s ⟨s1, s2⟩
        refine All_seqN ⟨.tup _ (by simp) (by simpa using ⟨.str _, .int _, t1, s1⟩) (fun x r e _ => by cases e; exact ⟨_, rfl⟩) (fun x ys r e => by cases e), ?_⟩
        exact (sh_tup (shs_cons sh_case (shs_cons (sh_int n7.1 n7.2 (Nat.le_refl _)) (shs_cons t2 (shs_cons s2 (shs_nil (n := 0))))))).mono (by omega) (by omega)
end L2.K57
namespace L2.K57
open L2 L2.My L2.DL NdefX PySem PySem.Spec PyProof.Rows
open PM
theorem sh_lP {ps : List Pr} (l : ps.length ≤ 9) (sm : Small ps) : Sh 200 2 (lP ps) := (sh_lst (h := 1) (shs_all (n := 18) fun d hd => by
  obtain ⟨v, hv', rfl⟩ := List.mem_map.mp hd
  exact sh_dP (sm v hv'))).mono (by rw [List.length_map]; omega) (Nat.le_refl _)
theorem far_chk : chk ⟨[(5, 10 ^ 20), (10 ^ 20, 10 ^ 20 + 1), (5, 10 ^ 20 + 1)], 1, .tup [sCase, dI (10 ^ 20), .tup [sPairs, tP [(5, 10 ^ 20 + 1)]], dN]⟩ = true := by decide +kernel
theorem nil_chk1 : chk ⟨[], -1, dN⟩ = true := by decide +kernel
theorem nil_chk2 : chk ⟨[], 0, .tup [sPairs, .tup []]⟩ = false := by decide +kernel
theorem law_at : Tm.All 40000 (fun d => d = dB true) law_V := by
  unfold law_V
  have er : rng1 (m := Tm) (ok (dI 8)) = ok ((List.range 8).map fun (i : Nat) => dI (i : Int)) := rfl
  rw [er, okL]
  refine All_retV (All_thL 32000 0 (I := fun _ => True) ?_ ?_ (by decide))
  · refine All_imp (All_for (fun (i : Nat) => dI (i : Int)) 4000 (fun _ _ => True) _ ?_ (List.range 8) () trivial) (by simp) ?_
    · intro x r _ _
      refine All_bndL 19 3900 _ (by rw [penV0]; exact pairs_at) ?_ (by decide)
      rintro _ ⟨ps, rfl, lp, sm⟩
      refine All_bndL 1 3800 (fun d => ∃ m : Int, d = dI m) (All_op2l (All_drw (by decide) (by decide)) ?_) ?_ (by decide)
      · rintro _ ⟨i, _, _, rfl⟩
        exact ⟨_, rfl, _, rfl⟩
      rintro _ ⟨m, rfl⟩
      have c9 : gC ps.length ≤ 3570 := Nat.le_trans (gC_le lp) (by decide)
      have n9 : gN ps.length ≤ 140000 := Nat.le_trans (gN_le lp) (by decide)
      refine All_bndL 3570 200 (Bp 9 140000 12) (by
        rw [penV2]
        exact All_imp (grown_at 10 (by omega) lp sm) c9 fun d p => p.mono (Nat.le_refl _) n9 (by omega)) ?_ (by decide)
      intro d0 p0
      refine All_bndL 96 100 (Bp 10 140200 16) (by
        rw [penV1]
        exact All_to (bent_at 24 (by decide) (by decide) (by decide) p0) fun d p => p.mono (Nat.le_refl _) (by omega) (by omega)) ?_ (by decide)
      intro d1 p1
      refine All_bndL 97 0 (fun ds => ∀ t ∈ ds, Bp 11 141000 20 t) (All_bnd 97 0 (fun d => ∃ ts : List D, d = .tup ts ∧ ∀ t ∈ ts, Bp 11 141000 20 t) (All_tupV (All_seqC 0 97 (P := fun d => d = d0) rfl ?_ (by decide))) ?_ (by decide)) ?_ (by decide)
      · rintro _ rfl
        refine All_seqC 0 97 (P := fun d => d = d1) rfl ?_ (by decide)
        rintro _ rfl
        refine All_seqC (P := Bp 11 141000 20) 96 1 (by
          rw [penV1]
          exact All_to (bent_at 24 (by decide) (by decide) (by decide) p1) fun d p => p.mono (Nat.le_refl _) (by omega) (by omega)) ?_ (by decide)
        intro d2 p2
        refine All_seqC (P := Bp 4 60 4) 1 0 (by rw [penV0]; exact odd_at) ?_ (by decide)
        intro d3 p3
        refine All_seqN ⟨_, rfl, ?_⟩
        intro t ht
        simp only [List.mem_cons, List.not_mem_nil, or_false] at ht
        rcases ht with rfl | rfl | rfl | rfl
        · exact p0.mono (by decide) (by decide) (by decide)
        · exact p1.mono (by decide) (by decide) (by decide)
        · exact p2
        · exact p3.mono (by decide) (by decide) (by decide)
      · rintro _ ⟨ts, rfl, h⟩
        exact h
      intro ts hts
      refine All_thL 0 0 (I := fun _ => True) ?_ (fun _ _ => ⟨_, rfl, trivial⟩) (Nat.le_refl _)
      have := All_for (γ := Unit) (fun d : D => d) 0 (fun r (_ : Unit) => ∀ t ∈ r, Bp 11 141000 20 t) (fun e_1 (q_1 : Unit) =>
        (bndL (op1 reprQ (tupV [(ok (lP ps)), (ok e_1)])) fun kept =>
        (bndL (op1 reprQ (calV (ap3 (fits_V 12)) [(ok (lP ps)), (ok (dI m)), (ok e_1)])) fun due =>
        (ifL (orL (tst (op2 (eqD false) (op1 reprQ (calV (ap3 shows_cover_V) [(ok (lP ps)), (ok (dI m)), (ok e_1)])) (ok due))) (tst (op2 (eqD false) (op1 reprQ (tupV [(ok (lP ps)), (ok e_1)])) (ok kept))))
        (bndL (ok (dB false)) fun d => ok (.rt d))
        (ifL (tst (op2 (eqD false) (op1 reprQ (kwV [2, 1, 0] (ap3 shows_cover_V) [(ok e_1), (ok (dI m)), (op1 tupD (ok (lP ps)))])) (ok due)))
        (bndL (ok (dB false)) fun d => ok (.rt d))
        (ok (.nx ())))))) : D → Unit → Tm (Ot Unit Unit)) (fun d r _ h => by
          obtain ⟨td, sd⟩ := h d List.mem_cons_self
          have t9 : Th d := td.mono (by decide)
          obtain ⟨z, ez⟩ := repr_Sh (sh_tup (shs_cons ((sh_lP lp sm).mono (Nat.le_refl _) (by decide : 2 ≤ 20)) (shs_cons sd (shs_nil (n := 0))))) (by have := sizeLine_eq; omega) (by decide)
          have f1 := fits_at 12 (ps := ps) (m := m) (by omega) (by omega) t9
          have s1 : shows_cover_V (lP ps) (dI m) d = _ := shows_at (ps := ps) (m := m) false lp t9
          have s2 : shows_cover_V (tP ps) (dI m) d = _ := shows_at (ps := ps) (m := m) true lp t9
          have et : tupD (lP ps) = some (tP ps) := rfl
          obtain ⟨y, ey⟩ : ∃ y, reprQ (dB (chk ⟨ps, m, d⟩)) = some (dS y) := repr_Sh (n := 5) (h := 0) (sh_bl (by decide)) (by have := sizeLine_eq; omega) (by decide)
          have kw : kwV (m := Tm) [2, 1, 0] (ap3 shows_cover_V) [ok d, ok (dI m), ok (tP ps)] = lft (shows_cover_V (tP ps) (dI m) d) := by simp [kwV]
          simp only [tupV2, op1_ok, ez, lif_some, okL, calV3, f1, lft_ok, ey, s1, op2_ok, eqD_s, beq_self_eq_true, tst_ok, orB_ok, Bool.false_beq, Bool.not_true, Bool.false_eq_true, if_false, ifV_ok, et, kw, s2]
          exact ⟨(), rfl, fun t ht => h t (List.mem_cons_of_mem _ ht)⟩) ts () hts
      simp only [List.map_id', Nat.zero_mul] at this
      refine All_to this ?_
      rintro o ⟨b, rfl, _⟩
      exact ⟨b, rfl, trivial⟩
    · rintro o ⟨b, rfl, _⟩
      exact ⟨b, rfl, trivial⟩
  · intro _ _
    have p1 : powV (dI 10) (dI 20) = some (dI (10 ^ 20)) := by
      show (if powB 10 20 = true then some (dI ((10 : Int) ^ (20 : Int).toNat)) else none) = _
      rw [if_pos (by decide +kernel)]
      rfl
    have t1 : Th (.tup [sCase, dI (10 ^ 20), .tup [sPairs, tP [(5, 10 ^ 20 + 1)]], dN]) := .tup _ (by simp) (by
      simpa using ⟨.str _, .int _, .tup _ (by simp) (by simpa using ⟨.str _, t_tP 900 (by decide) (vs := [(5, 10 ^ 20 + 1)]) (by simp)⟩) (fun x r e _ => by cases e; exact ⟨_, rfl⟩) (fun x ys r e z hz => by
        cases e
        simp only [List.map_cons, List.map_nil, List.mem_cons, List.not_mem_nil, or_false] at hz
        exact ⟨_, hz ▸ py_P⟩), .non⟩) (fun x r e _ => by cases e; exact ⟨_, rfl⟩) (fun x ys r e => by cases e)
    have t2 : Th (.tup [sPairs, .tup []]) := .tup _ (by simp) (by simpa using ⟨.str _, .tup [] (by simp) (by simp) (fun x r e => by cases e) (fun x y r e => by cases e)⟩) (fun x r e _ => by cases e; exact ⟨_, rfl⟩) (fun x ys r e => by cases e; simp)
    have s1 : shows_cover_V (.lst [.tup [dI 5, dI (10 ^ 20)], .tup [dI (10 ^ 20), dI (10 ^ 20 + 1)], .tup [dI 5, dI (10 ^ 20 + 1)]]) (dI 1) (.tup [sCase, dI (10 ^ 20), .tup [sPairs, .tup [.tup [dI 5, dI (10 ^ 20 + 1)]]], dN]) = ok (dB true) := by
      have := shows_at (ps := [(5, 10 ^ 20), (10 ^ 20, 10 ^ 20 + 1), (5, 10 ^ 20 + 1)]) (m := 1) false (by decide) t1
      rw [far_chk] at this
      exact this
    have s2 : shows_cover_V (.lst []) (dI (-1)) dN = ok (dB true) := by
      have := shows_at (ps := []) (m := -1) false (by decide) .non
      rw [nil_chk1] at this
      exact this
    have s3 : shows_cover_V (.lst []) (dI 0) (.tup [sPairs, .tup []]) = ok (dB false) := by
      have := shows_at (ps := []) (m := 0) false (by decide) t2
      rw [nil_chk2] at this
      exact this
    have ng : DL.negD (dI 1) = some (dI (-1)) := rfl
    simp only [op2_ok, p1, lif_some, okL, tupV2, addD_i, tupV4, tupV1, lstV0, lstV3, calV3, s1, lft_ok, isD_bb, tst_ok, ifV_ok]
    simp only [decide_true, show (false == true) = false from rfl, Bool.false_eq_true, if_false, op1_ok, ng, lif_some, lstV0, calV3, s2, lft_ok, op2_ok, isD_bb, andX_ok, beq_self_eq_true, if_true, tupV0, tupV2, s3, okL]
    rfl
end L2.K57
namespace L2.K57
open L2 L2.My L2.DL NdefX PySem PySem.Spec PyProof.Rows
open PM
theorem law_wp : Tm.wp law_V 0 (fun d _ => d = dB true) fun _ _ => False := All_wp law_at (by decide) fun d h => h
end L2.K57
namespace L2.K57
open L2 L2.My L2.DL NdefX PySem PySem.Spec PyProof.Rows
open PM
/-- a def of the text as the top has written it -/
def DefAt (K : W.Frag) (x : Str) (st : Stmt) : Prop := ∃ (f : Addr) (oc kV doc pm cdv ct : Value) (od an : Option Addr) (osl : Array (Option Value)), W.nsIn K mainGlobals x = some (some (.ref f)) ∧ K.lookup f = some ⟨oc, od, .func (W.fnOf x x (defArgs st) (defBody st) (defScope st) .none kV doc pm an cdv ct), osl⟩ ∧ W.codeIn K cdv x = true ∧ W.keepIn K (.ref f) = true
theorem defat_mk {K : W.Frag} {x : Str} {st : Stmt} {f : Addr} {oc kV doc pm cdv ct : Value} {od an : Option Addr} {osl : Array (Option Value)} (a : W.nsIn K mainGlobals x = some (some (.ref f))) (l : K.lookup f = some ⟨oc, od, .func (W.fnOf x x (defArgs st) (defBody st) (defScope st) .none kV doc pm an cdv ct), osl⟩) (c : W.codeIn K cdv x = true) (k : W.keepIn K (.ref f) = true) : DefAt K x st :=
  ⟨f, oc, kV, doc, pm, cdv, ct, od, an, osl, a, l, c, k⟩
theorem none_F {P : Program} {w : World} {K : W.Frag} {mg : Str → Option Value} {base : Heap} {CX : CXT} {f : Addr} {fd : FuncData} {ps : List Str} {l : Nat} {os : List Mo} {g : List D → Om D} (h : ∀ ds, g ds = no) : FnG P w K mg base CX l f fd ps (spF K os (foF g)) := by
  have nn : ∀ {vs H Q E}, spF K os (foF g) vs H Q E → False := by
    rintro vs H Q E ⟨_, _, _, _, ds, _, _, _, _, z⟩
    unfold foF at z
    rw [h ds] at z
    exact z
  exact ⟨fun vs H Q E h => (nn h).elim, fun A outer s H args us vs Q E _ _ _ _ _ h => (nn h).elim⟩
theorem none_T {P : Program} {w : World} {K : W.Frag} {mg : Str → Option Value} {base : Heap} {CX : CXT} {f : Addr} {fd : FuncData} {ps : List Str} {l : Nat} {os : List Mo} {g : List D → Tm D} (h : ∀ ds, g ds = no) : FnG P w K mg base CX l f fd ps (spT K os g) := by
  have nn : ∀ {vs H Q E}, spT K os g vs H Q E → False := by
    rintro vs H Q E ⟨_, _, _, _, _, ds, _, _, _, _, z⟩
    rw [h ds] at z
    exact z
  exact ⟨fun vs H Q E h => (nn h).elim, fun A outer s H args us vs Q E _ _ _ _ _ h => (nn h).elim⟩
theorem all_mk {l : W.OpenLaw} {w : World} {K : W.Frag} {h : Heap} {mg : Str → Option Value} {fa : Addr} (X : K.In h) (G : h.Ns mainGlobals mg) (hfa : mg "law" = some (.ref fa))
    (d_are_integers : DefAt K "are_integers" s_are_integers)
    (d_without : DefAt K "without" s_without)
    (d_partners_of : DefAt K "partners_of" s_partners_of)
    (d_are_apart : DefAt K "are_apart" s_are_apart)
    (d_parts_of_cover : DefAt K "parts_of_cover" s_parts_of_cover)
    (d_shows_cover : DefAt K "shows_cover" s_shows_cover)
    (d__law_pairs : DefAt K "_law_pairs" s_pairs)
    (d__law_left : DefAt K "_law_left" s_left)
    (d__law_mates : DefAt K "_law_mates" s_mates)
    (d__law_apart : DefAt K "_law_apart" s_apart)
    (d__law_is_pair : DefAt K "_law_is_pair" s_is_pair)
    (d__law_fits : DefAt K "_law_fits" s_fits)
    (d__law_odd : DefAt K "_law_odd" s_odd)
    (d__law_bent : DefAt K "_law_bent" s_bent)
    (d__law_grown : DefAt K "_law_grown" s_grown)
    (d__law_pen : DefAt K "_law_pen" sPen)
    (d__law_draw : DefAt K "_law_draw" sDraw)
    (d_law : DefAt K "law" s_law)
    (z_all : W.nsIn K mainGlobals "all" = some none)
    (z_isinstance : W.nsIn K mainGlobals "isinstance" = some none)
    (z_bool : W.nsIn K mainGlobals "bool" = some none)
    (z_int : W.nsIn K mainGlobals "int" = some none)
    (z_tuple : W.nsIn K mainGlobals "tuple" = some none)
    (z_sorted : W.nsIn K mainGlobals "sorted" = some none)
    (z_len : W.nsIn K mainGlobals "len" = some none)
    (z_list : W.nsIn K mainGlobals "list" = some none)
    (z_range : W.nsIn K mainGlobals "range" = some none)
    (z_max : W.nsIn K mainGlobals "max" = some none)
    (z_min : W.nsIn K mainGlobals "min" = some none)
    (z_set : W.nsIn K mainGlobals "set" = some none)
    (z_str : W.nsIn K mainGlobals "str" = some none)
    (z_repr : W.nsIn K mainGlobals "repr" = some none)
    (z_abs : W.nsIn K mainGlobals "abs" = some none) :
    ∃ fd : FuncData, (∀ (s : Shared) (v : Value), BindsTo s fd ⟨[v], []⟩ [("_law_script", v)]) ∧ ∀ base : Heap, K.In base → base.Ns mainGlobals mg → (∃ m, base.Ns sysModules m) → FnG l.prog w K mg base CX0 28 fa fd ["_law_script"] (L2.DL.spLaw K) := by
  have m_all := W.mg_none_of X G z_all
  have m_isinstance := W.mg_none_of X G z_isinstance
  have m_bool := W.mg_none_of X G z_bool
  have m_int := W.mg_none_of X G z_int
  have m_tuple := W.mg_none_of X G z_tuple
  have m_sorted := W.mg_none_of X G z_sorted
  have m_len := W.mg_none_of X G z_len
  have m_list := W.mg_none_of X G z_list
  have m_range := W.mg_none_of X G z_range
  have m_max := W.mg_none_of X G z_max
  have m_min := W.mg_none_of X G z_min
  have m_set := W.mg_none_of X G z_set
  have m_str := W.mg_none_of X G z_str
  have m_repr := W.mg_none_of X G z_repr
  have m_abs := W.mg_none_of X G z_abs
  obtain ⟨fare_integers, ocare_integers, kVare_integers, dcare_integers, pmare_integers, cdare_integers, ctare_integers, odare_integers, anare_integers, slare_integers, aare_integers, lare_integers, care_integers, kare_integers⟩ := d_are_integers
  obtain ⟨fwithout, ocwithout, kVwithout, dcwithout, pmwithout, cdwithout, ctwithout, odwithout, anwithout, slwithout, awithout, lwithout, cwithout, kwithout⟩ := d_without
  obtain ⟨fpartners_of, ocpartners_of, kVpartners_of, dcpartners_of, pmpartners_of, cdpartners_of, ctpartners_of, odpartners_of, anpartners_of, slpartners_of, apartners_of, lpartners_of, cpartners_of, kpartners_of⟩ := d_partners_of
  obtain ⟨fare_apart, ocare_apart, kVare_apart, dcare_apart, pmare_apart, cdare_apart, ctare_apart, odare_apart, anare_apart, slare_apart, aare_apart, lare_apart, care_apart, kare_apart⟩ := d_are_apart
  obtain ⟨fparts_of_cover, ocparts_of_cover, kVparts_of_cover, dcparts_of_cover, pmparts_of_cover, cdparts_of_cover, ctparts_of_cover, odparts_of_cover, anparts_of_cover, slparts_of_cover, aparts_of_cover, lparts_of_cover, cparts_of_cover, kparts_of_cover⟩ := d_parts_of_cover
  obtain ⟨fshows_cover, ocshows_cover, kVshows_cover, dcshows_cover, pmshows_cover, cdshows_cover, ctshows_cover, odshows_cover, anshows_cover, slshows_cover, ashows_cover, lshows_cover, cshows_cover, kshows_cover⟩ := d_shows_cover
  obtain ⟨f_law_pairs, oc_law_pairs, kV_law_pairs, dc_law_pairs, pm_law_pairs, cd_law_pairs, ct_law_pairs, od_law_pairs, an_law_pairs, sl_law_pairs, a_law_pairs, l_law_pairs, c_law_pairs, k_law_pairs⟩ := d__law_pairs
  obtain ⟨f_law_left, oc_law_left, kV_law_left, dc_law_left, pm_law_left, cd_law_left, ct_law_left, od_law_left, an_law_left, sl_law_left, a_law_left, l_law_left, c_law_left, k_law_left⟩ := d__law_left
  obtain ⟨f_law_mates, oc_law_mates, kV_law_mates, dc_law_mates, pm_law_mates, cd_law_mates, ct_law_mates, od_law_mates, an_law_mates, sl_law_mates, a_law_mates, l_law_mates, c_law_mates, k_law_mates⟩ := d__law_mates
  obtain ⟨f_law_apart, oc_law_apart, kV_law_apart, dc_law_apart, pm_law_apart, cd_law_apart, ct_law_apart, od_law_apart, an_law_apart, sl_law_apart, a_law_apart, l_law_apart, c_law_apart, k_law_apart⟩ := d__law_apart
  obtain ⟨f_law_is_pair, oc_law_is_pair, kV_law_is_pair, dc_law_is_pair, pm_law_is_pair, cd_law_is_pair, ct_law_is_pair, od_law_is_pair, an_law_is_pair, sl_law_is_pair, a_law_is_pair, l_law_is_pair, c_law_is_pair, k_law_is_pair⟩ := d__law_is_pair
  obtain ⟨f_law_fits, oc_law_fits, kV_law_fits, dc_law_fits, pm_law_fits, cd_law_fits, ct_law_fits, od_law_fits, an_law_fits, sl_law_fits, a_law_fits, l_law_fits, c_law_fits, k_law_fits⟩ := d__law_fits
  obtain ⟨f_law_odd, oc_law_odd, kV_law_odd, dc_law_odd, pm_law_odd, cd_law_odd, ct_law_odd, od_law_odd, an_law_odd, sl_law_odd, a_law_odd, l_law_odd, c_law_odd, k_law_odd⟩ := d__law_odd
  obtain ⟨f_law_bent, oc_law_bent, kV_law_bent, dc_law_bent, pm_law_bent, cd_law_bent, ct_law_bent, od_law_bent, an_law_bent, sl_law_bent, a_law_bent, l_law_bent, c_law_bent, k_law_bent⟩ := d__law_bent
  obtain ⟨f_law_grown, oc_law_grown, kV_law_grown, dc_law_grown, pm_law_grown, cd_law_grown, ct_law_grown, od_law_grown, an_law_grown, sl_law_grown, a_law_grown, l_law_grown, c_law_grown, k_law_grown⟩ := d__law_grown
  obtain ⟨f_law_pen, oc_law_pen, kV_law_pen, dc_law_pen, pm_law_pen, cd_law_pen, ct_law_pen, od_law_pen, an_law_pen, sl_law_pen, a_law_pen, l_law_pen, c_law_pen, k_law_pen⟩ := d__law_pen
  obtain ⟨f_law_draw, oc_law_draw, kV_law_draw, dc_law_draw, pm_law_draw, cd_law_draw, ct_law_draw, od_law_draw, an_law_draw, sl_law_draw, a_law_draw, l_law_draw, c_law_draw, k_law_draw⟩ := d__law_draw
  obtain ⟨flaw, oclaw, kVlaw, dclaw, pmlaw, cdlaw, ctlaw, odlaw, anlaw, sllaw, alaw, llaw, claw, klaw⟩ := d_law
  have e := hfa.symm.trans (W.mg_of X G alaw)
  cases e
  have Fare_integers := fun_mk (st := s_are_integers) lare_integers care_integers kare_integers
  have bare_integers := Fare_integers.binds (ps := ["value"]) fun _ _ _ _ _ _ us hl => match us, hl with | [_], _ => rfl
  have Fwithout := fun_mk (st := s_without) lwithout cwithout kwithout
  have bwithout := Fwithout.binds (ps := ["pairs", "numbers"]) fun _ _ _ _ _ _ us hl => match us, hl with | [_, _], _ => rfl
  have Fpartners_of := fun_mk (st := s_partners_of) lpartners_of cpartners_of kpartners_of
  have bpartners_of := Fpartners_of.binds (ps := ["pairs", "number"]) fun _ _ _ _ _ _ us hl => match us, hl with | [_, _], _ => rfl
  have Fare_apart := fun_mk (st := s_are_apart) lare_apart care_apart kare_apart
  have bare_apart := Fare_apart.binds (ps := ["pairs", "value"]) fun _ _ _ _ _ _ us hl => match us, hl with | [_, _], _ => rfl
  have Fparts_of_cover := fun_mk (st := s_parts_of_cover) lparts_of_cover cparts_of_cover kparts_of_cover
  have bparts_of_cover := Fparts_of_cover.binds (ps := ["pairs", "most", "paper"]) fun _ _ _ _ _ _ us hl => match us, hl with | [_, _, _], _ => rfl
  have Fshows_cover := fun_mk (st := s_shows_cover) lshows_cover cshows_cover kshows_cover
  have bshows_cover := Fshows_cover.binds (ps := ["pairs", "c", "paper"]) fun _ _ _ _ _ _ us hl => match us, hl with | [_, _, _], _ => rfl
  have F_law_pairs := fun_mk (st := s_pairs) l_law_pairs c_law_pairs k_law_pairs
  have b_law_pairs := F_law_pairs.binds (ps := ["_law_pen_here"]) fun _ _ _ _ _ _ us hl => match us, hl with | [_], _ => rfl
  have F_law_left := fun_mk (st := s_left) l_law_left c_law_left k_law_left
  have b_law_left := F_law_left.binds (ps := ["_law_some", "_law_gone"]) fun _ _ _ _ _ _ us hl => match us, hl with | [_, _], _ => rfl
  have F_law_mates := fun_mk (st := s_mates) l_law_mates c_law_mates k_law_mates
  have b_law_mates := F_law_mates.binds (ps := ["_law_some", "_law_number"]) fun _ _ _ _ _ _ us hl => match us, hl with | [_, _], _ => rfl
  have F_law_apart := fun_mk (st := s_apart) l_law_apart c_law_apart k_law_apart
  have b_law_apart := F_law_apart.binds (ps := ["_law_pen_here", "_law_some"]) fun _ _ _ _ _ _ us hl => match us, hl with | [_, _], _ => rfl
  have F_law_is_pair := fun_mk (st := s_is_pair) l_law_is_pair c_law_is_pair k_law_is_pair
  have b_law_is_pair := F_law_is_pair.binds (ps := ["_law_item"]) fun _ _ _ _ _ _ us hl => match us, hl with | [_], _ => rfl
  have F_law_fits := fun_mk (st := s_fits) l_law_fits c_law_fits k_law_fits
  have b_law_fits := F_law_fits.binds (ps := ["_law_some", "_law_most", "_law_item"]) fun _ _ _ _ _ _ us hl => match us, hl with | [_, _, _], _ => rfl
  have F_law_odd := fun_mk (st := s_odd) l_law_odd c_law_odd k_law_odd
  have b_law_odd := F_law_odd.binds (ps := ["_law_pen_here"]) fun _ _ _ _ _ _ us hl => match us, hl with | [_], _ => rfl
  have F_law_bent := fun_mk (st := s_bent) l_law_bent c_law_bent k_law_bent
  have b_law_bent := F_law_bent.binds (ps := ["_law_pen_here", "_law_item"]) fun _ _ _ _ _ _ us hl => match us, hl with | [_, _], _ => rfl
  have F_law_grown := fun_mk (st := s_grown) l_law_grown c_law_grown k_law_grown
  have b_law_grown := F_law_grown.binds (ps := ["_law_pen_here", "_law_some", "_law_most"]) fun _ _ _ _ _ _ us hl => match us, hl with | [_, _, _], _ => rfl
  have F_law_pen := fun_mk (st := sPen) l_law_pen c_law_pen k_law_pen
  have b_law_pen := F_law_pen.binds (ps := ["_law_script"]) fun _ _ _ _ _ _ us hl => match us, hl with | [_], _ => rfl
  have F_law_draw := fun_mk (st := sDraw) l_law_draw c_law_draw k_law_draw
  have b_law_draw := F_law_draw.binds (ps := ["_law_pen_here", "_law_many"]) fun _ _ _ _ _ _ us hl => match us, hl with | [_, _], _ => rfl
  have Flaw := fun_mk (st := s_law) llaw claw klaw
  refine ⟨W.fnOf "law" "law" (defArgs s_law) (defBody s_law) (defScope s_law) .none kVlaw dclaw pmlaw anlaw cdlaw ctlaw, fun s v => .of_eq rfl, fun base _ _ hs => ?_⟩
  obtain ⟨sm, hs⟩ := hs
  have C_law_pen : CalG l.prog w K mg base (L2.CX l.prog w) 1 "_law_pen" _ := ⟨f_law_pen, _, _, FnG.any (ok_pen F_law_pen m_list), W.mg_of X G a_law_pen, k_law_pen, b_law_pen⟩
  have C_law_draw : CalG l.prog w K mg base (L2.CX l.prog w) 1 "_law_draw" _ := ⟨f_law_draw, _, _, FnG.any (ok_draw F_law_draw m_int m_len m_abs), W.mg_of X G a_law_draw, k_law_draw, b_law_draw⟩
  have Care_integers : CalG l.prog w K mg base (L2.CX l.prog w) 1 "are_integers" _ := ⟨fare_integers, _, _, vok_are_integers Fare_integers m_all m_isinstance m_bool m_int m_tuple, W.mg_of X G aare_integers, kare_integers, bare_integers⟩
  have Cwithout : CalG l.prog w K mg base (L2.CX l.prog w) 1 "without" _ := ⟨fwithout, _, _, vok_without Fwithout , W.mg_of X G awithout, kwithout, bwithout⟩
  have Cpartners_of : CalG l.prog w K mg base (L2.CX l.prog w) 1 "partners_of" _ := ⟨fpartners_of, _, _, vok_partners_of Fpartners_of m_tuple m_sorted, W.mg_of X G apartners_of, kpartners_of, bpartners_of⟩
  have Care_apart : CalG l.prog w K mg base (L2.CX l.prog w) 2 "are_apart" _ := ⟨fare_apart, _, _, vok_are_apart Fare_apart m_isinstance m_tuple Care_integers, W.mg_of X G aare_apart, kare_apart, bare_apart⟩
  have Cparts_of_cover : CalG l.prog w K mg base (L2.CX l.prog w) 3 "parts_of_cover" _ := ⟨fparts_of_cover, _, _, vok_parts_of_cover Fparts_of_cover m_isinstance m_tuple m_len Care_apart Care_integers Cpartners_of Cwithout, W.mg_of X G aparts_of_cover, kparts_of_cover, bparts_of_cover⟩
  have Cshows_cover : CalG l.prog w K mg base (L2.CX l.prog w) 4 "shows_cover" _ := ⟨fshows_cover, _, _, vok_shows_cover Fshows_cover m_list m_len Cparts_of_cover, W.mg_of X G ashows_cover, kshows_cover, bshows_cover⟩
  have Wshows_cover : CalP l.prog w K mg base (L2.CX l.prog w) 4 "shows_cover" (spF K [.b, .s, .s] (foF (ap3 shows_cover_V))) ["paper", "c", "pairs"] [2, 1, 0] := ⟨fshows_cover, _, _, vok_shows_cover Fshows_cover m_list m_len Cparts_of_cover, W.mg_of X G ashows_cover, kshows_cover, fun s ws hl => match ws, hl with | [_, _, _], _ => .of_eq rfl⟩
  have C_law_pairs : CalG l.prog w K mg base (L2.CX l.prog w) 2 "_law_pairs" _ := ⟨f_law_pairs, _, _, vok_pairs F_law_pairs m_range C_law_draw m_max m_min, W.mg_of X G a_law_pairs, k_law_pairs, b_law_pairs⟩
  have C_law_left : CalG l.prog w K mg base (L2.CX l.prog w) 1 "_law_left" _ := ⟨f_law_left, _, _, vok_left F_law_left , W.mg_of X G a_law_left, k_law_left, b_law_left⟩
  have C_law_mates : CalG l.prog w K mg base (L2.CX l.prog w) 1 "_law_mates" _ := ⟨f_law_mates, _, _, vok_mates F_law_mates m_set m_sorted, W.mg_of X G a_law_mates, k_law_mates, b_law_mates⟩
  have C_law_apart : CalG l.prog w K mg base (L2.CX l.prog w) 2 "_law_apart" _ := ⟨f_law_apart, _, _, vok_apart F_law_apart m_list C_law_draw m_len m_tuple, W.mg_of X G a_law_apart, k_law_apart, b_law_apart⟩
  have C_law_is_pair : CalG l.prog w K mg base (L2.CX l.prog w) 1 "_law_is_pair" _ := ⟨f_law_is_pair, _, _, vok_is_pair F_law_is_pair m_isinstance m_tuple m_len m_int m_bool, W.mg_of X G a_law_is_pair, k_law_is_pair, b_law_is_pair⟩
  have N_law_fits : ∀ ds, (ap3 (fits_V 0)) ds = no := fun ds => match ds with | [] => rfl | [_] => rfl | [_, _] => rfl | [_, _, _] => rfl | _ :: _ :: _ :: _ :: _ => rfl
  have R_law_fits0 : CalG l.prog w K mg base (L2.CX l.prog w) 2 "_law_fits" _ := ⟨f_law_fits, _, _, none_F (os := [.b, .b, .b]) N_law_fits, W.mg_of X G a_law_fits, k_law_fits, b_law_fits⟩
  have R_law_fits1 : CalG l.prog w K mg base (L2.CX l.prog w) 3 "_law_fits" _ := ⟨f_law_fits, _, _, vok_fits 0 F_law_fits m_isinstance m_tuple m_len m_str C_law_is_pair m_set m_sorted m_int m_bool C_law_mates R_law_fits0 C_law_left, W.mg_of X G a_law_fits, k_law_fits, b_law_fits⟩
  have R_law_fits2 : CalG l.prog w K mg base (L2.CX l.prog w) 4 "_law_fits" _ := ⟨f_law_fits, _, _, vok_fits 1 F_law_fits m_isinstance m_tuple m_len m_str C_law_is_pair m_set m_sorted m_int m_bool C_law_mates R_law_fits1 C_law_left, W.mg_of X G a_law_fits, k_law_fits, b_law_fits⟩
  have R_law_fits3 : CalG l.prog w K mg base (L2.CX l.prog w) 5 "_law_fits" _ := ⟨f_law_fits, _, _, vok_fits 2 F_law_fits m_isinstance m_tuple m_len m_str C_law_is_pair m_set m_sorted m_int m_bool C_law_mates R_law_fits2 C_law_left, W.mg_of X G a_law_fits, k_law_fits, b_law_fits⟩
  have R_law_fits4 : CalG l.prog w K mg base (L2.CX l.prog w) 6 "_law_fits" _ := ⟨f_law_fits, _, _, vok_fits 3 F_law_fits m_isinstance m_tuple m_len m_str C_law_is_pair m_set m_sorted m_int m_bool C_law_mates R_law_fits3 C_law_left, W.mg_of X G a_law_fits, k_law_fits, b_law_fits⟩
  have R_law_fits5 : CalG l.prog w K mg base (L2.CX l.prog w) 7 "_law_fits" _ := ⟨f_law_fits, _, _, vok_fits 4 F_law_fits m_isinstance m_tuple m_len m_str C_law_is_pair m_set m_sorted m_int m_bool C_law_mates R_law_fits4 C_law_left, W.mg_of X G a_law_fits, k_law_fits, b_law_fits⟩
  have R_law_fits6 : CalG l.prog w K mg base (L2.CX l.prog w) 8 "_law_fits" _ := ⟨f_law_fits, _, _, vok_fits 5 F_law_fits m_isinstance m_tuple m_len m_str C_law_is_pair m_set m_sorted m_int m_bool C_law_mates R_law_fits5 C_law_left, W.mg_of X G a_law_fits, k_law_fits, b_law_fits⟩
  have R_law_fits7 : CalG l.prog w K mg base (L2.CX l.prog w) 9 "_law_fits" _ := ⟨f_law_fits, _, _, vok_fits 6 F_law_fits m_isinstance m_tuple m_len m_str C_law_is_pair m_set m_sorted m_int m_bool C_law_mates R_law_fits6 C_law_left, W.mg_of X G a_law_fits, k_law_fits, b_law_fits⟩
  have R_law_fits8 : CalG l.prog w K mg base (L2.CX l.prog w) 10 "_law_fits" _ := ⟨f_law_fits, _, _, vok_fits 7 F_law_fits m_isinstance m_tuple m_len m_str C_law_is_pair m_set m_sorted m_int m_bool C_law_mates R_law_fits7 C_law_left, W.mg_of X G a_law_fits, k_law_fits, b_law_fits⟩
  have R_law_fits9 : CalG l.prog w K mg base (L2.CX l.prog w) 11 "_law_fits" _ := ⟨f_law_fits, _, _, vok_fits 8 F_law_fits m_isinstance m_tuple m_len m_str C_law_is_pair m_set m_sorted m_int m_bool C_law_mates R_law_fits8 C_law_left, W.mg_of X G a_law_fits, k_law_fits, b_law_fits⟩
  have R_law_fits10 : CalG l.prog w K mg base (L2.CX l.prog w) 12 "_law_fits" _ := ⟨f_law_fits, _, _, vok_fits 9 F_law_fits m_isinstance m_tuple m_len m_str C_law_is_pair m_set m_sorted m_int m_bool C_law_mates R_law_fits9 C_law_left, W.mg_of X G a_law_fits, k_law_fits, b_law_fits⟩
  have R_law_fits11 : CalG l.prog w K mg base (L2.CX l.prog w) 13 "_law_fits" _ := ⟨f_law_fits, _, _, vok_fits 10 F_law_fits m_isinstance m_tuple m_len m_str C_law_is_pair m_set m_sorted m_int m_bool C_law_mates R_law_fits10 C_law_left, W.mg_of X G a_law_fits, k_law_fits, b_law_fits⟩
  have C_law_fits : CalG l.prog w K mg base (L2.CX l.prog w) 14 "_law_fits" _ := ⟨f_law_fits, _, _, vok_fits 11 F_law_fits m_isinstance m_tuple m_len m_str C_law_is_pair m_set m_sorted m_int m_bool C_law_mates R_law_fits11 C_law_left, W.mg_of X G a_law_fits, k_law_fits, b_law_fits⟩
  have C_law_odd : CalG l.prog w K mg base (L2.CX l.prog w) 2 "_law_odd" _ := ⟨f_law_odd, _, _, vok_odd F_law_odd C_law_draw m_len, W.mg_of X G a_law_odd, k_law_odd, b_law_odd⟩
  have N_law_bent : ∀ ds, (ap1 (bent_V 0)) ds = no := fun ds => match ds with | [] => rfl | [_] => rfl | _ :: _ :: _ => rfl
  have R_law_bent0 : CalG l.prog w K mg base (L2.CX l.prog w) 3 "_law_bent" _ := ⟨f_law_bent, _, _, none_T (os := [.b]) N_law_bent, W.mg_of X G a_law_bent, k_law_bent, b_law_bent⟩
  have R_law_bent1 : CalG l.prog w K mg base (L2.CX l.prog w) 4 "_law_bent" _ := ⟨f_law_bent, _, _, vok_bent 0 F_law_bent C_law_draw m_isinstance m_tuple m_len C_law_odd m_list R_law_bent0, W.mg_of X G a_law_bent, k_law_bent, b_law_bent⟩
  have R_law_bent2 : CalG l.prog w K mg base (L2.CX l.prog w) 5 "_law_bent" _ := ⟨f_law_bent, _, _, vok_bent 1 F_law_bent C_law_draw m_isinstance m_tuple m_len C_law_odd m_list R_law_bent1, W.mg_of X G a_law_bent, k_law_bent, b_law_bent⟩
  have R_law_bent3 : CalG l.prog w K mg base (L2.CX l.prog w) 6 "_law_bent" _ := ⟨f_law_bent, _, _, vok_bent 2 F_law_bent C_law_draw m_isinstance m_tuple m_len C_law_odd m_list R_law_bent2, W.mg_of X G a_law_bent, k_law_bent, b_law_bent⟩
  have R_law_bent4 : CalG l.prog w K mg base (L2.CX l.prog w) 7 "_law_bent" _ := ⟨f_law_bent, _, _, vok_bent 3 F_law_bent C_law_draw m_isinstance m_tuple m_len C_law_odd m_list R_law_bent3, W.mg_of X G a_law_bent, k_law_bent, b_law_bent⟩
  have R_law_bent5 : CalG l.prog w K mg base (L2.CX l.prog w) 8 "_law_bent" _ := ⟨f_law_bent, _, _, vok_bent 4 F_law_bent C_law_draw m_isinstance m_tuple m_len C_law_odd m_list R_law_bent4, W.mg_of X G a_law_bent, k_law_bent, b_law_bent⟩
  have R_law_bent6 : CalG l.prog w K mg base (L2.CX l.prog w) 9 "_law_bent" _ := ⟨f_law_bent, _, _, vok_bent 5 F_law_bent C_law_draw m_isinstance m_tuple m_len C_law_odd m_list R_law_bent5, W.mg_of X G a_law_bent, k_law_bent, b_law_bent⟩
  have R_law_bent7 : CalG l.prog w K mg base (L2.CX l.prog w) 10 "_law_bent" _ := ⟨f_law_bent, _, _, vok_bent 6 F_law_bent C_law_draw m_isinstance m_tuple m_len C_law_odd m_list R_law_bent6, W.mg_of X G a_law_bent, k_law_bent, b_law_bent⟩
  have R_law_bent8 : CalG l.prog w K mg base (L2.CX l.prog w) 11 "_law_bent" _ := ⟨f_law_bent, _, _, vok_bent 7 F_law_bent C_law_draw m_isinstance m_tuple m_len C_law_odd m_list R_law_bent7, W.mg_of X G a_law_bent, k_law_bent, b_law_bent⟩
  have R_law_bent9 : CalG l.prog w K mg base (L2.CX l.prog w) 12 "_law_bent" _ := ⟨f_law_bent, _, _, vok_bent 8 F_law_bent C_law_draw m_isinstance m_tuple m_len C_law_odd m_list R_law_bent8, W.mg_of X G a_law_bent, k_law_bent, b_law_bent⟩
  have R_law_bent10 : CalG l.prog w K mg base (L2.CX l.prog w) 13 "_law_bent" _ := ⟨f_law_bent, _, _, vok_bent 9 F_law_bent C_law_draw m_isinstance m_tuple m_len C_law_odd m_list R_law_bent9, W.mg_of X G a_law_bent, k_law_bent, b_law_bent⟩
  have R_law_bent11 : CalG l.prog w K mg base (L2.CX l.prog w) 14 "_law_bent" _ := ⟨f_law_bent, _, _, vok_bent 10 F_law_bent C_law_draw m_isinstance m_tuple m_len C_law_odd m_list R_law_bent10, W.mg_of X G a_law_bent, k_law_bent, b_law_bent⟩
  have R_law_bent12 : CalG l.prog w K mg base (L2.CX l.prog w) 15 "_law_bent" _ := ⟨f_law_bent, _, _, vok_bent 11 F_law_bent C_law_draw m_isinstance m_tuple m_len C_law_odd m_list R_law_bent11, W.mg_of X G a_law_bent, k_law_bent, b_law_bent⟩
  have R_law_bent13 : CalG l.prog w K mg base (L2.CX l.prog w) 16 "_law_bent" _ := ⟨f_law_bent, _, _, vok_bent 12 F_law_bent C_law_draw m_isinstance m_tuple m_len C_law_odd m_list R_law_bent12, W.mg_of X G a_law_bent, k_law_bent, b_law_bent⟩
  have R_law_bent14 : CalG l.prog w K mg base (L2.CX l.prog w) 17 "_law_bent" _ := ⟨f_law_bent, _, _, vok_bent 13 F_law_bent C_law_draw m_isinstance m_tuple m_len C_law_odd m_list R_law_bent13, W.mg_of X G a_law_bent, k_law_bent, b_law_bent⟩
  have R_law_bent15 : CalG l.prog w K mg base (L2.CX l.prog w) 18 "_law_bent" _ := ⟨f_law_bent, _, _, vok_bent 14 F_law_bent C_law_draw m_isinstance m_tuple m_len C_law_odd m_list R_law_bent14, W.mg_of X G a_law_bent, k_law_bent, b_law_bent⟩
  have R_law_bent16 : CalG l.prog w K mg base (L2.CX l.prog w) 19 "_law_bent" _ := ⟨f_law_bent, _, _, vok_bent 15 F_law_bent C_law_draw m_isinstance m_tuple m_len C_law_odd m_list R_law_bent15, W.mg_of X G a_law_bent, k_law_bent, b_law_bent⟩
  have R_law_bent17 : CalG l.prog w K mg base (L2.CX l.prog w) 20 "_law_bent" _ := ⟨f_law_bent, _, _, vok_bent 16 F_law_bent C_law_draw m_isinstance m_tuple m_len C_law_odd m_list R_law_bent16, W.mg_of X G a_law_bent, k_law_bent, b_law_bent⟩
  have R_law_bent18 : CalG l.prog w K mg base (L2.CX l.prog w) 21 "_law_bent" _ := ⟨f_law_bent, _, _, vok_bent 17 F_law_bent C_law_draw m_isinstance m_tuple m_len C_law_odd m_list R_law_bent17, W.mg_of X G a_law_bent, k_law_bent, b_law_bent⟩
  have R_law_bent19 : CalG l.prog w K mg base (L2.CX l.prog w) 22 "_law_bent" _ := ⟨f_law_bent, _, _, vok_bent 18 F_law_bent C_law_draw m_isinstance m_tuple m_len C_law_odd m_list R_law_bent18, W.mg_of X G a_law_bent, k_law_bent, b_law_bent⟩
  have R_law_bent20 : CalG l.prog w K mg base (L2.CX l.prog w) 23 "_law_bent" _ := ⟨f_law_bent, _, _, vok_bent 19 F_law_bent C_law_draw m_isinstance m_tuple m_len C_law_odd m_list R_law_bent19, W.mg_of X G a_law_bent, k_law_bent, b_law_bent⟩
  have R_law_bent21 : CalG l.prog w K mg base (L2.CX l.prog w) 24 "_law_bent" _ := ⟨f_law_bent, _, _, vok_bent 20 F_law_bent C_law_draw m_isinstance m_tuple m_len C_law_odd m_list R_law_bent20, W.mg_of X G a_law_bent, k_law_bent, b_law_bent⟩
  have R_law_bent22 : CalG l.prog w K mg base (L2.CX l.prog w) 25 "_law_bent" _ := ⟨f_law_bent, _, _, vok_bent 21 F_law_bent C_law_draw m_isinstance m_tuple m_len C_law_odd m_list R_law_bent21, W.mg_of X G a_law_bent, k_law_bent, b_law_bent⟩
  have R_law_bent23 : CalG l.prog w K mg base (L2.CX l.prog w) 26 "_law_bent" _ := ⟨f_law_bent, _, _, vok_bent 22 F_law_bent C_law_draw m_isinstance m_tuple m_len C_law_odd m_list R_law_bent22, W.mg_of X G a_law_bent, k_law_bent, b_law_bent⟩
  have C_law_bent : CalG l.prog w K mg base (L2.CX l.prog w) 27 "_law_bent" _ := ⟨f_law_bent, _, _, vok_bent 23 F_law_bent C_law_draw m_isinstance m_tuple m_len C_law_odd m_list R_law_bent23, W.mg_of X G a_law_bent, k_law_bent, b_law_bent⟩
  have N_law_grown : ∀ ds, (ap2 (grown_V 0)) ds = no := fun ds => match ds with | [] => rfl | [_] => rfl | [_, _] => rfl | _ :: _ :: _ :: _ => rfl
  have R_law_grown0 : CalG l.prog w K mg base (L2.CX l.prog w) 3 "_law_grown" _ := ⟨f_law_grown, _, _, none_T (os := [.b, .b]) N_law_grown, W.mg_of X G a_law_grown, k_law_grown, b_law_grown⟩
  have R_law_grown1 : CalG l.prog w K mg base (L2.CX l.prog w) 4 "_law_grown" _ := ⟨f_law_grown, _, _, vok_grown 0 F_law_grown C_law_apart C_law_draw m_range C_law_mates m_len R_law_grown0 C_law_left, W.mg_of X G a_law_grown, k_law_grown, b_law_grown⟩
  have R_law_grown2 : CalG l.prog w K mg base (L2.CX l.prog w) 5 "_law_grown" _ := ⟨f_law_grown, _, _, vok_grown 1 F_law_grown C_law_apart C_law_draw m_range C_law_mates m_len R_law_grown1 C_law_left, W.mg_of X G a_law_grown, k_law_grown, b_law_grown⟩
  have R_law_grown3 : CalG l.prog w K mg base (L2.CX l.prog w) 6 "_law_grown" _ := ⟨f_law_grown, _, _, vok_grown 2 F_law_grown C_law_apart C_law_draw m_range C_law_mates m_len R_law_grown2 C_law_left, W.mg_of X G a_law_grown, k_law_grown, b_law_grown⟩
  have R_law_grown4 : CalG l.prog w K mg base (L2.CX l.prog w) 7 "_law_grown" _ := ⟨f_law_grown, _, _, vok_grown 3 F_law_grown C_law_apart C_law_draw m_range C_law_mates m_len R_law_grown3 C_law_left, W.mg_of X G a_law_grown, k_law_grown, b_law_grown⟩
  have R_law_grown5 : CalG l.prog w K mg base (L2.CX l.prog w) 8 "_law_grown" _ := ⟨f_law_grown, _, _, vok_grown 4 F_law_grown C_law_apart C_law_draw m_range C_law_mates m_len R_law_grown4 C_law_left, W.mg_of X G a_law_grown, k_law_grown, b_law_grown⟩
  have R_law_grown6 : CalG l.prog w K mg base (L2.CX l.prog w) 9 "_law_grown" _ := ⟨f_law_grown, _, _, vok_grown 5 F_law_grown C_law_apart C_law_draw m_range C_law_mates m_len R_law_grown5 C_law_left, W.mg_of X G a_law_grown, k_law_grown, b_law_grown⟩
  have R_law_grown7 : CalG l.prog w K mg base (L2.CX l.prog w) 10 "_law_grown" _ := ⟨f_law_grown, _, _, vok_grown 6 F_law_grown C_law_apart C_law_draw m_range C_law_mates m_len R_law_grown6 C_law_left, W.mg_of X G a_law_grown, k_law_grown, b_law_grown⟩
  have R_law_grown8 : CalG l.prog w K mg base (L2.CX l.prog w) 11 "_law_grown" _ := ⟨f_law_grown, _, _, vok_grown 7 F_law_grown C_law_apart C_law_draw m_range C_law_mates m_len R_law_grown7 C_law_left, W.mg_of X G a_law_grown, k_law_grown, b_law_grown⟩
  have R_law_grown9 : CalG l.prog w K mg base (L2.CX l.prog w) 12 "_law_grown" _ := ⟨f_law_grown, _, _, vok_grown 8 F_law_grown C_law_apart C_law_draw m_range C_law_mates m_len R_law_grown8 C_law_left, W.mg_of X G a_law_grown, k_law_grown, b_law_grown⟩
  have C_law_grown : CalG l.prog w K mg base (L2.CX l.prog w) 13 "_law_grown" _ := ⟨f_law_grown, _, _, vok_grown 9 F_law_grown C_law_apart C_law_draw m_range C_law_mates m_len R_law_grown9 C_law_left, W.mg_of X G a_law_grown, k_law_grown, b_law_grown⟩
  exact vok_law Flaw law_wp hs C_law_pen m_range C_law_pairs C_law_draw C_law_grown C_law_bent C_law_odd m_repr C_law_fits Cshows_cover Wshows_cover m_tuple
end L2.K57
open L2 L2.My PySem PySem.W PySem.Spec PyProof.Rows
set_option maxRecDepth 100000 in
set_option maxHeartbeats 0 in
theorem PySem.Challenge.cw_latelands_k57_cover_papers_looked_at_holds : PySem.Challenge.rw_latelands_k57_cover_papers_looked_at.Holds := by
  w_on; o_law; k_head; (case hw => w_witness2)
  k_fill
  refine L2.My.top_g (l := PySem.Challenge.rw_latelands_k57_cover_papers_looked_at) (n := 63) (k := 28) (x := "_law_script") (sp := L2.DL.spLaw) ?hi rfl (by decide) rfl ⟨rfl, by decide, by decide⟩ (fun w h Y => PySem.W.kIn_of Y) ?F (fun K H a ns hl hO hS => ⟨a, ns, rfl, hS, fun _ => rfl⟩)
  case hi => decide +kernel
  case F =>
    intro w mg fa h KX G hmg
    refine' L2.K57.all_mk KX G hmg ?d_are_integers ?d_without ?d_partners_of ?d_are_apart ?d_parts_of_cover ?d_shows_cover ?d__law_pairs ?d__law_left ?d__law_mates ?d__law_apart ?d__law_is_pair ?d__law_fits ?d__law_odd ?d__law_bent ?d__law_grown ?d__law_pen ?d__law_draw ?d_law ?z_all ?z_isinstance ?z_bool ?z_int ?z_tuple ?z_sorted ?z_len ?z_list ?z_range ?z_max ?z_min ?z_set ?z_str ?z_repr ?z_abs
    (case d_are_integers =>
      refine' L2.K57.defat_mk ?qare_integersa ?qare_integersl ?qare_integersc ?qare_integersk
      (case qare_integersa => k_is)
      (case qare_integersl => k_is)
      (case qare_integersc => k_is)
      (case qare_integersk => k_is))
    (case d_without =>
      refine' L2.K57.defat_mk ?qwithouta ?qwithoutl ?qwithoutc ?qwithoutk
      (case qwithouta => k_is)
      (case qwithoutl => k_is)
      (case qwithoutc => k_is)
      (case qwithoutk => k_is))
    (case d_partners_of =>
      refine' L2.K57.defat_mk ?qpartners_ofa ?qpartners_ofl ?qpartners_ofc ?qpartners_ofk
      (case qpartners_ofa => k_is)
      (case qpartners_ofl => k_is)
      (case qpartners_ofc => k_is)
      (case qpartners_ofk => k_is))
    (case d_are_apart =>
      refine' L2.K57.defat_mk ?qare_aparta ?qare_apartl ?qare_apartc ?qare_apartk
      (case qare_aparta => k_is)
      (case qare_apartl => k_is)
      (case qare_apartc => k_is)
      (case qare_apartk => k_is))
    (case d_parts_of_cover =>
      refine' L2.K57.defat_mk ?qparts_of_covera ?qparts_of_coverl ?qparts_of_coverc ?qparts_of_coverk
      (case qparts_of_covera => k_is)
      (case qparts_of_coverl => k_is)
      (case qparts_of_coverc => k_is)
      (case qparts_of_coverk => k_is))
    (case d_shows_cover =>
      refine' L2.K57.defat_mk ?qshows_covera ?qshows_coverl ?qshows_coverc ?qshows_coverk
      (case qshows_covera => k_is)
      (case qshows_coverl => k_is)
      (case qshows_coverc => k_is)
      (case qshows_coverk => k_is))
    (case d__law_pairs =>
      refine' L2.K57.defat_mk ?q_law_pairsa ?q_law_pairsl ?q_law_pairsc ?q_law_pairsk
      (case q_law_pairsa => k_is)
      (case q_law_pairsl => k_is)
      (case q_law_pairsc => k_is)
      (case q_law_pairsk => k_is))
    (case d__law_left =>
      refine' L2.K57.defat_mk ?q_law_lefta ?q_law_leftl ?q_law_leftc ?q_law_leftk
      (case q_law_lefta => k_is)
      (case q_law_leftl => k_is)
      (case q_law_leftc => k_is)
      (case q_law_leftk => k_is))
    (case d__law_mates =>
      refine' L2.K57.defat_mk ?q_law_matesa ?q_law_matesl ?q_law_matesc ?q_law_matesk
      (case q_law_matesa => k_is)
      (case q_law_matesl => k_is)
      (case q_law_matesc => k_is)
      (case q_law_matesk => k_is))
    (case d__law_apart =>
      refine' L2.K57.defat_mk ?q_law_aparta ?q_law_apartl ?q_law_apartc ?q_law_apartk
      (case q_law_aparta => k_is)
      (case q_law_apartl => k_is)
      (case q_law_apartc => k_is)
      (case q_law_apartk => k_is))
    (case d__law_is_pair =>
      refine' L2.K57.defat_mk ?q_law_is_paira ?q_law_is_pairl ?q_law_is_pairc ?q_law_is_pairk
      (case q_law_is_paira => k_is)
      (case q_law_is_pairl => k_is)
      (case q_law_is_pairc => k_is)
      (case q_law_is_pairk => k_is))
    (case d__law_fits =>
      refine' L2.K57.defat_mk ?q_law_fitsa ?q_law_fitsl ?q_law_fitsc ?q_law_fitsk
      (case q_law_fitsa => k_is)
      (case q_law_fitsl => k_is)
      (case q_law_fitsc => k_is)
      (case q_law_fitsk => k_is))
    (case d__law_odd =>
      refine' L2.K57.defat_mk ?q_law_odda ?q_law_oddl ?q_law_oddc ?q_law_oddk
      (case q_law_odda => k_is)
      (case q_law_oddl => k_is)
      (case q_law_oddc => k_is)
      (case q_law_oddk => k_is))
    (case d__law_bent =>
      refine' L2.K57.defat_mk ?q_law_benta ?q_law_bentl ?q_law_bentc ?q_law_bentk
      (case q_law_benta => k_is)
      (case q_law_bentl => k_is)
      (case q_law_bentc => k_is)
      (case q_law_bentk => k_is))
    (case d__law_grown =>
      refine' L2.K57.defat_mk ?q_law_growna ?q_law_grownl ?q_law_grownc ?q_law_grownk
      (case q_law_growna => k_is)
      (case q_law_grownl => k_is)
      (case q_law_grownc => k_is)
      (case q_law_grownk => k_is))
    (case d__law_pen =>
      refine' L2.K57.defat_mk ?q_law_pena ?q_law_penl ?q_law_penc ?q_law_penk
      (case q_law_pena => k_is)
      (case q_law_penl => k_is)
      (case q_law_penc => k_is)
      (case q_law_penk => k_is))
    (case d__law_draw =>
      refine' L2.K57.defat_mk ?q_law_drawa ?q_law_drawl ?q_law_drawc ?q_law_drawk
      (case q_law_drawa => k_is)
      (case q_law_drawl => k_is)
      (case q_law_drawc => k_is)
      (case q_law_drawk => k_is))
    (case d_law =>
      refine' L2.K57.defat_mk ?qlawa ?qlawl ?qlawc ?qlawk
      (case qlawa => k_is)
      (case qlawl => k_is)
      (case qlawc => k_is)
      (case qlawk => k_is))
    (case z_all => k_is)
    (case z_isinstance => k_is)
    (case z_bool => k_is)
    (case z_int => k_is)
    (case z_tuple => k_is)
    (case z_sorted => k_is)
    (case z_len => k_is)
    (case z_list => k_is)
    (case z_range => k_is)
    (case z_max => k_is)
    (case z_min => k_is)
    (case z_set => k_is)
    (case z_str => k_is)
    (case z_repr => k_is)
    (case z_abs => k_is)
