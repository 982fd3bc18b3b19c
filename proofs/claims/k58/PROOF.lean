import PyProof.Rows.All
import Wide.All
import OpenK.AllK
import Wide.FinOn
import HandS.ForMost
import HandS.Exc
import HandS.Wide
import PyProof.ReprRoads
import HandS.ExcInit
import KE.KExcInit
import KE.KExcIs
import HandS.Defaults
import HandS.IsInst
import HandS.Codes
import HandS.ExcValue
import HandS.ExcOwn
import HandS.FStr
import HandS.ClsMeth
import HandS.SlotsOwn
import HandS.Walk
import HandS.OwnEq
import OpenK.KOps
import PyProof.InstEq
import HandS.WordsExc
import KE.SortData
import KE.DataMinMax
import KE.DataAny
import KE.DataCmp
import KE.DataFind
import HandS.Text
import HandS.TupAny
import HandS.Deep
import HandS.TupLe
import HandS.More
import HandS.Nested
import KE.KSuper
import HandS.Style
import HandS.SetBool
import HandS.DictComp
import HandS.Strs
import HandS.SetKeys
import HandS.SetFor
import HandS.TupSets
import HandS.Small
import PySem.Challenge.RW_latelands_k58_whole_cover_papers_and_set
set_option Elab.async false
set_option linter.all false
set_option maxRecDepth 100000
set_option maxHeartbeats 16000000
/-! Contracts of defs that know that no repr runs around them -/
namespace L2.My
open PySem PySem.Spec PyProof.Rows

def Quiet (A : Around) : Prop := A.guards = some []

structure FnG (P : Program) (w : World) (K : W.Frag) (mg : Str → Option Value) (base : Heap) (CX : CXT) (k : Nat) (f : Addr) (fd : FuncData) (ps : List Str) (sp : Sp) : Prop where
  many : ∀ vs H Q E, sp vs H Q E → vs.length = ps.length
  runs : ∀ (A : Around) (outer : List Env) (s : Shared) (H : Hp) (args : Args) (us : List Value) (vs : List V) (Q : VK) (E : XK),
    Room k A → Quiet A → Env0 P w K mg base A outer s H → BindsTo s fd args (ps.zip us) → Vals vs us → sp vs H Q E →
      codeAny (model P w) A (.call (.ref f) args) (CR CX outer P w H s Q E) s

section
variable {P : Program} {w : World} {K : W.Frag} {mg : Str → Option Value} {base : Heap} {CX : CXT} {j k : Nat} {f : Addr} {fd : FuncData} {ps : List Str} {sp : Sp}
theorem FnG.of (F : FnOk P w K mg base CX k f fd ps sp) : FnG P w K mg base CX k f fd ps sp :=
  ⟨F.len, fun A outer s H args us vs Q E hr _ => F.run A outer s H args us vs Q E hr⟩
theorem FnG.up (F : FnG P w K mg base CX j f fd ps sp) (h : j ≤ k) : FnG P w K mg base CX k f fd ps sp :=
  ⟨F.many, fun A outer s H args us vs Q E hr => F.runs A outer s H args us vs Q E (hr.mono h)⟩
theorem FnG.weak {sp' : Sp} (F : FnG P w K mg base CX k f fd ps sp) (h : ∀ vs H Q E, sp' vs H Q E → sp vs H Q E) : FnG P w K mg base CX k f fd ps sp' :=
  ⟨fun vs H Q E q => F.many vs H Q E (h _ _ _ _ q), fun A outer s H args us vs Q E hr hq he hb hv hs => F.runs A outer s H args us vs Q E hr hq he hb hv (h _ _ _ _ hs)⟩
end

/-- a def of the module by its name, with its promise -/
structure CalG (P : Program) (w : World) (K : W.Frag) (mg : Str → Option Value) (base : Heap) (CX : CXT) (k : Nat) (x : Str) (sp : Sp) : Prop where
  ex : ∃ (f : Addr) (fd : FuncData) (ps : List Str), FnG P w K mg base CX k f fd ps sp ∧ mg x = some (.ref f) ∧ W.keepIn K (.ref f) = true ∧ Binds K fd ps []

section
variable {X : Cx} {CX : CXT} {j k : Nat} {f : Addr} {fd : FuncData} {ps : List Str} {sp : Sp} {E : XK} {x : Str} {p pos : Pos} {e : Expr} {es : List Expr} {t : TA}
theorem goes {pins : List (Addr × Obj)} {σ : St} {H : Hp} {s : Shared} {Q : VK} {us : List Value} {vs : List V} (F : FnG X.prog X.w X.K X.mg X.base CX k f fd ps sp) (hr : Room k X.A) (hq : Quiet X.A)
    (hb : Binds X.K fd ps []) (hx : Passes CX X E) (I : Inv X pins σ H s) (r : Vals vs us) (h : sp vs H Q E) :
    wpAny (model X.prog X.w) X.A (call (.ref f) us) (EP X pins σ Q) X.xe s := by
  have hl : (us ++ []).length = ps.length := by
    rw [List.append_nil, ← r.length]
    exact F.many vs H Q E h
  have b := hb s us I.kIn hl
  rw [List.append_nil] at b
  have main := F.runs X.A X.stack s H ⟨us, []⟩ us vs Q E hr hq I.env0 b r h
  refine wpAny_call (codeAny_mono main ?_)
  intro res s' z
  match res, z with
  | .error er, z => exact hx pins σ H s er s' I z
  | .ok (.ret u), z => exact I.after z
theorem pe_g (c : CalG X.prog X.w X.K X.mg X.base CX j x sp) (hr : Room k X.A) (hjk : j ≤ k) (hq : Quiet X.A) (hx : Passes CX X E) (hg : Gl X x) (ha : PA X (e :: es) t)
    (hdb : (x == ("__debug__" : Str)) = false := by decide) (he : starEach (e :: es) X.env = (false, eval e X.env) :: starEach es X.env := by rfl) (hpl : (backTo pos (starEach es X.env)).any (·.1) = false := by rfl) :
    PE X (.Call (.Name x p) (e :: es) [] pos) (tCall sp [] E t) := by
  obtain ⟨f, fd, ps, F, hm, hk, hb⟩ := c.ex
  constructor
  intro pins s σ H Q I h
  refine wpAny_Call_Name_kw (ld_glob I hg hm ?_ hdb)
  refine W.callWith_K (h₀ := X.base) I.ok.mod.kin hk (thn (ha.run pos pins s σ H _ I h) ?_) he hpl
  rintro us s1 ⟨vs, H1, I1, r, q⟩
  rw [List.append_nil] at q
  exact ⟨I1.kIn, goes (F.up hjk) hr hq hb hx I1 r q⟩
theorem pe_g0 (c : CalG X.prog X.w X.K X.mg X.base CX j x sp) (hr : Room k X.A) (hjk : j ≤ k) (hq : Quiet X.A) (hx : Passes CX X E) (hg : Gl X x) (hdb : (x == ("__debug__" : Str)) = false := by decide) :
    PE X (.Call (.Name x p) [] [] pos) (tCall sp [] E tNil) := by
  obtain ⟨f, fd, ps, F, hm, hk, hb⟩ := c.ex
  constructor
  intro pins s σ H Q I h
  refine wpAny_Call_Name_kw (ld_glob I hg hm ?_ hdb)
  exact W.callWith_K0 I.kIn hk (goes (us := []) (F.up hjk) hr hq hb hx I .nil h)
end

/-- a def of the text by its body -/
theorem body_g {CX : CXT} {P : Program} {w : World} {K : W.Frag} {mg : Str → Option Value} {base : Heap} {x qual : Str} {st : Stmt} {f : Addr} {fd : FuncData} {N ps : List Str} {k : Nat} {sp : Sp}
    (F : Fun K x qual st f fd) (S : FnScope N ps (defScope st)) (many : ∀ vs H Q E, sp vs H Q E → vs.length = ps.length)
    (hbody : ∀ (cdv : Value) (A : Around) (outer : List Env) (s : Shared) (H : Hp) (vs : List V) (Q : VK) (E : XK), Room k (A.deeper (envOfC qual (defScope st) s.heap.objs.size f cdv)) → Quiet (A.deeper (envOfC qual (defScope st) s.heap.objs.size f cdv)) → sp vs H Q E →
      ∃ t, PSs (cxOf CX P w K mg base N qual (defScope st) f cdv A outer s H E) (defBody st) t ∧ t { nx := fun _ H' => Q .non H', rt := Q } (start N vs) H) :
    FnG P w K mg base CX (k + 1) f fd ps sp := by
  obtain ⟨oc, od, kV, doc, pm, an, cdv, ct, osl, rfl, lk, hcd⟩ := F.ex
  refine ⟨many, ?_⟩
  intro A outer s H args us vs Q E hr hq e0 hb r hsp
  have hk0 : ∀ b o, base.get? b = some o → s.heap.get? b = some o := fun b o e => (e0.bs b o e).1
  have KX : K.In s.heap := e0.mod.kin.keeps hk0
  have lim : s.heap.NoLimit := e0.mod.nolimit.keeps hk0
  have hkind : ∀ y ∈ ps.zip us, (defScope st).names.lookup y.1 = some .local ∨ ((defScope st).names.lookup y.1 = some .cell ∧ ((cellsFrom (s.heap.objs.size + 1) (defScope st).names []).lookup y.1).isSome = true) := by
    rintro ⟨n, v⟩ hy
    cases S.par n (List.of_mem_zip hy).1 with
    | inl q => exact .inl q
    | inr q => exact .inr ⟨q, W.cellsFrom_some _ _ _ (.inl q)⟩
  refine codeAny_call_function hr.depth (KX _ _ lk) rfl S.co S.gen rfl (W.codeRec_of KX hcd) (hb _ _ _ _ (wpAny_newFunctionEnv_cells S.kind hkind ?_))
  rintro env rfl s1 x
  refine ⟨lim.keeps x.toInCall.keep, codeAny_func ?_⟩
  obtain ⟨t, ht, hq'⟩ := hbody cdv A outer s H vs Q E (hr.deeper _) hq hsp
  have I := inv_start (CX := CX) (E := E) S hr.hd e0 (many _ _ _ _ hsp) r x
  refine wpAny_mono (ht.run [] s1 (start N vs) H _ I hq') ?_ (fun e s' hs => hs)
  intro fl s' hs
  match fl, hs with
  | .ret u, ⟨v, σ', H', J, rv, q⟩ => exact (⟨v, H', J.os, J.bare, J.base, J.hok, rv, q⟩ : CE outer P w H s Q u s')
  | .next, ⟨σ', H', J, q⟩ => exact (⟨.non, H', J.os, J.bare, J.base, J.hok, rfl, q⟩ : CE outer P w H s Q .none s')
  | .brk, ⟨_, _, _, q⟩ => exact q.elim
  | .cont, ⟨_, _, _, q⟩ => exact q.elim
/-- the same where nothing is raised out of it -/
theorem body_g0 {P : Program} {w : World} {K : W.Frag} {mg : Str → Option Value} {base : Heap} {x qual : Str} {st : Stmt} {f : Addr} {fd : FuncData} {N ps : List Str} {k : Nat} {sp : Sp}
    (F : Fun K x qual st f fd) (S : FnScope N ps (defScope st)) (many : ∀ vs H Q E, sp vs H Q E → vs.length = ps.length)
    (hbody : ∀ (cdv : Value) (A : Around) (outer : List Env) (s : Shared) (H : Hp) (vs : List V) (Q : VK) (E : XK), Room k (A.deeper (envOfC qual (defScope st) s.heap.objs.size f cdv)) → Quiet (A.deeper (envOfC qual (defScope st) s.heap.objs.size f cdv)) → sp vs H Q E →
      ∃ t, PSs (cxOf CX0 P w K mg base N qual (defScope st) f cdv A outer s H E).nox (defBody st) t ∧ t { nx := fun _ H' => Q .non H', rt := Q } (start N vs) H) :
    FnG P w K mg base CX0 (k + 1) f fd ps sp :=
  body_g F S many fun cdv A outer s H vs Q E hr hq hsp =>
    let ⟨t, h, q⟩ := hbody cdv A outer s H vs Q E hr hq hsp
    ⟨t, h.nox, q⟩
end L2.My
/-! The end of a law over FnG -/
namespace L2.My
open PySem PySem.Spec PyProof.Rows

theorem seen_as {P : Program} {w : World} {K : W.Frag} {mg mb : Str → Option Value} {k : Nat} {fa a : Addr} {fd : FuncData} {x : Str} {sp : Sp} {s1 : Shared} {vs : List Value} {H : Hp}
    (KX : K.In s1.heap) (hns : s1.heap.Ns mainGlobals mg) (hb : s1.heap.Ns builtinsNs mb) (hbb : ∀ x : Str, x ≠ "__name__" → mb x = bootBuiltins x) (hlim : s1.heap.NoLimit) (hg : s1.gens = #[])
    (ha : s1.heap.get? a = some { cls := .type "list", data := .seq vs.toArray }) (hr : Room k callerA)
    (hsys : ∃ m, s1.heap.Ns sysModules m) (F : ∀ base : Heap, K.In base → base.Ns mainGlobals mg → (∃ m, base.Ns sysModules m) → FnG P w K mg base CX0 k fa fd [x] sp) (hbind : ∀ (s : Shared) (u : Value), BindsTo s fd ⟨[u], []⟩ [(x, u)])
    (hO : Only H) (hok : HOk P w H s1.heap) (hA : ∀ b, H b ≠ none → b = a) (hK : H a ≠ none → K.lookup a = none) (q : sp [.ref a] H (fun v _ => v = .bl true) fun _ _ _ => False) :
    codeAny (model P w) callerA (.call (.ref fa) ⟨[.ref a], []⟩) (fun r s' => r = .ok (.ret (.bool true)) ∧ OldK s1.heap s'.heap ∧ s'.os = s1.os ∧ AllBare s'.gens) s1 := by
  -- a tracked place is the script's
  have only : ∀ {b : Addr} {u : HO}, H b = some u → b = a := by
    intro b u e
    exact hA b (by rw [e]; exact (fun z => by cases z))
  have laid : ∀ {b : Addr} {o : Obj}, s1.heap.get? b = some o → (b = a → False) → (hidT s1.heap H).get? b = some o := by
    intro b o e ne
    cases h : H b with
    | none => exact hidT_get e h
    | some u => exact (ne (only h)).elim
  have dict : ∀ {b : Addr} {m : Str → Option Value}, s1.heap.Ns b m → (hidT s1.heap H).Ns b m := by
    rintro b m ⟨o, es, ep, e, d, r⟩
    refine ⟨o, es, ep, laid e (fun z => ?_), d, r⟩
    rw [z, ha] at e
    have e' := Option.some.inj e
    rw [← e'] at d
    exact Data.noConfusion d
  have part : K.In (hidT s1.heap H) := by
    intro b o e
    cases h : H b with
    | none => exact hidT_get (KX b o e) h
    | some u =>
      obtain rfl := only h
      rw [hK (by rw [h]; exact (fun z => by cases z))] at e
      cases e
  have md : Mod K mg (hidT s1.heap H) := ⟨part, dict hns, ⟨mb, dict hb, hbb⟩, hlim.elim fun mc z => ⟨mc, dict z.1, z.2⟩⟩
  have env : Env0 P w K mg (hidT s1.heap H) callerA [] s1 H := ⟨rfl, md, fun b o => of_hidT, Nat.le_of_eq (hidT_size _ _), trivial, (fun b z => (nomatch z)), hok, .of_eq hg⟩
  have run := (F _ part (dict hns) (hsys.elim fun m z => ⟨m, dict z⟩)).runs callerA [] s1 H ⟨[.ref a], []⟩ [.ref a] [.ref a] _ _ hr rfl env (hbind s1 (.ref a)) (.cons rfl .nil) q
  refine codeAny_mono run ?_
  intro r s2 z
  match r, z with
  | .ok (.ret u), ⟨v, H2, os, bare, un, hok2, rv, ev⟩ =>
    have ev' : v = .bl true := ev
    subst ev'
    have eu : u = Value.bool true := rv
    subst eu
    refine ⟨rfl, OldK.of_keep (fun b o e => ?_), os, bare⟩
    cases h : H b with
    | none => exact un.keep b o e h (fun z => nomatch z) (fun z => nomatch z)
    | some u =>
      cases hO b with
      | inl y => rw [h] at y; cases y
      | inr y =>
        obtain ⟨ob, xs, y⟩ := y
        have e1 := (hok b _ y).1
        have e2 := (hok2 b _ (un.frzs b ob _ y)).1
        rw [e1] at e
        rw [← Option.some.inj e]
        exact e2

theorem top_g {l : W.OpenLaw} {n k : Nat} {q : Program} {loose : List Str} {XP : (Str → Option Value) → Heap → Prop} {YP : World → Heap → Prop} {d : DefRec} {K : Params → W.Frag} {sp : W.Frag → Sp} {x : Str}
    (hi : importsNone q = true) (hn : l.most = some n) (hn2 : n ≤ sizeLine) (hdf : d.params.defaults = []) (hr : Room k callerA)
    (hY : ∀ (w : World) (h : Heap), YP w h → (K w.params).In h)
    (F : ∀ (w : World) (mg : Str → Option Value) (fa : Addr) (h : Heap), (K w.params).In h → h.Ns mainGlobals mg → mg d.name = some (.ref fa) →
      ∃ fd : FuncData, (∀ (s : Shared) (u : Value), BindsTo s fd ⟨[u], []⟩ [(x, u)]) ∧ ∀ base : Heap, (K w.params).In base → base.Ns mainGlobals mg → (∃ m, base.Ns sysModules m) → FnG l.prog w (K w.params) mg base CX0 k fa fd [x] (sp (K w.params)))
    (hsp : ∀ (K : W.Frag) (H : Hp) (a : Addr) (ns : List Int), ns.length ≤ n → Only H → SqL K H a (ns.map V.int) → sp K [.ref a] H (fun v _ => v = .bl true) fun _ _ _ => False) :
    W.WalkO q loose XP YP l.row.toRowW d [] (fun f vs => PySem.call f vs) := by
  refine Att.attach_call hn hdf ?_
  intro w s0 s1 mg mb fa o pm cd doc a vs ns G Y ho hd hcd hmg hobj hints hlen hg
  have KX := hY w _ Y
  obtain ⟨fd, hb, hF⟩ := F w mg fa _ KX G.T.g hmg
  have rv := vals_ints hints
  have hs : ∃ m, s1.heap.Ns sysModules m := (G.T.seer hi).mods.elim fun m z => ⟨m, z.1⟩
  have lenV := hints.length
  have small : ns.length ≤ sizeLine := Nat.le_trans hlen hn2
  cases hk : (K w.params).lookup a with
  | some ob =>
    have e := KX a ob hk
    rw [hobj] at e
    obtain rfl := Option.some.inj e
    refine seen_as (H := fun _ => none) KX G.T.g G.T.b G.T.builtins G.T.nolimit hg hobj hr hs hF hb (fun _ => .inl rfl) (fun b u z => by cases (show (none : Option HO) = some u from z)) (fun b z => absurd rfl z) (fun z => absurd rfl z) (hsp _ _ _ _ hlen (fun _ => .inl rfl) ?_)
    exact .inr ⟨_, vs.toArray, _, hk, rfl, rfl, rfl, by rw [List.size_toArray, lenV]; exact small, by simpa using rv⟩
  | none =>
    let H : Hp := fun b => if b = a then some (.frz { cls := .type "list", data := .seq vs.toArray } (.lst (ns.map V.int))) else none
    have at_a : H a = some (.frz { cls := .type "list", data := .seq vs.toArray } (.lst (ns.map V.int))) := if_pos rfl
    have off : ∀ b, b ≠ a → H b = none := fun b z => if_neg z
    have hO : Only H := fun b => by
      by_cases z : b = a
      · rw [z]; exact .inr ⟨_, _, at_a⟩
      · exact .inl (off b z)
    refine seen_as (H := H) KX G.T.g G.T.b G.T.builtins G.T.nolimit hg hobj hr hs hF hb hO (fun b u z => ?_) (fun b z => ?_) (fun _ => hk) (hsp _ _ _ _ hlen hO (.inl (.inr ⟨_, at_a⟩)))
    · by_cases y : b = a
      · subst y
        rw [at_a] at z
        obtain rfl := Option.some.inj z
        exact ⟨hobj, by rw [List.length_map]; exact small, vs, _, rv, hobj⟩
      · rw [off b y] at z
        cases z
    · by_cases y : b = a
      · exact y
      · exact absurd (off b y) z
end L2.My
/-! Data at any depth, dicts too; repr of it -/
namespace L2.My
open PySem PySem.Spec PyProof.Rows

def keyD : Key → PyData
  | .inl i => .int i
  | .inr x => .str x
mutual
inductive Dq (K : W.Frag) (H : Hp) : V → PyData → Prop
  | non : Dq K H .non .none
  | bl (b : Bool) : Dq K H (.bl b) (.bool b)
  | int (i : Int) : Dq K H (.int i) (.int i)
  | str (x : Str) : Dq K H (.str x) (.str x)
  | lst {a : Addr} {xs : List V} {ds : List PyData} : SqL K H a xs → DqAll K H xs ds → Dq K H (.ref a) (.list ds)
  | tup {a : Addr} {xs : List V} {ds : List PyData} : SqT K H a xs → DqAll K H xs ds → Dq K H (.ref a) (.tuple ds)
  | dic {a : Addr} {kvs : List (Key × V)} {ds : List (PyData × PyData)} : H a = some (.dK kvs) → DqKv K H kvs ds → Dq K H (.ref a) (.dict ds)
inductive DqAll (K : W.Frag) (H : Hp) : List V → List PyData → Prop
  | nil : DqAll K H [] []
  | cons {v : V} {vs : List V} {d : PyData} {ds : List PyData} : Dq K H v d → DqAll K H vs ds → DqAll K H (v :: vs) (d :: ds)
inductive DqKv (K : W.Frag) (H : Hp) : List (Key × V) → List (PyData × PyData) → Prop
  | nil : DqKv K H [] []
  | cons {k : Key} {v : V} {r : List (Key × V)} {d : PyData} {ds : List (PyData × PyData)} : Dq K H v d → DqKv K H r ds → DqKv K H ((k, v) :: r) ((keyD k, d) :: ds)
end

section
variable {X : Cx} {pins : List (Addr × Obj)} {σ : St} {H : Hp} {s : Shared}
theorem apart_sys {m : Str → Option Value} {a : Addr} {o : Obj} {its : Array Value} {n : Nat} (hs : X.base.Ns sysModules m) (I : Inv X pins σ H s) (ho : s.heap.get? a = some o) (hd : o.data = .seq its n) : a ≠ sysModules := by
  obtain ⟨ob, es, ep, e, d, _⟩ := hs
  intro z
  have e2 := I.bk _ _ e
  rw [← z, ho] at e2
  rw [Option.some.inj e2, d] at hd
  cases hd
theorem key_reads {w : World} {prog : Program} {h : Heap} {k : Key} {v : Value} (e : (mixKind prog w).is k v = true) : Reads h v (keyD k) [] := by
  rcases keyIs_shape (show keyIs k v = true from e) with ⟨i, t, rfl, rfl⟩ | ⟨x, t, rfl, rfl⟩
  · exact .int i t
  · exact .str x t
/-- the keys of a dict read -/
theorem keys_read {prog : Program} {w : World} {h : Heap} : ∀ {es : List DictEntry} {kvs : List (Key × Value)}, Pairs (mixKind prog w) es kvs → ReadsAll h (es.map (·.key)) (kvs.map fun p => keyD p.1) []
  | _, _, .nil => .nil
  | _, _, .cons h1 _ h3 => ReadsAll.cons (as := []) (bs := []) (key_reads h1) (keys_read h3)
theorem vals_of {prog : Program} {w : World} : ∀ {es : List DictEntry} {kvs : List (Key × Value)}, Pairs (mixKind prog w) es kvs → es.map (·.val) = kvs.map (·.2)
  | _, _, .nil => rfl
  | _, _, .cons _ h2 h3 => by rw [List.map_cons, List.map_cons, h2, vals_of h3]
mutual
theorem Dq.reads {m : Str → Option Value} (hs : X.base.Ns sysModules m) (I : Inv X pins σ H s) : ∀ (d : PyData) (v : V) (u : Value), Dq X.K H v d → RelV v u → ∃ as, Reads s.heap u d as ∧ sysModules ∉ as
  | .none, _, _, h, r => by
    cases h; cases r
    exact ⟨_, .none, fun z => (nomatch z)⟩
  | .bool b, _, _, h, r => by
    cases h; cases r
    exact ⟨_, .bool b, fun z => (nomatch z)⟩
  | .int i, _, _, h, r => by
    cases h
    obtain ⟨t, rfl⟩ := r
    exact ⟨_, .int i t, fun z => (nomatch z)⟩
  | .str x, _, _, h, r => by
    cases h
    obtain ⟨t, rfl⟩ := r
    exact ⟨_, .str x t, fun z => (nomatch z)⟩
  | .list ds, _, _, h, r => by
    cases h with
    | lst hl ha =>
      cases r
      obtain ⟨its, rv, ⟨o, n, ho, hc, _, hd⟩, _⟩ := I.list hl
      obtain ⟨as, hr, no⟩ := Dq.readsAll hs I ds _ its ha rv
      refine ⟨_, Reads.list ho hc hd hr, fun z => ?_⟩
      rcases List.mem_cons.mp z with e | e
      · exact apart_sys hs I ho hd e.symm
      · exact no e
  | .tuple ds, _, _, h, r => by
    cases h with
    | tup ht ha =>
      cases r
      obtain ⟨its, rv, ⟨o, ho, hc, n, hd⟩, _⟩ := I.tuple ht
      obtain ⟨as, hr, no⟩ := Dq.readsAll hs I ds _ its ha rv
      exact ⟨_, Reads.tuple ho hc hd hr, no⟩
  | .dict ds, _, _, h, r => by
    cases h with
    | dic hd ha =>
      cases r
      obtain ⟨_, lo, vs, kv, o, es, ep, ho, hc, hdat, _, hp, _⟩ := I.hok _ _ hd
      obtain ⟨as, hr, no, ek⟩ := Dq.readsKv hs I ds _ vs ha kv
      refine ⟨_, Reads.dict (as := []) ho hc.1 hdat ?_ (by rw [vals_of hp]; exact hr), fun z => ?_⟩
      · rw [ek]
        exact keys_read hp
      · rcases List.mem_cons.mp (show sysModules ∈ _ :: as from z) with e | e
        · rw [← e] at lo
          exact absurd lo (by decide)
        · exact no e
theorem Dq.readsAll {m : Str → Option Value} (hs : X.base.Ns sysModules m) (I : Inv X pins σ H s) : ∀ (ds : List PyData) (vs : List V) (us : List Value), DqAll X.K H vs ds → Vals vs us → ∃ as, ReadsAll s.heap us ds as ∧ sysModules ∉ as
  | [], _, _, h, r => by
    cases h; cases r
    exact ⟨_, .nil, fun z => (nomatch z)⟩
  | d :: ds, _, _, h, r => by
    cases h with
    | cons h1 h2 =>
      cases r with
      | cons r1 r2 =>
        obtain ⟨as, q1, n1⟩ := Dq.reads hs I d _ _ h1 r1
        obtain ⟨bs, q2, n2⟩ := Dq.readsAll hs I ds _ _ h2 r2
        exact ⟨_, .cons q1 q2, fun z => (List.mem_append.mp z).elim n1 n2⟩
theorem Dq.readsKv {m : Str → Option Value} (hs : X.base.Ns sysModules m) (I : Inv X pins σ H s) : ∀ (ds : List (PyData × PyData)) (vs : List (Key × V)) (us : List (Key × Value)), DqKv X.K H vs ds → KV vs us →
    ∃ as, ReadsAll s.heap (us.map (·.2)) (ds.map (·.2)) as ∧ sysModules ∉ as ∧ ds.map (·.1) = us.map fun p => keyD p.1
  | [], _, _, h, r => by
    cases h; cases r
    exact ⟨_, .nil, fun z => (nomatch z), rfl⟩
  | (e, d) :: ds, _, _, h, r => by
    cases h with
    | cons h1 h2 =>
      cases r with
      | @cons _ q _ qs r1 r2 =>
        obtain ⟨as, q1, n1⟩ := Dq.reads hs I d _ _ h1 r1.2
        obtain ⟨bs, q2, n2, ek⟩ := Dq.readsKv hs I ds _ _ h2 r2
        have r11 := r1.1
        dsimp only at r11
        refine ⟨_, .cons q1 q2, fun z => (List.mem_append.mp z).elim n1 n2, ?_⟩
        rw [List.map_cons, List.map_cons, ek, ← r11]
end
end

section
variable {X : Cx} {m : Str → Option Value}
/-- repr(x) of a list, a tuple, a dict of data -/
def rRepr (K : W.Frag) : List V → Hp → VK → Prop := fun xs H Q => ∃ (a : Addr) (d : PyData), xs = [.ref a] ∧ Dq K H (.ref a) d ∧ d.showable = true ∧ d.depth ≤ 60 ∧ d.shown.length ≤ sizeLine ∧ Q (.str d.shown) H
theorem call_repr (hs : X.base.Ns sysModules m) (hq : Quiet X.A) (hu : X.A.units + 64 < cLine) : CallR X (.builtin "repr") (rRepr X.K) := by
  intro pins s σ H xs us Q I r h
  obtain ⟨a, d, rfl, hd, h1, h2, h3, q⟩ := h
  cases r with
  | cons r0 r1 =>
    cases r1
    obtain rfl := r0
    obtain ⟨as, hr, no⟩ := Dq.reads hs I d _ _ hd rfl
    refine repr_of_reads' hr h1 (fun _ => no) hq (by omega) (fun _ _ e => e) (fun h' u tk hk => ?_) h3
    exact ⟨.str d.shown, H, I.kept hk, ⟨u, rfl⟩, q⟩
end
end L2.My
/-! Making an instance of an own exception class with an own __init__, over any built-in base (KeyError too, whose maker is LookupError's) -/
namespace PySem.Mine
open PySem.W PySem.Calls PyProof.Rows PySem.HandSPX

/-- what must be known of the bases: the maker's own class is among them, AttributeError and NameError are not -/
structure Ring (B : String) (bm : List Value) : Prop where
  own : bm.contains (.type B) = true
  att : bm.contains (.type "AttributeError") = false
  nam : bm.contains (.type "NameError") = false

section
variable {prog : Program} {w : World} {A : Around} {E : Value → Shared → Prop} {R : Result → Shared → Prop} {h : Heap} {g : Array GenState} {d : Drawn} {t : Nat} {os : OsState}
variable {nm q : Str} {C N : Addr} {bs bm bmB : List Value} {hdct : Bool} {sn : List Str} {sub : List Value} {ab : Bool} {col : Option Bool} {dd : Option Addr} {k0 k1 k2 k3 k5 : Option Value} {B newId initId : String}

theorem own_in (r : Ring B bm) : (Value.ref C :: bm).contains (.type B) = true := by
  rw [List.contains_cons, r.own, Bool.or_true]
theorem att_out (r : Ring B bm) : (Value.ref C :: bm).contains (.type "AttributeError") = false := by
  rw [List.contains_cons, r.att]; rfl
theorem nam_out (r : Ring B bm) : (Value.ref C :: bm).contains (.type "NameError") = false := by
  rw [List.contains_cons, r.nam]; rfl

theorem checked {M : Model} (F : ExcBaseFacts B newId initId bmB) (r : Ring B bm) {rest : List Value} {kw : List (Str × Value)} {Q : Unit → Shared → Prop}
    (hC : h.get? C = some (excClassObj nm q C N bs bm hdct sn sub ab col dd k0 k1 k2 k3 k5 newId)) (z : Q () ⟨h, g, d, t, os⟩) :
    wpAny M A (checkBuiltinCall newId ⟨.ref C :: rest, kw⟩) Q E ⟨h, g, d, t, os⟩ := by
  have i := own_in (C := C) r
  have star := F.noStar
  simp only [checkBuiltinCall, F.newKind, F.newSplit, F.newRow]
  repeat (first
    | refine wpAny_loadPart_at hC ?_
    | (refine wpAny_isSubtype_exc hC ?_; rw [i])
    | refine wpAny_staticBase_exc hC ?_
    | refine wpAny_madeBy_exc hC ?_
    | simp only [bne_self_eq_false, Bool.false_eq_true, if_false]
    | wp_step)
  exact z

theorem fresh_exc (F : ExcBaseFacts B newId initId bmB) (r : Ring B bm) {rest : List Value} {kw : List (Str × Value)} (small : rest.length ≤ sizeLine)
    (hC : h.get? C = some (excClassObj nm q C N bs bm hdct sn sub ab col dd k0 k1 k2 k3 k5 newId))
    (z : R (.ok (.ret (.ref (h.objs.size + 1)))) ⟨(h.push (W.kdv_tup rest)).push (excO C h.objs.size), g, d, t, os⟩) :
    codeAny (model prog w) A (.builtin newId ⟨.ref C :: rest, kw⟩) R ⟨h, g, d, t, os⟩ := by
  have e := F.ends
  have i1 := own_in (C := C) r
  have i2 := att_out (C := C) r
  have i3 := nam_out (C := C) r
  refine codeAny_builtinAt F.entry ?_
  unfold Builtin.«BaseException.__new__»
  refine wpAt_bind ?_
  show wpAt _ _ _ (stack >>= _) _ _ _
  refine wpAt_bind (wpAt_stack fun p below => wpAt_of_wpAny ?_)
  wp_walk
  refine wpAt_of_wpAny ?_
  rw [F.owner]
  repeat (first
    | with_reducible refine wpAny_madeHere_exc F.canon hC ?_
    | with_reducible refine wpAny_loadPart_at hC ?_
    | (with_reducible refine wpAny_isSubtype_exc hC ?_; first | rw [i1] | rw [i2] | rw [i3])
    | wp_step)
  show R _ _
  rw [Heap.size_push]
  exact z

theorem made_typed (F : ExcBaseFacts B newId initId bmB) (r : Ring B bm) {rest : List Value} {kw : List (Str × Value)} {fI : Addr} {Q : Fin → Shared → Prop} (small : rest.length ≤ sizeLine)
    (hC : h.get? C = some (excClassObj nm q C N bs bm hdct sn sub ab col dd k0 k1 k2 k3 k5 newId))
    (hi : W.Looks (model prog w) h (typeLookup (.ref C) "__init__") (some (.ref fI)))
    (hb : ∀ self, W.Looks (model prog w) h (bindSpecial (.ref fI) self) (.ref fI, [self]))
    (z : codeAny (model prog w) A (.call (.ref fI) ⟨.ref (h.objs.size + 1) :: rest, kw⟩)
      (fun r s' => match r with
        | .ok (.ret v) => v = .none ∧ Q (.done (.ret (.ref (h.objs.size + 1)))) s'
        | .ok _ => False
        | .error e => E e s')
      ⟨(h.push (W.kdv_tup rest)).push (excO C h.objs.size), g, d, t, os⟩) :
    wpAny (model prog w) A (Builtin.«type.__call__» ⟨.ref C :: rest, kw⟩) Q E ⟨h, g, d, t, os⟩ := by
  repeat (first
    | with_reducible refine wpAny_loadPart_at hC ?_
    | with_reducible refine wpAny_madeBy_exc hC ?_
    | wp_step)
  refine codeAny_call_builtin_code (Code.quiet_builtin _ F.quiet) (checked F r hC ?_)
  refine fresh_exc F r small hC ?_
  show wpAny _ _ _ _ _ _
  have keep : ∀ b o, h.get? b = some o → ((h.push (W.kdv_tup rest)).push (excO C h.objs.size)).get? b = some o :=
    fun b o e => Heap.get?_push_of_some _ (Heap.get?_push_of_some _ e)
  have c1 := keep _ _ hC
  have x1 : ((h.push (W.kdv_tup rest)).push (excO C h.objs.size)).get? (h.objs.size + 1) = some (excO C h.objs.size) := by
    heap_get
  have cc : (Value.ref C :: bm).contains (.ref C) = true := by
    simp
  have j1 := hi.keeps keep
  have j2 := (hb (.ref (h.objs.size + 1))).keeps keep
  unfold isInstance
  repeat (first
    | with_reducible refine wpAny_loadPart_at x1 ?_
    | (with_reducible refine wpAny_isSubtype_exc c1 ?_; rw [cc])
    | wp_step)
  show wpAny _ _ (typeLookup (.ref C) _) _ _ _
  refine j1.at ?_
  refine wpAny_holding (wpAny_bind (j2.at ?_))
  refine wpAny_bind (wpAny_call (codeAny_mono z ?_))
  intro res s' y
  match res, y with
  | .error _, y => exact y
  | .ok (.ret _), ⟨rfl, y⟩ =>
    first
      | exact wpAny_pure (wpAny_pure y)
      | (wp_walk; exact y)

/-- C(..) of an own exception class with an own __init__ -/
theorem called (F : ExcBaseFacts B newId initId bmB) (r : Ring B bm) {rest : List Value} {kw : List (Str × Value)} {fI : Addr} (small : rest.length ≤ sizeLine)
    (hC : h.get? C = some (excClassObj nm q C N bs bm hdct sn sub ab col dd k0 k1 k2 k3 k5 newId))
    (hi : W.Looks (model prog w) h (typeLookup (.ref C) "__init__") (some (.ref fI)))
    (hb : ∀ self, W.Looks (model prog w) h (bindSpecial (.ref fI) self) (.ref fI, [self]))
    (z : codeAny (model prog w) (A.under (.builtin "type.__call__" ⟨.ref C :: rest, kw⟩)) (.call (.ref fI) ⟨.ref (h.objs.size + 1) :: rest, kw⟩) (W.InitBack (h.objs.size + 1) R)
      ⟨(h.push (W.kdv_tup rest)).push (excO C h.objs.size), g, d, t, os⟩) :
    codeAny (model prog w) A (.call (.ref C) ⟨rest, kw⟩) R ⟨h, g, d, t, os⟩ := by
  have f1 := tc_lookup
  have f2 := tc_bind (.ref C)
  have ty : (⟨h, g, d, t, os⟩ : Shared).TypeIs (.ref C) "type" := ⟨_, hC, rfl⟩
  refine codeAny_of_tree ?_
  show wpAny _ _ (callAny (.ref C) _) _ _ _
  repeat (any_goals (first
    | assumption
    | with_reducible refine wpAny_loadPart_at hC ?_
    | wp_step))
  refine ⟨rfl, ?_⟩
  refine codeAny_call_builtin_at (Code.quiet_builtin _ (by decide +kernel)) entry_typeCall (wpAny_check_type_call_sub hC (made_typed F r small hC hi hb ?_))
  refine codeAny_mono z ?_
  intro res s' y
  match res, y with
  | .error _, y => exact y
  | .ok (.ret _), y => exact y
end
end PySem.Mine
/-! Own exceptions as values: made, their fields stored and read, isinstance -/
namespace L2.My
open PySem PySem.Spec PyProof.Rows Builtin.ObjectAttr

/-- what the written part says of an own exception class -/
structure ExK (K : W.Frag) (C : Addr) : Prop where
  made : ∃ (B newId initId : String) (bmB bm : List Value) (nm q : Str) (N : Addr) (bs : List Value) (hdct : Bool) (sn : List Str) (sub : List Value) (ab : Bool) (col : Option Bool) (dd : Option Addr) (k0 k1 k2 k3 k5 : Option Value),
    ExcBaseFacts B newId initId bmB ∧ Mine.Ring B bm ∧ K.lookup C = some (excClassObj nm q C N bs bm hdct sn sub ab col dd k0 k1 k2 k3 k5 newId)
  over : ∃ (B : String) (bmB : List Value), StoreFacts B bmB "object.__setattr__" "object" ∧ W.excOver K C bmB = true
  sa : W.findIn K (.ref C) "__setattr__" = some (some (.builtin "object.__setattr__"))
  hd : W.hasDictIn K C = true
  ga : W.findIn K (.ref C) "__getattribute__" = some (some (.builtin "BaseException.__getattribute__"))
  gg : W.findIn K (.ref C) "__getattr__" = some none
  ex : W.subIn K (.ref C) (.type "BaseException") = some true
  cl : W.findIn K (.ref C) "__class__" = some (some (.builtin "object.__class__"))
  ob : W.mroIn K C (.type "object") = some true
  kp : W.keepIn K (.ref C) = true
structure ExA (K : W.Frag) : Prop where
  gt : W.specialIn K (.builtin "object.__class__") "__get__" = some (some (.builtin "getset_descriptor.__get__"))
  tk : W.takesIn K (.builtin "object.__class__") = some true

abbrev rec0 (C t1 : Addr) (d : Option Addr) : Obj := { cls := .ref C, dict := d, data := .fields #[.ref t1, .none, .none, .none, .bool false, .none] }

section
variable {X : Cx} {pins : List (Addr × Obj)} {σ : St} {H : Hp} {s : Shared} {a C dx : Addr} {f : Str} {y : V} {u : Value} {fs : List (Str × V)} {Q : Unit → Shared → Prop} {E : Value → Shared → Prop}

theorem upd_sw {H : Hp} {a b : Addr} {o p : HO} (h : a ≠ b) : upd (upd H a o) b p = upd (upd H b p) a o := by
  funext c
  by_cases ca : c = a
  · subst ca; rw [upd_ne h, upd_same, upd_same]
  · by_cases cb : c = b
    · subst cb; rw [upd_same, upd_ne ca, upd_same]
    · rw [upd_ne cb, upd_ne ca, upd_ne ca, upd_ne cb]

/-- self.f = y, the first field of an exception -/
theorem field_first (T : ExK X.K C) (I : Inv X pins σ H s) (e : H a = some (exo a C none)) (ht : W.takerIn X.K C f = some none) (ry : RelV y u)
    (z : ∀ dx s', H dx = none → dx ≠ a → Inv X pins σ (upd (upd H dx (exd dx [(f, y)])) a (exo a C (some dx))) s' → Q () s') : wpAny (model X.prog X.w) X.A (setAttr (.ref a) f u) Q E s := by
  obtain ⟨B, bmB, SF, ov⟩ := T.over
  obtain ⟨t1, ho⟩ := exo_at I.hok e
  have at0 : W.InstAt s.heap a (rec0 C t1 none) C none := ⟨ho, rfl, rfl, trivial⟩
  refine W.set_plain I.kIn at0 T.sa ?_
  have I0 := I.tok (s.toks + 1)
  refine W.osa_openX SF I0.kIn at0 ov ht fun b => ?_
  obtain ⟨cd, hc, hd'⟩ := W.any_some T.hd
  refine wpAny_bind (wpAny_pure (wpAny_bind (W.instanceDict_exc (c2 := .none) ho (W.looks_clsIn I0.kIn hc) hd' ?_)))
  show wpAny _ _ (storeInDict s.heap.objs.size (.str f s.toks) f u) _ _ _
  -- the dict is laid
  have fr : H s.heap.objs.size = none := I.hok.fresh (Nat.le_refl _)
  have ne : s.heap.objs.size ≠ a := Nat.ne_of_gt (Heap.lt_size ho)
  have ns0 : (s.heap.push (W.dictOf [] 0)).Ns1 s.heap.objs.size (fun _ => none) :=
    Heap.Ns1.of_empty ⟨_, #[], _, Heap.get?_push_size _ rfl, rfl, fun e he => absurd he (by simp), fun _ => rfl⟩
  have I1 : Inv X pins σ (upd H s.heap.objs.size (exd s.heap.objs.size [])) { s with heap := s.heap.push (W.dictOf [] 0), toks := s.toks + 1 } :=
    I.laid (fun b o q => Heap.get?_push_of_some _ q) (Nat.le_refl _) (exd_ok ns0 fun g => True.intro)
  -- the exception gets it
  have oa : (s.heap.push (W.dictOf [] 0)).get? a = some (rec0 C t1 none) := Heap.get?_push_of_some _ ho
  have e1 : upd H s.heap.objs.size (exd s.heap.objs.size []) a = some (exo a C none) := by rw [upd_ne (Ne.symm ne)]; exact e
  have oa2 : ((s.heap.push (W.dictOf [] 0)).update a fun o => { o with dict := some s.heap.objs.size }).get? a = some (rec0 C t1 (some s.heap.objs.size)) := Heap.get?_update_self _ oa rfl
  have I2 := I1.write (t' := s.toks + 1) (x := a) (e := a) (o := exo a C (some s.heap.objs.size)) (h' := (s.heap.push (W.dictOf [] 0)).update a fun o => { o with dict := some s.heap.objs.size })
    (by rw [e1]; exact True.intro) (.inl rfl) (fun b o hb q => (Heap.get?_update_ne _ _ _ _ hb).trans q) ⟨_, oa2⟩ (exo_ok oa2)
  have ns2 : ((s.heap.push (W.dictOf [] 0)).update a fun o => { o with dict := some s.heap.objs.size }).Ns1 s.heap.objs.size (fun _ => none) :=
    ns0.at fun o q => (Heap.get?_update_ne _ _ _ _ ne).trans q
  refine OEX.store_in_old (ns := []) ns2 Within.nil (Nat.zero_le _) fun h' tk' hn hs => ?_
  have ex2 : upd (upd H s.heap.objs.size (exd s.heap.objs.size [])) a (exo a C (some s.heap.objs.size)) s.heap.objs.size = some (exd s.heap.objs.size []) := by rw [upd_ne ne, upd_same]
  have I3 := I2.write (t' := tk') (x := s.heap.objs.size) (e := s.heap.objs.size) (o := exd s.heap.objs.size [(f, y)]) (h' := h') (by rw [ex2]; exact True.intro) (.inl rfl) (fun b o hb q => (hs.2 b hb).trans q)
    (by obtain ⟨o, _, _, q, _⟩ := hn; exact ⟨o, q⟩) (exd_ok hn (relO_put (fs := []) ry fun g => True.intro))
  rw [upd_sw (Ne.symm ne), upd_upd] at I3
  exact z _ _ fr ne I3

/-- self.f = y, a further field -/
theorem field_more (T : ExK X.K C) (I : Inv X pins σ H s) (e : H a = some (exo a C (some dx))) (ed : H dx = some (exd dx fs)) (hl : fs.length ≤ 900) (ht : W.takerIn X.K C f = some none) (ry : RelV y u)
    (z : ∀ s', Inv X pins σ (upd H dx (exd dx ((f, y) :: fs))) s' → Q () s') : wpAny (model X.prog X.w) X.A (setAttr (.ref a) f u) Q E s := by
  obtain ⟨B, bmB, SF, ov⟩ := T.over
  obtain ⟨t1, ho⟩ := exo_at I.hok e
  obtain ⟨mA, hns, rel⟩ := exd_at I.hok ed
  obtain ⟨oD, esD, nD, hoD, hdD, _⟩ := hns.count (within_of rel)
  have at0 : W.InstAt s.heap a (rec0 C t1 (some dx)) C (some oD) := ⟨ho, rfl, rfl, hoD⟩
  refine W.set_plain I.kIn at0 T.sa ?_
  have I0 := I.tok (s.toks + 1)
  refine W.osa_openX SF I0.kIn at0 ov ht fun b => ?_
  obtain ⟨cd, hc, hd'⟩ := W.any_some T.hd
  refine wpAny_bind (wpAny_pure (wpAny_bind (wpAny_bind (wpAny_loadPart ho (wpAny_bind ((W.looks_clsIn I0.kIn hc).here ?_))))))
  rw [hd']
  refine wpAny_pure (a := some dx) ?_
  refine OEX.store_in_old hns (within_of rel) (by rw [List.length_map]; omega) fun h' tk' hn hs => ?_
  have I3 := I0.write (t' := tk') (x := dx) (e := dx) (o := exd dx ((f, y) :: fs)) (h' := h') (by rw [ed]; exact True.intro) (.inl rfl) (fun b o hb q => (hs.2 b hb).trans q)
    (by obtain ⟨o, _, _, q, _⟩ := hn; exact ⟨o, q⟩) (exd_ok hn (relO_put ry rel))
  exact z _ I3
end
end L2.My
namespace L2.My
open PySem PySem.Spec PyProof.Rows

/-! ### self.f = e in an exception's __init__ -/
def tEfl (K : W.Frag) (f : Str) (to te : TE) : TS := fun D σ H => te σ H fun y H1 => to σ H1 fun x H2 => ∃ a C : Addr, x = .ref a ∧ ExK K C ∧ W.takerIn K C f = some none ∧
  ((H2 a = some (exo a C none) ∧ ∀ dx, H2 dx = none → dx ≠ a → D.nx σ (upd (upd H2 dx (exd dx [(f, y)])) a (exo a C (some dx)))) ∨
    ∃ (dx : Addr) (fs : List (Str × V)), H2 a = some (exo a C (some dx)) ∧ H2 dx = some (exd dx fs) ∧ fs.length ≤ 900 ∧ D.nx σ (upd H2 dx (exd dx ((f, y) :: fs))))
theorem ps_efl {X : Cx} {o e : Expr} {to te : TE} {f : Str} {p' pos : Pos} (ho : PE X o to) (he : PE X e te) (hs : swapsWith e (some (.Attribute o f p')) pos.line X.env = pure false := by rfl) : PS X (.Assign [.Attribute o f p'] e pos) (tEfl X.K f to te) := by
  constructor
  intro pins s σ H D I h
  refine plainObj_wpAny_Assign_Attribute (thn (he.run pins s σ H _ I h) fun v s1 r1 => ?_) hs
  obtain ⟨y, H1, I1, ry, h1⟩ := r1
  refine thn (ho.run pins s1 σ H1 _ I1 h1) fun u s2 r2 => ?_
  obtain ⟨x, H2, I2, rx, a, C, rfl, T, ht, q⟩ := r2
  obtain rfl : u = Value.ref a := rx
  cases q with
  | inl q => exact field_first T I2 q.1 ht ry fun dx s' n ne J => ⟨σ, _, J, q.2 dx n ne⟩
  | inr q =>
    obtain ⟨dx, fs, ea, ed, hl, q⟩ := q
    exact field_more T I2 ea ed hl ht ry fun s' J => ⟨σ, _, J, q⟩

/-! ### e.f of an exception -/
def tEget (K : W.Frag) (f : Str) (te : TE) : TE := fun σ H Q => te σ H fun x H1 => ∃ (a C dx : Addr) (fs : List (Str × V)) (v : V), x = .ref a ∧ ExK K C ∧ W.findIn K (.ref C) f = some none ∧ H1 a = some (exo a C (some dx)) ∧ H1 dx = some (exd dx fs) ∧ fs.lookup f = some v ∧ Q v H1
theorem pe_eget {X : Cx} {e : Expr} {te : TE} {f : Str} {pos : Pos} (he : PE X e te) (hb : attributeBase e f X.env (eval e X.env) = eval e X.env := by rfl) : PE X (.Attribute e f pos) (tEget X.K f te) := by
  constructor
  intro pins s σ H Q I h
  refine attr_of hb (thn (he.run pins s σ H _ I h) fun u s1 r => ?_)
  obtain ⟨x, H1, I1, rx, a, C, dx, fs, v, rfl, T, hno, ea, ed, l, q⟩ := r
  obtain rfl : u = Value.ref a := rx
  obtain ⟨t1, ho⟩ := exo_at I1.hok ea
  obtain ⟨mA, hns, hr⟩ := exd_at I1.hok ed
  obtain ⟨od, hd, hl⟩ := lookIn_ns hns
  obtain ⟨u, hu, ru⟩ := RelO.some_of (v := v) (o := mA f) (by rw [← l]; exact hr f)
  have J : W.InstAt s1.heap a (rec0 C t1 (some dx)) C (some od) := ⟨ho, rfl, rfl, hd⟩
  exact HandSPX.exc_get I1.kIn J T.ga T.gg T.ex (W.findObj_own T.hd hno rfl (by rw [hl, hu])) (handed_of ru) ⟨v, H1, I1.tok _, ru, q⟩

/-! ### isinstance of an exception -/
def rIsX (K : W.Frag) : List V → Hp → VK → Prop := fun xs H Q => ∃ (a C : Addr) (d : Option Addr) (c : V) (cv : Value) (b : Bool), xs = [.ref a, c] ∧ H a = some (exo a C d) ∧ (∀ dx, d = some dx → ∃ fs, H dx = some (exd dx fs)) ∧ ExK K C ∧ ExA K ∧
  (∀ u, RelV c u → u = cv) ∧ W.kitOne K (.ref C) cv = some b ∧ Q (.bl b) H
theorem call_isX {X : Cx} : CallR X (.builtin "isinstance") (rIsX X.K) := by
  intro pins s σ H xs us Q I r h
  obtain ⟨a, C, d, c, cv, b, rfl, ea, ed, T, G, hcv, e, q⟩ := h
  cases r with
  | cons rx rr =>
    cases rr with
    | cons rt rr =>
      cases rr
      obtain rfl := rx
      obtain rfl := hcv _ rt
      obtain ⟨t1, ho⟩ := exo_at I.hok ea
      have one : ∃ od, W.InstAt s.heap a (rec0 C t1 d) C od := by
        cases d with
        | none => exact ⟨none, ho, rfl, rfl, trivial⟩
        | some dx =>
          obtain ⟨fs, ed⟩ := ed dx rfl
          obtain ⟨mA, ⟨od, _, _, hd, _⟩, _⟩ := exd_at I.hok ed
          exact ⟨some od, ho, rfl, rfl, hd⟩
      obtain ⟨od, J⟩ := one
      have hcl : (W.clsIn X.K C).isSome = true := by
        obtain ⟨cd, hc, _⟩ := W.any_some T.hd
        rw [hc] <;> rfl
      exact W.kia_one (W.kitx_exc hcl T.ga T.gg T.ex T.cl G.gt G.tk T.ob) I.kIn J e (fun z => (nomatch z)) fun tk => ⟨.bl b, H, I.kept (t' := tk) fun _ _ z => z, rfl, q⟩
end L2.My
namespace L2.My
open PySem PySem.Spec PyProof.Rows

/-- what an __init__ that stores its parameters promises -/
def spIni (C : Addr) (fs : List Str) : Sp := fun vs H Q _ => ∃ (a : Addr) (ys : List V), vs = .ref a :: ys ∧ ys.length = fs.length ∧ H a = some (exo a C none) ∧
  ∀ dx, H dx = none → dx ≠ a → Q .non (upd (upd H dx (exd dx (fs.zip ys).reverse)) a (exo a C (some dx)))

/-- how the arguments of such an __init__ bind: by position, one by name, two by name the other way round -/
structure BindOk (fd : FuncData) (fs : List Str) : Prop where
  ps : ∀ (s : Shared) (self : Value) (us : List Value), us.length = fs.length → BindsTo s fd ⟨self :: us, []⟩ ((("self" : Str) :: fs).zip (self :: us))
  k1 : ∀ (s : Shared) (self w : Value) (k : Str), fs = [k] → BindsTo s fd ⟨[self], [(k, w)]⟩ [(("self" : Str), self), (k, w)]
  k2 : ∀ (s : Shared) (self w1 w2 : Value) (f g : Str), fs = [f, g] → BindsTo s fd ⟨[self], [(g, w2), (f, w1)]⟩ [(("self" : Str), self), (f, w1), (g, w2)]
/-- an own exception class of the module by its name: its fields, its __init__ -/
structure ExM (P : Program) (w : World) (K : W.Frag) (mg : Str → Option Value) (base : Heap) (x : Str) (C : Addr) (fs : List Str) : Prop where
  ex : ExK K C
  nm : mg x = some (.ref C)
  ini : ∃ (f1 : Addr) (fd : FuncData), W.findIn K (.ref C) "__init__" = some (some (.ref f1)) ∧ W.typeIn K (.ref f1) = some (.type "function") ∧ FnG P w K mg base CX0 1 f1 fd (("self" : Str) :: fs) (spIni C fs) ∧ BindOk fd fs

section
variable {X : Cx} {C : Addr} {x : Str} {fs : List Str}
theorem exo_laid_sw {H : Hp} {a dx : Addr} {o p q : HO} (h : dx ≠ a) : upd (upd (upd H a o) dx p) a q = upd (upd H dx p) a q := by
  rw [upd_sw (Ne.symm h), upd_upd]
theorem goes_ex {pins : List (Addr × Obj)} {σ : St} {H : Hp} {s : Shared} {Q : VK} {us : List Value} {kw : List (Str × Value)} {vs : List V} {os : List Value} (M : ExM X.prog X.w X.K X.mg X.base x C fs) (hr : Room 2 X.A) (hq : Quiet X.A) (I : Inv X pins σ H s)
    (r : Vals vs os) (hl : vs.length = fs.length) (hz : us.length ≤ sizeLine)
    (hb : ∀ fd : FuncData, BindOk fd fs → ∀ s self, BindsTo s fd ⟨self :: us, kw⟩ ((("self" : Str) :: fs).zip (self :: os)))
    (h : ∀ a dx, H a = none → H dx = none → dx ≠ a → Q (.ref a) (upd (upd H dx (exd dx (fs.zip vs).reverse)) a (exo a C (some dx)))) :
    wpAny (model X.prog X.w) X.A (call (.ref C) us kw) (EP X pins σ Q) X.xe s := by
  obtain ⟨B, newId, initId, bmB, bm, nm, q, N, bs, hdct, sn, sub, ab, col, dd, k0, k1, k2, k3, k5, F, ring, hC⟩ := M.ex.made
  obtain ⟨f1, fd, hi, ht, G, bind⟩ := M.ini
  obtain ⟨hp, g, dr, tk, os'⟩ := s
  have fresh : H (hp.objs.size + 1) = none := I.hok.fresh (Nat.le_succ _)
  have keep : ∀ b o, hp.get? b = some o → ((hp.push (W.kdv_tup us)).push (HandSPX.excO C hp.objs.size)).get? b = some o := fun b o e => Heap.get?_push_of_some _ (Heap.get?_push_of_some _ e)
  have there : ((hp.push (W.kdv_tup us)).push (HandSPX.excO C hp.objs.size)).get? (hp.objs.size + 1) = some (HandSPX.excO C hp.objs.size) := by heap_get
  have I2 : Inv X pins σ (upd H (hp.objs.size + 1) (exo (hp.objs.size + 1) C none)) ⟨(hp.push (W.kdv_tup us)).push (HandSPX.excO C hp.objs.size), g, dr, tk, os'⟩ :=
    I.laid (t' := tk) keep (Nat.le_succ _) (exo_ok there)
  have asks : spIni C fs (.ref (hp.objs.size + 1) :: vs) (upd H (hp.objs.size + 1) (exo (hp.objs.size + 1) C none)) (fun v H2 => v = .non ∧ Q (.ref (hp.objs.size + 1)) H2) (fun _ _ _ => False) := by
    refine ⟨_, vs, rfl, hl, upd_same, fun dx n ne => ⟨rfl, ?_⟩⟩
    rw [exo_laid_sw ne]
    rw [upd_ne ne] at n
    exact h _ dx fresh n ne
  refine wpAny_call (Mine.called F ring hz (I.kIn _ _ hC) (W.looks_findIn I.kIn hi) (fun self => W.bind_fn I.kIn self ht)
    (codeAny_mono (G.runs _ X.stack _ _ ⟨.ref (hp.objs.size + 1) :: us, kw⟩ (.ref (hp.objs.size + 1) :: os) _ _ (fun _ _ _ => False) (hr.make C us kw) ?_ (I2.env0.make C us kw) (hb fd bind _ _) (.cons (show RelV (.ref (hp.objs.size + 1)) (.ref (hp.objs.size + 1)) from rfl) r) asks) ?_))
  · unfold Quiet Around.under
    rw [show X.A.guards = some [] from hq]
    rfl
  · intro res s' z
    match res, z with
    | .ok (.ret u), z =>
      obtain ⟨v, H3, J, rv, ev, q3⟩ := I2.after z
      subst ev
      exact ⟨rv, .ref (hp.objs.size + 1), H3, J, rfl, q3⟩

def tExn (C : Addr) (fs : List Str) (t : TA) : TE := fun σ H Q => t σ H fun vs H1 => vs.length = fs.length ∧ ∀ a dx, H1 a = none → H1 dx = none → dx ≠ a → Q (.ref a) (upd (upd H1 dx (exd dx (fs.zip vs).reverse)) a (exo a C (some dx)))
/-- X(e, ..) -/
theorem pe_exn {e : Expr} {es : List Expr} {t : TA} {p pos : Pos} (M : ExM X.prog X.w X.K X.mg X.base x C fs) (hf : fs.length ≤ 100) (hr : Room 2 X.A) (hq : Quiet X.A) (hg : Gl X x) (ha : PA X (e :: es) t)
    (hdb : (x == ("__debug__" : Str)) = false := by decide) (he : starEach (e :: es) X.env = (false, eval e X.env) :: starEach es X.env := by rfl) (hpl : (backTo pos (starEach es X.env)).any (·.1) = false := by rfl) :
    PE X (.Call (.Name x p) (e :: es) [] pos) (tExn C fs t) := by
  constructor
  intro pins s σ H Q I h
  refine wpAny_Call_Name_kw (ld_glob I hg M.nm ?_ hdb)
  refine W.callWith_K (h₀ := X.base) I.ok.mod.kin M.ex.kp (thn (ha.run pos pins s σ H _ I h) ?_) he hpl
  rintro us s1 ⟨vs, H1, I1, r, hl, q⟩
  exact ⟨I1.kIn, goes_ex M hr hq I1 r hl (by rw [List.nil_append, ← r.length, hl, sizeLine_eq]; omega) (fun fd b s self => b.ps s self us (by rw [← r.length, hl])) q⟩
/-- X(k = e) -/
theorem pe_exk1 {k : Str} {e : Expr} {te : TE} {p pos kpos : Pos} (M : ExM X.prog X.w X.K X.mg X.base x C [k]) (hr : Room 2 X.A) (hq : Quiet X.A) (hg : Gl X x) (he : PE X e te) (hdb : (x == ("__debug__" : Str)) = false := by decide) :
    PE X (.Call (.Name x p) [] [⟨some k, e, kpos⟩] pos) (tExn C [k] (tCons te tNil)) := by
  constructor
  intro pins s σ H Q I h
  refine wpAny_Call_Name_kw (ld_glob I hg M.nm ?_ hdb)
  refine W.callWith_KW0 (h₀ := X.base) I.ok.mod.kin M.ex.kp rfl ?_
  refine thn ((pk_cons (nm := some k) (kpos := kpos) he pk_nil).run pos pins s σ H _ I h) ?_
  rintro ws s1 ⟨vs, H1, I1, r, hl, q⟩
  refine ⟨I1.kIn, ?_⟩
  match vs, hl with
  | [v], hl =>
    cases r with
    | cons r1 r2 =>
      cases r2
      exact goes_ex (us := []) M hr hq I1 (.cons r1 .nil) hl (Nat.zero_le _) (fun fd b s self => b.k1 s self _ k rfl) q
def tExr (C : Addr) (f g : Str) (t : TA) : TE := fun σ H Q => t σ H fun vs H2 => ∃ y x, vs = [y, x] ∧ ∀ a dx, H2 a = none → H2 dx = none → dx ≠ a → Q (.ref a) (upd (upd H2 dx (exd dx [(g, y), (f, x)])) a (exo a C (some dx)))
/-- X(g = e, f = e') where the fields are f, g -/
theorem pe_exk2 {f g : Str} {e e' : Expr} {te te' : TE} {p pos kpos kpos' : Pos} (M : ExM X.prog X.w X.K X.mg X.base x C [f, g]) (hfg : f ≠ g) (hr : Room 2 X.A) (hq : Quiet X.A) (hg : Gl X x) (he : PE X e te) (he' : PE X e' te') (hdb : (x == ("__debug__" : Str)) = false := by decide) :
    PE X (.Call (.Name x p) [] [⟨some g, e, kpos⟩, ⟨some f, e', kpos'⟩] pos) (tExr C f g (tCons te (tCons te' tNil))) := by
  constructor
  intro pins s σ H Q I h
  refine wpAny_Call_Name_kw (ld_glob I hg M.nm ?_ hdb)
  refine W.callWith_KW0 (h₀ := X.base) I.ok.mod.kin M.ex.kp rfl ?_
  refine thn ((pk_cons (nm := some g) (kpos := kpos) he (pk_cons (nm := some f) (kpos := kpos') he' pk_nil)).run pos pins s σ H _ I h) ?_
  rintro ws s1 ⟨vs, H1, I1, r, y, x, rfl, q⟩
  refine ⟨I1.kIn, ?_⟩
  cases r with
  | @cons _ w1 _ _ r1 r2 =>
    cases r2 with
    | @cons _ w2 _ _ r2 r3 =>
      cases r3
      exact goes_ex (us := []) (vs := [x, y]) (os := [w2, w1]) M hr hq I1 (.cons r2 (.cons r1 .nil)) rfl (Nat.zero_le _) (fun fd b s self => b.k2 s self _ _ f g rfl) q
end
end L2.My
namespace L2.My
open PySem PySem.Spec PyProof.Rows

theorem par_vis {N ps : List Str} {sc : Scope} (S : FnScope N ps sc) {x : Str} (h : x ∈ ps) : Vis sc x := by
  rcases S.par x h with e | e
  · exact .inl e
  · exact .inr (.inl e)
section
variable {P : Program} {w : World} {K : W.Frag} {mg : Str → Option Value} {base : Heap} {C f1 : Addr} {fd : FuncData} {q : Str} {st : Stmt} {f g : Str} {p1 p2 p3 p4 p5 p6 p7 p8 : Pos}
theorem ini1 (F : Fun K "__init__" q st f1 fd) (S : FnScope ["self", f] ["self", f] (defScope st)) (hb : defBody st = [.Assign [.Attribute (.Name "self" p1) f p2] (.Name f p3) p4]) (T : ExK K C) (ht : W.takerIn K C f = some none)
    (hd : (f == ("__debug__" : Str)) = false) (hcd : (f == ("__classdict__" : Str)) = false) : FnG P w K mg base CX0 1 f1 fd [("self" : Str), f] (spIni C [f]) := by
  refine body_g0 F S ?_ ?_
  · rintro vs H Q E ⟨a, ys, rfl, hl, _⟩
    rw [List.length_cons, hl]; rfl
  · rintro cdv A outer s H vs Q E hr hq ⟨a, ys, rfl, hl, ea, z⟩
    match ys, hl with
    | [y], _ =>
      rw [hb]
      refine ⟨_, pss_one (ps_efl (pv 0 rfl (par_vis S (by simp)) rfl rfl) (pv 1 rfl (par_vis S (by simp)) hd hcd)), ?_⟩
      exact ⟨_, rfl, _, rfl, a, C, rfl, T, ht, .inl ⟨ea, fun dx n ne => z dx n ne⟩⟩
theorem ini2 (F : Fun K "__init__" q st f1 fd) (S : FnScope ["self", f, g] ["self", f, g] (defScope st)) (hb : defBody st = [.Assign [.Attribute (.Name "self" p1) f p2] (.Name f p3) p4, .Assign [.Attribute (.Name "self" p5) g p6] (.Name g p7) p8])
    (T : ExK K C) (ht : W.takerIn K C f = some none) (ht2 : W.takerIn K C g = some none)
    (hd : (f == ("__debug__" : Str)) = false) (hcd : (f == ("__classdict__" : Str)) = false) (hd2 : (g == ("__debug__" : Str)) = false) (hcd2 : (g == ("__classdict__" : Str)) = false) : FnG P w K mg base CX0 1 f1 fd [("self" : Str), f, g] (spIni C [f, g]) := by
  refine body_g0 F S ?_ ?_
  · rintro vs H Q E ⟨a, ys, rfl, hl, _⟩
    rw [List.length_cons, hl]; rfl
  · rintro cdv A outer s H vs Q E hr hq ⟨a, ys, rfl, hl, ea, z⟩
    match ys, hl with
    | [y, y2], _ =>
      rw [hb]
      refine ⟨_, pss_cons (ps_efl (pv 0 rfl (par_vis S (by simp)) rfl rfl) (pv 1 rfl (par_vis S (by simp)) hd hcd)) (pss_one (ps_efl (pv 0 rfl (par_vis S (by simp)) rfl rfl) (pv 2 rfl (par_vis S (by simp)) hd2 hcd2))), ?_⟩
      refine ⟨_, rfl, _, rfl, a, C, rfl, T, ht, .inl ⟨ea, fun dx n ne => ?_⟩⟩
      refine ⟨_, rfl, _, rfl, a, C, rfl, T, ht2, .inr ⟨dx, [(f, y)], upd_same, by rw [upd_ne ne, upd_same], (by show 1 ≤ 900; decide), ?_⟩⟩
      have e : upd (upd (upd H dx (exd dx [(f, y)])) a (exo a C (some dx))) dx (exd dx [(g, y2), (f, y)]) = upd (upd H dx (exd dx [(g, y2), (f, y)])) a (exo a C (some dx)) := by
        rw [upd_sw (Ne.symm ne), upd_upd]
      show Q V.non (upd (upd (upd H dx (exd dx [(f, y)])) a (exo a C (some dx))) dx (exd dx [(g, y2), (f, y)]))
      rw [e]
      exact z dx n ne
end

/-- an own exception class without an own __init__ -/
structure ExP (K : W.Frag) (mg : Str → Option Value) (x : Str) (C : Addr) : Prop where
  ex : ExK K C
  nm : mg x = some (.ref C)
  ini : ∃ (B newId initId : String) (bmB : List Value), ExcBaseFacts B newId initId bmB ∧ W.excInitIn K C bmB newId = true ∧ W.findIn K (.ref C) "__init__" = some (some (.builtin initId))
/-- X() -/
theorem pe_exn0 {X : Cx} {C : Addr} {x : Str} {p pos : Pos} (M : ExP X.K X.mg x C) (hg : Gl X x) (hdb : (x == ("__debug__" : Str)) = false := by decide) :
    PE X (.Call (.Name x p) [] [] pos) (fun σ H Q => ∀ a, H a = none → Q (.ref a) (upd H a (exo a C none))) := by
  constructor
  intro pins s σ H Q I h
  refine wpAny_Call_Name_kw (ld_glob I hg M.nm ?_ hdb)
  refine W.callWith_K0 I.kIn M.ex.kp ?_
  obtain ⟨B, newId, initId, bmB, F, q, hi⟩ := M.ini
  obtain ⟨nm, N, qn, bs, bm, hdct, sn, sub, ab, col, dd, k0, k1, k2, k3, k5, hC, hT⟩ := W.excInit_of I.kIn q
  obtain ⟨hp, g, dr, tk, os⟩ := s
  refine W.call_B F hT hC (W.looks_findIn I.kIn hi) (Nat.zero_le _) fun h' k e t => ?_
  have n := I.hok.fresh (Nat.le_succ hp.objs.size)
  exact ⟨.ref (hp.objs.size + 1), _, I.laid (t' := tk) k (Nat.le_succ _) (exo_ok e), rfl, h _ n⟩
end L2.My
/-! Operators whose operands' kinds are seen in the reading; the reading step by step -/
namespace L2.My
open PySem PySem.Spec PyProof.Rows

/-! ### + of ints, texts, lists -/
def rAddU : R2 := fun x y H Q => (∃ i j, x = .int i ∧ y = .int j ∧ Q (.int (i + j)) H) ∨ (∃ i j : Str, x = .str i ∧ y = .str j ∧ i.length + j.length ≤ sizeLine ∧ Q (.str (i ++ j)) H) ∨ rCat x y H Q
theorem op_addU {X : Cx} : OpR X (binaryOp .Add) rAddU := by
  intro pins s σ H x y v u Q I rx ry h
  rcases h with h | h | h
  · exact op_add pins s σ H x y v u Q I rx ry h
  · exact op_add_str pins s σ H x y v u Q I rx ry h
  · exact op_cat pins s σ H x y v u Q I rx ry h
/-! ### * of ints (one below 2^64), of a list and an int -/
def rMulU : R2 := fun x y H Q => (∃ i j, x = .int i ∧ y = .int j ∧ CMul i j ∧ Q (.int (i * j)) H) ∨ rRep x y H Q
theorem op_mulU {X : Cx} : OpR X (binaryOp .Mult) rMulU := by
  intro pins s σ H x y v u Q I rx ry h
  rcases h with h | h
  · exact op_mul pins s σ H x y v u Q I rx ry h
  · exact op_rep pins s σ H x y v u Q I rx ry h
/-! ### x[i] of a list, a tuple, a text -/
theorem ix_U {X : Cx} : IxR X (rIx X.K) := ix_seq
/-! ### ==, != of scalars or of data -/
def rEqU (K : W.Frag) (b : Bool) : R2 := fun x y H Q => (scal x y = true ∧ Q (.bl (b == decide (x = y))) H) ∨ ∃ d e, Dp K H x d ∧ Dp K H y e ∧ SeqAt.shaped d = true ∧ SeqAt.shaped e = true ∧ Q (.bl (b == PyData.eqv d e)) H
theorem op_eqU {X : Cx} (hu : X.A.units + 64 < cLine) : OpR X (compareOp .Eq) (rEqU X.K true) := by
  intro pins s σ H x y v u Q I rx ry h
  rcases h with ⟨h1, h⟩ | ⟨d, e, h1, h2, h3, h4, h⟩
  · exact op_eq pins s σ H x y v u Q I rx ry ⟨h1, by simpa using h⟩
  · exact op_eqD hu pins s σ H x y v u Q I rx ry ⟨d, e, h1, h2, h3, h4, by simpa using h⟩
theorem op_neU {X : Cx} (hu : X.A.units + 64 < cLine) : OpR X (compareOp .NotEq) (rEqU X.K false) := by
  intro pins s σ H x y v u Q I rx ry h
  have e : ∀ b : Bool, (false == b) = !b := by decide
  rcases h with ⟨h1, h⟩ | ⟨d, e', h1, h2, h3, h4, h⟩
  · exact op_ne pins s σ H x y v u Q I rx ry ⟨h1, by rw [← e]; exact h⟩
  · exact op_neD hu pins s σ H x y v u Q I rx ry ⟨d, e', h1, h2, h3, h4, by rw [← e]; exact h⟩

/-! ### the reading, a step at a time -/
section
variable {X : Cx} {K : W.Frag} {σ : St} {H : Hp} {Q : VK} {ta tb : TE} {t : TA}
theorem g_var {i : Nat} {v : V} (e : σ[i]? = some (some v)) (h : Q v H) : tVar i σ H Q := ⟨v, e, h⟩
theorem g_c {v : V} (h : Q v H) : tC v σ H Q := h
theorem g_op {r : R2} (h : ta σ H fun x H1 => tb σ H1 fun y H2 => r x y H2 Q) : tOp r ta tb σ H Q := h
theorem g_un {r : V → Hp → VK → Prop} (h : ta σ H fun x H1 => r x H1 Q) : tUn r ta σ H Q := h
theorem g_nil {Q : List V → Hp → Prop} (h : Q [] H) : tNil σ H Q := h
theorem g_cons {Q : List V → Hp → Prop} (h : ta σ H fun x H1 => t σ H1 fun xs H2 => Q (x :: xs) H2) : tCons ta t σ H Q := h
theorem g_cb {r : List V → Hp → VK → Prop} (h : t σ H fun vs H1 => r vs H1 Q) : tCB r t σ H Q := h
theorem g_call {sp : Sp} {E : XK} (h : t σ H fun vs H1 => sp vs H1 Q E) : tCall sp [] E t σ H Q := by
  show t σ H fun vs H1 => sp (vs ++ []) H1 Q E
  simpa only [List.append_nil] using h
theorem g_tup (h : t σ H fun xs H1 => xs.length ≤ sizeLine ∧ ∀ p, H1 p = none → Q (.ref p) (upd H1 p (.tup xs))) : tTup t σ H Q := h
theorem g_lst (h : t σ H fun xs H1 => xs.length ≤ sizeLine ∧ ∀ p, H1 p = none → Q (.ref p) (upd H1 p (.lst xs))) : tLst t σ H Q := h
theorem g_small {n : Nat} {B : Prop} (h : n ≤ 1000) (b : B) : n ≤ sizeLine ∧ B := ⟨Nat.le_of_lt (small1000 h), b⟩
theorem g_tests {te : TE} {Q : Bool → Hp → Prop} (h : te σ H fun x H' => ∃ k, x = .bl k ∧ Q k H') : tTest te σ H Q := h
theorem g_bl {b : Bool} {Q : Bool → Prop} (h : Q b) : ∃ k, V.bl b = .bl k ∧ Q k := ⟨b, rfl, h⟩
theorem g_not {te : TT} {Q : Bool → Hp → Prop} (h : te σ H fun c H1 => Q (!c) H1) : tNot te σ H Q := h
theorem g_and {t u : TT} {Q : Bool → Hp → Prop} (h : t σ H fun c H1 => if c = true then u σ H1 Q else Q false H1) : tAnd t u σ H Q := h
theorem g_or {t u : TT} {Q : Bool → Hp → Prop} (h : t σ H fun c H1 => if c = true then Q true H1 else u σ H1 Q) : tOr t u σ H Q := h
theorem g_tB {te : TE} {Q : Bool → Hp → Prop} (h : te σ H fun x H1 => ∃ c, x = .bl c ∧ Q c H1) : tB te σ H Q := h
theorem g_eget {f : Str} (h : ta σ H fun x H1 => ∃ (a C dx : Addr) (fs : List (Str × V)) (v : V), x = .ref a ∧ ExK K C ∧ W.findIn K (.ref C) f = some none ∧ H1 a = some (exo a C (some dx)) ∧ H1 dx = some (exd dx fs) ∧ fs.lookup f = some v ∧ Q v H1) : tEget K f ta σ H Q := h
theorem g_exn {C : Addr} {fs : List Str} (h : t σ H fun vs H1 => vs.length = fs.length ∧ ∀ a dx, H1 a = none → H1 dx = none → dx ≠ a → Q (.ref a) (upd (upd H1 dx (exd dx (fs.zip vs).reverse)) a (exo a C (some dx)))) : tExn C fs t σ H Q := h
variable {D : Ends} {sa sb : TS} {g : TG} {gs : TGs}
theorem g_seq (h : sa { D with nx := sb D } σ H) : tSeq sa sb D σ H := h
theorem g_next (h : D.nx σ H) : tNext D σ H := h
theorem g_asg (h : ta σ H fun x H1 => g x σ H1 D.nx) : tAsg ta g D σ H := h
theorem g_name {i : Nat} {v : V} {Q : St → Hp → Prop} (h : Q (σ.set i (some v)) H) : gName i v σ H Q := h
theorem g_sub {v : V} {st : TSet} {Q : St → Hp → Prop} (h : ta σ H fun o H1 => tb σ H1 fun i H2 => st o i v H2 fun H3 => Q σ H3) : gSub ta tb st v σ H Q := h
theorem g_drop (h : ta σ H fun _ H1 => D.nx σ H1) : tDrop ta D σ H := h
theorem g_ret (h : ta σ H D.rt) : tRet ta D σ H := h
theorem g_retN (h : D.rt .non H) : tRetN D σ H := h
theorem g_ifs {c : TT} (h : c σ H fun b H1 => if b = true then sa D σ H1 else sb D σ H1) : tIfS c sa sb D σ H := h
theorem g_par {i j : Nat} (h : t σ H fun vs H1 => ∃ v w, vs = [v, w] ∧ D.nx ((σ.set i (some v)).set j (some w)) H1) : tPar i j t D σ H := h
theorem g_two {v w : V} {R : V → V → Prop} (h : R v w) : ∃ v' w', [v, w] = [v', w'] ∧ R v' w' := ⟨v, w, rfl, h⟩
-- the operators
theorem addU_i {i j : Int} (h : Q (.int (i + j)) H) : rAddU (.int i) (.int j) H Q := .inl ⟨i, j, rfl, rfl, h⟩
theorem addU_s {i j : Str} (l : i.length + j.length ≤ sizeLine) (h : Q (.str (i ++ j)) H) : rAddU (.str i) (.str j) H Q := .inr (.inl ⟨i, j, rfl, rfl, l, h⟩)
theorem addU_l {l b : Addr} {xs zs : List V} (e : H l = some (.lst xs)) (e2 : H b = some (.lst zs)) (z : xs.length + zs.length ≤ 1000) (h : ∀ p, H p = none → Q (.ref p) (upd H p (.lst (xs ++ zs)))) : rAddU (.ref l) (.ref b) H Q :=
  .inr (.inr ⟨l, b, xs, zs, rfl, rfl, e, e2, Nat.le_of_lt (small1000 z), h⟩)
theorem mulU_i {i j : Int} (c : CMul i j) (h : Q (.int (i * j)) H) : rMulU (.int i) (.int j) H Q := .inl ⟨i, j, rfl, rfl, c, h⟩
theorem mulU_l {l : Addr} {xs : List V} {k : Nat} (e : H l = some (.lst xs)) (hk : k ≤ 1000) (z : xs.length * k ≤ 1000) (h : ∀ p, H p = none → Q (.ref p) (upd H p (.lst (List.replicate k xs).flatten))) : rMulU (.ref l) (.int (k : Int)) H Q :=
  .inr ⟨l, k, xs, rfl, rfl, e, by omega, by omega, Nat.le_of_lt (small1000 (by simpa using z)), by simpa using h⟩
theorem rI0_i {f : Int → Int → V} {i j : Int} (h : Q (f i j) H) : rI0 f (.int i) (.int j) H Q := ⟨i, j, rfl, rfl, h⟩
theorem rI_i {C : Int → Int → Prop} {f : Int → Int → V} {i j : Int} (c : C i j) (h : Q (f i j) H) : rI C f (.int i) (.int j) H Q := ⟨i, j, rfl, rfl, c, h⟩
theorem ix_l {p : Addr} {xs : List V} {i : Int} {v : V} (e : SqL K H p xs) (a : atI xs i = some v) (h : Q v H) : rIx K (.ref p) (.int i) H Q := .inl ⟨p, xs, i, v, rfl, rfl, e, a, h⟩
theorem ix_t {p : Addr} {xs : List V} {i : Int} {v : V} (e : SqT K H p xs) (a : atI xs i = some v) (h : Q v H) : rIx K (.ref p) (.int i) H Q := .inr (.inl ⟨p, xs, i, v, rfl, rfl, e, a, h⟩)
theorem eqU_s {b : Bool} {x y : V} (s : scal x y = true) (h : Q (.bl (b == decide (x = y))) H) : rEqU K b x y H Q := .inl ⟨s, h⟩
theorem eqU_d {b : Bool} {x y : V} {d e : PyData} (h1 : Dp K H x d) (h2 : Dp K H y e) (s1 : SeqAt.shaped d = true) (s2 : SeqAt.shaped e = true) (h : Q (.bl (b == PyData.eqv d e)) H) : rEqU K b x y H Q := .inr ⟨d, e, h1, h2, s1, s2, h⟩
theorem setL {p : Addr} {xs : List V} {k : Int} {j : Nat} {v : V} {R : Hp → Prop} (e : H p = some (.lst xs)) (hk : ixN xs.length k = some j) (h : R (upd H p (.lst (xs.set j v)))) : rSetL (.ref p) (.int k) v H R := ⟨p, xs, k, j, rfl, rfl, e, hk, h⟩
theorem g_lenS {z : Str} (hz : z.length ≤ sizeLine) (h : Q (.int z.length) H) : (∃ x n, [V.str z] = [x] ∧ LenV K x H n ∧ Q (.int (n : Int)) H) := ⟨_, _, rfl, ⟨hz, rfl⟩, h⟩
end
end L2.My
namespace L2.My
open PySem PySem.Spec PyProof.Rows

theorem g_cut {σ : St} {H : Hp} {D : Ends} {t u : TS} (Mid : St → Hp → Prop) (h : t { D with nx := Mid } σ H) (h2 : ∀ σ' H', Mid σ' H' → u D σ' H') : C8.tCut t u D σ H := ⟨Mid, h, h2⟩
/-- all but p is as it was -/
def But (H H' : Hp) (p : Addr) : Prop := ∀ b o, b ≠ p → H b = some o → H' b = some o
theorem Same.but {H H' : Hp} (h : Same H H') (p : Addr) : But H H' p := fun b o _ e => h b o e
theorem same_upd {H : Hp} {p : Addr} {o : HO} (h : H p = none) : Same H (upd H p o) := fun b u e => by
  rw [upd_ne (ne_of_none e h)]
  exact e
theorem But.upd {H H' : Hp} {p : Addr} {o : HO} (h : But H H' p) : But H (L2.upd H' p o) p := fun b u n e => by
  rw [upd_ne n]
  exact h b u n e
theorem but_upd {H : Hp} {p : Addr} {o : HO} : But H (L2.upd H p o) p := fun b u n e => by
  rw [upd_ne n]
  exact e
theorem But.same {H H' H2 : Hp} {p : Addr} (h : But H H' p) (s : Same H' H2) : But H H2 p := fun b u n e => s b u (h b u n e)
theorem But.trans {H H' H2 : Hp} {p : Addr} (h : But H H' p) (s : But H' H2 p) : But H H2 p := fun b u n e => s b u n (h b u n e)

/-! ### lists of ints and bools as data -/
theorem dpAll_ints {K : W.Frag} {H : Hp} : ∀ ns : List Int, DpAll K H (ns.map V.int) (ns.map PyData.int)
  | [] => .nil
  | n :: r => .cons (.int n) (dpAll_ints r)
theorem dp_ints {K : W.Frag} {H : Hp} {a : Addr} {ns : List Int} (e : SqL K H a (ns.map V.int)) : Dp K H (.ref a) (.list (ns.map PyData.int)) := .lst e (dpAll_ints ns)
theorem dpAll_bls {K : W.Frag} {H : Hp} : ∀ ns : List Bool, DpAll K H (ns.map V.bl) (ns.map PyData.bool)
  | [] => .nil
  | n :: r => .cons (.bl n) (dpAll_bls r)
theorem dp_bls {K : W.Frag} {H : Hp} {a : Addr} {ns : List Bool} (e : SqL K H a (ns.map V.bl)) : Dp K H (.ref a) (.list (ns.map PyData.bool)) := .lst e (dpAll_bls ns)
theorem lay_all {α : Type} {f : α → PyData} (h : ∀ a, (f a).canLay0 = true) : ∀ ns : List α, PyData.canLayAll0 (ns.map f) = true
  | [] => by simp [PyData.canLayAll0]
  | n :: r => by simp [PyData.canLayAll0, h n, lay_all h r]
theorem depth_all {α : Type} {f : α → PyData} (h : ∀ a, (f a).depth = 0) : ∀ ns : List α, PyData.depthAll (ns.map f) = 0
  | [] => by simp [PyData.depthAll]
  | n :: r => by simp [PyData.depthAll, h n, depth_all h r]
theorem shaped_map {α : Type} {f : α → PyData} (h : ∀ a, (f a).canLay0 = true) (h2 : ∀ a, (f a).depth = 0) (ns : List α) : SeqAt.shaped (.list (ns.map f)) = true := by
  unfold SeqAt.shaped
  simp [PyData.canLay0, PyData.depth, lay_all h, depth_all h2]
theorem shaped_ints (ns : List Int) : SeqAt.shaped (.list (ns.map PyData.int)) = true := shaped_map (fun _ => by simp [PyData.canLay0]) (fun _ => by simp [PyData.depth]) ns
theorem shaped_bls (ns : List Bool) : SeqAt.shaped (.list (ns.map PyData.bool)) = true := shaped_map (fun _ => by simp [PyData.canLay0]) (fun _ => by simp [PyData.depth]) ns
theorem eqvAll_ints : ∀ ns ms : List Int, PyData.eqvAll (ns.map PyData.int) (ms.map PyData.int) = decide (ns = ms)
  | [], [] => by simp [PyData.eqvAll]
  | [], _ :: _ => by simp [PyData.eqvAll]
  | _ :: _, [] => by simp [PyData.eqvAll]
  | n :: r, m :: q => by
    simp only [List.map_cons, PyData.eqvAll, PyData.eqv, eqvAll_ints r q]
    by_cases h : n = m <;> by_cases h2 : r = q <;> simp [h, h2]
theorem eqv_ints (ns ms : List Int) : PyData.eqv (.list (ns.map PyData.int)) (.list (ms.map PyData.int)) = decide (ns = ms) := by
  rw [← eqvAll_ints]; simp [PyData.eqv]
theorem eqvAll_bls : ∀ ns ms : List Bool, PyData.eqvAll (ns.map PyData.bool) (ms.map PyData.bool) = decide (ns = ms)
  | [], [] => by simp [PyData.eqvAll]
  | [], _ :: _ => by simp [PyData.eqvAll]
  | _ :: _, [] => by simp [PyData.eqvAll]
  | n :: r, m :: q => by
    simp only [List.map_cons, PyData.eqvAll, PyData.eqv, eqvAll_bls r q]
    by_cases h : n = m <;> by_cases h2 : r = q <;> simp [h, h2]
theorem eqv_bls (ns ms : List Bool) : PyData.eqv (.list (ns.map PyData.bool)) (.list (ms.map PyData.bool)) = decide (ns = ms) := by
  rw [← eqvAll_bls]; simp [PyData.eqv]
/-- == and != of two lists of ints, of bools -/
theorem eqU_ints {K : W.Frag} {H : Hp} {Q : VK} {b : Bool} {p q : Addr} {ns ms : List Int} (e1 : SqL K H p (ns.map V.int)) (e2 : SqL K H q (ms.map V.int)) (h : Q (.bl (b == decide (ns = ms))) H) : rEqU K b (.ref p) (.ref q) H Q :=
  eqU_d (dp_ints e1) (dp_ints e2) (shaped_ints ns) (shaped_ints ms) (by rw [eqv_ints]; exact h)
theorem eqU_bls {K : W.Frag} {H : Hp} {Q : VK} {b : Bool} {p q : Addr} {ns ms : List Bool} (e1 : SqL K H p (ns.map V.bl)) (e2 : SqL K H q (ms.map V.bl)) (h : Q (.bl (b == decide (ns = ms))) H) : rEqU K b (.ref p) (.ref q) H Q :=
  eqU_d (dp_bls e1) (dp_bls e2) (shaped_bls ns) (shaped_bls ms) (by rw [eqv_bls]; exact h)

theorem pe_gref {X : Cx} {x : Str} {pos : Pos} {a : Addr} (hg : Gl X x) (hm : X.mg x = some (.ref a)) (hd : (x == ("__debug__" : Str)) = false := by decide) : PE X (.Name x pos) (tC (.ref a)) := pe_glob (v := .ref a) hg hm rfl hd
theorem pe_bty {X : Cx} {x : Str} {pos : Pos} (T : String) (hg : Gl X x) (hm : X.mg x = none) (hv : bootBuiltins x = some (.type T)) (hn : x ≠ "__name__" := by decide) (hd : (x == ("__debug__" : Str)) = false := by decide) : PE X (.Name x pos) (tC (.ty T)) := pe_bltn (v := .ty T) hg hm hv rfl hn hd
/-! ### calls of built-ins, by their values -/
def rInt1 : List V → Hp → VK → Prop := fun xs H Q => (∃ i, xs = [.int i] ∧ Q (.int i) H) ∨ ∃ k, xs = [.bl k] ∧ Q (.int (if k then 1 else 0)) H
def rAbs1 : List V → Hp → VK → Prop := fun xs H Q => ∃ i, xs = [.int i] ∧ Q (.int (if i < 0 then -i else i)) H
def rLen1 (K : W.Frag) : List V → Hp → VK → Prop := fun xs H Q => ∃ p ys, xs = [.ref p] ∧ (SqL K H p ys ∨ SqT K H p ys) ∧ Q (.int ys.length) H
def rList1 (K : W.Frag) : List V → Hp → VK → Prop := fun xs H Q => ∃ p ys, xs = [.ref p] ∧ (SqL K H p ys ∨ SqT K H p ys) ∧ ∀ l, H l = none → Q (.ref l) (upd H l (.lst ys))
section
variable {X : Cx} {K : W.Frag} {H : Hp} {Q : VK}
theorem c_int : CallR X (.type "int") rInt1 := call_int1
theorem c_abs : CallR X (.builtin "abs") rAbs1 := call_abs
theorem c_len : CallR X (.builtin "len") (rLen1 X.K) := call_len_seq
theorem c_list : CallR X (.type "list") (rList1 X.K) := call_list_of
theorem g_int {i : Int} (h : Q (.int i) H) : rInt1 [.int i] H Q := .inl ⟨i, rfl, h⟩
theorem g_intb {b : Bool} (h : Q (.int (if b = true then 1 else 0)) H) : rInt1 [.bl b] H Q := .inr ⟨b, rfl, h⟩
theorem g_abs {i : Int} (h : Q (.int (if i < 0 then -i else i)) H) : rAbs1 [.int i] H Q := ⟨i, rfl, h⟩
theorem g_len {p : Addr} {ys : List V} (e : SqL K H p ys) (h : Q (.int (ys.length : Nat)) H) : rLen1 K [.ref p] H Q := ⟨p, ys, rfl, .inl e, h⟩
theorem g_lent {p : Addr} {ys : List V} (e : SqT K H p ys) (h : Q (.int (ys.length : Nat)) H) : rLen1 K [.ref p] H Q := ⟨p, ys, rfl, .inr e, h⟩
theorem g_list {p : Addr} {ys : List V} (e : SqL K H p ys) (h : ∀ l, H l = none → Q (.ref l) (upd H l (.lst ys))) : rList1 K [.ref p] H Q := ⟨p, ys, rfl, .inl e, h⟩
/-! ### slices, items, repr, isinstance, append -/
variable {σ : St} {te : TE} {tl th : TO} {r : V → Option Int → Option Int → Hp → VK → Prop}
theorem g_sl (h : te σ H fun x H1 => tl σ H1 fun l H2 => th σ H2 fun u H3 => r x l u H3 Q) : tSl r te tl th σ H Q := h
theorem g_nopart {R : Option Int → Hp → Prop} (h : R none H) : tNoPart σ H R := h
theorem g_part {R : Option Int → Hp → Prop} (h : te σ H fun x H1 => ∃ i, x = .int i ∧ R (some i) H1) : tPart te σ H R := h
theorem g_i {i : Int} {R : Int → Prop} (h : R i) : ∃ j, V.int i = .int j ∧ R j := ⟨i, rfl, h⟩
theorem slL {a : Addr} {xs : List V} {lo hi : Option Int} (e : SqL K H a xs) (h : ∀ p, H p = none → Q (.ref p) (upd H p (.lst (cutV xs lo hi)))) : rSlL K (.ref a) lo hi H Q := ⟨a, xs, rfl, e, h⟩
theorem g_repr {a : Addr} {d : PyData} (h : Dq K H (.ref a) d) (h1 : d.showable = true) (h2 : d.depth ≤ 60) (h3 : d.shown.length ≤ sizeLine) (q : Q (.str d.shown) H) : rRepr K [.ref a] H Q := ⟨a, d, rfl, h, h1, h2, h3, q⟩
theorem g_exr {C : Addr} {f g : Str} {t : TA} (h : t σ H fun vs H2 => ∃ y x, vs = [y, x] ∧ ∀ a dx, H2 a = none → H2 dx = none → dx ≠ a → Q (.ref a) (upd (upd H2 dx (exd dx [(g, y), (f, x)])) a (exo a C (some dx)))) : tExr C f g t σ H Q := h
theorem hush {R : Hp → Prop} {H0 Hx : Hp} {r : Addr} {o : HO} (s : Same H0 Hx) (e : Hx r = some o) (k : ∀ H', Same H0 H' → H' r = some o → R H') : R Hx := k Hx s e
theorem hush2 {R : Hp → Prop} {H0 Hx : Hp} {r r2 : Addr} {o o2 : HO} (s : Same H0 Hx) (e : Hx r = some o) (e2 : Hx r2 = some o2) (k : ∀ H', Same H0 H' → H' r = some o → H' r2 = some o2 → R H') : R Hx := k Hx s e e2
theorem g_disp {trs : List (TE × TE)} (h : ∀ p, H p = none → tPairs trs σ (upd H p (.dK [])) fun ps H2 => H2 p = some (.dK []) ∧ ∃ kvs : List (Key × V), ps = kvs.map (fun kv => (kV kv.1, kv.2)) ∧ kvs.length ≤ 15 ∧ Q (.ref p) (upd H2 p (.dK (mergeK [] kvs)))) : tDisp trs σ H Q := h
theorem g_pair {tk tv : TE} {r : List (TE × TE)} {R : List (V × V) → Hp → Prop} (h : tk σ H fun x H1 => tv σ H1 fun y H2 => tPairs r σ H2 fun ps H3 => R ((x, y) :: ps) H3) : tPairs ((tk, tv) :: r) σ H R := h
theorem g_pair0 {R : List (V × V) → Hp → Prop} (h : R [] H) : tPairs [] σ H R := h
theorem kv_str {H2 : Hp} {p : Addr} {k : Str} {y : V} (e : H2 p = some (.dK [])) (h : Q (.ref p) (upd H2 p (.dK [(Sum.inr k, y)]))) :
    H2 p = some (.dK []) ∧ ∃ kvs : List (Key × V), [(V.str k, y)] = kvs.map (fun kv => (kV kv.1, kv.2)) ∧ kvs.length ≤ 15 ∧ Q (.ref p) (upd H2 p (.dK (mergeK [] kvs))) := ⟨e, [(Sum.inr k, y)], rfl, by show 1 ≤ 15; decide, h⟩
/-- an exception of the class at C -/
def ExAt (H : Hp) (a C : Addr) : Prop := ∃ d : Option Addr, H a = some (exo a C d) ∧ ∀ dx, d = some dx → ∃ fs, H dx = some (exd dx fs)
theorem ExAt.same {H' : Hp} {a C : Addr} (s : Same H H') (h : ExAt H a C) : ExAt H' a C := by
  obtain ⟨d, e, r⟩ := h
  exact ⟨d, s _ _ e, fun dx z => (r dx z).elim fun fs q => ⟨fs, s _ _ q⟩⟩
theorem g_isX {a C : Addr} {c : V} {cv : Value} {b : Bool} (e : ExAt H a C) (T : ExK K C) (G : ExA K) (hc : ∀ u, RelV c u → u = cv) (k : W.kitOne K (.ref C) cv = some b) (h : Q (.bl b) H) : rIsX K [.ref a, c] H Q := by
  obtain ⟨d, e, r⟩ := e
  exact ⟨a, C, d, c, cv, b, rfl, e, r, T, G, hc, k, h⟩
theorem appL {l : Addr} {xs : List V} {y : V} (e : H l = some (.lst xs)) (z : xs.length < 1000) (h : Q .non (upd H l (.lst (xs ++ [y])))) : rAppend (.ref l) [y] H Q := ⟨l, xs, y, rfl, rfl, e, small1000 (Nat.le_of_lt z), h⟩
theorem g_bm {T : String} {ru : V → List V → Hp → VK → Prop} {t : TA} (h : te σ H fun x H1 => tyV K T x H1 ∧ t σ H1 fun xs H2 => ru x xs H2 Q) : tBM K T ru te t σ H Q := h
theorem ty_lst {l : Addr} {xs : List V} (e : H l = some (.lst xs)) : tyV K "list" (.ref l) H := Or.inl ⟨rfl, _, Or.inl (Or.inl e)⟩
end
end L2.My
/-! An exception that was caught and is kept: try: .. except X as n: suite, where the suite may give n away -/
namespace L2.My
open PySem PySem.Spec PyProof.Rows

/-- at e: an exception of the class, with its dict; whatever its record says -/
def exz (e : Addr) (cls : Value) (d : Option Addr) : HO := .ext fun h => ∃ (oe : Obj) (vs : Array Value), h.get? e = some oe ∧ Zc cls d oe ∧ oe.data = .fields vs
theorem exz_ok {P : Program} {w : World} {H : Hp} {h : Heap} {e : Addr} {cls : Value} {d : Option Addr} {oe : Obj} {vs : Array Value} (he : h.get? e = some oe) (hz : Zc cls d oe) (hd : oe.data = .fields vs) : ObjOk P w H h e (exz e cls d) :=
  ⟨⟨oe, vs, he, hz, hd⟩, ⟨_, he⟩, fun h1 h2 z k => by
    obtain ⟨o1, v1, q1, q2, q3⟩ := z
    exact ⟨o1, v1, k _ q1, q2, q3⟩⟩
theorem exz_at {P : Program} {w : World} {H : Hp} {h : Heap} {e : Addr} {cls : Value} {d : Option Addr} (hok : HOk P w H h) (he : H e = some (exz e cls d)) : ∃ (oe : Obj) (vs : Array Value), h.get? e = some oe ∧ Zc cls d oe ∧ oe.data = .fields vs := by
  have x : ObjOk P w H h e (.ext fun h => ∃ (oe : Obj) (vs : Array Value), h.get? e = some oe ∧ Zc cls d oe ∧ oe.data = .fields vs) := hok e _ he
  exact x.1

section
variable {X : Cx} {pins : List (Addr × Obj)} {σ : St} {H : Hp} {s sI s' : Shared} {B h4 : Heap} {a : Addr} {cls : Value} {d : Option Addr}
/-- the caught exception is a thing of ours from now on -/
theorem landedX (I : Inv X pins σ H sI) (nb : ∀ b o, sI.heap.get? b = some o → b ∉ frs X.stack → B.get? b = some o) (fl : HandSPX.FlyingZ B X.stack a (Zc cls d) h4) (up : sI.heap.UpToSlots h4) (na : H a = none) {g : Array GenState} {dr : Drawn} {t : Nat} {os : OsState} (ho : os = sI.os) (ag : AllBare g) :
    Inv X pins σ (upd H a (exz a cls d)) ⟨h4, g, dr, t, os⟩ := by
  obtain ⟨oe, vs, he, hz, hd⟩ := fl.there
  obtain ⟨G, g1, g2⟩ := restrict h4 fun b => decide (b ≠ a)
  have gk : ∀ {b : Addr}, b ≠ a → G.get? b = h4.get? b := fun {b} hb => g1 b (decide_eq_true hb)
  have ge : G.get? a = none := g2 a (by simp)
  have nB : ∀ {b : Addr} {o : Obj}, B.get? b = some o → b ≠ a := fun {b o} e z => by
    rw [z, fl.2.1] at e
    cases e
  have st : B.StaysIn G := fun b o e => (gk (nB e)).trans (fl.1 b o e)
  have up2 : sI.heap.UpToSlots G := fun b o e n => by
    obtain ⟨sl, q⟩ := up b o e n
    refine ⟨sl, (gk fun z => ?_).trans q⟩
    rw [z, he] at q
    have q2 := Option.some.inj q
    rw [q2] at hd
    exact n _ hd
  have J : Inv X pins σ H ⟨G, g, dr, t, os⟩ := Inv.landed (s' := ⟨G, g, dr, t, os⟩) I nb st up2 ho ag
  exact Inv.laidN (h' := h4) (t' := t) J (fun b u e => by
    by_cases hb : b = a
    · rw [hb, ge] at e
      cases e
    · exact (gk hb).symm.trans e) ge na (exz_ok he hz hd)
theorem toSuite (I : Inv X pins σ H s) (a : Addr) : Inv (X.suite a (X.pn ++ pins)) [] σ H s :=
  ⟨I.ok.suite _ _, I.os, I.bare, I.base, I.loc, I.cell, I.free, I.freeC, fun p hp => I.pin p (by rw [List.append_nil] at hp; exact hp), I.hok, I.len⟩
theorem offSuite {a : Addr} {pn' : List (Addr × Obj)} (I : Inv (X.suite a (X.pn ++ pins)) pn' σ H s) (ok : X.Ok) : Inv X pins σ H s :=
  ⟨ok, I.os, I.bare, I.base, I.loc, I.cell, I.free, I.freeC, fun p hp => I.pin p (List.mem_append_left _ hp), I.hok, I.len⟩
end

/-- what the clause wishes of an exception of the body; slot i is the name's -/
def wKeep (K : PySem.W.Frag) (c : Value) (i : Nat) (ts : Addr → Value → Option Addr → TS) (Wout : WX) (D : Ends) : WX := fun cls d σ H =>
  ∃ b, PySem.W.exmOne K cls c = some b ∧ (b = true → ∀ a, H a = none → ts a cls d { nx := fun σ' H' => D.nx (σ'.set i none) H', rt := D.rt, bk := fun σ' H' => D.bk (σ'.set i none) H', ct := fun σ' H' => D.ct (σ'.set i none) H' } (σ.set i (some (.ref a))) (upd H a (exz a cls d))) ∧
    (b = false → Wout cls d σ H)

section
variable {X : Cx} {x n : Str} {c : Value} {i : Nat} {body suite : List Stmt} {b₀ : Stmt} {np pos pos' : Pos} {tb : WX → TS} {ts : Addr → Value → Option Addr → TS} {Wout : WX}
theorem ps_try_keep (hs : X.stack = X.env :: X.outer) (hf : X.env.frame = some X.env.locals) (hN : X.N.Nodup) (hi : X.N[i]? = some n) (hln : X.env.kindOf n = some .local) (hc : Names X x c) (tk : Takes X Wout)
    (hb : ∀ (W : WX) (pn : List (Addr × Obj)) (xe : Value → Shared → Prop), Takes (X.tr pn xe) W → PassesOwn (model X.prog X.w) X.A X.env xe → PSs (X.tr pn xe) body (tb W))
    (hsu : ∀ (a : Addr) (cls : Value) (d : Option Addr) (pn : List (Addr × Obj)), PSs (X.suite a pn) (b₀ :: suite) (ts a cls d)) :
    PS X (.Try body [.ExceptHandler (some (.Name x np)) (some n) (b₀ :: suite) pos'] [] [] pos) (fun D σ H => tb (wKeep X.K c i ts Wout D) D σ H) := by
  constructor
  intro pins s σ H D I h
  have ok := I.ok
  have hfr : X.A.frames = some (X.env :: X.outer) := by rw [ok.frames, hs]
  have hloc : Loc X.env.scope n := .inl hln
  refine wpAny_Try_except ?_
  refine wpAny_mono ((hb (wKeep X.K c i ts Wout D) (X.pn ++ pins) (fun e s₁ => wpAny (model X.prog X.w) X.A (noteFrame e X.env) (fun _ s₂ => wpAny (model X.prog X.w) X.A (setFlight e none) (fun _ s₃ =>
    wpAny (model X.prog X.w) X.A (handleBy e X.env [.ExceptHandler (some (.Name x np)) (some n) (b₀ :: suite) pos']) (SP X pins D) X.xe s₃) X.xe s₂) X.xe s₁) (fun u s' xx => ?caught) PassesOwn.looking).run [] s σ H D (I.toTry _) h) (fun f s1 hsp => ?thru) (fun e s1 he => he)
  case thru =>
    match f, hsp with
    | .next, ⟨σ', H', J', q⟩ => exact wpAny_execs_nil ⟨σ', H', J'.ofTry ok, q⟩
    | .brk, ⟨σ', H', J', q⟩ => exact ⟨σ', H', J'.ofTry ok, q⟩
    | .cont, ⟨σ', H', J', q⟩ => exact ⟨σ', H', J'.ofTry ok, q⟩
    | .ret u, ⟨v, σ', H', J', r, q⟩ => exact ⟨v, σ', H', J'.ofTry ok, r, q⟩
  case caught =>
    obtain ⟨a, B, sI, pins', σ', H', cls, d, rfl, J', nb, up, sky, na, os, ag, b, hb1, hyes, hno⟩ := xx
    have J : Inv X pins σ' H' sI := J'.ofTry ok
    have sky' : Sky B (X.env :: X.outer) a (Zc cls d) X.env.locals s'.heap := by rw [← hs]; exact sky
    show wpAny (model X.prog X.w) X.A (noteFrame (.ref a) X.env) _ _ _
    refine Sky.land Zc.steady hfr hf sky' fun h3 fl3 up3 => ?_
    have J3 : Inv X pins σ' H' { s' with heap := h3 } := J.landed nb fl3.1 (up.trans up3) os ag
    obtain ⟨oe3, vs3, he3, hz3, hd3⟩ := fl3.there
    refine wpAny_handleBy_cons (codeAny_handlers_test ?_) (by intro q; cases q)
    have LT : PySem.W.Looks (model X.prog X.w) h3 (typeOf (.ref a)) cls := fun A Q E s k q => wpAny_typeOf_ref (k _ _ he3) (by rw [hz3.1]; exact q)
    have LM := PySem.W.exm_one (M := model X.prog X.w) (J3.kIn) LT hb1
    have S3 := toSuite J3 a
    have test : ∀ {Q : Value → Shared → Prop} {E : Value → Shared → Prop}, Q c { s' with heap := h3 } → wpAny (model X.prog X.w) (X.A.mark (some (.ref a))) (eval (.Name x np) X.env) Q E { s' with heap := h3 } := fun {Q E} q => by
      obtain ⟨hg, hdbg, hm | ⟨hm, hv, hnn⟩⟩ := hc
      · exact ld_glob (X := X.suite a (X.pn ++ pins)) S3 hg hm q hdbg
      · exact ld_blt (X := X.suite a (X.pn ++ pins)) S3 hg hm hv q hnn hdbg
    refine test (LM.here ?_)
    cases b with
    | true =>
      refine codeAny_handlers_suite_as ?_
      refine HandSPX.lands_againZ fl3 fun h4 fl4 up4 => ?_
      have J4 := landedX (h4 := h4) J nb (by rw [hs]; exact fl4) ((up.trans up3).trans up4) na (g := s'.gens) (dr := s'.drawn) (t := s'.toks) os ag
      have S4 := toSuite J4 a
      refine store_ok (X := X.suite a (X.pn ++ pins)) (v := .ref a) S4 hN hi hloc rfl (fun s5 S5 => ?_) (.inr hln)
      refine wpAny_mono ((hsu a cls d (X.pn ++ pins)).run [] s5 _ _ _ S5 (hyes rfl a na)) (fun f s6 hsp => ?_) (fun _ _ z => False.elim z)
      have end_ : ∀ {σ6 : St} {H6 : Hp} {Q : Shared → Prop}, Inv (X.suite a (X.pn ++ pins)) [] σ6 H6 s6 → (∀ s7, Inv X pins (σ6.set i none) H6 s7 → Q s7) →
          wpAny (model X.prog X.w) X.A (do bindName X.env n .none; unbindBehindTheSuite X.env n pos') (fun _ s7 => Q s7) X.xe s6 := fun {σ6 H6 Q} S6 hq => gone_ok (offSuite S6 ok) hN hi hln hq
      match f, hsp with
      | .next, ⟨σ6, H6, S6, q6⟩ => exact end_ S6 fun s7 J7 => ⟨_, _, J7, q6⟩
      | .brk, ⟨σ6, H6, S6, q6⟩ => exact end_ S6 fun s7 J7 => ⟨_, _, J7, q6⟩
      | .cont, ⟨σ6, H6, S6, q6⟩ => exact end_ S6 fun s7 J7 => ⟨_, _, J7, q6⟩
      | .ret u, ⟨v6, σ6, H6, S6, r6, q6⟩ => exact end_ S6 fun s7 J7 => ⟨_, _, _, J7, r6, q6⟩
    | false =>
      show wpAny _ X.A (handleBy (.ref a) X.env []) _ _ _
      refine wpAny_handleBy_nil ?_
      obtain ⟨k1, k2, k3, oe, vs, T, oT, ts', he, hz, hd, h1, hr⟩ := id fl3
      unfold PySem.passOn
      refine wpAny_bind (wpAny_field he hd h1 ?_)
      rw [if_neg (show ¬ ((Value.ref T == Value.none) = true) from by simp)]
      have fin : wpAny (model X.prog X.w) X.A (setFlight (.ref a) X.env.frame) (fun _ s4 => wpAny (model X.prog X.w) X.A (throw (.ref a) : Sem Flow) (SP X pins D) X.xe s4) X.xe { s' with heap := h3 } := by
        rw [hf]
        refine HandSPX.setFlight_upZ fl3 fun h4 hh4 up4 => wpAny_throw (tk _ _ ?_)
        exact ⟨a, B, sI, pins, σ', H', cls, d, rfl, J, nb, (up.trans up3).trans up4, .inr (.inr (by rw [hs]; exact hh4)), na, os, ag, hno rfl⟩
      first
        | exact wpAny_bind (wpAny_pure (wpAny_bind fin))
        | exact wpAny_bind fin
end
end L2.My
/-! A kept exception: its fields, isinstance -/
namespace L2.My
open PySem PySem.Spec PyProof.Rows

theorem xd_at {P : Program} {w : World} {H : Hp} {h : Heap} {d : Addr} {fs : List (Str × V)} (hok : HOk P w H h) (he : H d = some (.xd fs)) : ∃ mA, h.Ns1 d mA ∧ ∀ f, RelO (fs.lookup f) (mA f) := by
  obtain ⟨mA, hns, r⟩ := hok d _ he
  exact ⟨mA, hns, r⟩
def tZget (K : W.Frag) (f : Str) (te : TE) : TE := fun σ H Q => te σ H fun x H1 => ∃ (a C dx : Addr) (fs : List (Str × V)) (v : V), x = .ref a ∧ ExK K C ∧ W.findIn K (.ref C) f = some none ∧ H1 a = some (exz a (.ref C) (some dx)) ∧ H1 dx = some (.xd fs) ∧ fs.lookup f = some v ∧ Q v H1
theorem pe_zget {X : Cx} {e : Expr} {te : TE} {f : Str} {pos : Pos} (he : PE X e te) (hb : attributeBase e f X.env (eval e X.env) = eval e X.env := by rfl) : PE X (.Attribute e f pos) (tZget X.K f te) := by
  constructor
  intro pins s σ H Q I h
  refine attr_of hb (thn (he.run pins s σ H _ I h) fun u s1 r => ?_)
  obtain ⟨x, H1, I1, rx, a, C, dx, fs, v, rfl, T, hno, ea, ed, l, q⟩ := r
  obtain rfl : u = Value.ref a := rx
  obtain ⟨⟨oc, odt, dat, sl⟩, vs, ho, hz, hd0⟩ := exz_at I1.hok ea
  obtain ⟨z1, z2⟩ := hz
  dsimp only at z1 z2 hd0
  subst z1 z2 hd0
  obtain ⟨mA, hns, hr⟩ := xd_at I1.hok ed
  obtain ⟨od, hd, hl⟩ := lookIn_ns hns
  obtain ⟨u, hu, ru⟩ := RelO.some_of (v := v) (o := mA f) (by rw [← l]; exact hr f)
  have J : W.InstAt s1.heap a _ C (some od) := ⟨ho, rfl, rfl, hd⟩
  exact HandSPX.exc_get I1.kIn J T.ga T.gg T.ex (W.findObj_own T.hd hno rfl (by rw [hl, hu])) (handed_of ru) ⟨v, H1, I1.tok _, ru, q⟩

/-- isinstance of a kept exception -/
def rIsZ (K : W.Frag) : List V → Hp → VK → Prop := fun xs H Q => ∃ (a C : Addr) (dx : Addr) (fs : List (Str × V)) (c : V) (cv : Value) (b : Bool), xs = [.ref a, c] ∧ H a = some (exz a (.ref C) (some dx)) ∧ H dx = some (.xd fs) ∧ ExK K C ∧ ExA K ∧
  (∀ u, RelV c u → u = cv) ∧ W.kitOne K (.ref C) cv = some b ∧ Q (.bl b) H
theorem call_isZ {X : Cx} : CallR X (.builtin "isinstance") (rIsZ X.K) := by
  intro pins s σ H xs us Q I r h
  obtain ⟨a, C, dx, fs, c, cv, b, rfl, ea, ed, T, G, hcv, e, q⟩ := h
  cases r with
  | cons rx rr =>
    cases rr with
    | cons rt rr =>
      cases rr
      obtain rfl := rx
      obtain rfl := hcv _ rt
      obtain ⟨⟨oc, odt, dat, sl⟩, vs, ho, hz, hd0⟩ := exz_at I.hok ea
      obtain ⟨z1, z2⟩ := hz
      dsimp only at z1 z2 hd0
      subst z1 z2 hd0
      obtain ⟨mA, ⟨od, _, _, hd, _⟩, _⟩ := xd_at I.hok ed
      have J : W.InstAt s.heap a _ C (some od) := ⟨ho, rfl, rfl, hd⟩
      have hcl : (W.clsIn X.K C).isSome = true := by
        obtain ⟨cd, hc, _⟩ := W.any_some T.hd
        rw [hc] <;> rfl
      exact W.kia_one (W.kitx_exc hcl T.ga T.gg T.ex T.cl G.gt G.tk T.ob) I.kIn J e (fun z => (nomatch z)) fun tk => ⟨.bl b, H, I.kept (t' := tk) fun _ _ z => z, rfl, q⟩
end L2.My
/-! C.f(x, ..) where f is a def of the class C -/
namespace PySem.Mine
open PySem.W PySem.Calls PyProof.Rows
theorem fn_bare {prog : Program} {w : World} {K : W.Frag} {A : Around} {R : Result → Shared → Prop} {s : Shared} {f C : Addr} (X : K.In s.heap) (hp : typeIn K (.ref f) = some (.type "function"))
    (h : R (.ok (.ret (.ref f))) s) : codeAny (model prog w) A (.call (.builtin "function.__get__") ⟨[.ref f, .none, .ref C], []⟩) R s := by
  obtain ⟨o, ho, hc⟩ := Option.map_eq_some_iff.mp hp
  obtain ⟨hh, g, dr, t, os⟩ := s
  refine codeAny_call_builtin KF.slot_fn.plain KF.entry_fn (KF.slot_fn.check _ _ _ _ _ _ _ _ ⟨_, X _ _ ho, hc⟩ (KF.args_fn _ _ _) ?_)
  repeat k_node
  exact h
end PySem.Mine
namespace L2.My
open PySem PySem.Spec PyProof.Rows
/-- C.m is a def of the class -/
structure CFn (K : W.Frag) (C : Addr) (mc : Value) (m : Str) (f : Addr) : Prop where
  at_ : W.findCls K (.ref C) mc m = some (.get (.builtin "function.__get__") (.ref f) .none (.ref C))
  ty : W.typeIn K (.ref f) = some (.type "function")
  kp : W.keepIn K (.ref f) = true
section
variable {X : Cx} {C f : Addr} {mc : Value} {m : Str} {o e : Expr} {es : List Expr} {ta : TE} {t : TA} {CX : CXT} {k : Nat} {fd : FuncData} {ps : List Str} {sp : Sp} {ds : List Value} {dvs : List V} {E : XK} {apos pos : Pos} {pl : Sem Bool}
def tClsFn (C : Addr) (sp : Sp) (dvs : List V) (E : XK) (ta : TE) (t : TA) : TE := fun σ H Q => ta σ H fun x H1 => x = .ref C ∧ t σ H1 fun vs H2 => sp (vs ++ dvs) H2 Q E
theorem getfn_ok {pins : List (Addr × Obj)} {σ : St} {H : Hp} {s : Shared} {A : Around} {E' : Value → Shared → Prop} {Q : Value × List Value → Shared → Prop} (I : Inv X pins σ H s) (r : ClX.CRead X.K C mc) (c : CFn X.K C mc m f) (h : ∀ s', Inv X pins σ H s' → Q (.ref f, []) s') :
    wpAny (model X.prog X.w) A (getMethod (.ref C) m pl) Q E' s := by
  refine W.method_cls I.kIn r.ga (W.cls_bind I.kIn r.rd c.at_ ?_)
  refine wpAny_call (Mine.fn_bare (s := { s with toks := s.toks + 1 }) I.kIn c.ty (W.handed_on rfl ?_))
  exact h _ (I.tok _)
theorem pe_clsfn (he : PE X o ta) (r : ClX.CRead X.K C mc) (c : CFn X.K C mc m f) (F : FnOk X.prog X.w X.K X.mg X.base CX k f fd ps sp) (hr : Room k X.A) (hb : Binds X.K fd ps ds) (hd : Vals dvs ds) (hx : Passes CX X E) (ha : PA X (e :: es) t)
    (hst : starEach (e :: es) X.env = (false, eval e X.env) :: starEach es X.env := by rfl) (hpl : (backTo pos (starEach es X.env)).any (·.1) = false := by rfl)
    (ht : eval (.Call (.Attribute o m apos) (e :: es) [] pos) X.env = (do
      let ov ← eval o X.env
      standAt apos.atName
      let (g, first) ← holding [ov] (getMethod ov m pl)
      callWith pos g first (backTo pos (starEach (e :: es) X.env)) (backToKw pos (keywordEach [] X.env))) := by rfl) :
    PE X (.Call (.Attribute o m apos) (e :: es) [] pos) (tClsFn C sp dvs E ta t) := by
  constructor
  intro pins s σ H Q I h
  refine W.methodCall_KW (pl := pl) (thn (he.run pins s σ H _ I h) fun u s1 z => ?_) ht
  obtain ⟨x, H1, I1, rx, ex, q⟩ := z
  subst ex
  obtain rfl : u = Value.ref C := rx
  refine getfn_ok I1 r c fun s2 I2 => ?_
  refine W.callWith_K (h₀ := X.base) (first := []) I2.ok.mod.kin c.kp (thn (ha.run pos pins s2 σ H1 _ I2 q) ?_) hst hpl
  rintro us s3 ⟨vs, H2, I3, rv, q2⟩
  refine ⟨I3.kIn, ?_⟩
  show wpAny _ _ (call (.ref f) us) _ _ _
  exact run_fn F hr hb hd hx I3 rv q2
end
end L2.My
/-! == and != of own instances, by the text's own __eq__; the right side's first where its class is below the left's -/
namespace PySem.Mine
open PySem.W PySem.Calls PyProof.Rows
section
variable {prog : Program} {w : World} {A : Around} {E : Value → Shared → Prop} {s : Shared} {K : W.Frag} {x y C D f : Addr} {b tb : Value} {ox oy : Obj} {od oe : Option Obj} {op : CmpOp} {Q : Value → Shared → Prop}
/-- the answer of one side's try -/
abbrev Told (Q : Value → Shared → Prop) : Option Value → Shared → Prop := fun r s' => ∃ v, r = some v ∧ Q v s'
theorem try_own {name : Str} (X : K.In s.heap) (I : InstAt s.heap x ox C od) (hs : findIn K (.ref C) name = some (some (.ref f))) (hf : isFn K (.ref f) = true) (h : wpAny (model prog w) A (call (.ref f) [.ref x, b]) (W.CmpBack Q) E s) :
    wpAny (model prog w) A (tryCompare (.ref x) name b) (Told Q) E s := by
  unfold tryCompare
  refine wpAny_bind (ifBound_K X I hs hf (wpAny_mono h (fun v s' hv => ?_) fun _ _ e => e))
  cases v <;> first | exact hv.elim | exact wpAny_pure ⟨_, rfl, hv⟩
theorem rc_left (hu : A.units < cLine) (X : K.In s.heap) (I : InstAt s.heap x ox C od) (hb : Looks (model prog w) s.heap (typeOf b) tb) (hn : notFirst K C tb = true) (one : wpAny (model prog w) A (tryCompare (.ref x) (cmpInfo op).2.1 b) (Told Q) E s) :
    wpAny (model prog w) A (richCompare op (.ref x) b) Q E s := by
  unfold richCompare
  simp only [oneThing_ref]
  refine wpAny_holding (wpAny_bind (wpAny_cRoomFor hu (wpAny_bind (I.type.here (wpAny_bind (hb.here ?_))))))
  split
  · rename_i q
    have e : subIn K tb (.ref C) = some false := by
      rcases Bool.or_eq_true_iff.mp hn with e | e
      · rw [beq_iff_eq.mp e] at q; simp at q
      · exact beq_iff_eq.mp e
    refine wpAny_bind ((looks_subIn X e).here ?_)
    simp only [Bool.false_eq_true, if_false]
    refine wpAny_bind (wpAny_mono one (fun r s' z => ?_) fun _ _ e => e)
    obtain ⟨v, rfl, hq⟩ := z
    exact wpAny_pure hq
  · refine wpAny_bind (wpAny_pure ?_)
    simp only [Bool.false_eq_true, if_false]
    refine wpAny_bind (wpAny_mono one (fun r s' z => ?_) fun _ _ e => e)
    obtain ⟨v, rfl, hq⟩ := z
    exact wpAny_pure hq
theorem rc_right (hu : A.units < cLine) (X : K.In s.heap) (I : InstAt s.heap x ox C od) (J : InstAt s.heap y oy D oe) (ne : D ≠ C) (sub : subIn K (.ref D) (.ref C) = some true) (one : wpAny (model prog w) A (tryCompare (.ref y) (cmpInfo op).2.2 (.ref x)) (Told Q) E s) :
    wpAny (model prog w) A (richCompare op (.ref x) (.ref y)) Q E s := by
  unfold richCompare
  simp only [oneThing_ref]
  refine wpAny_holding (wpAny_bind (wpAny_cRoomFor hu (wpAny_bind (I.type.here (wpAny_bind (J.type.here ?_))))))
  split
  · refine wpAny_bind ((looks_subIn X sub).here ?_)
    simp only [if_true]
    refine wpAny_bind (wpAny_mono one (fun r s' z => ?_) fun _ _ e => e)
    obtain ⟨v, rfl, hq⟩ := z
    first
      | exact wpAny_pure (M := model prog w) (A := A) (E := E) hq
      | exact wpAny_bind (wpAny_pure (M := model prog w) (A := A) (E := E) (wpAny_pure hq))
  · rename_i q
    simp at q
    exact absurd q.symm ne
theorem try_ne (hu : A.in1.units < cLine) (X : K.In s.heap) (I : InstAt s.heap x ox C od) (hn : findIn K (.ref C) "__ne__" = some (some (.builtin "object.__ne__"))) (hm : mroIn K C (.type "object") = some true) (hs : findIn K (.ref C) "__eq__" = some (some (.ref f))) (hf : isFn K (.ref f) = true)
    (h : wpAny (model prog w) A.in1 (call (.ref f) [.ref x, b]) (fun v s' => ∃ k, v = .bool k ∧ Q (.bool (!k)) s') E s) :
    wpAny (model prog w) A (tryCompare (.ref x) "__ne__" b) (Told Q) E s := by
  have body : wpAny (model prog w) A (call (.builtin "object.__ne__") [.ref x, b]) (fun v s' => v ≠ .notImplemented ∧ Q v s') E s := by
    refine wpAny_call (codeAny_call_builtin F.slot_object_ne.plain F.cmpEntry_ne (check_slot (i := "object.__ne__") (owner := "object") (n := "__ne__") F.cmpKind_ne F.cmpSplit_ne (I.type.andThen (looks_mroIn X hm)) (F.cmpArgs_ne _ _) ?_))
    unfold Builtin.«object.__ne__»
    refine wpAny_bind (m := slotArgs "__ne__" 1 _) (wpAny_pure ?_)
    refine wpAny_bind (m := cRoomFor _ _) (wpAny_cRoomFor hu ?_)
    refine wpAny_bind (m := callSpecialIfBound? (.ref x) (Str.ofString "__eq__") _) (ifBound_K X I hs hf (wpAny_mono h (fun v s' hv => ?_) fun _ _ e => e))
    obtain ⟨k, rfl, q⟩ := hv
    refine wpAny_bind (m := truthy _) (wpAny_truthy_bool (wpAny_pure ?_))
    exact ⟨(fun z => nomatch z), q⟩
  unfold tryCompare
  simp only [callSpecialIfBound?, bindSpecialIfBound?]
  refine wpAny_bind (wpAny_holding (wpAny_bind (wpAny_bind (wpAny_bind (I.type.here ((looks_findIn X hn).here ?_))))))
  have fin : wpAny (model prog w) A (call (.builtin "object.__ne__") ([.ref x] ++ [b]) >>= fun v => pure (some v)) (fun r s' => ∃ v, r = some v ∧ v ≠ .notImplemented ∧ Q v s') E s :=
    wpAny_bind (wpAny_mono body (fun v s' z => wpAny_pure ⟨v, rfl, z⟩) fun _ _ e => e)
  have fin := wpAny_mono (Q' := fun a s' => wpAny (model prog w) A (match a with | some Value.notImplemented => (pure none : Sem (Option Value)) | none => pure none | some v => pure (some v)) (Told Q) E s') fin (fun r s' z => by
    obtain ⟨v, rfl, h1, q⟩ := z
    cases v <;> first | exact absurd rfl h1 | exact wpAny_pure ⟨_, rfl, q⟩) fun _ _ e => e
  refine wpAny_bind (wpAny_askSetting (wpAny_ite ?_))
  split
  · exact wpAny_bind ((Looks.of_pure (F.slot_object_ne.bind (.ref x))).here (wpAny_pure fin))
  · exact wpAny_tryCatch (wpAny_bind ((Looks.of_pure (F.slot_object_ne.bind (.ref x))).here (wpAny_pure fin)))
end
end PySem.Mine
/-! The rules over them: ==, !=, repr of own instances -/
namespace L2.My
open PySem PySem.Spec PyProof.Rows

/-- the kind of a right side -/
inductive RT (H : Hp) : V → Value → Prop
  | str (x : Str) : RT H (.str x) (.type "str")
  | ins {a C dx : Addr} {fs : List (Str × V)} (e : H a = some (.ins C dx fs)) : RT H (.ref a) (.ref C)
/-- the text's own __eq__ of the class at C keeps sp; != is object's -/
structure EqDef (P : Program) (w : World) (K : W.Frag) (mg : Str → Option Value) (base : Heap) (n : Nat) (C : Addr) (sp : Sp) : Prop where
  ex : ∃ (f : Addr) (fd : FuncData) (ps : List Str), W.findIn K (.ref C) "__eq__" = some (some (.ref f)) ∧ W.isFn K (.ref f) = true ∧ FnG P w K mg base (L2.CX P w) n f fd ps sp ∧ Binds K fd ps []
  ne : W.findIn K (.ref C) "__ne__" = some (some (.builtin "object.__ne__"))
  ob : W.mroIn K C (.type "object") = some true
abbrev BoolQ (pos : Bool) (Q : VK) : VK := fun v H => ∃ b, v = .bl b ∧ Q (.bl (pos == b)) H
def rEqO (K : W.Frag) (D : Addr → Sp → Prop) (pos : Bool) : R2 := fun x y H Q => ∃ (a C dx : Addr) (fs : List (Str × V)), x = .ref a ∧ H a = some (.ins C dx fs) ∧
  ((∃ (tb : Value) (sp : Sp), RT H y tb ∧ W.notFirst K C tb = true ∧ D C sp ∧ sp [x, y] H (BoolQ pos Q) E0) ∨
    ∃ (b C' dy : Addr) (gs : List (Str × V)) (sp : Sp), y = .ref b ∧ H b = some (.ins C' dy gs) ∧ C' ≠ C ∧ W.subIn K (.ref C') (.ref C) = some true ∧ D C' sp ∧ sp [y, x] H (BoolQ pos Q) E0)
section
variable {X : Cx} {n : Nat} {f : Addr} {fd : FuncData} {ps : List Str} {sp : Sp} {A : Around} {pins : List (Addr × Obj)} {σ : St} {H : Hp} {s : Shared} {Q : VK} {us : List Value} {vs : List V} {D : Addr → Sp → Prop}
theorem passE0 {X : Cx} : Passes (L2.CX X.prog X.w) X E0 := fun pins σ H s e s' I ⟨a, B, H', cls, d, _, _, _, _, _, _, _, q⟩ => q.elim
theorem run_at (F : FnG X.prog X.w X.K X.mg X.base (L2.CX X.prog X.w) n f fd ps sp) (hb : Binds X.K fd ps []) (hr : Room n A) (hq : Quiet A) (I : Inv X pins σ H s) (e0 : Env0 X.prog X.w X.K X.mg X.base A X.stack s H) (r : Vals vs us) (h : sp vs H Q E0) :
    wpAny (model X.prog X.w) A (call (.ref f) us) (EP X pins σ Q) X.xe s := by
  have hl : (us ++ []).length = ps.length := by
    rw [List.append_nil, ← r.length]
    exact F.many vs H Q E0 h
  have b := hb s us I.kIn hl
  rw [List.append_nil] at b
  refine wpAny_call (codeAny_mono (F.runs A X.stack s H ⟨us, []⟩ us vs Q E0 hr hq e0 b r h) fun res s' z => ?_)
  match res, z with
  | .error er, z => exact passE0 pins σ H s er s' I z
  | .ok (.ret u), z => exact I.after z
theorem op_eqO (hr : Room n X.A) (hq : Quiet X.A) (hD : ∀ C sp, D C sp → EqDef X.prog X.w X.K X.mg X.base n C sp) : OpR X (compareOp .Eq) (rEqO X.K D true) := by
  intro pins s σ H x y v u Q I rx ry h
  obtain ⟨a, C, dx, fs, rfl, ha, h⟩ := h
  obtain rfl : v = Value.ref a := rx
  obtain ⟨mA, J, _⟩ := ins_get I.hok ha
  obtain ⟨od, J, _⟩ := J.look
  show wpAny (model X.prog X.w) X.A (richCompare .Eq (.ref a) u) _ _ _
  have fin : ∀ {w' : Value} {s' : Shared}, EP X pins σ (BoolQ true Q) w' s' → W.CmpBack (EP X pins σ Q) w' s' := fun {w' s'} z => by
    obtain ⟨z', H', I', rz, b, rfl, q⟩ := z
    exact SlX.cmpback rz ⟨.bl b, H', I', rz, by cases b <;> exact q⟩
  rcases h with ⟨tb, sp, rt, hn, dc, q⟩ | ⟨b, C', dy, gs, sp, rfl, hb, ne, sub, dc, q⟩
  · obtain ⟨⟨f, fd, ps, hs, hf, F, hb⟩, _, _⟩ := hD _ _ dc
    have lk : W.Looks (model X.prog X.w) s.heap (typeOf u) tb := by
      cases rt with
      | str x =>
        obtain ⟨t, e⟩ := (show ∃ t, u = Value.str x t from ry)
        rw [e]
        exact W.Looks.of_pure rfl
      | ins e =>
        obtain rfl := (show u = Value.ref _ from ry)
        obtain ⟨mB, J', _⟩ := ins_get I.hok e
        obtain ⟨od', J', _⟩ := J'.look
        exact J'.type
    exact Mine.rc_left (op := .Eq) hr.units0 I.kIn J lk hn (Mine.try_own I.kIn J hs hf (wpAny_mono (run_at (vs := [.ref a, y]) F hb hr hq I I.env0 (.cons rfl (.cons ry .nil)) q) (fun _ _ z => fin z) fun _ _ e => e))
  · obtain ⟨⟨f, fd, ps, hs, hf, F, hbd⟩, _, _⟩ := hD _ _ dc
    obtain rfl := (show u = Value.ref _ from ry)
    obtain ⟨mB, J', _⟩ := ins_get I.hok hb
    obtain ⟨od', J', _⟩ := J'.look
    exact Mine.rc_right (op := .Eq) hr.units0 I.kIn J J' ne sub (Mine.try_own I.kIn J' hs hf (wpAny_mono (run_at (vs := [.ref b, .ref a]) F hbd hr hq I I.env0 (.cons ry (.cons rfl .nil)) q) (fun _ _ z => fin z) fun _ _ e => e))
theorem op_neO (hr : Room (n + 1) X.A) (hq : Quiet X.A) (hD : ∀ C sp, D C sp → EqDef X.prog X.w X.K X.mg X.base n C sp) : OpR X (compareOp .NotEq) (rEqO X.K D false) := by
  intro pins s σ H x y v u Q I rx ry h
  obtain ⟨a, C, dx, fs, rfl, ha, h⟩ := h
  obtain rfl : v = Value.ref a := rx
  obtain ⟨mA, J, _⟩ := ins_get I.hok ha
  obtain ⟨od, J, _⟩ := J.look
  show wpAny (model X.prog X.w) X.A (richCompare .NotEq (.ref a) u) _ _ _
  have hr1 : Room n X.A.in1 := hr.in1
  have hq1 : Quiet X.A.in1 := hq
  have fin : ∀ {w' : Value} {s' : Shared}, EP X pins σ (BoolQ false Q) w' s' → ∃ k, w' = .bool k ∧ EP X pins σ Q (.bool (!k)) s' := fun {w' s'} z => by
    obtain ⟨z', H', I', rz, b, rfl, q⟩ := z
    obtain rfl := (show w' = Value.bool b from rz)
    exact ⟨b, rfl, .bl (!b), H', I', rfl, by cases b <;> exact q⟩
  rcases h with ⟨tb, sp, rt, hn, dc, q⟩ | ⟨b, C', dy, gs, sp, rfl, hb, ne, sub, dc, q⟩
  · obtain ⟨⟨f, fd, ps, hs, hf, F, hb⟩, hne, hob⟩ := hD _ _ dc
    have lk : W.Looks (model X.prog X.w) s.heap (typeOf u) tb := by
      cases rt with
      | str x =>
        obtain ⟨t, e⟩ := (show ∃ t, u = Value.str x t from ry)
        rw [e]
        exact W.Looks.of_pure rfl
      | ins e =>
        obtain rfl := (show u = Value.ref _ from ry)
        obtain ⟨mB, J', _⟩ := ins_get I.hok e
        obtain ⟨od', J', _⟩ := J'.look
        exact J'.type
    exact Mine.rc_left (op := .NotEq) hr.units0 I.kIn J lk hn (Mine.try_ne hr1.units0 I.kIn J hne hob hs hf (wpAny_mono (run_at (vs := [.ref a, y]) F hb hr1 hq1 I I.env0.in1 (.cons rfl (.cons ry .nil)) q) (fun _ _ z => fin z) fun _ _ e => e))
  · obtain ⟨⟨f, fd, ps, hs, hf, F, hbd⟩, hne, hob⟩ := hD _ _ dc
    obtain rfl := (show u = Value.ref _ from ry)
    obtain ⟨mB, J', _⟩ := ins_get I.hok hb
    obtain ⟨od', J', _⟩ := J'.look
    exact Mine.rc_right (op := .NotEq) hr.units0 I.kIn J J' ne sub (Mine.try_ne hr1.units0 I.kIn J' hne hob hs hf (wpAny_mono (run_at (vs := [.ref b, .ref a]) F hbd hr1 hq1 I I.env0.in1 (.cons ry (.cons rfl .nil)) q) (fun _ _ z => fin z) fun _ _ e => e))

/-! ### repr of an own instance by the text's own __repr__ -/
structure ReprDef (P : Program) (w : World) (K : W.Frag) (mg : Str → Option Value) (base : Heap) (n : Nat) (C : Addr) (sp : Sp) : Prop where
  ex : ∃ (f : Addr) (fd : FuncData) (ps : List Str), W.findIn K (.ref C) "__repr__" = some (some (.ref f)) ∧ W.isFn K (.ref f) = true ∧ FnG P w K mg base (L2.CX P w) n f fd ps sp ∧ Binds K fd ps []
def rReprO (D : Addr → Sp → Prop) : List V → Hp → VK → Prop := fun xs H Q => ∃ (a C dx : Addr) (fs : List (Str × V)) (sp : Sp), xs = [.ref a] ∧ H a = some (.ins C dx fs) ∧ D C sp ∧ sp [.ref a] H (fun v H' => ∃ y, v = .str y ∧ Q (.str y) H') E0
theorem call_reprO (hr : Room (n + 1) X.A) (hq : Quiet X.A) (hD : ∀ C sp, D C sp → ReprDef X.prog X.w X.K X.mg X.base n C sp) : CallR X (.builtin "repr") (rReprO D) := by
  intro pins s σ H xs us Q I r h
  obtain ⟨a, C, dx, fs, sp, rfl, ha, dc, q⟩ := h
  cases r with
  | cons r0 r1 =>
    cases r1
    obtain rfl := r0
    obtain ⟨mA, J, _⟩ := ins_get I.hok ha
    obtain ⟨od, J, _⟩ := J.look
    obtain ⟨f, fd, ps, hs, hf, F, hb⟩ := (hD _ _ dc).ex
    obtain ⟨m, fr⟩ := I.fr
    have hr1 : Room n X.A.in1 := hr.in1
    have hq1 : Quiet X.A.in1 := hq
    refine W.repr_K hr1.units0 fr I.ok.mod.kin J hs hf (wpAny_mono (run_at (vs := [.ref a]) F hb hr1 hq1 I I.env0.in1 (.cons rfl .nil) q) (fun v s' z => ?_) fun _ _ e => e)
    obtain ⟨z', H', I', rz, y, rfl, q2⟩ := z
    obtain ⟨t, e⟩ := (show ∃ t, v = Value.str y t from rz)
    subst e
    exact ⟨.str y, H', I', ⟨t, rfl⟩, q2⟩
end
end L2.My
/-! repr of data of any kind and of own instances; isinstance of a kept exception and of the rest -/
namespace L2.My
open PySem PySem.Spec PyProof.Rows
def rReprA (K : W.Frag) (D : Addr → Sp → Prop) : List V → Hp → VK → Prop := fun xs H Q => (∃ (v : V) (d : PyData), xs = [v] ∧ Dq K H v d ∧ d.showable = true ∧ d.depth ≤ 60 ∧ d.shown.length ≤ sizeLine ∧ Q (.str d.shown) H) ∨ rReprO D xs H Q
section
variable {X : Cx} {m : Str → Option Value} {n : Nat} {D : Addr → Sp → Prop}
theorem call_reprA (hs : X.base.Ns sysModules m) (hq : Quiet X.A) (hr : Room (n + 1) X.A) (hD : ∀ C sp, D C sp → ReprDef X.prog X.w X.K X.mg X.base n C sp) : CallR X (.builtin "repr") (rReprA X.K D) := by
  intro pins s σ H xs us Q I r h
  rcases h with ⟨v, d, rfl, hd, h1, h2, h3, q⟩ | h
  · have hu : X.A.units + 64 < cLine := hr.units
    cases r with
    | cons r0 r1 =>
      cases r1
      have ok : ∀ {h' : Heap} {tk u : Nat}, (∀ b o, s.heap.get? b = some o → h'.get? b = some o) → EP X pins σ Q (.str d.shown u) { s with heap := h', toks := tk } := fun {h' tk u} hk => ⟨.str d.shown, H, I.kept hk, ⟨u, rfl⟩, q⟩
      cases hd with
      | non =>
        obtain rfl := r0
        simp only [PyData.shown] at ok h3
        exact PySem.P.repr_of_none (ok fun _ _ z => z)
      | bl b =>
        obtain rfl := r0
        simp only [PyData.shown] at ok h3
        refine PySem.P.repr_of_bool ?_
        cases b <;> exact ok fun _ _ z => z
      | int i =>
        obtain ⟨t, rfl⟩ := r0
        simp only [PyData.shown] at ok h3
        simp only [PyData.showable, decide_eq_true_eq] at h1
        exact PySem.P.repr_of_int h1 (ok fun _ _ z => z)
      | str x =>
        obtain ⟨t, rfl⟩ := r0
        simp only [PyData.shown] at ok h3
        exact PySem.P.repr_of_str (ok fun _ _ z => z) h3
      | lst e a => exact call_repr hs hq hu pins s σ H _ _ Q I (.cons r0 .nil) ⟨_, _, rfl, .lst e a, h1, h2, h3, q⟩
      | tup e a => exact call_repr hs hq hu pins s σ H _ _ Q I (.cons r0 .nil) ⟨_, _, rfl, .tup e a, h1, h2, h3, q⟩
      | dic e a => exact call_repr hs hq hu pins s σ H _ _ Q I (.cons r0 .nil) ⟨_, _, rfl, .dic e a, h1, h2, h3, q⟩
  · exact call_reprO hr hq hD pins s σ H xs us Q I r h
def rIsA (K : W.Frag) : List V → Hp → VK → Prop := fun xs H Q => rIsi K xs H Q ∨ rIsZ K xs H Q
theorem call_isA : CallR X (.builtin "isinstance") (rIsA X.K) := by
  intro pins s σ H xs us Q I r h
  rcases h with h | h
  · exact call_isi pins s σ H xs us Q I r h
  · exact call_isZ pins s σ H xs us Q I r h
end
end L2.My
/-! The pen of the laws; steps of readings; lists of data -/
namespace L2.My
open PySem PySem.Spec PyProof.Rows
structure PenAt (H : Hp) (p q : Addr) (ns : List Int) (at' big : Int) : Prop where
  pen : H p = some (.lst [.ref q, .int at', .int big])
  cells : H q = some (.lst (ns.map V.int))
  a0 : 0 ≤ at'
  a1 : at' ≤ 100000
  b0 : 0 ≤ big
def spDraw : Sp := fun vs H Q _ => ∃ (p q : Addr) (ns : List Int) (at' big many : Int), vs = [.ref p, .int many] ∧ 0 < many ∧ many.natAbs < 2 ^ 200 ∧ PenAt H p q ns at' big ∧ at' < 100000 ∧
  ∀ (d a2 b2 : Int) (H' : Hp), 0 ≤ d → d < many → at' ≤ a2 → a2 ≤ at' + 1 → 0 ≤ b2 → But H H' p → H' p = some (.lst [.ref q, .int a2, .int b2]) → Q (.int d) H'
theorem But.del {H H' : Hp} {p : Addr} (h : But H H' p) : Same (del H p) (del H' p) := fun b o e => by
  by_cases z : b = p
  · rw [z, del_same] at e; cases e
  · rw [del_ne z] at e ⊢
    exact h b o z e
theorem del_le {H : Hp} {p : Addr} : Same (del H p) H := fun b o e => by
  by_cases z : b = p
  · rw [z, del_same] at e; cases e
  · rw [del_ne z] at e
    exact e
theorem Rd.same {H H' : Hp} {a : Addr} {o : HO} (s : Same H H') (h : Rd H a o) : Rd H' a o := by
  rcases h with h | ⟨ob, h⟩
  · exact .inl (s _ _ h)
  · exact .inr ⟨ob, s _ _ h⟩
theorem SqL.same {K : W.Frag} {H H' : Hp} {a : Addr} {xs : List V} (s : Same H H') (h : SqL K H a xs) : SqL K H' a xs := h.imp (Rd.same s) id
theorem SqT.same {K : W.Frag} {H H' : Hp} {a : Addr} {xs : List V} (s : Same H H') (h : SqT K H a xs) : SqT K H' a xs := h.imp (Rd.same s) id
mutual
theorem Dq.same {K : W.Frag} {H H' : Hp} (s : Same H H') : ∀ {v : V} {d : PyData}, Dq K H v d → Dq K H' v d
  | _, _, .non => .non
  | _, _, .bl b => .bl b
  | _, _, .int i => .int i
  | _, _, .str x => .str x
  | _, _, .lst h1 h2 => .lst (SqL.same s h1) (DqAll.same s h2)
  | _, _, .tup h1 h2 => .tup (SqT.same s h1) (DqAll.same s h2)
  | _, _, .dic h1 h2 => .dic (s _ _ h1) (DqKv.same s h2)
theorem DqAll.same {K : W.Frag} {H H' : Hp} (s : Same H H') : ∀ {v : List V} {d : List PyData}, DqAll K H v d → DqAll K H' v d
  | _, _, .nil => .nil
  | _, _, .cons h1 h2 => .cons (Dq.same s h1) (DqAll.same s h2)
theorem DqKv.same {K : W.Frag} {H H' : Hp} (s : Same H H') : ∀ {v : List (Key × V)} {d : List (PyData × PyData)}, DqKv K H v d → DqKv K H' v d
  | _, _, .nil => .nil
  | _, _, .cons h1 h2 => .cons (Dq.same s h1) (DqKv.same s h2)
end
/-- a value that is data of a small text -/
def Thing (K : W.Frag) (H : Hp) (v : V) : Prop := ∃ d, Dq K H v d ∧ d.showable = true ∧ d.depth ≤ 3 ∧ d.shown.length ≤ 60
theorem Thing.same {K : W.Frag} {H H' : Hp} {v : V} (s : Same H H') : Thing K H v → Thing K H' v := fun ⟨d, h, r⟩ => ⟨d, h.same s, r⟩
theorem thing_int {K : W.Frag} {H : Hp} {i : Int} (h : i.natAbs < 10 ^ 9) : Thing K H (.int i) := by
  refine ⟨.int i, .int i, ?_, ?_, ?_⟩
  · simp only [PyData.showable, decide_eq_true_eq]
    exact PySem.Flt.log2_lt_of (by decide) (Nat.lt_of_lt_of_le h (Nat.le_trans (by decide : 10 ^ 9 ≤ 2 ^ 30) (Nat.pow_le_pow_right (by decide) (by decide))))
  · simp [PyData.depth]
  · exact Nat.le_trans (PyData.shown_int_le (Nat.lt_of_lt_of_le h (by decide))) (by decide)
def spPen (K : W.Frag) : Sp := fun vs H Q _ => ∃ (a : Addr) (ns : List Int), vs = [.ref a] ∧ SqL K H a (ns.map V.int) ∧
  ∀ (p q : Addr) (ms : List Int) (H' : Hp), Same H H' → H p = none → PenAt H' p q ms 0 0 → Q (.ref p) H'
theorem cut_ints (ns : List Int) (lo hi : Option Int) : ∃ ms : List Int, cutV (ns.map V.int) lo hi = ms.map V.int := by
  unfold cutV
  rw [← List.map_drop, ← List.map_take]
  exact ⟨_, rfl⟩
theorem PenAt.next {H H' : Hp} {p q : Addr} {ns : List Int} {a b a2 b2 : Int} (h : PenAt H p q ns a b) (s : But H H' p) (e : H' p = some (.lst [.ref q, .int a2, .int b2])) (h1 : a ≤ a2) (h2 : a2 ≤ 100000) (h3 : 0 ≤ b2) : PenAt H' p q ns a2 b2 := by
  have a0 := h.a0
  refine ⟨e, s _ _ (fun z => ?_) h.cells, by omega, h2, h3⟩
  have c := h.cells
  rw [z, h.pen] at c
  have c2 := Option.some.inj c
  injection c2 with c3
  cases ns with
  | nil => cases c3
  | cons n r => cases c3
theorem PenAt.same {H H' : Hp} {p q : Addr} {ns : List Int} {a b : Int} (h : PenAt H p q ns a b) (s : Same H H') : PenAt H' p q ns a b := ⟨s _ _ h.pen, s _ _ h.cells, h.a0, h.a1, h.b0⟩
theorem nth {xs : List V} {d : Int} (h0 : 0 ≤ d) (h1 : d < (xs.length : Int)) : ∃ v, v ∈ xs ∧ atI xs d = some v := by
  have lt : d.toNat < xs.length := by omega
  refine ⟨xs[d.toNat], List.getElem_mem lt, ?_⟩
  have e := atI_nat (xs := xs) (j := d.toNat) (v := xs[d.toNat]) (List.getElem?_eq_getElem lt)
  rw [Int.toNat_of_nonneg h0] at e
  exact e
theorem thing_of {K : W.Frag} {H : Hp} {v : V} {d : PyData} (h : Dq K H v d) (h1 : d.showable = true) (h2 : d.depth ≤ 3) (h3 : d.shown.length ≤ 60) : Thing K H v := ⟨d, h, h1, h2, h3⟩
/-- heaps that grow, r aside -/
theorem grow {H : Hp} {r a : Addr} {o u : HO} (hr : H r = some o) (ha : H a = none) : a ≠ r ∧ L2.upd H a u r = some o := ⟨Ne.symm (ne_of_none hr ha), by rw [upd_ne (ne_of_none hr ha)]; exact hr⟩
theorem del_at {H : Hp} {r a : Addr} {o : HO} (n : a ≠ r) (h : H a = some o) : del H r a = some o := by rw [del_ne n]; exact h
section
variable {K : W.Frag} {C a : Addr} {f g : Str} {io i2 : Nat} {σ : St} {H : Hp} {v v2 : V} {Q : VK} {fs : List (Str × V)}
def Sm (d : PyData) : Prop := d.showable = true ∧ d.depth ≤ 3 ∧ d.shown.length ≤ 60
theorem sm_all : ∀ ds : List PyData, (∀ d ∈ ds, Sm d) → PyData.showableAll ds = true ∧ PyData.depthAll ds ≤ 3 ∧ ((PyData.shownAll ds).map (·.length)).sum ≤ 60 * ds.length ∧ (PyData.shownAll ds).length = ds.length
  | [], _ => by simp [PyData.showableAll, PyData.depthAll, PyData.shownAll]
  | d :: r, h => by
    obtain ⟨h1, h2, h3, h4⟩ := sm_all r (fun x z => h x (List.mem_cons_of_mem _ z))
    obtain ⟨k1, k2, k3⟩ := h d (by simp)
    refine ⟨by simp [PyData.showableAll, h1, k1], ?_, ?_, by simp [PyData.shownAll, h4]⟩
    · simp only [PyData.depthAll]; omega
    · simp only [PyData.shownAll, List.map_cons, List.sum_cons, List.length_cons]; omega
theorem repr_ds {l : Addr} {vs : List V} {ds : List PyData} (e : H l = some (.lst vs)) (h : DqAll K H vs ds) (hs : ∀ d ∈ ds, Sm d) (n : ds.length ≤ 16) (q : Q (.str (PyData.shown (.list ds))) H) : rRepr K [.ref l] H Q := by
  obtain ⟨h1, h2, h3, h4⟩ := sm_all ds hs
  refine g_repr (.lst (.inl (.inl e)) h) (by simp only [PyData.showable]; exact h1) (by simp only [PyData.depth]; omega) ?_ q
  simp only [PyData.shown]
  refine Nat.le_trans (listText_len_le _) (Nat.le_trans ?_ (Nat.le_of_lt (small1000 (Nat.le_refl 1000))))
  rw [h4]
  omega
theorem step {R : Hp → Prop} {Hx : Hp} (k : ∀ H', Same Hx H' → R H') : R Hx := k Hx (Same.refl _)
theorem step2 {R : Hp → VK → Prop} {Hx : Hp} (k : ∀ H', Same Hx H' → R H' Q) : R Hx Q := k Hx (Same.refl _)
theorem eqU_self {b : Bool} {x : Str} (h : Q (.bl b) H) : rEqU K b (.str x) (.str x) H Q := by
  refine eqU_s (by simp [scal]) ?_
  rw [decide_eq_true rfl]
  cases b <;> exact h
theorem lk1 {r : List (Str × V)} : List.lookup g ((g, v) :: r) = some v := by simp [List.lookup]
theorem lk2 (fg : (f == g) = false) : List.lookup f [(g, v), (f, v2)] = some v2 := by simp [List.lookup, fg]
theorem g_set {te : TE} {i : Nat} {u : TS} {D : Ends} (h : te σ H fun v H1 => u D (σ.set i (some v)) H1) : tSeq (tAsg te (gName i)) u D σ H := h
end
theorem g_for {n : Nat} {g : TG} {tb u : TS} {D : Ends} {σ : St} {H : Hp} (hn : n < 2 ^ 62) (Pv : Nat → St → Hp → Prop) (h0 : Pv 0 σ H)
    (hs : ∀ i σ H, i < n → Pv i σ H → g (.int (0 + (i : Int))) σ H fun σ2 H2 => tb { D with nx := Pv (i + 1), ct := Pv (i + 1), bk := u D } σ2 H2) (hd : ∀ σ H, Pv n σ H → u D σ H) :
    tSeq (tFor (iRng1 (tCons (tC (.int (n : Int))) tNil)) g tb) u D σ H :=
  ⟨n, rfl, by omega, by omega, for_range Pv h0 hs hd⟩
theorem neU_ints {K : W.Frag} {H : Hp} {Q : VK} {p q : Addr} {ns : List Int} (e1 : SqL K H p (ns.map V.int)) (e2 : SqL K H q (ns.map V.int)) (h : Q (.bl false) H) : rEqU K false (.ref p) (.ref q) H Q :=
  eqU_ints e1 e2 (by rw [decide_eq_true rfl]; exact h)
theorem neU_bls {K : W.Frag} {H : Hp} {Q : VK} {p q : Addr} {ns : List Bool} (e1 : SqL K H p (ns.map V.bl)) (e2 : SqL K H q (ns.map V.bl)) (h : Q (.bl false) H) : rEqU K false (.ref p) (.ref q) H Q :=
  eqU_bls e1 e2 (by rw [decide_eq_true rfl]; exact h)
theorem step3 {R : Hp → VK → XK → Prop} {Hx : Hp} {Q : VK} {E : XK} (k : ∀ H', Same Hx H' → R H' Q E) : R Hx Q E := k Hx (Same.refl _)
theorem things_all {K : W.Frag} {H : Hp} : ∀ {ys : List V}, (∀ y ∈ ys, Thing K H y) → ∃ ds, DqAll K H ys ds ∧ (∀ d ∈ ds, Sm d) ∧ ds.length = ys.length
  | [], _ => ⟨[], .nil, by simp, rfl⟩
  | y :: r, h => by
    obtain ⟨d, h1, h2⟩ := h y (by simp)
    obtain ⟨ds, h3, h4, h5⟩ := things_all (ys := r) fun x z => h x (List.mem_cons_of_mem _ z)
    refine ⟨d :: ds, .cons h1 h3, ?_, by simp [h5]⟩
    intro x z
    rcases List.mem_cons.mp z with rfl | z
    · exact h2
    · exact h4 x z
theorem paired_at {α β : Type} {R : α → β → Prop} : ∀ {xs : List α} {ys : List β}, Paired R xs ys → ∀ {k : Nat} {y : β}, ys[k]? = some y → ∃ x, xs[k]? = some x ∧ R x y
  | _, _, .nil, k, y, h => by simp at h
  | _, _, .cons r rs, 0, y, h => by
    simp only [List.getElem?_cons_zero, Option.some.injEq] at h
    subst h
    exact ⟨_, rfl, r⟩
  | _, _, .cons r rs, k + 1, y, h => by
    simp only [List.getElem?_cons_succ] at h ⊢
    exact paired_at rs h
theorem paired_len {α β : Type} {R : α → β → Prop} : ∀ {xs : List α} {ys : List β}, Paired R xs ys → xs.length = ys.length
  | _, _, .nil => rfl
  | _, _, .cons _ rs => by rw [List.length_cons, List.length_cons, paired_len rs]
theorem paired_app {α β : Type} {R : α → β → Prop} : ∀ {xs xs2 : List α} {ys ys2 : List β}, Paired R xs ys → Paired R xs2 ys2 → Paired R (xs ++ xs2) (ys ++ ys2)
  | _, _, _, _, .nil, h => h
  | _, _, _, _, .cons r rs, h => .cons r (paired_app rs h)
theorem paired_mono {α β : Type} {R R' : α → β → Prop} (hm : ∀ a b, R a b → R' a b) : ∀ {xs : List α} {ys : List β}, Paired R xs ys → Paired R' xs ys
  | _, _, .nil => .nil
  | _, _, .cons r rs => .cons (hm _ _ r) (paired_mono hm rs)
theorem atI_nat {α : Type} {xs : List α} {k : Nat} : atI xs (k : Int) = xs[k]? := by
  have h : ixN xs.length (k : Int) = if k < xs.length then some k else none := by
    unfold ixN
    rw [if_pos (Int.natCast_nonneg k)]
    by_cases hk : k < xs.length
    · rw [if_pos hk, if_pos (by omega)]; simp
    · rw [if_neg hk, if_neg (by omega)]
  unfold atI
  rw [h]
  by_cases hk : k < xs.length
  · rw [if_pos hk]; rfl
  · rw [if_neg hk]; exact (List.getElem?_eq_none (by omega)).symm
section
variable {σ : St} {H : Hp} {Q : VK} {ta tb : TE}
theorem g_av (h : ta σ H fun x H1 => ∃ c, x = .bl c ∧ if c = true then tb σ H1 Q else Q (.bl false) H1) : tAndV ta tb σ H Q := h
theorem g_ov (h : ta σ H fun x H1 => ∃ c, x = .bl c ∧ if c = true then Q (.bl true) H1 else tb σ H1 Q) : tOrV ta tb σ H Q := h
theorem g_nv (h : ta σ H fun x H1 => ∃ c, x = .bl c ∧ Q (.bl (!c)) H1) : tNotV ta σ H Q := h
theorem g_bT {R S : Prop} (h : R) : ∃ c, V.bl true = .bl c ∧ if c = true then R else S := ⟨true, rfl, by rw [if_pos rfl]; exact h⟩
theorem g_bF {R S : Prop} (h : S) : ∃ c, V.bl false = .bl c ∧ if c = true then R else S := ⟨false, rfl, by rw [if_neg (by decide)]; exact h⟩
theorem g_bN {b : Bool} {R : Bool → Prop} (h : R (!b)) : ∃ c, V.bl b = .bl c ∧ R (!c) := ⟨b, rfl, h⟩
end
end L2.My
/-! raise X(e) of an own class whose __init__ stores its parameter; calls of defs by name -/
namespace L2.My
open PySem PySem.Spec PyProof.Rows
section
variable {P : Program} {w : World} {K : W.Frag} {mg : Str → Option Value} {base : Heap} {C f1 : Addr} {fd : FuncData} {q : Str} {st : Stmt} {f : Str} {p1 p2 p3 p4 : Pos}
theorem iniF1 (F : Fun K "__init__" q st f1 fd) (S : FnScope ["self", f] ["self", f] (defScope st)) (hb : defBody st = [.Assign [.Attribute (.Name "self" p1) f p2] (.Name f p3) p4]) (T : ExK K C) (ht : W.takerIn K C f = some none)
    (hd : (f == ("__debug__" : Str)) = false) (hcd : (f == ("__classdict__" : Str)) = false) : FnOk P w K mg base CX0 1 f1 fd [("self" : Str), f] (spIni C [f]) := by
  refine F.ok S ?_ ?_
  · rintro vs H Q E ⟨a, ys, rfl, hl, _⟩
    rw [List.length_cons, hl]; rfl
  · rintro cdv A outer s H vs Q E hr ⟨a, ys, rfl, hl, ea, z⟩
    match ys, hl with
    | [y], _ =>
      rw [hb]
      refine ⟨_, pss_one (ps_efl (pv 0 rfl (par_vis S (by simp)) rfl rfl) (pv 1 rfl (par_vis S (by simp)) hd hcd)), ?_⟩
      exact ⟨_, rfl, _, rfl, a, C, rfl, T, ht, .inl ⟨ea, fun dx n ne => z dx n ne⟩⟩
end
/-- an own class of exceptions over ValueError with one field, as a thing to raise -/
structure ExR (P : Program) (w : World) (K : W.Frag) (mg : Str → Option Value) (base : Heap) (x : Str) (C : Addr) (f : Str) : Prop where
  oex : OexC K C
  nm : mg x = some (.ref C)
  ini : ∃ (fI : Addr) (fd : FuncData), W.findIn K (.ref C) "__init__" = some (some (.ref fI)) ∧ W.typeIn K (.ref fI) = some (.type "function") ∧ FnOk P w K mg base CX0 1 fI fd [("self" : Str), f] (spIni C [f]) ∧ Binds K fd [("self" : Str), f] []
section
variable {X : Cx} {C : Addr} {x f : Str} {e : Expr} {te : TE} {p pos : Pos}
theorem pmk_exr (M : ExR X.prog X.w X.K X.mg X.base x C f) (hr : Room 2 X.A) (hg : Gl X x) (ha : PA X [e] (tCons te tNil)) (hdb : (x == ("__debug__" : Str)) = false := by decide)
    (hst : starEach [e] X.env = (false, eval e X.env) :: starEach [] X.env := by rfl) : PMk X (.Call (.Name x p) [e] [] pos) (tMkO C (spIni C [f]) [] (tCons te tNil)) := by
  obtain ⟨fI, fd, hi, ht, F, hb⟩ := M.ini
  exact pmk_oex M.oex hi ht F hr hb .nil pass0 hg M.nm ha hdb hst rfl
theorem mkO1 {σ : St} {H : Hp} {Q : XK} (mono : ∀ (R R' : VK), (∀ v H', R v H' → R' v H') → te σ H R → te σ H R') (h : te σ H fun y H1 => ∀ (d : Addr) (H' : Hp), Same H1 H' → H' d = some (.xd [(f, y)]) → Q (.ref C) (some d) H') : tMkO C (spIni C [f]) [] (tCons te tNil) σ H Q := by
  refine mono _ _ (fun y H1 z => ?_) h
  refine ⟨Nat.le_of_ble_eq_true rfl, fun a na => ⟨a, [y], rfl, rfl, upd_same, fun dx nd ne => ⟨rfl, dx, [(f, y)], upd_same, by rw [upd_ne ne, upd_same]; rfl, ?_, ?_⟩⟩⟩
  · rwa [upd_ne ne] at nd
  · have nd1 : H1 dx = none := by rwa [upd_ne ne] at nd
    refine z dx _ (fun b o e => ?_) (by rw [upd_same])
    have h1 := ne_of_none e na
    have h2 := ne_of_none e nd1
    rw [upd_ne h2, del_ne h1, upd_ne h1, upd_ne h2, upd_ne h1]
    exact e
end
/-- a def of the module by its name, with its promise -/
structure CalO (P : Program) (w : World) (K : W.Frag) (mg : Str → Option Value) (base : Heap) (CX : CXT) (k : Nat) (x : Str) (sp : Sp) : Prop where
  ex : ∃ (f : Addr) (fd : FuncData) (ps : List Str), FnOk P w K mg base CX k f fd ps sp ∧ mg x = some (.ref f) ∧ W.keepIn K (.ref f) = true ∧ Binds K fd ps []
theorem CalO.g {P : Program} {w : World} {K : W.Frag} {mg : Str → Option Value} {base : Heap} {CX : CXT} {k : Nat} {x : Str} {sp : Sp} (c : CalO P w K mg base CX k x sp) : CalG P w K mg base CX k x sp := by
  obtain ⟨f, fd, ps, F, r⟩ := c.ex
  exact ⟨f, fd, ps, .of F, r⟩
section
variable {X : Cx} {CX : CXT} {j k : Nat} {x : Str} {sp : Sp} {E : XK} {e : Expr} {es : List Expr} {t : TA} {p pos : Pos}
theorem pe_o (c : CalO X.prog X.w X.K X.mg X.base CX j x sp) (hr : Room k X.A) (hjk : j ≤ k) (hx : Passes CX X E) (hg : Gl X x) (ha : PA X (e :: es) t)
    (hdb : (x == ("__debug__" : Str)) = false := by decide) (he : starEach (e :: es) X.env = (false, eval e X.env) :: starEach es X.env := by rfl) (hpl : (backTo pos (starEach es X.env)).any (·.1) = false := by rfl) :
    PE X (.Call (.Name x p) (e :: es) [] pos) (tCall sp [] E t) := by
  obtain ⟨f, fd, ps, F, hm, hk, hb⟩ := c.ex
  exact pe_call F (hr.mono hjk) hg hm hk hb .nil hx ha hdb he hpl
end
end L2.My
/-! Data as trees: what a value of the heap reads as; masks; environments of data -/
namespace L2.DL
open L2 L2.My PySem PySem.Spec PyProof.Rows

/-- the hash of a tuple of ints -/
def hashT (k : List Int) : Int := reduceHash (Builtin.Tuple.tupleHashOf (k.map hashInt))
/-- a dict whose keys are tuples of ints: keys and where they stand; the values are not told -/
structure DT0 (h : Heap) (a : Addr) (L : List (List Int × Addr)) : Prop where
  ns : (a == sysModules) = false
  few : L.length ≤ sizeLine
  ob : ∃ (o : Obj) (es : Array DictEntry) (ep : Nat) (xs : List (List Int × Addr × Value)), h.get? a = some o ∧ o.ExactDict ∧ o.data = .dict es ep ∧ es.toList = xs.map (fun x => ⟨hashT x.1, .ref x.2.1, x.2.2⟩) ∧ L = xs.map (fun x => (x.1, x.2.1)) ∧ (xs.map (·.1)).Nodup
def DTO (a : Addr) (L : List (List Int × Addr)) : HO := .ext fun h => DT0 h a L
inductive D where
  | v (x : V)
  | tup (xs : List D)
  | lst (xs : List D)
  | dct (kvs : List (Key × D))
  | obj (C : Addr) (fs : List (Str × D))
  | exc (C : Addr) (fs : List (Str × D))
  | dtp (ks : List (List Int))
  deriving Inhabited
abbrev dI (i : Int) : D := .v (.int i)
abbrev dS (x : Str) : D := .v (.str x)
abbrev dB (b : Bool) : D := .v (.bl b)
abbrev dN : D := .v .non

mutual
inductive R (K : W.Frag) (G : Hp) : V → D → Prop
  | v (x : V) : R K G x (.v x)
  | tup {a : Addr} {xs : List V} {ds : List D} : SqT K G a xs → RAll K G xs ds → R K G (.ref a) (.tup ds)
  | lst {a : Addr} {xs : List V} {ds : List D} : G a = some (.lst xs) → RAll K G xs ds → R K G (.ref a) (.lst ds)
  | dct {a : Addr} {kvs : List (Key × V)} {ds : List (Key × D)} : G a = some (.dK kvs) → RKv K G kvs ds → R K G (.ref a) (.dct ds)
  | obj {a C dx : Addr} {fs : List (Str × V)} {ds : List (Str × D)} : G a = some (.ins C dx fs) → RFs K G fs ds → R K G (.ref a) (.obj C ds)
  | exc {a C dx : Addr} {fs : List (Str × V)} {ds : List (Str × D)} : G a = some (exz a (.ref C) (some dx)) → G dx = some (.xd fs) → RFs K G fs ds → R K G (.ref a) (.exc C ds)
  | dtp {a : Addr} {L : List (List Int × Addr)} {ks : List (List Int)} : G a = some (DTO a L) → (∀ q ∈ L, SqT K G q.2 (q.1.map V.int)) → ks = L.map (·.1) → R K G (.ref a) (.dtp ks)
inductive RAll (K : W.Frag) (G : Hp) : List V → List D → Prop
  | nil : RAll K G [] []
  | cons {v : V} {vs : List V} {d : D} {ds : List D} : R K G v d → RAll K G vs ds → RAll K G (v :: vs) (d :: ds)
inductive RKv (K : W.Frag) (G : Hp) : List (Key × V) → List (Key × D) → Prop
  | nil : RKv K G [] []
  | cons {k : Key} {v : V} {vs : List (Key × V)} {d : D} {ds : List (Key × D)} : R K G v d → RKv K G vs ds → RKv K G ((k, v) :: vs) ((k, d) :: ds)
inductive RFs (K : W.Frag) (G : Hp) : List (Str × V) → List (Str × D) → Prop
  | nil : RFs K G [] []
  | cons {k : Str} {v : V} {vs : List (Str × V)} {d : D} {ds : List (Str × D)} : R K G v d → RFs K G vs ds → RFs K G ((k, v) :: vs) ((k, d) :: ds)
end
section
variable {K : W.Frag} {G G' : Hp}
mutual
theorem R.same (s : Same G G') : ∀ {v : V} {d : D}, R K G v d → R K G' v d
  | _, _, .v x => .v x
  | _, _, .tup h1 h2 => .tup (SqT.same s h1) (RAll.same s h2)
  | _, _, .lst h1 h2 => .lst (s _ _ h1) (RAll.same s h2)
  | _, _, .dct h1 h2 => .dct (s _ _ h1) (RKv.same s h2)
  | _, _, .obj h1 h2 => .obj (s _ _ h1) (RFs.same s h2)
  | _, _, .exc h1 h2 h3 => .exc (s _ _ h1) (s _ _ h2) (RFs.same s h3)
  | _, _, .dtp h1 h2 h3 => .dtp (s _ _ h1) (fun q hq => SqT.same s (h2 q hq)) h3
theorem RAll.same (s : Same G G') : ∀ {v : List V} {d : List D}, RAll K G v d → RAll K G' v d
  | _, _, .nil => .nil
  | _, _, .cons h1 h2 => .cons (R.same s h1) (RAll.same s h2)
theorem RKv.same (s : Same G G') : ∀ {v : List (Key × V)} {d : List (Key × D)}, RKv K G v d → RKv K G' v d
  | _, _, .nil => .nil
  | _, _, .cons h1 h2 => .cons (R.same s h1) (RKv.same s h2)
theorem RFs.same (s : Same G G') : ∀ {v : List (Str × V)} {d : List (Str × D)}, RFs K G v d → RFs K G' v d
  | _, _, .nil => .nil
  | _, _, .cons h1 h2 => .cons (R.same s h1) (RFs.same s h2)
end
theorem RAll.len : ∀ {vs : List V} {ds : List D}, RAll K G vs ds → vs.length = ds.length
  | _, _, .nil => rfl
  | _, _, .cons _ t => by rw [List.length_cons, List.length_cons, RAll.len t]
theorem RAll.get : ∀ {vs : List V} {ds : List D} {i : Nat} {v : V}, RAll K G vs ds → vs[i]? = some v → ∃ d, ds[i]? = some d ∧ R K G v d
  | _, _, i, _, .nil, e => by simp at e
  | _, _, 0, _, .cons r _, e => by simp at e; subst e; exact ⟨_, by simp, r⟩
  | _, _, i + 1, v, .cons _ t, e => by
    obtain ⟨d, h1, h2⟩ := RAll.get (i := i) (v := v) t (by simpa using e)
    exact ⟨d, by simpa using h1, h2⟩
theorem RAll.getD : ∀ {vs : List V} {ds : List D} {i : Nat} {d : D}, RAll K G vs ds → ds[i]? = some d → ∃ v, vs[i]? = some v ∧ R K G v d
  | _, _, i, _, .nil, e => by simp at e
  | _, _, 0, _, .cons r _, e => by simp at e; subst e; exact ⟨_, by simp, r⟩
  | _, _, i + 1, v, .cons _ t, e => by
    obtain ⟨d, h1, h2⟩ := RAll.getD (i := i) (d := v) t (by simpa using e)
    exact ⟨d, by simpa using h1, h2⟩
theorem RAll.app : ∀ {vs ws : List V} {ds es : List D}, RAll K G vs ds → RAll K G ws es → RAll K G (vs ++ ws) (ds ++ es)
  | _, _, _, _, .nil, t => t
  | _, _, _, _, .cons h r, t => .cons h (RAll.app r t)
theorem RAll.take : ∀ {vs : List V} {ds : List D} (n : Nat), RAll K G vs ds → RAll K G (vs.take n) (ds.take n)
  | _, _, 0, _ => .nil
  | _, _, _ + 1, .nil => .nil
  | _, _, n + 1, .cons h r => .cons h (RAll.take n r)
theorem RAll.drop : ∀ {vs : List V} {ds : List D} (n : Nat), RAll K G vs ds → RAll K G (vs.drop n) (ds.drop n)
  | _, _, 0, r => r
  | _, _, _ + 1, .nil => .nil
  | _, _, n + 1, .cons _ r => RAll.drop n r
theorem RAll.set {v : V} {d : D} (h : R K G v d) : ∀ {vs : List V} {ds : List D} (n : Nat), RAll K G vs ds → RAll K G (vs.set n v) (ds.set n d)
  | _, _, _, .nil => .nil
  | _, _, 0, .cons _ r => .cons h r
  | _, _, n + 1, .cons q r => .cons q (RAll.set h n r)
theorem RAll.erase : ∀ {vs : List V} {ds : List D} (n : Nat), RAll K G vs ds → RAll K G (vs.eraseIdx n) (ds.eraseIdx n)
  | _, _, _, .nil => .nil
  | _, _, 0, .cons _ r => r
  | _, _, n + 1, .cons q r => .cons q (RAll.erase n r)
theorem RAll.rev {vs : List V} {ds : List D} (h : RAll K G vs ds) : RAll K G vs.reverse ds.reverse := by
  induction h using RAll.rec (motive_1 := fun _ _ _ => True) (motive_3 := fun _ _ _ => True) (motive_4 := fun _ _ _ => True) with
  | nil => exact .nil
  | cons a b _ ih => rw [List.reverse_cons, List.reverse_cons]; exact ih.app (.cons a .nil)
  | _ => trivial
/-- scalars: data that the heap does not matter to -/
theorem RAll.vs : ∀ {vs : List V} {xs : List V}, RAll K G vs (xs.map D.v) → vs = xs
  | _, [], h => by cases h; rfl
  | _, x :: xs, h => by
    cases h with
    | cons h1 h2 => cases h1; rw [RAll.vs h2]
theorem RAll.ofV : ∀ {xs : List V}, RAll K G xs (xs.map D.v)
  | [] => .nil
  | x :: xs => .cons (.v x) RAll.ofV
theorem RKv.keys : ∀ {vs : List (Key × V)} {ds : List (Key × D)}, RKv K G vs ds → vs.map (·.1) = ds.map (·.1)
  | _, _, .nil => rfl
  | _, _, .cons _ t => by rw [List.map_cons, List.map_cons, RKv.keys t]
theorem RKv.len {vs : List (Key × V)} {ds : List (Key × D)} (h : RKv K G vs ds) : vs.length = ds.length := by
  have := congrArg List.length h.keys
  simpa using this
end

/-! ### masks -/
abbrev Msk := Addr → Prop
noncomputable def cut (M : Msk) (H : Hp) : Hp := fun a => open Classical in if M a then none else H a
section
variable {M M' : Msk} {H H' : Hp} {a : Addr} {o : HO}
theorem cut_out (h : ¬ M a) : cut M H a = H a := by unfold cut; rw [if_neg h]
theorem cut_in (h : M a) : cut M H a = none := by unfold cut; rw [if_pos h]
theorem of_cut (h : cut M H a = some o) : ¬ M a ∧ H a = some o := by
  by_cases z : M a
  · rw [cut_in z] at h; cases h
  · rw [cut_out z] at h; exact ⟨z, h⟩
theorem cut_le : Same (cut M H) H := fun b o e => (of_cut e).2
theorem cut_mono (h : ∀ a, M' a → M a) : Same (cut M H) (cut M' H) := fun b o e => by
  obtain ⟨n, e⟩ := of_cut e
  rw [cut_out fun z => n (h b z)]
  exact e
theorem cut_step (h : ∀ a o, ¬ M a → H a = some o → H' a = some o) : Same (cut M H) (cut M H') := fun b o e => by
  obtain ⟨n, e⟩ := of_cut e
  rw [cut_out n]
  exact h b o n e
end

/-! ### what an object of one's own holds -/
inductive Cell where
  | lst (xs : List D)
  | dct (kvs : List (Key × D))
  | obj (C : Addr) (fs : List (Str × D))
def Cell.toD : Cell → D
  | .lst xs => .lst xs
  | .dct xs => .dct xs
  | .obj C xs => .obj C xs
def CellR (K : W.Frag) (G H : Hp) (a : Addr) : Cell → Prop
  | .lst xs => ∃ vs, H a = some (.lst vs) ∧ RAll K G vs xs
  | .dct xs => ∃ vs, H a = some (.dK vs) ∧ RKv K G vs xs
  | .obj C xs => ∃ dx vs, H a = some (.ins C dx vs) ∧ RFs K G vs xs
section
variable {K : W.Frag} {G G' H H' : Hp} {a : Addr} {c : Cell}
theorem CellR.move (s : Same G G') (k : ∀ o, H a = some o → H' a = some o) (h : CellR K G H a c) : CellR K G' H' a c := by
  cases c with
  | lst xs => obtain ⟨vs, e, r⟩ := h; exact ⟨vs, k _ e, RAll.same s r⟩
  | dct xs => obtain ⟨vs, e, r⟩ := h; exact ⟨vs, k _ e, RKv.same s r⟩
  | obj C xs => obtain ⟨dx, vs, e, r⟩ := h; exact ⟨dx, vs, k _ e, RFs.same s r⟩
theorem CellR.some (h : CellR K G H a c) : ∃ o, H a = some o := by
  cases c with
  | lst xs => obtain ⟨vs, e, r⟩ := h; exact ⟨_, e⟩
  | dct xs => obtain ⟨vs, e, r⟩ := h; exact ⟨_, e⟩
  | obj C xs => obtain ⟨dx, vs, e, r⟩ := h; exact ⟨_, e⟩
theorem CellR.there (h : CellR K G H a c) : H a ≠ none := by
  obtain ⟨o, e⟩ := h.some
  rw [e]
  exact fun z => by cases z
theorem CellR.strict {m : Msk} (n : ¬ m a) (h : CellR K (cut m H) H a c) : R K (cut m H) (.ref a) c.toD := by
  cases c with
  | lst xs => obtain ⟨vs, e, r⟩ := h; exact .lst (by rw [cut_out n]; exact e) r
  | dct xs => obtain ⟨vs, e, r⟩ := h; exact .dct (by rw [cut_out n]; exact e) r
  | obj C xs => obtain ⟨dx, vs, e, r⟩ := h; exact .obj (by rw [cut_out n]; exact e) r
end
/-! ### a value that is lent: its own object may be masked, what it holds is not -/
def RBo (K : W.Frag) (g o m : Msk) (H : Hp) (v : V) (d : D) : Prop := R K (cut m H) v d ∨ ∃ (a : Addr) (c : Cell), v = .ref a ∧ d = c.toD ∧ (o a ∧ ¬ g a) ∧ CellR K (cut m H) H a c
abbrev RB (K : W.Frag) (g m : Msk) (H : Hp) (v : V) (d : D) : Prop := RBo K g m m H v d
/-- a new object, which nothing else holds -/
def RF (K : W.Frag) (m : Msk) (H0 H : Hp) (v : V) (d : D) : Prop := ∃ (a : Addr) (c : Cell), v = .ref a ∧ d = c.toD ∧ H0 a = none ∧ CellR K (cut (fun b => m b ∨ b = a) H) H a c
/-- lent, strict, new -/
inductive Mo | b | s | f
  deriving DecidableEq
def RR (K : W.Frag) (g : Msk) : Mo → Msk → Hp → Hp → V → D → Prop
  | .b, m, _, H, v, d => RB K g m H v d
  | .s, m, _, H, v, d => R K (cut m H) v d
  | .f, m, H0, H, v, d => RF K m H0 H v d
section
variable {K : W.Frag} {g o m : Msk} {H0 H H' : Hp} {v : V} {d : D}
theorem RBo.sc {x : V} (h : RBo K g o m H v (.v x)) : v = x := by
  rcases h with h | ⟨_, c, _, e, _⟩
  · cases h; rfl
  · cases c <;> cases e
theorem RBo.lst {ds : List D} (h : RBo K g o m H v (.lst ds)) : ∃ a xs, v = .ref a ∧ H a = some (.lst xs) ∧ RAll K (cut m H) xs ds := by
  rcases h with h | ⟨a, c, rfl, e, _, h⟩
  · cases h with
    | lst h1 h2 => exact ⟨_, _, rfl, cut_le _ _ h1, h2⟩
  · cases c with
    | lst xs => cases e; obtain ⟨vs, h1, h2⟩ := h; exact ⟨a, vs, rfl, h1, h2⟩
    | _ => cases e
theorem RBo.tup {ds : List D} (h : RBo K g o m H v (.tup ds)) : ∃ a xs, v = .ref a ∧ SqT K H a xs ∧ RAll K (cut m H) xs ds := by
  rcases h with h | ⟨_, c, _, e, _⟩
  · cases h with
    | tup h1 h2 => exact ⟨_, _, rfl, SqT.same cut_le h1, h2⟩
  · cases c <;> cases e
theorem RBo.dct {ds : List (Key × D)} (h : RBo K g o m H v (.dct ds)) : ∃ a kvs, v = .ref a ∧ H a = some (.dK kvs) ∧ RKv K (cut m H) kvs ds := by
  rcases h with h | ⟨a, c, rfl, e, _, h⟩
  · cases h with
    | dct h1 h2 => exact ⟨_, _, rfl, cut_le _ _ h1, h2⟩
  · cases c with
    | dct xs => cases e; obtain ⟨vs, h1, h2⟩ := h; exact ⟨a, vs, rfl, h1, h2⟩
    | _ => cases e
theorem RBo.obj {C : Addr} {ds : List (Str × D)} (h : RBo K g o m H v (.obj C ds)) : ∃ a dx fs, v = .ref a ∧ H a = some (.ins C dx fs) ∧ RFs K (cut m H) fs ds := by
  rcases h with h | ⟨a, c, rfl, e, _, h⟩
  · cases h with
    | obj h1 h2 => exact ⟨_, _, _, rfl, cut_le _ _ h1, h2⟩
  · cases c with
    | obj C xs => cases e; obtain ⟨dx, vs, h1, h2⟩ := h; exact ⟨a, dx, vs, rfl, h1, h2⟩
    | _ => cases e
theorem RBo.step (hm : ∀ a, g a → m a) (s : ∀ a o, ¬ g a → H a = some o → H' a = some o) (h : RBo K g o m H v d) : RBo K g o m H' v d := by
  have c : Same (cut m H) (cut m H') := cut_step fun a u n e => s a u (fun z => n (hm a z)) e
  rcases h with h | ⟨a, k, e1, e2, n, h⟩
  · exact .inl (R.same c h)
  · exact .inr ⟨a, k, e1, e2, n, h.move c fun u e => s _ _ n.2 e⟩
theorem RBo.mono {o' : Msk} (h : ∀ a, o a → o' a) (r : RBo K g o m H v d) : RBo K g o' m H v d := by
  rcases r with r | ⟨a, k, e1, e2, n, r⟩
  · exact .inl r
  · exact .inr ⟨a, k, e1, e2, ⟨h a n.1, n.2⟩, r⟩
/-- the lent value elsewhere: what stood stands, and what was hidden is hidden -/
theorem RBo.carry {m' : Msk} (c : Same (cut m H) (cut m' H')) (k : ∀ a u, ¬ g a → o a → H a = some u → H' a = some u) (r : RBo K g o m H v d) : RBo K g o m' H' v d := by
  rcases r with r | ⟨a, q, e1, e2, n, r⟩
  · exact .inl (R.same c r)
  · exact .inr ⟨a, q, e1, e2, n, r.move c fun u e => k a u n.2 n.1 e⟩
theorem RF.strict (hm : ∀ a, m a → H0 a ≠ none) (h : RF K m H0 H v d) : R K (cut m H) v d := by
  obtain ⟨a, c, rfl, rfl, n, h⟩ := h
  have na : ¬ m a := fun z => hm a z n
  exact CellR.strict na (h.move (cut_mono fun b z => .inl z) fun _ e => e)
theorem RR.b {mo : Mo} (hm : ∀ a, m a → H0 a ≠ none) (h : RR K g mo m H0 H v d) : RB K g m H v d := by
  cases mo with
  | b => exact h
  | s => exact .inl h
  | f => exact .inl (RF.strict hm h)
theorem RR.from {H00 : Hp} {mo : Mo} (hk : ∀ a, H00 a ≠ none → H0 a ≠ none) (h : RR K g mo m H0 H v d) : RR K g mo m H00 H v d := by
  cases mo with
  | b => exact h
  | s => exact h
  | f =>
    obtain ⟨a, c, e1, e2, n, r⟩ := h
    exact ⟨a, c, e1, e2, Classical.byContradiction fun z => hk a z n, r⟩
end

/-! ### environments -/
inductive Slot where
  | no
  | d (x : D)
  | bor (x : D)
  | own (c : Cell)
abbrev Env := List Slot
def Slot.isOwn : Slot → Bool
  | .own _ => true
  | _ => false
def ownAt (ρ : Env) (i : Nat) : Prop := ∃ sl, ρ[i]? = some sl ∧ sl.isOwn = true
def mask (M : Msk) (α : Nat → Addr) (ρ : Env) : Msk := fun a => M a ∨ ∃ i, ownAt ρ i ∧ α i = a
def SlotR (K : W.Frag) (g o m : Msk) (H : Hp) (a : Addr) (σi : Option (Option V)) : Slot → Prop
  | .no => True
  | .d x => ∃ v, σi = some (some v) ∧ R K (cut m H) v x
  | .bor x => ∃ v, σi = some (some v) ∧ RBo K g o m H v x
  | .own c => σi = some (some (.ref a)) ∧ CellR K (cut m H) H a c
/-- what is kept beside data: its places, and what is true of them -/
structure Fr (S : Type) where
  M : Msk
  st : S → Hp → Prop
  loc : ∀ {s : S} {H H' : Hp}, (∀ a, M a → H' a = H a) → st s H → st s H'
  self : Option Addr := none
structure Ok {S : Type} (Γ : Fr S) (K : W.Frag) (M : Msk) (α : Nat → Addr) (σ : St) (H : Hp) (ρ : Env) : Prop where
  sub : ∀ a, Γ.M a → M a
  trk : ∀ a, M a → H a ≠ none
  out : ∀ i, ownAt ρ i → ¬ M (α i)
  inj : ∀ i j, ownAt ρ i → ownAt ρ j → α i = α j → i = j
  len : σ.length = ρ.length
  slot : ∀ i sl, ρ[i]? = some sl → SlotR K Γ.M M (mask M α ρ) H (α i) σ[i]? sl
  sf : ∀ a, Γ.self = some a → α 0 = a
structure Stp {S : Type} (Γ : Fr S) (H H' : Hp) : Prop where
  keep : ∀ a o, ¬ Γ.M a → H a = some o → H' a = some o
  trk : ∀ a, H a ≠ none → H' a ≠ none
section
variable {S : Type} {Γ : Fr S} {K : W.Frag} {M : Msk} {α : Nat → Addr} {σ : St} {H H' H2 : Hp} {ρ : Env} {s : S} {v : V} {d : D}
theorem Stp.refl : Stp Γ H H := ⟨fun _ _ _ e => e, fun _ e => e⟩
theorem Stp.trans (a : Stp Γ H H') (b : Stp Γ H' H2) : Stp Γ H H2 := ⟨fun c o n e => b.keep c o n (a.keep c o n e), fun c e => b.trk c (a.trk c e)⟩
theorem Stp.of (h : Same H H') : Stp Γ H H' := ⟨fun a o _ e => h a o e, fun a n e => by
  cases q : H a with
  | none => exact n q
  | some o => rw [h a o q] at e; cases e⟩
theorem Fr.same (hM : ∀ a, Γ.M a → H a ≠ none) (h : Same H H') (q : Γ.st s H) : Γ.st s H' := Γ.loc (fun a z => by
  cases e : H a with
  | none => exact absurd e (hM a z)
  | some o => exact h a o e) q
theorem Ok.mtrk (h : Ok Γ K M α σ H ρ) : ∀ a, mask M α ρ a → H a ≠ none := by
  rintro a (z | ⟨i, ⟨sl, e, o⟩, rfl⟩)
  · exact h.trk a z
  · have q := h.slot i sl e
    cases sl with
    | own c => exact q.2.there
    | _ => cases o
theorem Ok.frt (h : Ok Γ K M α σ H ρ) : ∀ a, Γ.M a → H a ≠ none := fun a z => h.trk a (h.sub a z)
theorem Stp.cut {m : Msk} (s : Stp Γ H H') (h : ∀ a, Γ.M a → m a) : Same (cut m H) (cut m H') := cut_step fun a o n e => s.keep a o (fun z => n (h a z)) e
theorem SlotR.step {o m : Msk} {a : Addr} {x : Option (Option V)} {sl : Slot} (s : Stp Γ H H') (hm : ∀ a, Γ.M a → m a) (na : sl.isOwn = true → ¬ Γ.M a) (h : SlotR K Γ.M o m H a x sl) : SlotR K Γ.M o m H' a x sl := by
  have c := s.cut hm
  cases sl with
  | no => trivial
  | d y => obtain ⟨v, e, r⟩ := h; exact ⟨v, e, R.same c r⟩
  | bor y => obtain ⟨v, e, r⟩ := h; exact ⟨v, e, RBo.step hm s.keep r⟩
  | own y => exact ⟨h.1, h.2.move c fun o e => s.keep _ _ (na rfl) e⟩
theorem Ok.msub (h : Ok Γ K M α σ H ρ) : ∀ a, Γ.M a → mask M α ρ a := fun a z => .inl (h.sub a z)
theorem Ok.step (h : Ok Γ K M α σ H ρ) (s : Stp Γ H H') : Ok Γ K M α σ H' ρ :=
  ⟨h.sub, fun a z => s.trk a (h.trk a z), h.out, h.inj, h.len, fun i sl e => SlotR.step s h.msub (fun o z => h.out i ⟨sl, e, o⟩ (h.sub _ z)) (h.slot i sl e), h.sf⟩
end
end L2.DL
/-! Readings over data: what an expression's reading does to trees -/
namespace L2.DL
open L2 L2.My PySem PySem.Spec PyProof.Rows

/-- an own exception: its class, its fields (none where its class has no own __init__) -/
structure Exn where
  C : Addr
  fs : Option (List (Str × D))
def XR (K : W.Frag) (m : Msk) (H : Hp) (c : Value) (dx : Option Addr) (x : Exn) : Prop := c = .ref x.C ∧ match x.fs with
  | none => dx = none
  | some ds => ∃ d fs, dx = some d ∧ ¬ m d ∧ H d = some (.xd fs) ∧ RFs K (cut m H) fs ds
abbrev TX (S : Type) := Env → S → (D → S → Prop) → (Exn → S → Prop) → Prop
abbrev TB (S : Type) := Env → S → (Bool → S → Prop) → (Exn → S → Prop) → Prop
abbrev TL (S : Type) := Env → S → (List D → S → Prop) → (Exn → S → Prop) → Prop
def ARel (K : W.Frag) (g : Msk) : List Mo → Msk → Hp → Hp → List V → List D → Prop
  | [], _, _, _, [], [] => True
  | o :: os, m, H0, H, v :: vs, d :: ds => RR K g o m H0 H v d ∧ ARel K g os m H0 H vs ds
  | _, _, _, _, _, _ => False
def opt {α : Type} (o : Option α) (Q : α → Prop) : Prop := match o with
  | some d => Q d
  | none => False
theorem opt_ex {α : Type} {o : Option α} {Q : α → Prop} (h : opt o Q) : ∃ d, o = some d ∧ Q d := by
  cases o with
  | none => exact h.elim
  | some d => exact ⟨d, rfl, h⟩

section
variable {S : Type}
/-- the link of a reading to data -/
def Ln (Γ : Fr S) (K : W.Frag) (E : XK) (mo : Mo) (t : TE) (T : TX S) : Prop :=
  ∀ {M : Msk} {α : Nat → Addr} {σ : St} {H : Hp} {ρ : Env} {s : S}, Ok Γ K M α σ H ρ → Γ.st s H → ∀ (QD : D → S → Prop) (QX : Exn → S → Prop) (Q : VK), T ρ s QD QX →
    (∀ v H' d s', Stp Γ H H' → Γ.st s' H' → RR K Γ.M mo (mask M α ρ) H H' v d → QD d s' → Q v H') →
    (∀ c dx H' x s', Stp Γ H H' → Γ.st s' H' → XR K (mask M α ρ) H' c dx x → QX x s' → E c dx H') → t σ H Q
def LnT (Γ : Fr S) (K : W.Frag) (E : XK) (t : TT) (T : TB S) : Prop :=
  ∀ {M : Msk} {α : Nat → Addr} {σ : St} {H : Hp} {ρ : Env} {s : S}, Ok Γ K M α σ H ρ → Γ.st s H → ∀ (QD : Bool → S → Prop) (QX : Exn → S → Prop) (Q : Bool → Hp → Prop), T ρ s QD QX →
    (∀ b H' s', Stp Γ H H' → Γ.st s' H' → QD b s' → Q b H') →
    (∀ c dx H' x s', Stp Γ H H' → Γ.st s' H' → XR K (mask M α ρ) H' c dx x → QX x s' → E c dx H') → t σ H Q
def LnA (Γ : Fr S) (K : W.Frag) (E : XK) (os : List Mo) (t : TA) (T : TL S) : Prop :=
  ∀ {M : Msk} {α : Nat → Addr} {σ : St} {H : Hp} {ρ : Env} {s : S}, Ok Γ K M α σ H ρ → Γ.st s H → ∀ (QD : List D → S → Prop) (QX : Exn → S → Prop) (Q : List V → Hp → Prop), T ρ s QD QX →
    (∀ vs H' ds s', Stp Γ H H' → Γ.st s' H' → ARel K Γ.M os (mask M α ρ) H H' vs ds → QD ds s' → Q vs H') →
    (∀ c dx H' x s', Stp Γ H H' → Γ.st s' H' → XR K (mask M α ρ) H' c dx x → QX x s' → E c dx H') → t σ H Q

/-- readings of values: one, two operands, lent; nothing that stands is changed -/
def P1 (K : W.Frag) (mo : Mo) (r : V → Hp → VK → Prop) (f : D → Option D) : Prop :=
  ∀ {g m : Msk} {H : Hp} {v : V} {d e : D} {Q : VK}, (∀ a, m a → H a ≠ none) → RB K g m H v d → f d = some e → (∀ v' H', Same H H' → RR K g mo m H H' v' e → Q v' H') → r v H Q
def P2 (K : W.Frag) (mo : Mo) (r : R2) (f : D → D → Option D) : Prop :=
  ∀ {g m : Msk} {H : Hp} {v u : V} {d c e : D} {Q : VK}, (∀ a, m a → H a ≠ none) → RB K g m H v d → RB K g m H u c → f d c = some e → (∀ v' H', Same H H' → RR K g mo m H H' v' e → Q v' H') → r v u H Q

/-! the readings over data -/
def xVar (mo : Mo) (i : Nat) : TX S := fun ρ s Q _ => match ρ[i]? with
  | some (.d x) => Q x s
  | some (.bor x) => (match mo, x with
    | .b, _ => Q x s
    | _, .v _ => Q x s
    | _, _ => False)
  | some (.own c) => (match mo with
    | .b => Q c.toD s
    | _ => False)
  | _ => False
def xC (d : D) : TX S := fun _ s Q _ => Q d s
def xOp (f : D → D → Option D) (A B : TX S) : TX S := fun ρ s Q X => A ρ s (fun x s1 => B ρ s1 (fun y s2 => opt (f x y) fun d => Q d s2) X) X
def xUn (f : D → Option D) (A : TX S) : TX S := fun ρ s Q X => A ρ s (fun x s1 => opt (f x) fun d => Q d s1) X
def xNil : TL S := fun _ s Q _ => Q [] s
def xCons (A : TX S) (B : TL S) : TL S := fun ρ s Q X => A ρ s (fun x s1 => B ρ s1 (fun xs s2 => Q (x :: xs) s2) X) X
def xTup (A : TL S) : TX S := fun ρ s Q X => A ρ s (fun xs s1 => xs.length ≤ sizeLine ∧ Q (.tup xs) s1) X
def xLst (A : TL S) : TX S := fun ρ s Q X => A ρ s (fun xs s1 => xs.length ≤ sizeLine ∧ Q (.lst xs) s1) X
def asB : D → Option Bool
  | .v (.bl b) => some b
  | _ => none
def xAnd (A B : TX S) : TX S := fun ρ s Q X => A ρ s (fun x s1 => opt (asB x) fun c => if c = true then B ρ s1 Q X else Q (dB false) s1) X
def xOr (A B : TX S) : TX S := fun ρ s Q X => A ρ s (fun x s1 => opt (asB x) fun c => if c = true then Q (dB true) s1 else B ρ s1 Q X) X
def xNot (A : TX S) : TX S := fun ρ s Q X => A ρ s (fun x s1 => opt (asB x) fun c => Q (dB (!c)) s1) X
def xIf (C : TB S) (A B : TX S) : TX S := fun ρ s Q X => C ρ s (fun c s1 => if c = true then A ρ s1 Q X else B ρ s1 Q X) X
def bTest (A : TX S) : TB S := fun ρ s Q X => A ρ s (fun x s1 => opt (asB x) fun c => Q c s1) X
def bAnd (A B : TB S) : TB S := fun ρ s Q X => A ρ s (fun c s1 => if c = true then B ρ s1 Q X else Q false s1) X
def bOr (A B : TB S) : TB S := fun ρ s Q X => A ρ s (fun c s1 => if c = true then Q true s1 else B ρ s1 Q X) X
def bNot (A : TB S) : TB S := fun ρ s Q X => A ρ s (fun c s1 => Q (!c) s1) X
def xChain (f f' : D → D → Option D) (A B C : TX S) : TX S := fun ρ s Q X => A ρ s (fun x s1 => B ρ s1 (fun y s2 => opt (f x y) fun d => opt (asB d) fun c => if c = true then C ρ s2 (fun z s3 => opt (f' y z) fun e => Q e s3) X else Q (dB false) s2) X) X

variable {Γ : Fr S} {K : W.Frag} {E : XK} {mo : Mo} {ta tb tc : TE} {A B C : TX S} {t u : TT} {T U : TB S} {tl : TA} {L : TL S} {os : List Mo}
theorem Ln.weak (h : Ln Γ K E .f ta A) : Ln Γ K E .s ta A := fun ok st QD QX Q q k kx => h ok st QD QX Q q (fun v H' d s' p st' r z => k v H' d s' p st' (RF.strict ok.mtrk r) z) kx
theorem Ln.lend (h : Ln Γ K E .s ta A) : Ln Γ K E .b ta A := fun ok st QD QX Q q k kx => h ok st QD QX Q q (fun v H' d s' p st' r z => k v H' d s' p st' (.inl r) z) kx

theorem ln_var {i : Nat} : Ln Γ K E .s (tVar i) (xVar .s i) := by
  intro M α σ H ρ s ok st QD QX Q q k kx
  unfold xVar at q
  split at q
  · rename_i x e
    obtain ⟨v, e1, r⟩ := ok.slot i _ e
    exact ⟨v, e1, k v H x s .refl st r q⟩
  · rename_i x e
    obtain ⟨v, e1, r⟩ := ok.slot i _ e
    split at q
    · rename_i z; cases z
    · rename_i y z
      obtain rfl := RBo.sc r
      exact ⟨_, e1, k _ H _ s .refl st (.v _) q⟩
    · exact q.elim
  · exact q.elim
  · exact q.elim
theorem ln_varb {i : Nat} : Ln Γ K E .b (tVar i) (xVar .b i) := by
  intro M α σ H ρ s ok st QD QX Q q k kx
  unfold xVar at q
  split at q
  · rename_i x e
    obtain ⟨v, e1, r⟩ := ok.slot i _ e
    exact ⟨v, e1, k v H x s .refl st (.inl r) q⟩
  · rename_i x e
    obtain ⟨v, e1, r⟩ := ok.slot i _ e
    exact ⟨v, e1, k v H x s .refl st (r.mono fun a z => .inl z) q⟩
  · rename_i c e
    obtain ⟨e1, r⟩ := ok.slot i _ e
    exact ⟨_, e1, k _ H _ s .refl st (.inr ⟨_, c, rfl, rfl, ⟨.inr ⟨i, ⟨_, e, rfl⟩, rfl⟩, fun z => ok.out i ⟨_, e, rfl⟩ (ok.sub _ z)⟩, r⟩) q⟩
  · exact q.elim
theorem ln_c {v : V} : Ln Γ K E .s (tC v) (xC (.v v)) := fun {_ _ _ H _ s} _ st _ _ _ q k _ => k v H _ s .refl st (.v v) q
theorem ln_op {r : R2} {f : D → D → Option D} (ha : Ln Γ K E .b ta A) (hb : Ln Γ K E .b tb B) (hr : P2 K mo r f) : Ln Γ K E mo (tOp r ta tb) (xOp f A B) := by
  intro M α σ H ρ s ok st QD QX Q q k kx
  refine ha ok st _ QX _ q (fun vx H1 x s1 p1 st1 rx q1 => ?_) kx
  refine hb (ok.step p1) st1 _ QX _ q1 (fun vy H2 y s2 p2 st2 ry q2 => ?_) (fun c dx H' x s' p st' r z => kx c dx H' x s' (p1.trans p) st' r z)
  obtain ⟨d, e, q3⟩ := opt_ex q2
  have p := p1.trans p2
  have ok2 := ok.step p
  exact hr ok2.mtrk (RBo.step ok.msub p2.keep rx) ry e fun v' H' sm r' => k v' H' d s2 (p.trans (Stp.of sm)) (Fr.same ok2.frt sm st2) (r'.from p.trk) q3
theorem ln_un {r : V → Hp → VK → Prop} {f : D → Option D} (ha : Ln Γ K E .b ta A) (hr : P1 K mo r f) : Ln Γ K E mo (tUn r ta) (xUn f A) := by
  intro M α σ H ρ s ok st QD QX Q q k kx
  refine ha ok st _ QX _ q (fun vx H1 x s1 p1 st1 rx q1 => ?_) kx
  obtain ⟨d, e, q3⟩ := opt_ex q1
  have ok2 := ok.step p1
  exact hr ok2.mtrk rx e fun v' H' sm r' => k v' H' d s1 (p1.trans (Stp.of sm)) (Fr.same ok2.frt sm st1) (r'.from p1.trk) q3
/-- a built-in of one, two arguments -/
theorem ln_cb1 {r : List V → Hp → VK → Prop} {f : D → Option D} (ha : Ln Γ K E .b ta A) (hr : P1 K mo (fun v => r [v]) f) : Ln Γ K E mo (tCB r (tCons ta tNil)) (xUn f A) := fun ok st QD QX Q q k kx => ln_un (r := fun v => r [v]) ha hr ok st QD QX Q q k kx
theorem ln_cb2 {r : List V → Hp → VK → Prop} {f : D → D → Option D} (ha : Ln Γ K E .b ta A) (hb : Ln Γ K E .b tb B) (hr : P2 K mo (fun v u => r [v, u]) f) : Ln Γ K E mo (tCB r (tCons ta (tCons tb tNil))) (xOp f A B) := fun ok st QD QX Q q k kx => ln_op (r := fun v u => r [v, u]) ha hb hr ok st QD QX Q q k kx

theorem ln_nil : LnA Γ K E [] tNil xNil := fun {_ _ _ H _ s} _ st _ _ _ q k _ => k [] H [] s .refl st trivial q
theorem ARel.step {g m : Msk} {H0 H H' : Hp} (hm : ∀ a, g a → m a) (st : ∀ a o, ¬ g a → H a = some o → H' a = some o) : ∀ {os : List Mo} {vs : List V} {ds : List D}, (∀ o ∈ os, o ≠ .f) → ARel K g os m H0 H vs ds → ARel K g os m H0 H' vs ds
  | [], [], [], _, _ => trivial
  | o :: os, v :: vs, d :: ds, ho, ⟨h, t⟩ => by
    refine ⟨?_, ARel.step hm st (fun o z => ho o (List.mem_cons_of_mem _ z)) t⟩
    cases o with
    | b => exact RBo.step hm st h
    | s => exact R.same (cut_step fun a o n e => st a o (fun z => n (hm a z)) e) h
    | f => exact absurd rfl (ho .f List.mem_cons_self)
theorem ARel.from {g m : Msk} {H00 H0 H : Hp} : ∀ {os : List Mo} {vs : List V} {ds : List D}, (∀ o ∈ os, o ≠ .f) → ARel K g os m H0 H vs ds → ARel K g os m H00 H vs ds
  | [], [], [], _, _ => trivial
  | o :: os, v :: vs, d :: ds, ho, ⟨h, t⟩ => by
    refine ⟨?_, ARel.from (fun o z => ho o (List.mem_cons_of_mem _ z)) t⟩
    cases o with
    | b => exact h
    | s => exact h
    | f => exact absurd rfl (ho .f List.mem_cons_self)
theorem ln_cons (ho : (mo :: os).all (fun o => match o with | .f => false | _ => true) = true) (ha : Ln Γ K E mo ta A) (hb : LnA Γ K E os tl L) : LnA Γ K E (mo :: os) (tCons ta tl) (xCons A L) := by
  have hno : ∀ o ∈ (mo :: os), o ≠ Mo.f := fun o z e => by
    have := List.all_eq_true.mp ho o z
    rw [e] at this
    cases this
  intro M α σ H ρ s ok st QD QX Q q k kx
  refine ha ok st _ QX _ q (fun vx H1 x s1 p1 st1 rx q1 => ?_) kx
  refine hb (ok.step p1) st1 _ QX _ q1 (fun vs H2 ds s2 p2 st2 ry q2 => ?_) (fun c dx H' x s' p st' r z => kx c dx H' x s' (p1.trans p) st' r z)
  have one : ARel K Γ.M [mo] (mask M α ρ) H H1 [vx] [x] := ⟨rx, trivial⟩
  have one' := ARel.step ok.msub p2.keep (fun o z => hno o (by have e : o = mo := (by simpa using z); subst e; exact List.mem_cons_self)) one
  exact k _ H2 (x :: ds) s2 (p1.trans p2) st2 ⟨one'.1, ARel.from (fun o z => hno o (List.mem_cons_of_mem _ z)) ry⟩ q2
theorem ARel.strict {g m : Msk} {H0 H : Hp} : ∀ {os : List Mo} {vs : List V} {ds : List D}, (∀ o ∈ os, o = .s) → ARel K g os m H0 H vs ds → RAll K (cut m H) vs ds
  | [], [], [], _, _ => .nil
  | o :: os, v :: vs, d :: ds, ho, ⟨h, t⟩ => by
    have e := ho o List.mem_cons_self
    subst e
    exact .cons h (ARel.strict (fun o z => ho o (List.mem_cons_of_mem _ z)) t)
/-- an object is laid: a tuple, a list -/
theorem lay_tup {m : Msk} {H : Hp} {p : Addr} {vs : List V} {ds : List D} (hm : ∀ a, m a → H a ≠ none) (hp : H p = none) (h : RAll K (cut m H) vs ds) : R K (cut m (upd H p (.tup vs))) (.ref p) (.tup ds) :=
  .tup (.inl (.inl (by rw [cut_out fun z => hm p z hp, upd_same]))) (RAll.same (cut_step fun a o _ e => same_upd hp a o e) h)
theorem lay_lst {m : Msk} {H : Hp} {p : Addr} {vs : List V} {ds : List D} (hm : ∀ a, m a → H a ≠ none) (hp : H p = none) (h : RAll K (cut m H) vs ds) : RF K m H (upd H p (.lst vs)) (.ref p) (.lst ds) := by
  refine ⟨p, .lst ds, rfl, rfl, hp, vs, upd_same, RAll.same (fun b o e => ?_) h⟩
  obtain ⟨n, e⟩ := of_cut e
  have ne := ne_of_none e hp
  rw [cut_out fun z => z.elim n ne, upd_ne ne]
  exact e
theorem ln_tup (ho : os.all (fun o => match o with | .s => true | _ => false) = true) (h : LnA Γ K E os tl L) : Ln Γ K E .s (tTup tl) (xTup L) := by
  have hno : ∀ o ∈ os, o = Mo.s := fun o z => by
    have := List.all_eq_true.mp ho o z
    cases o with
    | s => rfl
    | b => cases this
    | f => cases this
  intro M α σ H ρ s ok st QD QX Q q k kx
  refine h ok st _ QX _ q (fun vs H1 ds s1 p1 st1 r ⟨le, q1⟩ => ?_) kx
  have ra := ARel.strict hno r
  refine ⟨by rw [RAll.len ra]; exact le, fun p hp => ?_⟩
  have ok1 := ok.step p1
  have sm := same_upd (o := .tup vs) hp
  exact k _ _ _ s1 (p1.trans (Stp.of sm)) (Fr.same ok1.frt sm st1) (lay_tup ok1.mtrk hp ra) q1
theorem ln_lst (ho : os.all (fun o => match o with | .s => true | _ => false) = true) (h : LnA Γ K E os tl L) : Ln Γ K E .f (tLst tl) (xLst L) := by
  have hno : ∀ o ∈ os, o = Mo.s := fun o z => by
    have := List.all_eq_true.mp ho o z
    cases o with
    | s => rfl
    | b => cases this
    | f => cases this
  intro M α σ H ρ s ok st QD QX Q q k kx
  refine h ok st _ QX _ q (fun vs H1 ds s1 p1 st1 r ⟨le, q1⟩ => ?_) kx
  have ra := ARel.strict hno r
  refine ⟨by rw [RAll.len ra]; exact le, fun p hp => ?_⟩
  have ok1 := ok.step p1
  have sm := same_upd (o := .lst vs) hp
  exact k _ _ _ s1 (p1.trans (Stp.of sm)) (Fr.same ok1.frt sm st1) (RR.from (mo := .f) (g := Γ.M) p1.trk (lay_lst ok1.mtrk hp ra)) q1
theorem asB_sc {g m : Msk} {H : Hp} {v : V} {d : D} {c : Bool} (r : RB K g m H v d) (e : asB d = some c) : v = .bl c := by
  unfold asB at e
  split at e
  · cases e; exact RBo.sc r
  · cases e
theorem ln_and (ha : Ln Γ K E .b ta A) (hb : Ln Γ K E .b tb B) : Ln Γ K E .b (tAndV ta tb) (xAnd A B) := by
  intro M α σ H ρ s ok st QD QX Q q k kx
  refine ha ok st _ QX _ q (fun vx H1 x s1 p1 st1 rx q1 => ?_) kx
  obtain ⟨c, e, q2⟩ := opt_ex q1
  obtain rfl := asB_sc rx e
  refine ⟨c, rfl, ?_⟩
  cases c with
  | true =>
    rw [if_pos rfl] at q2 ⊢
    exact hb (ok.step p1) st1 QD QX _ q2 (fun v H' d s' p st' r z => k v H' d s' (p1.trans p) st' r z) (fun c dx H' x s' p st' r z => kx c dx H' x s' (p1.trans p) st' r z)
  | false =>
    rw [if_neg (by decide)] at q2 ⊢
    exact k _ H1 _ s1 p1 st1 (.inl (.v _)) q2
theorem ln_or (ha : Ln Γ K E .b ta A) (hb : Ln Γ K E .b tb B) : Ln Γ K E .b (tOrV ta tb) (xOr A B) := by
  intro M α σ H ρ s ok st QD QX Q q k kx
  refine ha ok st _ QX _ q (fun vx H1 x s1 p1 st1 rx q1 => ?_) kx
  obtain ⟨c, e, q2⟩ := opt_ex q1
  obtain rfl := asB_sc rx e
  refine ⟨c, rfl, ?_⟩
  cases c with
  | true =>
    rw [if_pos rfl] at q2 ⊢
    exact k _ H1 _ s1 p1 st1 (.inl (.v _)) q2
  | false =>
    rw [if_neg (by decide)] at q2 ⊢
    exact hb (ok.step p1) st1 QD QX _ q2 (fun v H' d s' p st' r z => k v H' d s' (p1.trans p) st' r z) (fun c dx H' x s' p st' r z => kx c dx H' x s' (p1.trans p) st' r z)
theorem ln_not (ha : Ln Γ K E .b ta A) : Ln Γ K E .s (tNotV ta) (xNot A) := by
  intro M α σ H ρ s ok st QD QX Q q k kx
  refine ha ok st _ QX _ q (fun vx H1 x s1 p1 st1 rx q1 => ?_) kx
  obtain ⟨c, e, q2⟩ := opt_ex q1
  obtain rfl := asB_sc rx e
  exact ⟨c, rfl, k _ H1 _ s1 p1 st1 (.v _) q2⟩
theorem ln_if (hc : LnT Γ K E t T) (ha : Ln Γ K E mo ta A) (hb : Ln Γ K E mo tb B) : Ln Γ K E mo (tIf t ta tb) (xIf T A B) := by
  intro M α σ H ρ s ok st QD QX Q q k kx
  refine hc ok st _ QX _ q (fun c H1 s1 p1 st1 q1 => ?_) kx
  cases c with
  | true =>
    rw [if_pos rfl] at q1 ⊢
    exact ha (ok.step p1) st1 QD QX _ q1 (fun v H' d s' p st' r z => k v H' d s' (p1.trans p) st' (r.from p1.trk) z) (fun c dx H' x s' p st' r z => kx c dx H' x s' (p1.trans p) st' r z)
  | false =>
    rw [if_neg (by decide)] at q1 ⊢
    exact hb (ok.step p1) st1 QD QX _ q1 (fun v H' d s' p st' r z => k v H' d s' (p1.trans p) st' (r.from p1.trk) z) (fun c dx H' x s' p st' r z => kx c dx H' x s' (p1.trans p) st' r z)
/-! tests -/
theorem lt_val (ha : Ln Γ K E .b ta A) : LnT Γ K E (tB ta) (bTest A) := by
  intro M α σ H ρ s ok st QD QX Q q k kx
  refine ha ok st _ QX _ q (fun vx H1 x s1 p1 st1 rx q1 => ?_) kx
  obtain ⟨c, e, q2⟩ := opt_ex q1
  obtain rfl := asB_sc rx e
  exact ⟨c, rfl, k _ H1 s1 p1 st1 q2⟩
theorem lt_test (ha : Ln Γ K E .b ta A) : LnT Γ K E (tTest ta) (bTest A) := by
  intro M α σ H ρ s ok st QD QX Q q k kx
  refine ha ok st _ QX _ q (fun vx H1 x s1 p1 st1 rx q1 => ?_) kx
  obtain ⟨c, e, q2⟩ := opt_ex q1
  obtain rfl := asB_sc rx e
  exact ⟨c, rfl, k _ H1 s1 p1 st1 q2⟩
theorem lt_not (ha : LnT Γ K E t T) : LnT Γ K E (tNot t) (bNot T) := fun ok st QD QX Q q k kx => ha ok st _ QX _ q (fun c H1 s1 p1 st1 q1 => k _ H1 s1 p1 st1 q1) kx
theorem lt_and (ha : LnT Γ K E t T) (hb : LnT Γ K E u U) : LnT Γ K E (tAnd t u) (bAnd T U) := by
  intro M α σ H ρ s ok st QD QX Q q k kx
  refine ha ok st _ QX _ q (fun c H1 s1 p1 st1 q1 => ?_) kx
  cases c with
  | true =>
    rw [if_pos rfl] at q1 ⊢
    exact hb (ok.step p1) st1 QD QX _ q1 (fun v H' s' p st' z => k v H' s' (p1.trans p) st' z) (fun c dx H' x s' p st' r z => kx c dx H' x s' (p1.trans p) st' r z)
  | false =>
    rw [if_neg (by decide)] at q1 ⊢
    exact k _ H1 s1 p1 st1 q1
theorem lt_or (ha : LnT Γ K E t T) (hb : LnT Γ K E u U) : LnT Γ K E (tOr t u) (bOr T U) := by
  intro M α σ H ρ s ok st QD QX Q q k kx
  refine ha ok st _ QX _ q (fun c H1 s1 p1 st1 q1 => ?_) kx
  cases c with
  | true =>
    rw [if_pos rfl] at q1 ⊢
    exact k _ H1 s1 p1 st1 q1
  | false =>
    rw [if_neg (by decide)] at q1 ⊢
    exact hb (ok.step p1) st1 QD QX _ q1 (fun v H' s' p st' z => k v H' s' (p1.trans p) st' z) (fun c dx H' x s' p st' r z => kx c dx H' x s' (p1.trans p) st' r z)
theorem ln_chain {r r' : R2} {f f' : D → D → Option D} (ha : Ln Γ K E .b ta A) (hb : Ln Γ K E .b tb B) (hc : Ln Γ K E .b tc C) (hr : P2 K .b r f) (hr' : P2 K mo r' f') (hmo : mo ≠ .f) : Ln Γ K E mo (tChain r r' ta tb tc) (xChain f f' A B C) := by
  intro M α σ H ρ s ok st QD QX Q q k kx
  refine ha ok st _ QX _ q (fun vx H1 x s1 p1 st1 rx q1 => ?_) kx
  refine hb (ok.step p1) st1 _ QX _ q1 (fun vy H2 y s2 p2 st2 ry q2 => ?_) (fun c dx H' x s' p st' r z => kx c dx H' x s' (p1.trans p) st' r z)
  obtain ⟨d, e, q3⟩ := opt_ex q2
  obtain ⟨c, e2, q4⟩ := opt_ex q3
  have p := p1.trans p2
  have ok2 := ok.step p
  refine hr ok2.mtrk (RBo.step ok.msub p2.keep rx) ry e fun v' H3 sm r' => ?_
  obtain rfl := asB_sc r' e2
  have p3 := p.trans (Stp.of (Γ := Γ) sm)
  have st3 := Fr.same ok2.frt sm st2
  refine ⟨c, rfl, ?_⟩
  cases c with
  | true =>
    rw [if_pos rfl] at q4 ⊢
    refine hc (ok.step p3) st3 _ QX _ q4 (fun vz H4 z s4 p4 st4 rz q5 => ?_) (fun c dx H' x s' p st' r z => kx c dx H' x s' (p3.trans p) st' r z)
    obtain ⟨d', e', q6⟩ := opt_ex q5
    have p5 := p3.trans p4
    have ok4 := ok.step p5
    exact hr' ok4.mtrk (RBo.step ok.msub p4.keep (RBo.step ok.msub (fun a o _ z => sm a o z) ry)) rz e' fun v' H' sm' r'' => k v' H' d' s4 (p5.trans (Stp.of sm')) (Fr.same ok4.frt sm' st4) (r''.from p5.trk) q6
  | false =>
    rw [if_neg (by decide)] at q4 ⊢
    refine k _ H3 _ s2 p3 st3 ?_ q4
    cases mo with
    | b => exact .inl (.v _)
    | s => exact .v _
    | f => exact absurd rfl hmo
end
end L2.DL
/-! Statements' readings over data; what a def promises of data -/
namespace L2.DL
open L2 L2.My PySem PySem.Spec PyProof.Rows

section
variable {S : Type} {Γ : Fr S} {K : W.Frag} {M : Msk} {α : Nat → Addr} {σ : St} {H H' H1 H2 : Hp} {ρ : Env} {s : S} {v : V} {d : D}
def wmask (Γ : Fr S) (α : Nat → Addr) (ρ : Env) : Msk := fun a => Γ.M a ∨ ∃ i, ownAt ρ i ∧ α i = a
abbrev Keep (w : Msk) (H H' : Hp) : Prop := ∀ a o, ¬ w a → H a = some o → H' a = some o
structure StS (w w' : Msk) (H H' : Hp) : Prop where
  keep : Keep w H H'
  new : ∀ a, w' a → w a ∨ H a = none
  trk : ∀ a, H a ≠ none → H' a ≠ none
theorem StS.trans {w w1 w2 : Msk} (a : StS w w1 H H1) (b : StS w1 w2 H1 H2) : StS w w2 H H2 := by
  refine ⟨fun c o n e => b.keep c o (fun z => ?_) (a.keep c o n e), fun c z => ?_, fun c e => b.trk c (a.trk c e)⟩
  · rcases a.new c z with z | z
    · exact n z
    · rw [z] at e; cases e
  · rcases b.new c z with z | z
    · exact a.new c z
    · exact .inr (Classical.byContradiction fun q => a.trk c q z)
theorem StS.of {w w' : Msk} (h : ∀ a, w' a → w a) (st : Stp Γ H H') (hg : ∀ a, Γ.M a → w a) : StS w w' H H' := ⟨fun a o n e => st.keep a o (fun z => n (hg a z)) e, fun a z => .inl (h a z), st.trk⟩
theorem own_set {i j : Nat} {sl : Slot} (h : ownAt (ρ.set i sl) j) : (j = i ∧ sl.isOwn = true) ∨ (j ≠ i ∧ ownAt ρ j) := by
  obtain ⟨u, e, o⟩ := h
  by_cases z : j = i
  · subst z
    by_cases l : j < ρ.length
    · rw [List.getElem?_set_self l] at e
      cases e
      exact .inl ⟨rfl, o⟩
    · rw [List.getElem?_eq_none (by simpa using Nat.le_of_not_lt l)] at e
      cases e
  · rw [List.getElem?_set_ne (Ne.symm z)] at e
    exact .inr ⟨z, u, e, o⟩
theorem Ok.put {i : Nat} {x : Option V} {sl : Slot} {a : Addr} {α' : Nat → Addr} (ok : Ok Γ K M α σ H ρ) (hα : α' = fun j => if j = i then a else α j) (hz : a = α i ∨ i ≠ 0) (trk : ∀ b, H b ≠ none → H' b ≠ none)
    (c : Same (cut (mask M α ρ) H) (cut (mask M α' (ρ.set i sl)) H')) (k : ∀ b o, ¬ Γ.M b → (M b ∨ ∃ j, j ≠ i ∧ ownAt ρ j ∧ α j = b) → H b = some o → H' b = some o)
    (out : sl.isOwn = true → ¬ M a ∧ ∀ j, j ≠ i → ownAt ρ j → α j ≠ a) (new : i < ρ.length → SlotR K Γ.M M (mask M α' (ρ.set i sl)) H' a (some x) sl) : Ok Γ K M α' (σ.set i x) H' (ρ.set i sl) := by
  have ai : α' i = a := by rw [hα]; simp
  have aj : ∀ j, j ≠ i → α' j = α j := fun j n => by rw [hα]; simp [n]
  refine ⟨ok.sub, fun b z => trk b (ok.trk b z), fun j hj => ?_, fun j l hj hl e => ?_, by rw [List.length_set, List.length_set]; exact ok.len, fun j u e => ?_, fun b z => by
    rcases hz with hz | hz
    · rw [← ok.sf b z, hα]
      by_cases q : 0 = i
      · simp [q, hz]
      · simp [q]
    · rw [← ok.sf b z, hα]
      simp [Ne.symm hz]⟩
  · rcases own_set hj with ⟨rfl, o⟩ | ⟨n, o⟩
    · rw [ai]; exact (out o).1
    · rw [aj j n]; exact ok.out j o
  · rcases own_set hj with ⟨rfl, o⟩ | ⟨n, o⟩
    · rcases own_set hl with ⟨rfl, o'⟩ | ⟨n', o'⟩
      · rfl
      · rw [ai, aj l n'] at e
        exact absurd e.symm ((out o).2 l n' o')
    · rcases own_set hl with ⟨rfl, o'⟩ | ⟨n', o'⟩
      · rw [ai, aj j n] at e
        exact absurd e ((out o').2 j n o)
      · rw [aj j n, aj l n'] at e
        exact ok.inj j l o o' e
  · by_cases z : j = i
    · subst z
      by_cases l : j < ρ.length
      · rw [List.getElem?_set_self l] at e
        cases e
        rw [ai, List.getElem?_set_self (by rw [ok.len]; exact l)]
        exact new l
      · rw [List.getElem?_eq_none (by simpa using Nat.le_of_not_lt l)] at e
        cases e
    · rw [List.getElem?_set_ne (Ne.symm z)] at e
      rw [aj j z, List.getElem?_set_ne (Ne.symm z)]
      have q := ok.slot j u e
      cases u with
      | no => trivial
      | d y => obtain ⟨v, e1, r⟩ := q; exact ⟨v, e1, R.same c r⟩
      | bor y =>
        obtain ⟨v, e1, r⟩ := q
        exact ⟨v, e1, RBo.carry c (fun b u n o e => k b u n (.inl o) e) r⟩
      | own y =>
        have oj : ownAt ρ j := ⟨_, e, rfl⟩
        exact ⟨q.1, q.2.move c fun o e => k _ _ (fun z => ok.out j oj (ok.sub _ z)) (.inr ⟨j, z, oj, rfl⟩) e⟩
theorem mask_set_sub {i : Nat} {sl : Slot} (h : sl.isOwn = false) : ∀ a, mask M α (ρ.set i sl) a → mask M α ρ a := by
  rintro a (z | ⟨j, o, rfl⟩)
  · exact .inl z
  · rcases own_set o with ⟨_, o'⟩ | ⟨n, o⟩
    · rw [h] at o'; cases o'
    · exact .inr ⟨j, o, rfl⟩
theorem wmask_set_sub {i : Nat} {sl : Slot} (h : sl.isOwn = false) : ∀ a, wmask Γ α (ρ.set i sl) a → wmask Γ α ρ a := by
  rintro a (z | ⟨j, o, rfl⟩)
  · exact .inl z
  · rcases own_set o with ⟨_, o'⟩ | ⟨n, o⟩
    · rw [h] at o'; cases o'
    · exact .inr ⟨j, o, rfl⟩
theorem self_upd {i : Nat} : α = fun j => if j = i then α i else α j := by
  funext j
  by_cases h : j = i
  · simp [h]
  · simp [h]
theorem Ok.setD {i : Nat} (ok : Ok Γ K M α σ H ρ) (r : R K (cut (mask M α ρ) H) v d) : Ok Γ K M α (σ.set i (some v)) H (ρ.set i (.d d)) :=
  ok.put (a := α i) self_upd (.inl rfl) (fun _ z => z) (cut_mono (mask_set_sub rfl)) (fun _ _ _ _ e => e) (fun z => by cases z) fun _ => ⟨v, rfl, R.same (cut_mono (mask_set_sub rfl)) r⟩
/-- slots are forgotten -/
theorem Ok.forget {ρ' : Env} (ok : Ok Γ K M α σ H ρ) (hl : ρ'.length = ρ.length) (h : ∀ (j : Nat) (sl : Slot), ρ'[j]? = some sl → sl = Slot.no ∨ ρ[j]? = some sl) : Ok Γ K M α σ H ρ' ∧ (∀ a, mask M α ρ' a → mask M α ρ a) ∧ (∀ a, wmask Γ α ρ' a → wmask Γ α ρ a) := by
  have own : ∀ j, ownAt ρ' j → ownAt ρ j := fun j ⟨sl, e, o⟩ => by
    rcases h j sl e with rfl | e'
    · cases o
    · exact ⟨sl, e', o⟩
  have mm : ∀ a, mask M α ρ' a → mask M α ρ a := fun a z => z.imp id fun ⟨j, o, e⟩ => ⟨j, own j o, e⟩
  refine ⟨⟨ok.sub, ok.trk, fun i o => ok.out i (own i o), fun i j a b => ok.inj i j (own i a) (own j b), by rw [hl]; exact ok.len, fun j sl e => ?_, ok.sf⟩, mm, fun a z => z.imp id fun ⟨j, o, e⟩ => ⟨j, own j o, e⟩⟩
  rcases h j sl e with rfl | e'
  · trivial
  · have q := ok.slot j sl e'
    have c : Same (cut (mask M α ρ) H) (cut (mask M α ρ') H) := cut_mono mm
    cases sl with
    | no => trivial
    | d y => obtain ⟨v, e1, r⟩ := q; exact ⟨v, e1, R.same c r⟩
    | bor y =>
      obtain ⟨v, e1, r⟩ := q
      exact ⟨v, e1, RBo.carry c (fun _ _ _ _ e => e) r⟩
    | own y => exact ⟨q.1, q.2.move c fun _ e => e⟩
/-- what was one's own is frozen -/
def frz (ρ : Env) : Env := ρ.map fun
  | .own c => .d c.toD
  | sl => sl
theorem Ok.frz (ok : Ok Γ K M α σ H ρ) : Ok Γ K M α σ H (frz ρ) ∧ ∀ j, ¬ ownAt (DL.frz ρ) j := by
  have no : ∀ j, ¬ ownAt (DL.frz ρ) j := by
    rintro j ⟨sl, e, o⟩
    unfold DL.frz at e
    rw [List.getElem?_map] at e
    cases q : ρ[j]? with
    | none => rw [q] at e; cases e
    | some u =>
      rw [q] at e
      cases e
      cases u <;> cases o
  have mm : ∀ a, mask M α (DL.frz ρ) a → mask M α ρ a := by
    rintro a (z | ⟨j, o, _⟩)
    · exact .inl z
    · exact absurd o (no j)
  refine ⟨⟨ok.sub, ok.trk, fun i o => absurd o (no i), fun i j a b => absurd a (no i), by unfold DL.frz; rw [List.length_map]; exact ok.len, fun j sl e => ?_, ok.sf⟩, no⟩
  have c : Same (cut (mask M α ρ) H) (cut (mask M α (DL.frz ρ)) H) := cut_mono mm
  unfold DL.frz at e
  rw [List.getElem?_map] at e
  cases q : ρ[j]? with
  | none => rw [q] at e; cases e
  | some u =>
    rw [q] at e
    have sl' := ok.slot j u q
    cases u with
    | no => cases e; trivial
    | d y => cases e; obtain ⟨v, e1, r⟩ := sl'; exact ⟨v, e1, R.same c r⟩
    | bor y =>
      cases e
      obtain ⟨v, e1, r⟩ := sl'
      exact ⟨v, e1, RBo.carry c (fun _ _ _ _ e => e) r⟩
    | own y =>
      cases e
      have na : ¬ mask M α (DL.frz ρ) (α j) := fun z => z.elim (ok.out j ⟨_, q, rfl⟩) fun ⟨i, o, _⟩ => no i o
      exact ⟨_, sl'.1, CellR.strict na (sl'.2.move c fun _ e => e)⟩
end

/-! ### what is wanted behind a statement -/
structure Post (S : Type) where
  nx : Env → S → Prop
  rt : D → S → Prop
  bk : Env → S → Prop := fun _ _ => False
  ct : Env → S → Prop := fun _ _ => False
  ex : Exn → S → Prop := fun _ _ => False
abbrev TP (S : Type) := Env → S → Post S → Prop
section
variable {S : Type}
def LnS (Γ : Fr S) (K : W.Frag) (E : XK) (t : TS) (T : TP S) : Prop :=
  ∀ {M : Msk} {α : Nat → Addr} {σ : St} {H : Hp} {ρ : Env} {s : S}, Ok Γ K M α σ H ρ → Γ.st s H → ∀ (P : Post S) (Dn : Ends), T ρ s P →
    (∀ σ' H' ρ' s' α', Ok Γ K M α' σ' H' ρ' → Γ.st s' H' → StS (wmask Γ α ρ) (wmask Γ α' ρ') H H' → P.nx ρ' s' → Dn.nx σ' H') →
    (∀ σ' H' ρ' s' α', Ok Γ K M α' σ' H' ρ' → Γ.st s' H' → StS (wmask Γ α ρ) (wmask Γ α' ρ') H H' → P.bk ρ' s' → Dn.bk σ' H') →
    (∀ σ' H' ρ' s' α', Ok Γ K M α' σ' H' ρ' → Γ.st s' H' → StS (wmask Γ α ρ) (wmask Γ α' ρ') H H' → P.ct ρ' s' → Dn.ct σ' H') →
    (∀ v H' d s', StS (wmask Γ α ρ) (fun _ => False) H H' → Γ.st s' H' → R K (cut M H') v d → P.rt d s' → Dn.rt v H') →
    (∀ c dx H' x s', StS (wmask Γ α ρ) (fun _ => False) H H' → Γ.st s' H' → XR K M H' c dx x → P.ex x s' → E c dx H') → t Dn σ H
variable {Γ : Fr S} {K : W.Frag} {E : XK} {mo : Mo} {ta tb tc : TE} {A B C : TX S} {t u : TS} {T U : TP S} {tt : TT} {TT' : TB S}
theorem XR.mono {m m' : Msk} {H : Hp} {c : Value} {dx : Option Addr} {x : Exn} (h : ∀ a, m' a → m a) (r : XR K m H c dx x) : XR K m' H c dx x := by
  obtain ⟨e, r⟩ := r
  refine ⟨e, ?_⟩
  cases q : x.fs with
  | none => rw [q] at r; exact r
  | some ds =>
    rw [q] at r
    obtain ⟨d, fs, e1, n, h1, h2⟩ := r
    exact ⟨d, fs, e1, fun z => n (h d z), h1, RFs.same (cut_mono h) h2⟩
theorem stS_stp {α : Nat → Addr} {ρ : Env} {H H' : Hp} (h : Stp Γ H H') : StS (wmask Γ α ρ) (wmask Γ α ρ) H H' := .of (fun _ z => z) h fun _ z => .inl z
theorem stS_end {α : Nat → Addr} {ρ : Env} {H H' : Hp} (h : Stp Γ H H') : StS (wmask Γ α ρ) (fun _ => False) H H' := .of (fun _ z => z.elim) h fun _ z => .inl z
def pNext : TP S := fun ρ s P => P.nx ρ s
def pSeq (T U : TP S) : TP S := fun ρ s P => T ρ s { P with nx := fun ρ' s' => U ρ' s' P }
def pCut (T U : TP S) : TP S := fun ρ s P => ∃ I : Env → S → Prop, T ρ s { P with nx := I } ∧ ∀ ρ' s', I ρ' s' → U ρ' s' P
def pDrop (A : TX S) : TP S := fun ρ s P => A ρ s (fun _ s1 => P.nx ρ s1) P.ex
def pSet (A : TX S) (i : Nat) : TP S := fun ρ s P => A ρ s (fun d s1 => P.nx (ρ.set i (.d d)) s1) P.ex
def ownOf : D → Option Cell
  | .lst xs => some (.lst xs)
  | .dct xs => some (.dct xs)
  | .obj C xs => some (.obj C xs)
  | _ => none
theorem ownOf_toD (c : Cell) : ownOf c.toD = some c := by cases c <;> rfl
def pOwn (A : TX S) (i : Nat) : TP S := fun ρ s P => A ρ s (fun d s1 => opt (ownOf d) fun c => P.nx (ρ.set i (.own c)) s1) P.ex
def pRet (A : TX S) : TP S := fun ρ s P => A (frz ρ) s P.rt P.ex
def pRetN : TP S := fun ρ s P => P.rt dN s
def pIf (C : TB S) (T U : TP S) : TP S := fun ρ s P => C ρ s (fun c s1 => if c = true then T ρ s1 P else U ρ s1 P) P.ex
def pBrk : TP S := fun ρ s P => P.bk ρ s
def pCnt : TP S := fun ρ s P => P.ct ρ s
theorem ls_next : LnS Γ K E tNext pNext := fun {_ α σ H ρ s} ok st P Dn q k _ _ _ _ => k σ H ρ s α ok st (stS_stp .refl) q
theorem ls_brk : LnS Γ K E tBreak pBrk := fun {_ α σ H ρ s} ok st P Dn q _ k _ _ _ => k σ H ρ s α ok st (stS_stp .refl) q
theorem ls_cnt : LnS Γ K E tCont pCnt := fun {_ α σ H ρ s} ok st P Dn q _ _ k _ _ => k σ H ρ s α ok st (stS_stp .refl) q
theorem ls_seq (h1 : LnS Γ K E t T) (h2 : LnS Γ K E u U) : LnS Γ K E (tSeq t u) (pSeq T U) := by
  intro M α σ H ρ s ok st P Dn q kn kb kc kr kx
  refine h1 ok st _ _ q (fun σ' H' ρ' s' α' ok' st' p z => ?_) kb kc kr kx
  exact h2 ok' st' P Dn z (fun σ2 H2 ρ2 s2 α2 o2 t2 p2 z2 => kn σ2 H2 ρ2 s2 α2 o2 t2 (p.trans p2) z2) (fun σ2 H2 ρ2 s2 α2 o2 t2 p2 z2 => kb σ2 H2 ρ2 s2 α2 o2 t2 (p.trans p2) z2)
    (fun σ2 H2 ρ2 s2 α2 o2 t2 p2 z2 => kc σ2 H2 ρ2 s2 α2 o2 t2 (p.trans p2) z2) (fun v H2 d s2 p2 t2 r z2 => kr v H2 d s2 (p.trans p2) t2 r z2) (fun c dx H2 x s2 p2 t2 r z2 => kx c dx H2 x s2 (p.trans p2) t2 r z2)
theorem ls_cut (h1 : LnS Γ K E t T) (h2 : LnS Γ K E u U) : LnS Γ K E (C8.tCut t u) (pCut T U) := by
  intro M α σ H ρ s ok st P Dn ⟨I, q1, q2⟩ kn kb kc kr kx
  refine ⟨fun σ' H' => ∃ ρ' s' α', Ok Γ K M α' σ' H' ρ' ∧ Γ.st s' H' ∧ StS (wmask Γ α ρ) (wmask Γ α' ρ') H H' ∧ I ρ' s', ?_, ?_⟩
  · exact h1 ok st _ _ q1 (fun σ' H' ρ' s' α' ok' st' p z => ⟨ρ', s', α', ok', st', p, z⟩) kb kc kr kx
  · rintro σ' H' ⟨ρ', s', α', ok', st', p, z⟩
    exact h2 ok' st' P Dn (q2 _ _ z) (fun σ2 H2 ρ2 s2 α2 o2 t2 p2 z2 => kn σ2 H2 ρ2 s2 α2 o2 t2 (p.trans p2) z2) (fun σ2 H2 ρ2 s2 α2 o2 t2 p2 z2 => kb σ2 H2 ρ2 s2 α2 o2 t2 (p.trans p2) z2)
      (fun σ2 H2 ρ2 s2 α2 o2 t2 p2 z2 => kc σ2 H2 ρ2 s2 α2 o2 t2 (p.trans p2) z2) (fun v H2 d s2 p2 t2 r z2 => kr v H2 d s2 (p.trans p2) t2 r z2) (fun c dx H2 x s2 p2 t2 r z2 => kx c dx H2 x s2 (p.trans p2) t2 r z2)
theorem ls_drop (ha : Ln Γ K E mo ta A) : LnS Γ K E (tDrop ta) (pDrop A) := by
  intro M α σ H ρ s ok st P Dn q kn kb kc kr kx
  exact ha ok st _ P.ex _ q (fun v H' d s' p st' r z => kn σ H' ρ s' α (ok.step p) st' (stS_stp p) z) (fun c dx H' x s' p st' r z => kx c dx H' x s' (stS_end p) st' (r.mono fun _ z => .inl z) z)
theorem ls_set {i : Nat} (ha : Ln Γ K E .s ta A) : LnS Γ K E (tAsg ta (gName i)) (pSet A i) := by
  intro M α σ H ρ s ok st P Dn q kn kb kc kr kx
  refine ha ok st _ P.ex _ q (fun v H' d s' p st' r z => ?_) (fun c dx H' x s' p st' r z => kx c dx H' x s' (stS_end p) st' (r.mono fun _ z => .inl z) z)
  exact kn _ H' _ s' α ((ok.step p).setD r) st' (.of (wmask_set_sub rfl) p fun _ z => .inl z) z
theorem ls_own {i : Nat} (hi0 : i ≠ 0) (ha : Ln Γ K E .f ta A) : LnS Γ K E (tAsg ta (gName i)) (pOwn A i) := by
  intro M α σ H ρ s ok st P Dn q kn kb kc kr kx
  refine ha ok st _ P.ex _ q (fun v H' d s' p st' r z => ?_) (fun c dx H' x s' p st' r z => kx c dx H' x s' (stS_end p) st' (r.mono fun _ z => .inl z) z)
  obtain ⟨c, e, z⟩ := opt_ex z
  generalize hsl : Slot.own c = sl at z
  have main : ∀ a, H a = none → v = .ref a → sl.isOwn = true → (∀ m' : Msk, (∀ b, m' b → mask M α ρ b ∨ b = a) → SlotR K Γ.M M m' H' a (some (some v)) sl) → Dn.nx (σ.set i (some v)) H' := by
    intro a na hv ho new
    have nM : ¬ M a := fun z => ok.trk a z na
    have nO : ∀ j, ownAt ρ j → α j ≠ a := fun j o e => ok.mtrk (α j) (.inr ⟨j, o, rfl⟩) (by rw [e]; exact na)
    have sub : ∀ b, mask M (fun j => if j = i then a else α j) (ρ.set i sl) b → mask M α ρ b ∨ b = a := by
      rintro b (z | ⟨j, o, rfl⟩)
      · exact .inl (.inl z)
      · by_cases hj : j = i
        · simp [hj]
        · simp only [hj, if_false]
          rcases own_set o with ⟨e, _⟩ | ⟨_, o⟩
          · exact absurd e hj
          · exact .inl (.inr ⟨j, o, rfl⟩)
    refine kn _ H' (ρ.set i sl) s' (fun j => if j = i then a else α j) (ok.put (a := a) rfl (.inr hi0) p.trk (fun b o e => ?_) (fun b o n _ e => p.keep b o n e) (fun _ => ⟨nM, fun j _ o => nO j o⟩) fun _ => new _ sub) st' ⟨fun b o n e => p.keep b o (fun z => n (.inl z)) e, ?_, p.trk⟩ z
    · obtain ⟨n, e⟩ := of_cut e
      have nb : b ≠ a := fun q => by rw [q, na] at e; cases e
      rw [cut_out fun z => (sub b z).elim n nb]
      exact p.keep b o (fun z => n (.inl (ok.sub b z))) e
    · rintro b (z | ⟨j, o, rfl⟩)
      · exact .inl (.inl z)
      · by_cases hj : j = i
        · simp only [hj, if_true]
          exact .inr na
        · simp only [hj, if_false]
          rcases own_set o with ⟨e, _⟩ | ⟨_, o⟩
          · exact absurd e hj
          · exact .inl (.inr ⟨j, o, rfl⟩)
  obtain ⟨a, c, hv, rfl, na, h⟩ := r
  rw [ownOf_toD] at e
  cases e
  subst hsl
  exact main a na hv rfl fun m' hm => ⟨by rw [hv], h.move (cut_mono hm) fun _ e => e⟩
theorem ls_ret (ha : Ln Γ K E .s ta A) : LnS Γ K E (tRet ta) (pRet A) := by
  intro M α σ H ρ s ok st P Dn q kn kb kc kr kx
  obtain ⟨ok', no⟩ := ok.frz
  have mm : ∀ a, M a → mask M α (frz ρ) a := fun a z => .inl z
  exact ha ok' st _ P.ex _ q (fun v H' d s' p st' r z => kr v H' d s' (stS_end p) st' (R.same (cut_mono mm) r) z) (fun c dx H' x s' p st' r z => kx c dx H' x s' (stS_end p) st' (r.mono mm) z)
theorem ls_retN : LnS Γ K E tRetN pRetN := fun {_ α σ H ρ s} ok st P Dn q _ _ _ k _ => k .non H dN s (stS_end .refl) st (.v _) q
theorem ls_if (hc : LnT Γ K E tt TT') (h1 : LnS Γ K E t T) (h2 : LnS Γ K E u U) : LnS Γ K E (tIfS tt t u) (pIf TT' T U) := by
  intro M α σ H ρ s ok st P Dn q kn kb kc kr kx
  refine hc ok st _ P.ex _ q (fun c H1 s1 p st1 z => ?_) (fun c dx H' x s' p st' r z => kx c dx H' x s' (stS_end p) st' (r.mono fun _ z => .inl z) z)
  have pp : StS (wmask Γ α ρ) (wmask Γ α ρ) H H1 := stS_stp p
  have go : ∀ {t : TS} {T : TP S}, LnS Γ K E t T → T ρ s1 P → t Dn σ H1 := fun h q =>
    h (ok.step p) st1 P Dn q (fun σ2 H2 ρ2 s2 α2 o2 t2 p2 z2 => kn σ2 H2 ρ2 s2 α2 o2 t2 (pp.trans p2) z2) (fun σ2 H2 ρ2 s2 α2 o2 t2 p2 z2 => kb σ2 H2 ρ2 s2 α2 o2 t2 (pp.trans p2) z2)
      (fun σ2 H2 ρ2 s2 α2 o2 t2 p2 z2 => kc σ2 H2 ρ2 s2 α2 o2 t2 (pp.trans p2) z2) (fun v H2 d s2 p2 t2 r z2 => kr v H2 d s2 (pp.trans p2) t2 r z2) (fun c dx H2 x s2 p2 t2 r z2 => kx c dx H2 x s2 (pp.trans p2) t2 r z2)
  cases c with
  | true => rw [if_pos rfl] at z ⊢; exact go h1 z
  | false => rw [if_neg (by decide)] at z ⊢; exact go h2 z
end
end L2.DL
/-! Targets, loops, comprehensions, calls over data -/
namespace L2.DL
open L2 L2.My PySem PySem.Spec PyProof.Rows

/-! ### targets -/
abbrev GD := D → Env → Option Env
abbrev GDs := List D → Env → Option Env
def gdN (i : Nat) : GD := fun d ρ => some (ρ.set i (.d d))
def gdNil : GDs := fun xs ρ => match xs with
  | [] => some ρ
  | _ => none
def gdCons (g : GD) (gs : GDs) : GDs := fun xs ρ => match xs with
  | x :: r => match g x ρ with
    | some ρ' => gs r ρ'
    | none => none
  | [] => none
def gdTup (n : Nat) (gs : GDs) : GD := fun d ρ => match d with
  | .tup xs => if xs.length = n then gs xs ρ else none
  | _ => none
section
variable {S : Type}
/-- ts: the slots that the target stores -/
def LnG (Γ : Fr S) (K : W.Frag) (ts : List Nat) (g : TG) (gd : GD) : Prop :=
  ∀ {M : Msk} {α : Nat → Addr} {σ : St} {H : Hp} {ρ ρ' : Env} {v : V} {d : D}, Ok Γ K M α σ H ρ → R K (cut (mask M α ρ) H) v d → gd d ρ = some ρ' → ∀ Q : St → Hp → Prop,
    (∀ σ', Ok Γ K M α σ' H ρ' → (∀ a, mask M α ρ' a → mask M α ρ a) → (∀ a, wmask Γ α ρ' a → wmask Γ α ρ a) → (∀ vs : List Nat, (∀ i ∈ ts, i ∈ vs) → wipe σ' vs = wipe σ vs) → Q σ' H) → g v σ H Q
def LnGs (Γ : Fr S) (K : W.Frag) (ts : List Nat) (g : TGs) (gd : GDs) : Prop :=
  ∀ {M : Msk} {α : Nat → Addr} {σ : St} {H : Hp} {ρ ρ' : Env} {v : List V} {d : List D}, Ok Γ K M α σ H ρ → RAll K (cut (mask M α ρ) H) v d → gd d ρ = some ρ' → ∀ Q : St → Hp → Prop,
    (∀ σ', Ok Γ K M α σ' H ρ' → (∀ a, mask M α ρ' a → mask M α ρ a) → (∀ a, wmask Γ α ρ' a → wmask Γ α ρ a) → (∀ vs : List Nat, (∀ i ∈ ts, i ∈ vs) → wipe σ' vs = wipe σ vs) → Q σ' H) → g v σ H Q
theorem set_none_set {σ : St} {i j : Nat} {x : Option V} (h : i ≠ j) : (σ.set i x).set j none = (σ.set j none).set i x := List.set_comm _ _ h
theorem wipe_set {σ : St} {i : Nat} {x : Option V} : ∀ {vs : List Nat}, i ∈ vs → wipe (σ.set i x) vs = wipe σ vs
  | [], h => by cases h
  | v :: vs, h => by
    unfold wipe
    by_cases e : i = v
    · subst e
      by_cases m : i ∈ vs
      · rw [wipe_set m]
      · have q : ∀ (us : List Nat), i ∉ us → wipe (σ.set i x) us = (wipe σ us).set i x := by
          intro us
          induction us with
          | nil => intro _; rfl
          | cons u r ih =>
            intro n
            unfold wipe
            rw [ih fun z => n (List.mem_cons_of_mem _ z), set_none_set fun z => n (by rw [z]; exact List.mem_cons_self)]
        rw [q vs m, List.set_set]
    · rcases List.mem_cons.mp h with z | m
      · exact absurd z e
      · rw [wipe_set m]
variable {Γ : Fr S} {K : W.Frag} {E : XK} {g : TG} {gd : GD} {gs : TGs} {gds : GDs} {ts us : List Nat}
theorem lg_name {i : Nat} : LnG Γ K [i] (gName i) (gdN i) := by
  intro M α σ H ρ ρ' v d ok r e Q k
  cases e
  exact k _ (ok.setD r) (mask_set_sub rfl) (wmask_set_sub rfl) fun vs h => wipe_set (h i List.mem_cons_self)
theorem lg_nil : LnGs Γ K [] gNil gdNil := by
  intro M α σ H ρ ρ' v d ok r e Q k
  cases r with
  | nil => cases e; exact ⟨rfl, k σ ok (fun _ z => z) (fun _ z => z) fun _ _ => rfl⟩
  | cons _ _ => cases e
theorem lg_cons (h1 : LnG Γ K ts g gd) (h2 : LnGs Γ K us gs gds) : LnGs Γ K (ts ++ us) (gCons g gs) (gdCons gd gds) := by
  intro M α σ H ρ ρ' v d ok r e Q k
  cases r with
  | nil => cases e
  | @cons x xs y ys r1 r2 =>
    unfold gdCons at e
    simp only at e
    split at e
    · rename_i ρ1 e1
      refine ⟨x, xs, rfl, h1 ok r1 e1 _ fun σ1 ok1 m1 w1 p1 => ?_⟩
      refine h2 ok1 (RAll.same (cut_mono m1) r2) e _ fun σ2 ok2 m2 w2 p2 => ?_
      exact k σ2 ok2 (fun a z => m1 a (m2 a z)) (fun a z => w1 a (w2 a z)) fun vs h => (p2 vs fun i z => h i (List.mem_append_right _ z)).trans (p1 vs fun i z => h i (List.mem_append_left _ z))
    · cases e
theorem lg_tup {n : Nat} (h : LnGs Γ K ts gs gds) : LnG Γ K ts (gTup K n gs) (gdTup n gds) := by
  intro M α σ H ρ ρ' v d ok r e Q k
  unfold gdTup at e
  split at e
  · rename_i xs
    split at e
    · rename_i hl
      cases r with
      | tup h1 h2 => exact ⟨_, _, rfl, SqT.same cut_le h1, by rw [RAll.len h2]; exact hl, h ok h2 e Q k⟩
    · cases e
  · cases e
variable {ta tb : TE} {A B : TX S} {t u : TS} {T U : TP S} {tt : TT} {C : TB S} {os : List Mo} {tl : TA} {L : TL S}
def pAsg (A : TX S) (gd : GD) : TP S := fun ρ s P => A ρ s (fun d s1 => opt (gd d ρ) fun ρ' => P.nx ρ' s1) P.ex
theorem ls_asg (ha : Ln Γ K E .s ta A) (hg : LnG Γ K ts g gd) : LnS Γ K E (tAsg ta g) (pAsg A gd) := by
  intro M α σ H ρ s ok st P Dn q kn kb kc kr kx
  refine ha ok st _ P.ex _ q (fun v H' d s' p st' r z => ?_) (fun c dx H' x s' p st' r z => kx c dx H' x s' (stS_end p) st' (r.mono fun _ z => .inl z) z)
  obtain ⟨ρ', e, z⟩ := opt_ex z
  exact hg (ok.step p) r e _ fun σ' ok' mm ww _ => kn σ' H' ρ' s' α ok' st' (.of ww p fun _ z => .inl z) z
def pPar (L : TL S) (i j : Nat) : TP S := fun ρ s P => L ρ s (fun ds s1 => match ds with
  | [x, y] => P.nx ((ρ.set i (.d x)).set j (.d y)) s1
  | _ => False) P.ex
theorem ARel.len {gM m : Msk} {H0 H : Hp} : ∀ {os : List Mo} {vs : List V} {ds : List D}, ARel K gM os m H0 H vs ds → vs.length = os.length ∧ ds.length = os.length
  | [], [], [], _ => ⟨rfl, rfl⟩
  | o :: os, v :: vs, d :: ds, h => by
    obtain ⟨a, b⟩ := ARel.len h.2
    exact ⟨by simp [a], by simp [b]⟩
  | [], _ :: _, _, h => by cases h
  | [], [], _ :: _, h => by cases h
  | _ :: _, [], _, h => by cases h
  | _ :: _, _ :: _, [], h => by cases h
theorem two {β : Type} {xs : List β} (h : xs.length = 2) : ∃ a b, xs = [a, b] := by
  match xs, h with
  | [a, b], _ => exact ⟨a, b, rfl⟩
theorem ls_par {i j : Nat} (h : LnA Γ K E [.s, .s] tl L) : LnS Γ K E (tPar i j tl) (pPar L i j) := by
  intro M α σ H ρ s ok st P Dn q kn kb kc kr kx
  refine h ok st _ P.ex _ q (fun vs H' ds s' p st' r z => ?_) (fun c dx H' x s' p st' r z => kx c dx H' x s' (stS_end p) st' (r.mono fun _ z => .inl z) z)
  obtain ⟨l1, l2⟩ := ARel.len r
  obtain ⟨v, w, rfl⟩ := two l1
  obtain ⟨x, y, rfl⟩ := two l2
  obtain ⟨r1, r2, _⟩ := r
  have ok1 := (ok.step p).setD (i := i) r1
  have ok2 := ok1.setD (i := j) (R.same (cut_mono (mask_set_sub rfl)) r2)
  exact ⟨v, w, rfl, kn _ H' _ s' α ok2 st' (.of (fun a z => wmask_set_sub rfl a (wmask_set_sub rfl a z)) p fun _ z => .inl z) z⟩

/-! ### what is walked -/
structure JOk (K : W.Frag) (w m : Msk) (H0 : Hp) (J : It) (ds : List D) : Prop where
  go : ∀ i H, i < ds.length → Keep w H0 H → J.go i H
  yld : ∀ (i : Nat) (H : Hp) (x : V) (H' : Hp) (d : D) (m' : Msk), ds[i]? = some d → Keep w H0 H → (∀ b, m' b → m b ∨ H0 b = none) → (∀ a, m' a → H a ≠ none) → J.yld i H x H' → Same H H' ∧ R K (cut m' H') x d
  stop : ∀ H, Keep w H0 H → J.stop ds.length H
/-- st: a statement's walk (what is one's own may change meanwhile), else a comprehension's -/
def LnI (Γ : Fr S) (K : W.Frag) (E : XK) (stm : Bool) (wi : TI) (T : TL S) : Prop :=
  ∀ {M : Msk} {α : Nat → Addr} {σ : St} {H : Hp} {ρ : Env} {s : S}, Ok Γ K M α σ H ρ → Γ.st s H → ∀ (QD : List D → S → Prop) (QX : Exn → S → Prop) (Q : It → Hp → Prop), T ρ s QD QX →
    (∀ J H' ds s', Stp Γ H H' → Γ.st s' H' → JOk K (if stm = true then wmask Γ α ρ else Γ.M) (mask M α ρ) H' J ds → QD ds s' → Q J H') →
    (∀ c dx H' x s', Stp Γ H H' → Γ.st s' H' → XR K (mask M α ρ) H' c dx x → QX x s' → E c dx H') → wi σ H Q
theorem keep_R {w m m' : Msk} {H0 H : Hp} {v : V} {d : D} (hw : ∀ a, w a → m a) (k : Keep w H0 H) (hm : ∀ b, m' b → m b ∨ H0 b = none) (r : R K (cut m H0) v d) : R K (cut m' H) v d := by
  refine R.same (fun b o e => ?_) r
  obtain ⟨n, e⟩ := of_cut e
  rw [cut_out fun z => (hm b z).elim n fun q => by rw [q] at e; cases e]
  exact k b o (fun z => n (hw b z)) e
/-- a list that stands where nothing changes meanwhile -/
theorem jok_list {w m : Msk} {H0 : Hp} {a : Addr} {xs : List V} {ds : List D} (hw : ∀ a, w a → m a) (na : ¬ w a) (h : H0 a = some (.lst xs)) (r : RAll K (cut m H0) xs ds) : JOk K w m H0 (Itl K a) ds := by
  have at' : ∀ {H}, Keep w H0 H → SqL K H a xs := fun k => .inl (.inl (k a _ na h))
  have len := RAll.len r
  refine ⟨fun i H hi k => ⟨xs, _, at' k, List.getElem?_eq_getElem (by rw [len]; exact hi)⟩, fun i H x H' d m' e k hm _ y => ?_, fun H k => ⟨xs, at' k, by omega⟩⟩
  obtain ⟨rfl, y⟩ := y
  obtain ⟨v, e1, r1⟩ := RAll.getD r e
  have q := y xs (at' k)
  rw [e1] at q
  cases q
  exact ⟨Same.refl _, keep_R hw k hm r1⟩
theorem keep_T {w : Msk} {H0 H : Hp} {a : Addr} {xs : List V} (na : ¬ w a) (k : Keep w H0 H) (h : SqT K H0 a xs) : SqT K H a xs := by
  rcases h with (h | ⟨o, h⟩) | h
  · exact .inl (.inl (k a _ na h))
  · exact .inl (.inr ⟨o, k a _ na h⟩)
  · exact .inr h
theorem jok_tup {w m : Msk} {H0 : Hp} {a : Addr} {xs : List V} {ds : List D} (hw : ∀ a, w a → m a) (h : SqT K (cut m H0) a xs) (r : RAll K (cut m H0) xs ds) : JOk K w m H0 (Itt K a) ds := by
  have at' : ∀ {H}, Keep w H0 H → SqT K H a xs := fun {H} k => by
    rcases h with (h | ⟨o, h⟩) | h
    · obtain ⟨n, h⟩ := of_cut h
      exact .inl (.inl (k a _ (fun z => n (hw a z)) h))
    · obtain ⟨n, h⟩ := of_cut h
      exact .inl (.inr ⟨o, k a _ (fun z => n (hw a z)) h⟩)
    · exact .inr h
  have len := RAll.len r
  refine ⟨fun i H hi k => ⟨xs, _, at' k, List.getElem?_eq_getElem (by rw [len]; exact hi)⟩, fun i H x H' d m' e k hm _ y => ?_, fun H k => ⟨xs, at' k, by omega⟩⟩
  obtain ⟨rfl, y⟩ := y
  obtain ⟨v, e1, r1⟩ := RAll.getD r e
  have q := y xs (at' k)
  rw [e1] at q
  cases q
  exact ⟨Same.refl _, keep_R hw k hm r1⟩
theorem jok_rng {w m : Msk} {H0 : Hp} {lo : Int} {n : Nat} : JOk K w m H0 (Itr lo n) ((List.range n).map fun (i : Nat) => dI (lo + (i : Int))) := by
  refine ⟨fun i H hi _ => (show i < n by simpa using hi), fun i H x H' d m' e _ _ _ y => ?_, fun H _ => by show n ≤ _; simp⟩
  obtain ⟨rfl, rfl⟩ := y
  rw [List.getElem?_map] at e
  cases q : (List.range n)[i]? with
  | none => rw [q] at e; cases e
  | some j =>
    rw [q] at e
    obtain ⟨hi, ej⟩ := List.getElem?_eq_some_iff.mp q
    simp at ej
    subst ej
    cases e
    exact ⟨Same.refl _, .v _⟩
def iSeq (K : W.Frag) (t : TE) : TI := fun σ H R => t σ H fun x H1 => (∃ a, x = .ref a ∧ (((∃ xs, SqL K H1 a xs) ∧ R (Itl K a) H1) ∨ ((∃ xs, SqT K H1 a xs) ∧ R (Itt K a) H1))) ∨ ∃ z, x = .str z ∧ R (Its z) H1
theorem pi_seq {X : Cx} {tg l : Expr} {t : TE} (h : PE X l t) : PI X tg l (iSeq X.K t) := by
  refine ⟨fun pins s σ H R I q => ?_⟩
  refine thn (h.run pins s σ H _ I q) fun v s1 ⟨x, H1, I1, r1, q1⟩ => ?_
  rcases q1 with ⟨a, e, q1⟩ | ⟨z, e, q1⟩
  · subst e
    cases r1
    have new : ∀ b, b ∈ [s1.heap.objs.size] → FpOk X pins H1 b := fun b hb => by
      have e : b = s1.heap.objs.size := by simpa using hb
      subst e
      exact I1.fpOk (Nat.le_refl _) (I1.hok.fresh (Nat.le_refl _))
    rcases q1 with ⟨⟨xs, hq⟩, q⟩ | ⟨⟨xs, hq⟩, q⟩
    · obtain ⟨its, rv, p, hz⟩ := I1.list hq
      refine wpAny_pyIter_list p.isList ?_
      exact ⟨s1.heap.objs.size, [s1.heap.objs.size], _, _, H1, rfl, I1.kept (t' := s1.toks) fun b o e => Heap.get?_push_of_some _ e, turn_list a _, ⟨_, Heap.get?_push_size _ rfl, rfl, rfl⟩, new, q⟩
    · obtain ⟨its, rv, p, hz⟩ := I1.tuple hq
      refine wpAny_pyIter_tuple (show s1.heap.IsTuple a its.toArray from p) ?_
      exact ⟨s1.heap.objs.size, [s1.heap.objs.size], _, _, H1, rfl, I1.kept (t' := s1.toks) fun b o e => Heap.get?_push_of_some _ e, turn_tuple a _, ⟨_, Heap.get?_push_size _ rfl, rfl, rfl⟩, new, q⟩
  · subst e
    obtain ⟨t, rfl⟩ := r1
    cases ha : z.cps.all (· < 128)
    · exact wpAny_pyIter_wide ha (pi_one (tk := s1.toks) I1 _ (turn_str _ z t "str_iterator" (.inr rfl)) ⟨_, Heap.get?_push_size _ rfl, rfl, rfl⟩ q1)
    · exact wpAny_pyIter_ascii ha (pi_one (tk := s1.toks) I1 _ (turn_str _ z t "str_ascii_iterator" (.inl rfl)) ⟨_, Heap.get?_push_size _ rfl, rfl, rfl⟩ q1)
def asSeq : D → Option (List D)
  | .lst xs => some xs
  | .tup xs => some xs
  | _ => none
def asIt : D → Option (List D)
  | .lst xs => some xs
  | .tup xs => some xs
  | .v (.str z) => some (z.cps.toList.map fun c => dS ⟨#[c]⟩)
  | _ => none
def xSeq (A : TX S) : TL S := fun ρ s Q X => A ρ s (fun d s1 => opt (asIt d) fun ds => Q ds s1) X
theorem jok_str {w m : Msk} {H0 : Hp} {z : Str} : JOk K w m H0 (Its z) (z.cps.toList.map fun c => dS ⟨#[c]⟩) := by
  refine ⟨fun i H hi _ => (show i < z.cps.size by simpa using hi), fun i H x H' d m' e _ _ _ y => ?_, fun H _ => (show z.cps.size ≤ _ by simp)⟩
  obtain ⟨rfl, c, hc, rfl⟩ := y
  rw [List.getElem?_map] at e
  have hc' : z.cps.toList[i]? = some c := by rw [Array.getElem?_toList]; exact hc
  rw [hc'] at e
  cases e
  exact ⟨Same.refl _, .v _⟩
theorem wm_m {M : Msk} {α : Nat → Addr} {σ : St} {H : Hp} {ρ : Env} (ok : Ok Γ K M α σ H ρ) {stm : Bool} : ∀ a, (if stm = true then wmask Γ α ρ else Γ.M) a → mask M α ρ a := by
  intro a z
  cases stm with
  | true => exact z.imp (ok.sub a) id
  | false => exact .inl (ok.sub a z)
theorem li_seq {stm : Bool} (ha : Ln Γ K E .s ta A) : LnI Γ K E stm (iSeq K ta) (xSeq A) := by
  intro M α σ H ρ s ok st QD QX Q q k kx
  refine ha ok st _ QX _ q (fun v H' d s' p st' r z => ?_) kx
  obtain ⟨ds, e, z⟩ := opt_ex z
  have ok' := ok.step p
  cases r with
  | lst h1 h2 =>
    cases e
    obtain ⟨n, h1⟩ := of_cut h1
    exact .inl ⟨_, rfl, .inl ⟨⟨_, .inl (.inl h1)⟩, k _ H' _ s' p st' (jok_list (wm_m ok') (fun y => n (wm_m ok' _ y)) h1 h2) z⟩⟩
  | tup h1 h2 =>
    cases e
    exact .inl ⟨_, rfl, .inr ⟨⟨_, SqT.same cut_le h1⟩, k _ H' _ s' p st' (jok_tup (wm_m ok') h1 h2) z⟩⟩
  | v => cases v <;> first | (cases e; exact .inr ⟨_, rfl, k _ H' _ s' p st' jok_str z⟩) | cases e
  | dct => cases e
  | obj => cases e
  | exc => cases e
  | dtp => cases e
/-- a lent list in a comprehension -/
theorem li_seqb (ha : Ln Γ K E .b ta A) : LnI Γ K E false (iSeq K ta) (xSeq A) := by
  intro M α σ H ρ s ok st QD QX Q q k kx
  refine ha ok st _ QX _ q (fun v H' d s' p st' r z => ?_) kx
  obtain ⟨ds, e, z⟩ := opt_ex z
  have ok' := ok.step p
  rcases r with r | ⟨a, c, rfl, rfl, n, h⟩
  · cases r with
    | lst h1 h2 =>
      cases e
      obtain ⟨n, h1⟩ := of_cut h1
      exact .inl ⟨_, rfl, .inl ⟨⟨_, .inl (.inl h1)⟩, k _ H' _ s' p st' (jok_list (wm_m ok' (stm := false)) (fun y => n (ok'.msub _ y)) h1 h2) z⟩⟩
    | tup h1 h2 =>
      cases e
      exact .inl ⟨_, rfl, .inr ⟨⟨_, SqT.same cut_le h1⟩, k _ H' _ s' p st' (jok_tup (wm_m ok' (stm := false)) h1 h2) z⟩⟩
    | v => cases v <;> first | (cases e; exact .inr ⟨_, rfl, k _ H' _ s' p st' jok_str z⟩) | cases e
    | dct => cases e
    | obj => cases e
    | exc => cases e
    | dtp => cases e
  · cases c with
    | lst xs =>
      cases e
      obtain ⟨vs, h1, h2⟩ := h
      exact .inl ⟨_, rfl, .inl ⟨⟨_, .inl (.inl h1)⟩, k _ H' _ s' p st' (jok_list (wm_m ok' (stm := false)) n.2 h1 h2) z⟩⟩
    | _ => cases e
/-- a parameter that is lent, walked by a statement -/
def xSeqP (i : Nat) : TL S := fun ρ s Q _ => match ρ[i]? with
  | some (.d x) => opt (asIt x) fun ds => Q ds s
  | some (.bor x) => opt (asIt x) fun ds => Q ds s
  | _ => False
theorem li_seqp {i : Nat} : LnI Γ K E true (iSeq K (tVar i)) (xSeqP i) := by
  intro M α σ H ρ s ok st QD QX Q q k kx
  unfold xSeqP at q
  have strict : ∀ {v d}, σ[i]? = some (some v) → R K (cut (mask M α ρ) H) v d → (opt (asIt d) fun ds => QD ds s) → iSeq K (tVar i) σ H Q := by
    intro v d e r z
    obtain ⟨ds, e', z⟩ := opt_ex z
    cases r with
    | lst h1 h2 =>
      cases e'
      obtain ⟨n, h1⟩ := of_cut h1
      exact ⟨_, e, .inl ⟨_, rfl, .inl ⟨⟨_, .inl (.inl h1)⟩, k _ H _ s .refl st (jok_list (wm_m ok (stm := true)) (fun y => n (wm_m ok (stm := true) _ y)) h1 h2) z⟩⟩⟩
    | tup h1 h2 =>
      cases e'
      exact ⟨_, e, .inl ⟨_, rfl, .inr ⟨⟨_, SqT.same cut_le h1⟩, k _ H _ s .refl st (jok_tup (wm_m ok (stm := true)) h1 h2) z⟩⟩⟩
    | v => cases v <;> first | (cases e'; exact ⟨_, e, .inr ⟨_, rfl, k _ H _ s .refl st jok_str z⟩⟩) | cases e'
    | dct => cases e'
    | obj => cases e'
    | exc => cases e'
    | dtp => cases e'
  split at q
  · rename_i x e
    obtain ⟨v, e1, r⟩ := ok.slot i _ e
    exact strict e1 r q
  · rename_i x e
    obtain ⟨v, e1, r⟩ := ok.slot i _ e
    rcases r with r | ⟨a, c, rfl, rfl, n, h⟩
    · exact strict e1 r q
    · have na : ¬ wmask Γ α ρ a := fun z => z.elim n.2 fun ⟨j, o, e⟩ => ok.out j o (by rw [e]; exact n.1)
      cases c with
      | lst xs =>
        obtain ⟨vs, h1, h2⟩ := h
        exact ⟨_, e1, .inl ⟨_, rfl, .inl ⟨⟨_, .inl (.inl h1)⟩, k _ H _ s .refl st (jok_list (wm_m ok (stm := true)) na h1 h2) q⟩⟩⟩
      | _ => exact q.elim
  · exact q.elim
def rngD (lo hi : Int) : List D := (List.range (hi - lo).toNat).map fun (i : Nat) => dI (lo + (i : Int))
def inR (i : Int) : Bool := decide (-(2 ^ 62) ≤ i) && decide (i < 2 ^ 62)
def xRng1 (A : TX S) : TL S := fun ρ s Q X => A ρ s (fun d s1 => match d with
  | .v (.int j) => inR j = true ∧ Q (rngD 0 j) s1
  | _ => False) X
theorem li_rng1 {stm : Bool} (ha : Ln Γ K E .b ta A) : LnI Γ K E stm (iRng1 (tCons ta tNil)) (xRng1 A) := by
  intro M α σ H ρ s ok st QD QX Q q k kx
  refine ha ok st _ QX _ q (fun v H' d s' p st' r z => ?_) kx
  split at z
  · obtain rfl := RBo.sc r
    simp only [inR, Bool.and_eq_true, decide_eq_true_eq] at z
    refine ⟨_, rfl, z.1.1, z.1.2, k _ H' _ s' p st' jok_rng ?_⟩
    have := z.2
    unfold rngD at this
    simpa using this
  · exact z.elim
def xRng2 (A B : TX S) : TL S := fun ρ s Q X => A ρ s (fun d s1 => B ρ s1 (fun c s2 => match d, c with
  | .v (.int i), .v (.int j) => inR i = true ∧ inR j = true ∧ Q (rngD i j) s2
  | _, _ => False) X) X
theorem li_rng2 {stm : Bool} (ha : Ln Γ K E .b ta A) (hb : Ln Γ K E .b tb B) : LnI Γ K E stm (iRng2 (tCons ta (tCons tb tNil))) (xRng2 A B) := by
  intro M α σ H ρ s ok st QD QX Q q k kx
  refine ha ok st _ QX _ q (fun v H1 d s1 p1 st1 r z => ?_) kx
  refine hb (ok.step p1) st1 _ QX _ z (fun u H' c s' p st' r' z => ?_) (fun c dx H' x s' p st' r z => kx c dx H' x s' (p1.trans p) st' r z)
  split at z
  · obtain rfl := RBo.sc r
    obtain rfl := RBo.sc r'
    simp only [inR, Bool.and_eq_true, decide_eq_true_eq] at z
    exact ⟨_, _, rfl, ⟨z.1.1, z.1.2, z.2.1.1, z.2.1.2⟩, k _ H' _ s' (p1.trans p) st' jok_rng z.2.2⟩
  · exact z.elim

/-! ### for, while -/
def backSlot : Slot → Slot → Slot
  | .no, _ => .no
  | _, b => b
def back (ρ ρ' : Env) : Env := List.zipWith backSlot ρ ρ'
theorem back_ok {M : Msk} {α : Nat → Addr} {σ : St} {H : Hp} {ρ ρ' : Env} (hl : ρ'.length = ρ.length) (ok : Ok Γ K M α σ H ρ') : Ok Γ K M α σ H (back ρ ρ') ∧ (∀ a, mask M α (back ρ ρ') a → mask M α ρ' a) ∧ (∀ a, wmask Γ α (back ρ ρ') a → wmask Γ α ρ' a) := by
  refine ok.forget (by unfold back; rw [List.length_zipWith]; omega) fun j sl e => ?_
  unfold back at e
  rw [List.getElem?_zipWith] at e
  cases q : ρ[j]? with
  | none => rw [q] at e; cases e
  | some a =>
    cases q' : ρ'[j]? with
    | none => rw [q, q'] at e; cases e
    | some b =>
      rw [q, q'] at e
      cases e
      cases a <;> first | exact .inl rfl | exact .inr rfl
theorem back_len {ρ ρ' : Env} (hl : ρ'.length = ρ.length) : (back ρ ρ').length = ρ.length := by unfold back; rw [List.length_zipWith]; omega
def forT (gd : GD) (T : TP S) (P : Post S) : List D → Env → S → Prop
  | [], ρ, s => P.nx ρ s
  | d :: r, ρ, s => opt (gd d ρ) fun ρ1 => T ρ1 s { P with nx := fun ρ' s' => ρ'.length = ρ.length ∧ forT gd T P r (back ρ ρ') s', ct := fun ρ' s' => ρ'.length = ρ.length ∧ forT gd T P r (back ρ ρ') s', bk := fun ρ' s' => ρ'.length = ρ.length ∧ P.nx (back ρ ρ') s' }
def pFor (I : TL S) (gd : GD) (T : TP S) : TP S := fun ρ s P => I ρ s (fun ds s1 => forT gd T P ds ρ s1) P.ex
theorem mask_wm {M : Msk} {α α' : Nat → Addr} {ρ ρ' : Env} {H H' : Hp} (h : StS (wmask Γ α ρ) (wmask Γ α' ρ') H H') (hs : ∀ a, Γ.M a → M a) : ∀ a, mask M α' ρ' a → mask M α ρ a ∨ H a = none := by
  rintro a (z | z)
  · exact .inl (.inl z)
  · rcases h.new a (.inr z) with q | q
    · exact .inl (q.imp (hs a) id)
    · exact .inr q
theorem ls_for {wi : TI} {I : TL S} (hi : LnI Γ K E true wi I) (hg : LnG Γ K ts g gd) (hb : LnS Γ K E t T) : LnS Γ K E (tFor wi g t) (pFor I gd T) := by
  intro M α σ H ρ s ok st P Dn q kn kb kc kr kx
  refine hi ok st (fun ds s1 => forT gd T P ds ρ s1) P.ex _ q ?_ (fun c dx H' x s' p st' r z => kx c dx H' x s' (stS_end p) st' (r.mono fun _ z => .inl z) z)
  intro J H1 ds s1 p st1 jok q1
  have p0 : StS (wmask Γ α ρ) (wmask Γ α ρ) H H1 := stS_stp p
  have ok1 := ok.step p
  refine ⟨fun i m σ' H' => m = ds.length - i ∧ i ≤ ds.length ∧ ∃ ρ' s' α', Ok Γ K M α' σ' H' ρ' ∧ Γ.st s' H' ∧ StS (wmask Γ α ρ) (wmask Γ α' ρ') H1 H' ∧ forT gd T P (ds.drop i) ρ' s', ⟨_, rfl, Nat.zero_le _, ρ, s1, α, ok1, st1, stS_stp .refl, q1⟩, ?_⟩
  rintro i m σ' H' ⟨rfl, hi', ρ', s', α', ok', st', pp, z⟩
  by_cases lt : i < ds.length
  · have e : ds.drop i = ds[i] :: ds.drop (i + 1) := List.drop_eq_getElem_cons lt
    rw [e] at z
    unfold forT at z
    obtain ⟨ρ1, e1, z⟩ := opt_ex z
    refine .inr ⟨jok.go i H' lt pp.keep, _, fun σ2 H2 w => ⟨ds.length - (i + 1), by omega, w⟩, fun x H2 y => ?_⟩
    obtain ⟨sm, rx⟩ := jok.yld i H' x H2 ds[i] (mask M α' ρ') (List.getElem?_eq_getElem lt) pp.keep (mask_wm pp ok.sub) ok'.mtrk y
    have ok2 := ok'.step (Stp.of (Γ := Γ) sm)
    have st2 := Fr.same ok'.frt sm st'
    have lenE : ρ1.length = ρ'.length ∨ True := .inr trivial
    refine hg ok2 rx e1 _ fun σ2 ok3 mm ww _ => ?_
    have pb : StS (wmask Γ α ρ) (wmask Γ α' ρ1) H1 H2 := pp.trans ((stS_stp (Γ := Γ) (α := α') (ρ := ρ') (Stp.of sm)).trans (.of ww .refl fun _ z => .inl z))
    refine hb ok3 st2 _ _ z (fun σ3 H3 ρ3 s3 α3 o3 t3 p3 z3 => ?_) (fun σ3 H3 ρ3 s3 α3 o3 t3 p3 z3 => ?_) (fun σ3 H3 ρ3 s3 α3 o3 t3 p3 z3 => ?_) (fun v H3 d s3 p3 t3 r z3 => kr v H3 d s3 (p0.trans (pb.trans p3)) t3 r z3) (fun c dx H3 x s3 p3 t3 r z3 => kx c dx H3 x s3 (p0.trans (pb.trans p3)) t3 r z3)
    · obtain ⟨hl, z3⟩ := z3
      obtain ⟨o4, m4, w4⟩ := back_ok hl o3
      exact ⟨rfl, lt, _, s3, α3, o4, t3, pb.trans (p3.trans (.of w4 .refl fun _ z => .inl z)), z3⟩
    · obtain ⟨hl, z3⟩ := z3
      obtain ⟨o4, m4, w4⟩ := back_ok hl o3
      exact kn σ3 H3 _ s3 α3 o4 t3 (p0.trans (pb.trans (p3.trans (.of w4 .refl fun _ z => .inl z)))) z3
    · obtain ⟨hl, z3⟩ := z3
      obtain ⟨o4, m4, w4⟩ := back_ok hl o3
      exact ⟨rfl, lt, _, s3, α3, o4, t3, pb.trans (p3.trans (.of w4 .refl fun _ z => .inl z)), z3⟩
  · have e : i = ds.length := by omega
    subst e
    rw [List.drop_length] at z
    exact .inl ⟨jok.stop H' pp.keep, kn σ' H' ρ' s' α' ok' st' (p0.trans pp) z⟩
def pWhile (C : TB S) (T : TP S) : TP S := fun ρ s P => ∃ W : Nat → Env → S → Prop, (∃ m, W m ρ s) ∧ ∀ m ρ s, W m ρ s → C ρ s (fun b s1 => if b = true then T ρ s1 { P with
    nx := fun ρ' s' => ρ'.length = ρ.length ∧ ∃ m', m' < m ∧ W m' (back ρ ρ') s', ct := fun ρ' s' => ρ'.length = ρ.length ∧ ∃ m', m' < m ∧ W m' (back ρ ρ') s', bk := fun ρ' s' => ρ'.length = ρ.length ∧ P.nx (back ρ ρ') s' } else P.nx ρ s1) P.ex
theorem ls_while (hc : LnT Γ K E tt C) (hb : LnS Γ K E t T) : LnS Γ K E (tWhile tt t) (pWhile C T) := by
  intro M α σ H ρ s ok st P Dn ⟨W, ⟨m0, w0⟩, turn⟩ kn kb kc kr kx
  refine ⟨fun m σ' H' => ∃ ρ' s' α', Ok Γ K M α' σ' H' ρ' ∧ Γ.st s' H' ∧ StS (wmask Γ α ρ) (wmask Γ α' ρ') H H' ∧ W m ρ' s', ⟨m0, ρ, s, α, ok, st, stS_stp .refl, w0⟩, ?_⟩
  rintro m σ' H' ⟨ρ', s', α', ok', st', pp, w⟩
  refine hc ok' st' _ P.ex _ (turn m ρ' s' w) (fun b H1 s1 p1 st1 z => ?_) (fun c dx H3 x s3 p3 t3 r z3 => kx c dx H3 x s3 (pp.trans (stS_end p3)) t3 (r.mono fun _ z => .inl z) z3)
  have p2 : StS (wmask Γ α ρ) (wmask Γ α' ρ') H H1 := pp.trans (stS_stp p1)
  have ok1 := ok'.step p1
  cases b with
  | true =>
    rw [if_pos rfl] at z ⊢
    refine ⟨_, fun σ2 H2 w => w, ?_⟩
    refine hb ok1 st1 _ _ z (fun σ3 H3 ρ3 s3 α3 o3 t3 p3 z3 => ?_) (fun σ3 H3 ρ3 s3 α3 o3 t3 p3 z3 => ?_) (fun σ3 H3 ρ3 s3 α3 o3 t3 p3 z3 => ?_) (fun v H3 d s3 p3 t3 r z3 => kr v H3 d s3 (p2.trans p3) t3 r z3) (fun c dx H3 x s3 p3 t3 r z3 => kx c dx H3 x s3 (p2.trans p3) t3 r z3)
    · obtain ⟨hl, m', lt, z3⟩ := z3
      obtain ⟨o4, m4, w4⟩ := back_ok hl o3
      exact ⟨m', lt, _, s3, α3, o4, t3, p2.trans (p3.trans (.of w4 .refl fun _ z => .inl z)), z3⟩
    · obtain ⟨hl, z3⟩ := z3
      obtain ⟨o4, m4, w4⟩ := back_ok hl o3
      exact kn σ3 H3 _ s3 α3 o4 t3 (p2.trans (p3.trans (.of w4 .refl fun _ z => .inl z))) z3
    · obtain ⟨hl, m', lt, z3⟩ := z3
      obtain ⟨o4, m4, w4⟩ := back_ok hl o3
      exact ⟨m', lt, _, s3, α3, o4, t3, p2.trans (p3.trans (.of w4 .refl fun _ z => .inl z)), z3⟩
  | false =>
    rw [if_neg (by decide)] at z ⊢
    exact kn σ' H1 ρ' s1 α' ok1 st1 p2 z
end
end L2.DL
/-! Comprehensions, calls, own lists that change; a def's promise over data -/
namespace L2.DL
open L2 L2.My PySem PySem.Spec PyProof.Rows

/-! ### a comprehension's environment -/
def wipeE (ρ : Env) : List Nat → Env
  | [] => ρ
  | v :: vs => (wipeE ρ vs).set v .no
def lendS : Slot → Slot
  | .own c => .bor c.toD
  | sl => sl
def inE (ρ : Env) (vs : List Nat) : Env := (wipeE ρ vs).map lendS
theorem wipeE_len (ρ : Env) : ∀ vs : List Nat, (wipeE ρ vs).length = ρ.length
  | [] => rfl
  | v :: vs => by unfold wipeE; rw [List.length_set, wipeE_len ρ vs]
theorem wipeE_at {ρ : Env} {j : Nat} {sl : Slot} : ∀ {vs : List Nat}, (wipeE ρ vs)[j]? = some sl → sl = Slot.no ∨ (j ∉ vs ∧ ρ[j]? = some sl)
  | [], h => .inr ⟨by simp, h⟩
  | v :: vs, h => by
    unfold wipeE at h
    by_cases e : v = j
    · subst e
      by_cases l : v < (wipeE ρ vs).length
      · rw [List.getElem?_set_self l] at h; cases h; exact .inl rfl
      · rw [List.getElem?_eq_none (by simpa using l)] at h; cases h
    · rw [List.getElem?_set_ne e] at h
      rcases wipeE_at h with h | ⟨h1, h2⟩
      · exact .inl h
      · exact .inr ⟨by simp only [List.mem_cons, not_or]; exact ⟨fun z => e z.symm, h1⟩, h2⟩
theorem wipe_ne {σ : St} {j : Nat} : ∀ {vs : List Nat}, j ∉ vs → (wipe σ vs)[j]? = σ[j]?
  | [], _ => rfl
  | v :: vs, h => by
    unfold wipe
    simp only [List.mem_cons, not_or] at h
    rw [List.getElem?_set_ne fun z => h.1 z.symm, wipe_ne h.2]
theorem wipe_stay {τ : St} : ∀ {us : List Nat}, (∀ u ∈ us, τ.set u none = τ) → wipe τ us = τ
  | [], _ => rfl
  | u :: r, h => by
    unfold wipe
    rw [wipe_stay fun i z => h i (List.mem_cons_of_mem _ z)]
    exact h u List.mem_cons_self
theorem wipe_mem {σ : St} {u : Nat} : ∀ {ws : List Nat}, u ∈ ws → (wipe σ ws).set u none = wipe σ ws
  | [], z => by cases z
  | w :: ws, z => by
    unfold wipe
    by_cases e : w = u
    · subst e; rw [List.set_set]
    · rw [List.set_comm _ _ e]
      rcases List.mem_cons.mp z with q | q
      · exact absurd q.symm e
      · rw [wipe_mem q]
theorem wipe_wipe {σ : St} {vs : List Nat} : wipe (wipe σ vs) vs = wipe σ vs := wipe_stay fun u z => wipe_mem z
section
variable {S : Type} {Γ : Fr S} {K : W.Frag} {E : XK} {g : TG} {gd : GD} {ts : List Nat} {ta tb te : TE} {A B : TX S} {t u : TS} {T U : TP S} {tt : TT} {C : TB S} {os : List Mo} {tl : TA} {L : TL S} {mo : Mo}
theorem Ok.inner {M : Msk} {α : Nat → Addr} {σ : St} {H H' : Hp} {ρ : Env} {D0 : Addr} {vs : List Nat} (ok : Ok Γ K M α σ H ρ) (hD : H D0 = none) (hD' : H' D0 ≠ none) (k : ∀ a o, ¬ Γ.M a → a ≠ D0 → H a = some o → H' a = some o) (tr : ∀ a, H a ≠ none → H' a ≠ none) :
    Ok Γ K (fun b => mask M α ρ b ∨ b = D0) α (wipe σ vs) H' (inE ρ vs) ∧ (∀ i, ¬ ownAt (inE ρ vs) i) := by
  have no : ∀ j, ¬ ownAt (inE ρ vs) j := by
    rintro j ⟨sl, e, o⟩
    unfold inE at e
    rw [List.getElem?_map] at e
    cases q : (wipeE ρ vs)[j]? with
    | none => rw [q] at e; cases e
    | some u =>
      rw [q] at e
      cases e
      cases u <;> cases o
  refine ⟨⟨fun a z => .inl (ok.msub a z), fun a z => ?_, fun i o => absurd o (no i), fun i j a b => absurd a (no i), ?_, fun j sl e => ?_, ok.sf⟩, no⟩
  · rcases z with z | rfl
    · exact tr a (ok.mtrk a z)
    · exact hD'
  · unfold inE
    rw [List.length_map, wipeE_len, wipe_length]
    exact ok.len
  · have mm : ∀ a, mask (fun b => mask M α ρ b ∨ b = D0) α (inE ρ vs) a → mask M α ρ a ∨ a = D0 := by
      rintro a (z | ⟨i, o, _⟩)
      · exact z
      · exact absurd o (no i)
    have c : Same (cut (mask M α ρ) H) (cut (mask (fun b => mask M α ρ b ∨ b = D0) α (inE ρ vs)) H') := fun b o e => by
      obtain ⟨n, e⟩ := of_cut e
      have ne : b ≠ D0 := ne_of_none e hD
      rw [cut_out fun z => (mm b z).elim n ne]
      exact k b o (fun z => n (ok.msub b z)) ne e
    unfold inE at e
    rw [List.getElem?_map] at e
    cases q : (wipeE ρ vs)[j]? with
    | none => rw [q] at e; cases e
    | some u =>
      rw [q] at e
      cases e
      rcases wipeE_at q with rfl | ⟨nj, q⟩
      · trivial
      · rw [wipe_ne nj]
        have sl' := ok.slot j u q
        cases u with
        | no => trivial
        | d y => obtain ⟨v, e1, r⟩ := sl'; exact ⟨v, e1, R.same c r⟩
        | bor y =>
          obtain ⟨v, e1, r⟩ := sl'
          exact ⟨v, e1, RBo.mono (fun a z => .inl (.inl z)) (RBo.carry c (fun b u n o e => k b u n (ne_of_none e hD) e) r)⟩
        | own y =>
          have oj : ownAt ρ j := ⟨_, q, rfl⟩
          have ng : ¬ Γ.M (α j) := fun z => ok.out j oj (ok.sub _ z)
          exact ⟨_, sl'.1, .inr ⟨α j, y, rfl, rfl, ⟨.inl (.inr ⟨j, oj, rfl⟩), ng⟩, sl'.2.move c fun o e => k _ _ ng (ne_of_none e hD) e⟩⟩
def bYes : TB S := fun _ s Q _ => Q true s
theorem lt_yes : LnT Γ K E tYes bYes := fun {_ _ _ H _ s} _ st _ _ _ q k _ => k true H s .refl st q
def lcT (gd : GD) (C : TB S) (A : TX S) (ρ : Env) (Q : D → S → Prop) : List D → List D → S → Prop
  | [], acc, s => Q (.lst acc) s
  | d :: r, acc, s => opt (gd d ρ) fun ρ1 => C ρ1 s (fun b s1 => if b = true then A ρ1 s1 (fun y s2 => acc.length < sizeLine ∧ lcT gd C A ρ Q r (acc ++ [y]) s2) (fun _ _ => False) else lcT gd C A ρ Q r acc s1) (fun _ _ => False)
def xLc (I : TL S) (gd : GD) (C : TB S) (A : TX S) (vs : List Nat) : TX S := fun ρ s Q X => I ρ s (fun ds s1 => lcT gd C A (inE ρ vs) Q ds [] s1) X
theorem ln_lc {wi : TI} {I : TL S} {vs : List Nat} (hts : ts.all (fun i => vs.contains i) = true) (hi : LnI Γ K E false wi I) (hg : LnG Γ K ts g gd) (hc : LnT Γ K E0 tt C) (ha : Ln Γ K E0 .s te A) : Ln Γ K E .f (tLc wi g tt te vs) (xLc I gd C A vs) := by
  intro M α σ H ρ s ok st QD QX Q q k kx
  refine hi ok st _ QX _ q (fun J H1 ds s1 p1 st1 jok q1 => ?_) kx
  intro D0 nD
  have ok1 := ok.step p1
  have tsv : ∀ i ∈ ts, i ∈ vs := fun i z => by
    have := List.all_eq_true.mp hts i z
    simpa using this
  have gD : ¬ Γ.M D0 := fun z => ok1.frt D0 z nD
  refine ⟨fun i m H' => m = ds.length - i ∧ i ≤ ds.length ∧ ∃ acc ws s', H' D0 = some (.lst ws) ∧ RAll K (cut (fun b => mask M α ρ b ∨ b = D0) H') ws acc ∧ Γ.st s' H' ∧ (∀ a o, ¬ Γ.M a → a ≠ D0 → H1 a = some o → H' a = some o) ∧ (∀ a, H1 a ≠ none → H' a ≠ none) ∧ lcT gd C A (inE ρ vs) QD (ds.drop i) acc s', ⟨_, rfl, Nat.zero_le _, [], [], s1, upd_same, .nil, Fr.same ok1.frt (same_upd nD) st1, fun a o _ _ e => same_upd nD a o e, (Stp.of (Γ := Γ) (same_upd nD)).trk, q1⟩, ?_⟩
  rintro i m H' ⟨rfl, hi', acc, ws, s', hD', ra, st', kp, tr, z⟩
  have kG : Keep Γ.M H1 H' := fun a o n e => kp a o n (ne_of_none e nD) e
  by_cases lt : i < ds.length
  · have e : ds.drop i = ds[i] :: ds.drop (i + 1) := List.drop_eq_getElem_cons lt
    rw [e] at z
    unfold lcT at z
    obtain ⟨ρ1, e1, z⟩ := opt_ex z
    obtain ⟨okI, noI⟩ := ok1.inner (vs := vs) nD (by rw [hD']; exact fun z => by cases z) kp tr
    refine .inr ⟨jok.go i H' lt kG, _, fun H2 w => ⟨ds.length - (i + 1), by omega, w⟩, fun x H2 y => ?_⟩
    have mI : ∀ b, mask (fun b => mask M α ρ b ∨ b = D0) α (inE ρ vs) b → mask M α ρ b ∨ b = D0 := by
      rintro a (z | ⟨i, o, _⟩)
      · exact z
      · exact absurd o (noI i)
    obtain ⟨sm, rx⟩ := jok.yld i H' x H2 ds[i] _ (List.getElem?_eq_getElem lt) kG (fun b z => (mI b z).imp id fun e => by rw [e]; exact nD) okI.mtrk y
    have pI := Stp.of (Γ := Γ) sm
    refine hg (okI.step pI) rx e1 _ fun σ2 ok2 mm ww pw => ⟨(pw vs tsv).trans wipe_wipe, ?_⟩
    refine hc ok2 (Fr.same okI.frt sm st') _ _ _ z (fun b H3 s3 p3 st3 z => ?_) (fun c dx H' x s' p st' r z => z.elim)
    have p3' := pI.trans p3
    have D3 : H3 D0 = some (.lst ws) := p3'.keep _ _ gD hD'
    cases b with
    | true =>
      rw [if_pos rfl] at z ⊢
      refine ha (ok2.step p3) st3 _ _ _ z (fun v H4 d s4 p4 st4 r z => ?_) (fun c dx H' x s' p st' r z => z.elim)
      have p4' := p3'.trans p4
      have D4 : H4 D0 = some (.lst ws) := p4'.keep _ _ gD hD'
      refine ⟨ws, D4, by rw [RAll.len ra]; exact z.1, rfl, lt, acc ++ [d], ws ++ [v], s4, upd_same, ?_, ?_, ?_, ?_, z.2⟩
      · have c1 : Same (cut (fun b => mask M α ρ b ∨ b = D0) H4) (cut (fun b => mask M α ρ b ∨ b = D0) (upd H4 D0 (.lst (ws ++ [v])))) := fun b o e => by
          obtain ⟨n, e⟩ := of_cut e
          rw [cut_out n, upd_ne fun z => n (.inr z)]
          exact e
        have c0 : Same (cut (fun b => mask M α ρ b ∨ b = D0) H') (cut (fun b => mask M α ρ b ∨ b = D0) H4) := p4'.cut fun a z => .inl (ok.msub a z)
        refine RAll.app (RAll.same c1 (RAll.same c0 ra)) (.cons (R.same c1 (R.same (cut_mono fun a z => .inl z) r)) .nil)
      · exact Γ.loc (fun a z => by rw [upd_ne fun e => gD (by rw [← e]; exact z)]) st4
      · intro a o n ne e
        rw [upd_ne ne]
        exact p4'.keep a o n (kp a o n ne e)
      · intro a z
        by_cases ne : a = D0
        · rw [ne, upd_same]; exact fun q => by cases q
        · rw [upd_ne ne]; exact p4'.trk a (tr a z)
    | false =>
      rw [if_neg (by decide)] at z ⊢
      exact ⟨rfl, lt, acc, ws, s3, D3, RAll.same (p3'.cut fun a z => .inl (ok.msub a z)) ra, st3, fun a o n ne e => p3'.keep a o n (kp a o n ne e), fun a z => p3'.trk a (tr a z), z⟩
  · have e : i = ds.length := by omega
    subst e
    rw [List.drop_length] at z
    refine .inl ⟨jok.stop H' kG, k _ H' _ s' ⟨fun a o n e => kG a o n (p1.keep a o n e), fun a z => tr a (p1.trk a z)⟩ st' ⟨D0, .lst acc, rfl, rfl, Classical.byContradiction fun q => p1.trk D0 q nD, ws, hD', ra⟩ z⟩

/-! ### lists of one's own that change -/
theorem set_same {σ : St} {i : Nat} {x : Option V} (h : σ[i]? = some x) : σ.set i x = σ := by
  obtain ⟨l, e⟩ := List.getElem?_eq_some_iff.mp h
  subst e
  exact List.set_getElem_self l
theorem Ok.turnC {M : Msk} {α : Nat → Addr} {σ : St} {H : Hp} {ρ : Env} {i : Nat} {c c' : Cell} {u : HO} (ok : Ok Γ K M α σ H ρ) (e : ρ[i]? = some (.own c)) (r : ∀ m' H', Same (cut (mask M α ρ) H) (cut m' H') → H' (α i) = some u → CellR K (cut m' H') H' (α i) c') :
    Ok Γ K M α σ (upd H (α i) u) (ρ.set i (.own c')) ∧ StS (wmask Γ α ρ) (wmask Γ α (ρ.set i (.own c'))) H (upd H (α i) u) := by
  have oi : ownAt ρ i := ⟨_, e, rfl⟩
  obtain ⟨e1, _⟩ := ok.slot i _ e
  have own' : ∀ j, ownAt (ρ.set i (.own c')) j → ownAt ρ j := fun j o => by
    rcases own_set o with ⟨rfl, _⟩ | ⟨_, o⟩
    · exact oi
    · exact o
  have mm : ∀ a, mask M α (ρ.set i (.own c')) a → mask M α ρ a := fun a z => z.imp id fun ⟨j, o, q⟩ => ⟨j, own' j o, q⟩
  have tr : ∀ b, H b ≠ none → upd H (α i) u b ≠ none := fun b z => by
    by_cases q : b = α i
    · rw [q, upd_same]; exact fun z => by cases z
    · rw [upd_ne q]; exact z
  have cc : Same (cut (mask M α ρ) H) (cut (mask M α (ρ.set i (.own c'))) (upd H (α i) u)) := fun b o q => by
    obtain ⟨n, q⟩ := of_cut q
    rw [cut_out fun z => n (mm b z), upd_ne fun z => n (.inr ⟨i, oi, z.symm⟩)]
    exact q
  have put := ok.put (x := some (.ref (α i))) (sl := .own c') (a := α i) (H' := upd H (α i) u) (i := i) self_upd (.inl rfl) tr cc (fun b o n z q => by
    rw [upd_ne fun y => ?_]
    · exact q
    · rcases z with z | ⟨j, nj, oj, z⟩
      · exact ok.out i oi (by rw [← y]; exact z)
      · exact nj (ok.inj j i oj oi (z.trans y))) (fun _ => ⟨ok.out i oi, fun j nj oj z => nj (ok.inj j i oj oi z)⟩) fun _ => ⟨rfl, r _ _ cc upd_same⟩
  rw [set_same e1] at put
  refine ⟨put, ⟨fun a o n q => ?_, fun a z => .inl (z.imp id fun ⟨j, o, q⟩ => ⟨j, own' j o, q⟩), tr⟩⟩
  rw [upd_ne fun z => n (.inr ⟨i, oi, z.symm⟩)]
  exact q
theorem Ok.turn {M : Msk} {α : Nat → Addr} {σ : St} {H : Hp} {ρ : Env} {i : Nat} {xs ys : List D} {ws : List V} (ok : Ok Γ K M α σ H ρ) (e : ρ[i]? = some (.own (.lst xs))) (r : RAll K (cut (mask M α ρ) H) ws ys) :
    Ok Γ K M α σ (upd H (α i) (.lst ws)) (ρ.set i (.own (.lst ys))) ∧ StS (wmask Γ α ρ) (wmask Γ α (ρ.set i (.own (.lst ys)))) H (upd H (α i) (.lst ws)) :=
  ok.turnC e fun m' H' s e => ⟨ws, e, RAll.same s r⟩
def ownL (ρ : Env) (i : Nat) : Option (List D) := match ρ[i]? with
  | some (.own (.lst xs)) => some xs
  | _ => none
theorem ownL_at {ρ : Env} {i : Nat} {xs : List D} (h : ownL ρ i = some xs) : ρ[i]? = some (.own (.lst xs)) := by
  unfold ownL at h
  split at h
  · rename_i ys e; cases h; exact e
  · cases h
def pApp (i : Nat) (A : TX S) : TP S := fun ρ s P => A ρ s (fun d s1 => opt (ownL ρ i) fun xs => xs.length < sizeLine ∧ P.nx (ρ.set i (.own (.lst (xs ++ [d])))) s1) P.ex
theorem tyV_lst {H : Hp} {a : Addr} {xs : List V} (h : H a = some (.lst xs)) : tyV K "list" (.ref a) H := .inl ⟨rfl, _, .inl (.inl h)⟩
theorem own_var {M : Msk} {α : Nat → Addr} {σ : St} {H : Hp} {ρ : Env} {i : Nat} {xs : List D} (ok : Ok Γ K M α σ H ρ) (e : ρ[i]? = some (.own (.lst xs))) : σ[i]? = some (some (.ref (α i))) ∧ ∃ vs, H (α i) = some (.lst vs) ∧ RAll K (cut (mask M α ρ) H) vs xs := ok.slot i _ e
theorem T_own {M : Msk} {α : Nat → Addr} {σ : St} {H : Hp} {ρ : Env} (ok : Ok Γ K M α σ H ρ) {i : Nat} (h : ∃ xs, ρ[i]? = some (.own (.lst xs))) : tyV K "list" (.ref (α i)) H := by
  obtain ⟨xs, e⟩ := h
  obtain ⟨_, vs, h1, _⟩ := own_var ok e
  exact tyV_lst h1
/-- the list must be one's own already when the method is asked for -/
def onOwn (i : Nat) (T : TP S) : TP S := fun ρ s P => (ownL ρ i).isSome = true ∧ T ρ s P
theorem ls_append {i : Nat} (ha : Ln Γ K E .s ta A) : LnS Γ K E (tDrop (tBM K "list" rAppend (tVar i) (tCons ta tNil))) (onOwn i (pApp i A)) := by
  intro M α σ H ρ s ok st P Dn ⟨hs, q⟩ kn kb kc kr kx
  obtain ⟨xs, e⟩ := Option.isSome_iff_exists.mp hs
  have e' := ownL_at e
  obtain ⟨e1, vs, h1, r1⟩ := own_var ok e'
  refine ⟨_, e1, tyV_lst h1, ?_⟩
  refine ha ok st _ P.ex _ q (fun v H' d s' p st' r z => ?_) (fun c dx H' x s' p st' r z => kx c dx H' x s' (stS_end p) st' (r.mono fun _ z => .inl z) z)
  rw [e] at z
  have ok' := ok.step p
  obtain ⟨_, vs', h1', r1'⟩ := own_var ok' e'
  obtain ⟨o2, p2⟩ := ok'.turn e' (RAll.app r1' (.cons r .nil))
  refine ⟨_, vs', v, rfl, rfl, h1', by rw [RAll.len r1']; exact z.1, ?_⟩
  exact kn σ _ _ s' α o2 (Γ.loc (fun a y => by rw [upd_ne fun e => ok.out i ⟨_, e', rfl⟩ (ok.sub _ (by rw [← e]; exact y))]) st') ((stS_stp p).trans p2) z.2
def pExt (i : Nat) (A : TX S) : TP S := fun ρ s P => A ρ s (fun d s1 => match d with
  | .lst ys => opt (ownL ρ i) fun xs => xs.length + ys.length ≤ sizeLine ∧ P.nx (ρ.set i (.own (.lst (xs ++ ys)))) s1
  | _ => False) P.ex
theorem ls_extend {i : Nat} (ha : Ln Γ K E .s ta A) : LnS Γ K E (tDrop (tBM K "list" rExtend (tVar i) (tCons ta tNil))) (onOwn i (pExt i A)) := by
  intro M α σ H ρ s ok st P Dn ⟨hs, q⟩ kn kb kc kr kx
  obtain ⟨xs, e⟩ := Option.isSome_iff_exists.mp hs
  have e' := ownL_at e
  obtain ⟨e1, vs, h1, r1⟩ := own_var ok e'
  refine ⟨_, e1, tyV_lst h1, ?_⟩
  refine ha ok st _ P.ex _ q (fun v H' d s' p st' r z => ?_) (fun c dx H' x s' p st' r z => kx c dx H' x s' (stS_end p) st' (r.mono fun _ z => .inl z) z)
  rw [e] at z
  cases r with
  | lst h2 r2 =>
    have ok' := ok.step p
    obtain ⟨_, vs', h1', r1'⟩ := own_var ok' e'
    obtain ⟨o2, p2⟩ := ok'.turn e' (RAll.app r1' r2)
    refine ⟨_, _, vs', _, rfl, rfl, h1', (of_cut h2).2, by rw [RAll.len r1', RAll.len r2]; exact z.1, ?_⟩
    exact kn σ _ _ s' α o2 (Γ.loc (fun a y => by rw [upd_ne fun e => ok.out i ⟨_, e', rfl⟩ (ok.sub _ (by rw [← e]; exact y))]) st') ((stS_stp p).trans p2) z.2
  | _ => exact z.elim
/-- x = xs.pop() -/
def pPop (i : Nat) (gd : GD) : TP S := fun ρ s P => opt (ownL ρ i) fun xs => opt xs.getLast? fun d => opt (gd d (ρ.set i (.own (.lst xs.dropLast)))) fun ρ' => P.nx ρ' s
theorem RAll.dropLast {G : Hp} : ∀ {vs : List V} {ds : List D}, RAll K G vs ds → RAll K G vs.dropLast ds.dropLast := fun {vs ds} h => by
  rw [List.dropLast_eq_take, List.dropLast_eq_take, RAll.len h]
  exact RAll.take _ h
theorem ls_pop {i : Nat} (hg : LnG Γ K ts g gd) : LnS Γ K E (tAsg (tBM0 K "list" rPop (tVar i)) g) (pPop i gd) := by
  intro M α σ H ρ s ok st P Dn q kn kb kc kr kx
  obtain ⟨xs, e, q⟩ := opt_ex q
  obtain ⟨d, el, q⟩ := opt_ex q
  obtain ⟨ρ', eg, q⟩ := opt_ex q
  have e' := ownL_at e
  obtain ⟨e1, vs, h1, r1⟩ := own_var ok e'
  obtain ⟨o2, p2⟩ := ok.turn e' (RAll.dropLast r1)
  have eL : xs[xs.length - 1]? = some d := by rw [← el, List.getLast?_eq_getElem?]
  obtain ⟨v, ev, rv⟩ := RAll.getD r1 eL
  rw [← RAll.len r1] at ev
  refine ⟨_, e1, tyV_lst h1, _, vs, v, rfl, rfl, h1, ev, ?_⟩
  have mm : ∀ a, mask M α (ρ.set i (.own (.lst xs.dropLast))) a → mask M α ρ a := fun a z => z.imp id fun ⟨j, o, y⟩ => by
    rcases own_set o with ⟨rfl, _⟩ | ⟨_, o⟩
    · exact ⟨j, ⟨_, e', rfl⟩, y⟩
    · exact ⟨j, o, y⟩
  have rv' : R K (cut (mask M α (ρ.set i (.own (.lst xs.dropLast)))) (upd H (α i) (.lst vs.dropLast))) v d := R.same (fun b o q => by
    obtain ⟨n, q⟩ := of_cut q
    rw [cut_out fun z => n (mm b z), upd_ne fun z => n (.inr ⟨i, ⟨_, e', rfl⟩, z.symm⟩)]
    exact q) rv
  refine hg o2 rv' eg _ fun σ' o3 m3 w3 _ => kn σ' _ ρ' s α o3 (Γ.loc (fun a y => by rw [upd_ne fun e => ok.out i ⟨_, e', rfl⟩ (ok.sub _ (by rw [← e]; exact y))]) st) (p2.trans (.of w3 (.refl (Γ := Γ)) fun _ z => .inl z)) q
def asI : D → Option Int
  | .v (.int i) => some i
  | _ => none
theorem asI_sc {g m : Msk} {H : Hp} {v : V} {d : D} {c : Int} (r : RB K g m H v d) (e : asI d = some c) : v = .int c := by
  unfold asI at e
  split at e
  · cases e; exact RBo.sc r
  · cases e
/-- xs[k] = e -/
def pSetAt (i : Nat) (A B : TX S) : TP S := fun ρ s P => A ρ s (fun d s1 => B ρ s1 (fun k s2 => opt (ownL ρ i) fun xs => opt (asI k) fun k => opt (ixN xs.length k) fun j => P.nx (ρ.set i (.own (.lst (xs.set j d)))) s2) P.ex) P.ex
theorem ls_setAt {i : Nat} (ha : Ln Γ K E .s ta A) (hb : Ln Γ K E .b tb B) : LnS Γ K E (tAsg ta (gSub (tVar i) tb rSetL)) (onOwn i (pSetAt i A B)) := by
  intro M α σ H ρ s ok st P Dn ⟨hs, q⟩ kn kb kc kr kx
  obtain ⟨xs, e⟩ := Option.isSome_iff_exists.mp hs
  have e' := ownL_at e
  refine ha ok st _ P.ex _ q (fun v H1 d s1 p1 st1 r1 z => ?_) (fun c dx H' x s' p st' r z => kx c dx H' x s' (stS_end p) st' (r.mono fun _ z => .inl z) z)
  refine ⟨_, (own_var (ok.step p1) e').1, ?_⟩
  refine hb (ok.step p1) st1 _ P.ex _ z (fun u H2 k s2 p2 st2 r2 z => ?_) (fun c dx H' x s' p st' r z => kx c dx H' x s' (stS_end (p1.trans p)) st' (r.mono fun _ z => .inl z) z)
  rw [e] at z
  obtain ⟨n, en, z⟩ := opt_ex (show opt (asI k) _ from z)
  · obtain rfl := asI_sc r2 en
    obtain ⟨j, ej, z⟩ := opt_ex z
    have p := p1.trans p2
    have ok' := ok.step p
    obtain ⟨_, vs, h1, rr⟩ := own_var ok' e'
    have rd : R K (cut (mask M α ρ) H2) v d := R.same (p2.cut ok.msub) r1
    obtain ⟨o3, p3⟩ := ok'.turn e' (RAll.set rd j rr)
    refine ⟨_, vs, n, j, rfl, rfl, h1, by rw [RAll.len rr]; exact ej, ?_⟩
    exact kn σ _ _ s2 α o3 (Γ.loc (fun a y => by rw [upd_ne fun e => ok.out i ⟨_, e', rfl⟩ (ok.sub _ (by rw [← e]; exact y))]) st2) ((stS_stp p).trans p3) z

/-! ### defs -/
/-- what a def does to data alone: nothing that stands is changed -/
abbrev Fn := List D → Option (Except Exn D)
def spF (K : W.Frag) (os : List Mo) (F : Fn) : Sp := fun vs H Q E => ∃ (S : Type) (Γ : Fr S) (M : Msk) (s : S) (ds : List D), (∀ a, Γ.M a → M a) ∧ (∀ a, M a → H a ≠ none) ∧ ARel K Γ.M os M H H vs ds ∧ Γ.st s H ∧
  opt (F ds) fun r => match r with
    | .ok d => ∀ v H', Stp Γ H H' → Γ.st s H' → R K (cut M H') v d → Q v H'
    | .error x => ∀ c dx H', Stp Γ H H' → Γ.st s H' → XR K M H' c dx x → E c dx H'
def xCall (F : Fn) (L : TL S) : TX S := fun ρ s Q X => L ρ s (fun ds s1 => opt (F ds) fun r => match r with
  | .ok d => Q d s1
  | .error x => X x s1) X
theorem ln_call {F : Fn} (ho : os.all (fun o => match o with | .f => false | _ => true) = true) (h : LnA Γ K E os tl L) : Ln Γ K E .s (tCall (spF K os F) [] E tl) (xCall F L) := by
  intro M α σ H ρ s ok st QD QX Q q k kx
  refine h ok st _ QX _ q (fun vs H1 ds s1 p1 st1 r z => ?_) kx
  obtain ⟨y, e, z⟩ := opt_ex z
  have ok1 := ok.step p1
  have hno : ∀ o ∈ os, o ≠ Mo.f := fun o z e => by
    have := List.all_eq_true.mp ho o z
    rw [e] at this
    cases this
  show spF K os F (vs ++ []) H1 Q E
  rw [List.append_nil]
  refine ⟨S, Γ, mask M α ρ, s1, ds, ok.msub, ok1.mtrk, ARel.from hno r, st1, ?_⟩
  rw [e]
  cases y with
  | ok d => exact fun v H' p st' r => k v H' d s1 (p1.trans p) st' r z
  | error x => exact fun c dx H' p st' r => kx c dx H' x s1 (p1.trans p) st' r z
def startD : List Mo → List D → Env
  | .b :: os, d :: ds => .bor d :: startD os ds
  | _ :: os, d :: ds => .d d :: startD os ds
  | _, _ => []
def envD (os : List Mo) (n : Nat) (ds : List D) : Env := startD os ds ++ List.replicate (n - ds.length) .no
/-- the same without the object that is being made -/
abbrev Fr.cl {S : Type} (Γ : Fr S) : Fr S := ⟨Γ.M, Γ.st, Γ.loc, none⟩
theorem startD_own : ∀ {os : List Mo} {ds : List D} {i : Nat}, ¬ ownAt (startD os ds) i
  | [], ds, i, ⟨_, e, _⟩ => by unfold startD at e; simp at e
  | .b :: os, [], i, ⟨_, e, _⟩ => by unfold startD at e; simp at e
  | .s :: os, [], i, ⟨_, e, _⟩ => by unfold startD at e; simp at e
  | .f :: os, [], i, ⟨_, e, _⟩ => by unfold startD at e; simp at e
  | .b :: os, d :: ds, 0, ⟨_, e, o⟩ => by unfold startD at e; simp at e; subst e; cases o
  | .s :: os, d :: ds, 0, ⟨_, e, o⟩ => by unfold startD at e; simp at e; subst e; cases o
  | .f :: os, d :: ds, 0, ⟨_, e, o⟩ => by unfold startD at e; simp at e; subst e; cases o
  | .b :: os, d :: ds, i + 1, ⟨_, e, o⟩ => by unfold startD at e; exact startD_own ⟨_, (by simpa using e), o⟩
  | .s :: os, d :: ds, i + 1, ⟨_, e, o⟩ => by unfold startD at e; exact startD_own ⟨_, (by simpa using e), o⟩
  | .f :: os, d :: ds, i + 1, ⟨_, e, o⟩ => by unfold startD at e; exact startD_own ⟨_, (by simpa using e), o⟩
theorem startD_slot {M : Msk} {H : Hp} {a : Addr} : ∀ {os : List Mo} {vs : List V} {ds : List D}, (∀ o ∈ os, o ≠ .f) → ARel K Γ.M os M H H vs ds → (startD os ds).length = vs.length ∧ ∀ (i : Nat) (sl : Slot), (startD os ds)[i]? = some sl → ∃ v, vs[i]? = some v ∧ SlotR K Γ.M M M H a (some (some v)) sl
  | [], [], [], _, _ => ⟨rfl, fun i sl e => by unfold startD at e; simp at e⟩
  | o :: os, v :: vs, d :: ds, ho, ⟨h, t⟩ => by
    obtain ⟨l, q⟩ := startD_slot (a := a) (fun o z => ho o (List.mem_cons_of_mem _ z)) t
    cases o with
    | f => exact absurd rfl (ho .f List.mem_cons_self)
    | s =>
      refine ⟨by unfold startD; simp [l], fun i sl e => ?_⟩
      unfold startD at e
      cases i with
      | zero => simp at e; subst e; exact ⟨v, rfl, v, rfl, h⟩
      | succ i => exact q i sl (by simpa using e)
    | b =>
      refine ⟨by unfold startD; simp [l], fun i sl e => ?_⟩
      unfold startD at e
      cases i with
      | zero => simp at e; subst e; exact ⟨v, rfl, v, rfl, h⟩
      | succ i => exact q i sl (by simpa using e)
theorem ok_start {M : Msk} {H : Hp} {N : List Str} {vs : List V} {ds : List D} (hsf : Γ.self = none) (ho : ∀ o ∈ os, o ≠ .f) (h1 : ∀ a, Γ.M a → M a) (h2 : ∀ a, M a → H a ≠ none) (r : ARel K Γ.M os M H H vs ds) : Ok Γ K M (fun _ => 0) (start N vs) H (envD os N.length ds) ∧ ∀ i, ¬ ownAt (envD os N.length ds) i := by
  obtain ⟨l1, l2⟩ := ARel.len r
  obtain ⟨sl, q⟩ := startD_slot (a := 0) ho r
  have get : ∀ (i : Nat) (s : Slot), (envD os N.length ds)[i]? = some s → s = .no ∨ (startD os ds)[i]? = some s := fun i s e => by
    unfold envD at e
    by_cases h : i < (startD os ds).length
    · rw [List.getElem?_append_left h] at e
      exact .inr e
    · rw [List.getElem?_append_right (by omega), List.getElem?_replicate] at e
      split at e
      · cases e; exact .inl rfl
      · cases e
  have no : ∀ i, ¬ ownAt (envD os N.length ds) i := fun i ⟨s, e, o⟩ => by
    rcases get i s e with rfl | e
    · cases o
    · exact startD_own ⟨s, e, o⟩
  refine ⟨⟨h1, h2, fun i o => absurd o (no i), fun i j a b => absurd a (no i), ?_, fun i s e => ?_, fun a z => by rw [hsf] at z; cases z⟩, no⟩
  · unfold start envD
    rw [List.length_append, List.length_append, List.length_map, List.length_replicate, List.length_replicate, sl]
    omega
  · rcases get i s e with rfl | e
    · trivial
    · obtain ⟨v, ev, rs⟩ := q i s e
      have es : (start N vs)[i]? = some (some v) := by
        unfold start
        rw [List.getElem?_append_left (by rw [List.length_map]; exact (List.getElem?_eq_some_iff.mp ev).1), List.getElem?_map, ev]
        rfl
      rw [es]
      have mm : ∀ a, mask M (fun _ => 0) (envD os N.length ds) a → M a := by
        rintro a (z | ⟨j, o, _⟩)
        · exact z
        · exact absurd o (no j)
      have c : Same (cut M H) (cut (mask M (fun _ => 0) (envD os N.length ds)) H) := cut_mono mm
      cases s with
      | no => trivial
      | d y => obtain ⟨v, e1, r⟩ := rs; exact ⟨v, e1, R.same c r⟩
      | bor y =>
        obtain ⟨v, e1, r⟩ := rs
        exact ⟨v, e1, RBo.carry c (fun _ _ _ _ e => e) r⟩
      | own y => exact absurd ⟨_, e, rfl⟩ startD_own
end
/-- what a def's body is to reach -/
def postF {S : Type} (s : S) (r : Except Exn D) : Post S where
  nx := fun _ s' => r = .ok dN ∧ s' = s
  rt := fun d s' => r = .ok d ∧ s' = s
  ex := fun x s' => r = .error x ∧ s' = s
/-- THE RULE for a def over data alone -/
theorem fn_data {P : Program} {w : World} {K : W.Frag} {mg : Str → Option Value} {base : Heap} {x qual : Str} {st : Stmt} {f : Addr} {fd : FuncData} {N ps : List Str} {k : Nat} {os : List Mo} {F : Fn}
    (Fd : Fun K x qual st f fd) (Sc : FnScope N ps (defScope st)) (hl : os.length = ps.length) (ho : os.all (fun o => match o with | .f => false | _ => true) = true)
    (hbody : ∀ (cdv : Value) (A : Around) (outer : List PySem.Env) (s : Shared) (H : Hp) (E : XK), Room k (A.deeper (envOfC qual (defScope st) s.heap.objs.size f cdv)) → Quiet (A.deeper (envOfC qual (defScope st) s.heap.objs.size f cdv)) →
      ∃ t, PSs (cxOf (L2.CX P w) P w K mg base N qual (defScope st) f cdv A outer s H E) (defBody st) t ∧
        ∀ (S : Type) (Γ : Fr S), ∃ T : TP S, LnS Γ K E t T ∧ ∀ (ds : List D) (r : Except Exn D) (s : S), F ds = some r → T (envD os N.length ds) s (postF s r)) :
    FnG P w K mg base (L2.CX P w) (k + 1) f fd ps (spF K os F) := by
  have hno : ∀ o ∈ os, o ≠ Mo.f := fun o z e => by
    have := List.all_eq_true.mp ho o z
    rw [e] at this
    cases this
  refine body_g Fd Sc (fun vs H Q E ⟨S, Γ, M, s, ds, _, _, r, _⟩ => by rw [(ARel.len r).1]; exact hl) ?_
  rintro cdv A outer s H vs Q E hr hq ⟨S, Γ, M, s0, ds, h1, h2, r, st0, q⟩
  obtain ⟨t, ht, hT⟩ := hbody cdv A outer s H E hr hq
  obtain ⟨T, lt, main⟩ := hT S Γ.cl
  obtain ⟨y, e, q⟩ := opt_ex q
  obtain ⟨ok, no⟩ := ok_start (Γ := Γ.cl) (N := N) rfl hno h1 h2 r
  have back' : ∀ {w : Msk} {H' : Hp}, StS (wmask Γ.cl (fun _ => 0) (envD os N.length ds)) w H H' → Stp Γ H H' := fun p => ⟨fun a o n e => p.keep a o (fun z => z.elim n fun ⟨j, o, _⟩ => no j o) e, p.trk⟩
  refine ⟨t, ht, lt ok st0 _ _ (main ds y s0 e) (fun σ' H' ρ' s' α' ok' st' p z => ?_) (fun _ _ _ _ _ _ _ _ z => z.elim) (fun _ _ _ _ _ _ _ _ z => z.elim) (fun v H' d s' p st' r' z => ?_) (fun c dx H' x s' p st' r' z => ?_)⟩
  · obtain ⟨z1, z2⟩ := z
    subst z1 z2
    exact q .non H' (back' p) st' (.v _)
  · obtain ⟨z1, z2⟩ := z
    subst z1 z2
    exact q v H' (back' p) st' r'
  · obtain ⟨z1, z2⟩ := z
    subst z1 z2
    exact q c dx H' (back' p) st' r'
end L2.DL
/-! Operators and built-ins over data -/
namespace L2.DL
open L2 L2.My PySem PySem.Spec PyProof.Rows

/-! ### plain data -/
mutual
def toPy : D → Option PyData
  | .v .non => some .none
  | .v (.bl b) => some (.bool b)
  | .v (.int i) => some (.int i)
  | .v (.str x) => some (.str x)
  | .v _ => none
  | .tup xs => (toPyAll xs).map .tuple
  | .lst xs => (toPyAll xs).map .list
  | .dct _ => none
  | .obj _ _ => none
  | .exc _ _ => none
  | .dtp _ => none
def toPyAll : List D → Option (List PyData)
  | [] => some []
  | x :: r => match toPy x, toPyAll r with
    | some a, some b => some (a :: b)
    | _, _ => none
end
section
variable {K : W.Frag} {G : Hp}
mutual
theorem py_dp : ∀ {d : D} {v : V} {p : PyData}, R K G v d → toPy d = some p → Dp K G v p
  | .v x, _, p, .v _, e => by
    cases x with
    | non => simp only [toPy, Option.some.injEq] at e; subst e; exact .non
    | bl b => simp only [toPy, Option.some.injEq] at e; subst e; exact .bl b
    | int i => simp only [toPy, Option.some.injEq] at e; subst e; exact .int i
    | str x => simp only [toPy, Option.some.injEq] at e; subst e; exact .str x
    | byt _ => simp [toPy] at e
    | flt _ => simp [toPy] at e
    | ref _ => simp [toPy] at e
    | ty _ => simp [toPy] at e
  | .tup xs, _, p, .tup h1 h2, e => by
    simp only [toPy, Option.map_eq_some_iff] at e
    obtain ⟨ps, e, rfl⟩ := e
    exact .tup h1 (py_dps h2 e)
  | .lst xs, _, p, .lst h1 h2, e => by
    simp only [toPy, Option.map_eq_some_iff] at e
    obtain ⟨ps, e, rfl⟩ := e
    exact .lst (.inl (.inl h1)) (py_dps h2 e)
  | .dct _, _, p, _, e => by simp [toPy] at e
  | .obj _ _, _, p, _, e => by simp [toPy] at e
  | .exc _ _, _, p, _, e => by simp [toPy] at e
  | .dtp _, _, p, _, e => by simp [toPy] at e
theorem py_dps : ∀ {ds : List D} {vs : List V} {ps : List PyData}, RAll K G vs ds → toPyAll ds = some ps → DpAll K G vs ps
  | [], _, ps, .nil, e => by simp only [toPyAll, Option.some.injEq] at e; subst e; exact .nil
  | d :: ds, _, ps, .cons h1 h2, e => by
    simp only [toPyAll] at e
    split at e
    · rename_i a b e1 e2
      cases e
      exact .cons (py_dp h1 e1) (py_dps h2 e2)
    · cases e
end
mutual
theorem Dp.same {H H' : Hp} (s : Same H H') : ∀ {v : V} {d : PyData}, Dp K H v d → Dp K H' v d
  | _, _, .non => .non
  | _, _, .bl b => .bl b
  | _, _, .int i => .int i
  | _, _, .str x => .str x
  | _, _, .lst h1 h2 => .lst (SqL.same s h1) (DpAll.same s h2)
  | _, _, .tup h1 h2 => .tup (SqT.same s h1) (DpAll.same s h2)
theorem DpAll.same {H H' : Hp} (s : Same H H') : ∀ {v : List V} {d : List PyData}, DpAll K H v d → DpAll K H' v d
  | _, _, .nil => .nil
  | _, _, .cons h1 h2 => .cons (Dp.same s h1) (DpAll.same s h2)
end
theorem rb_dp {g m : Msk} {H : Hp} {v : V} {d : D} {p : PyData} (r : RB K g m H v d) (e : toPy d = some p) : Dp K H v p := by
  rcases r with r | ⟨a, c, rfl, rfl, _, h⟩
  · exact Dp.same cut_le (py_dp r e)
  · cases c with
    | lst xs =>
      obtain ⟨vs, h1, h2⟩ := h
      simp only [Cell.toD, toPy, Option.map_eq_some_iff] at e
      obtain ⟨ps, e, rfl⟩ := e
      exact .lst (.inl (.inl h1)) (DpAll.same cut_le (py_dps h2 e))
    | _ => simp [Cell.toD, toPy] at e
end
mutual
theorem toPy_plain : ∀ {d : D} {p : PyData}, toPy d = some p → p.plain = true
  | .v x, p, e => by
    cases x <;> simp only [toPy, Option.some.injEq, reduceCtorEq] at e <;> subst e <;> rfl
  | .tup xs, p, e => by
    simp only [toPy, Option.map_eq_some_iff] at e
    obtain ⟨ps, e, rfl⟩ := e
    rw [PyData.plain]; exact toPy_plains e
  | .lst xs, p, e => by
    simp only [toPy, Option.map_eq_some_iff] at e
    obtain ⟨ps, e, rfl⟩ := e
    rw [PyData.plain]; exact toPy_plains e
  | .dct _, p, e => by simp [toPy] at e
  | .obj _ _, p, e => by simp [toPy] at e
  | .exc _ _, p, e => by simp [toPy] at e
  | .dtp _, p, e => by simp [toPy] at e
theorem toPy_plains : ∀ {ds : List D} {ps : List PyData}, toPyAll ds = some ps → PyData.plainAll ps = true
  | [], ps, e => by simp only [toPyAll, Option.some.injEq] at e; subst e; rfl
  | d :: ds, ps, e => by
    simp only [toPyAll] at e
    split at e
    · rename_i a b e1 e2
      cases e
      rw [PyData.plainAll, toPy_plain e1, toPy_plains e2]; rfl
    · cases e
end

/-! ### ==, !=, in -/
section
variable {X : Cx}
def rEqP (K : W.Frag) (b : Bool) : R2 := fun x y H Q => ∃ d e, Dp K H x d ∧ Dp K H y e ∧ d.plain = true ∧ e.plain = true ∧ min d.depth e.depth ≤ 60 ∧ Q (.bl (b == PyData.eqv d e)) H
theorem op_eqP (hu : X.A.units + 64 < cLine) : OpR X (compareOp .Eq) (rEqP X.K true) := by
  intro pins s σ H x y v u Q I rx ry ⟨d, e, h1, h2, p1, p2, l, h⟩
  obtain ⟨as, r1⟩ := Dp.reads I d x v h1 rx
  obtain ⟨bs, r2⟩ := Dp.reads I e y u h2 ry
  exact SeqAt.eq_plain r1 r2 p1 p2 (by omega) ⟨.bl _, H, I, rfl, by simpa using h⟩
theorem op_neP (hu : X.A.units + 64 < cLine) : OpR X (compareOp .NotEq) (rEqP X.K false) := by
  intro pins s σ H x y v u Q I rx ry ⟨d, e, h1, h2, p1, p2, l, h⟩
  obtain ⟨as, r1⟩ := Dp.reads I d x v h1 rx
  obtain ⟨bs, r2⟩ := Dp.reads I e y u h2 ry
  have eb : ∀ b : Bool, (false == b) = !b := by decide
  exact SeqAt.ne_plain r1 r2 p1 p2 (by omega) ⟨.bl _, H, I, rfl, by rw [← eb]; exact h⟩
def rInP (K : W.Frag) (b : Bool) : R2 := fun x y H Q => ∃ d es, Dp K H x d ∧ (Dp K H y (.list es) ∨ Dp K H y (.tuple es)) ∧ d.plain = true ∧ PyData.plainAll es = true ∧ min (PyData.depthAll es) d.depth ≤ 60 ∧ Q (.bl (b == es.any fun z => PyData.eqv z d)) H
theorem op_inP (hu : X.A.units + 64 < cLine) : OpR X (compareOp .In) (rInP X.K true) := by
  intro pins s σ H x y v u Q I rx ry ⟨d, es, h1, h2, p1, p2, l, h⟩
  obtain ⟨as, r1⟩ := Dp.reads I d x v h1 rx
  rcases h2 with h2 | h2
  · obtain ⟨bs, r2⟩ := Dp.reads I _ y u h2 ry
    exact SeqAt.in_list_data r2 r1 p2 p1 (by omega) ⟨.bl _, H, I, rfl, by simpa using h⟩
  · obtain ⟨bs, r2⟩ := Dp.reads I _ y u h2 ry
    exact SeqAt.in_tuple_data r2 r1 p2 p1 (by omega) ⟨.bl _, H, I, rfl, by simpa using h⟩
theorem op_notInP (hu : X.A.units + 64 < cLine) : OpR X (compareOp .NotIn) (rInP X.K false) := by
  intro pins s σ H x y v u Q I rx ry ⟨d, es, h1, h2, p1, p2, l, h⟩
  obtain ⟨as, r1⟩ := Dp.reads I d x v h1 rx
  have eb : ∀ b : Bool, (false == b) = !b := by decide
  rcases h2 with h2 | h2
  · obtain ⟨bs, r2⟩ := Dp.reads I _ y u h2 ry
    exact SeqAt.notIn_list_data r2 r1 p2 p1 (by omega) ⟨.bl _, H, I, rfl, by rw [← eb]; exact h⟩
  · obtain ⟨bs, r2⟩ := Dp.reads I _ y u h2 ry
    exact SeqAt.notIn_tuple_data r2 r1 p2 p1 (by omega) ⟨.bl _, H, I, rfl, by rw [← eb]; exact h⟩
end
def eqD (b : Bool) (x y : D) : Option D := match toPy x, toPy y with
  | some d, some e => if min d.depth e.depth ≤ 60 then some (dB (b == PyData.eqv d e)) else none
  | _, _ => none
def inD (b : Bool) (x y : D) : Option D := match toPy x, asSeq y with
  | some d, some ys => (match toPyAll ys with
    | some es => if min (PyData.depthAll es) d.depth ≤ 60 then some (dB (b == es.any fun z => PyData.eqv z d)) else none
    | none => none)
  | _, _ => none
section
variable {K : W.Frag}
theorem sc_out {mo : Mo} {g m : Msk} {H : Hp} {x : V} (h : mo ≠ .f) : RR K g mo m H H x (.v x) := by
  cases mo with
  | b => exact .inl (.v x)
  | s => exact .v x
  | f => exact absurd rfl h
theorem p2_eq {b : Bool} : P2 K .s (rEqP K b) (eqD b) := by
  intro g m H v u d c e Q hm r1 r2 he k
  unfold eqD at he
  split at he
  · rename_i p q e1 e2
    split at he
    · rename_i l
      cases he
      exact ⟨p, q, rb_dp r1 e1, rb_dp r2 e2, toPy_plain e1, toPy_plain e2, l, k _ H (Same.refl _) (.v _)⟩
    · cases he
  · cases he
theorem p2_in {b : Bool} : P2 K .s (rInP K b) (inD b) := by
  intro g m H v u d c e Q hm r1 r2 he k
  unfold inD at he
  split at he
  · rename_i p ys e1 e2
    split at he
    · rename_i es e3
      split at he
      · rename_i l
        cases he
        refine ⟨p, es, rb_dp r1 e1, ?_, toPy_plain e1, toPy_plains e3, l, k _ H (Same.refl _) (.v _)⟩
        unfold asSeq at e2
        split at e2
        · cases e2; exact .inl (rb_dp r2 (by simp [toPy, e3]))
        · cases e2; exact .inr (rb_dp r2 (by simp [toPy, e3]))
        · cases e2
      · cases he
    · cases he
  · cases he
/-! ### numbers -/
def ii (f : Int → Int → Option D) (x y : D) : Option D := match x, y with
  | .v (.int i), .v (.int j) => f i j
  | _, _ => none
theorem ii_ex {f : Int → Int → Option D} {x y : D} {e : D} (h : ii f x y = some e) : ∃ i j, x = dI i ∧ y = dI j ∧ f i j = some e := by
  unfold ii at h
  split at h
  · exact ⟨_, _, rfl, rfl, h⟩
  · cases h
theorem p2_rI0 {g : Int → Int → V} : P2 K .s (rI0 g) (ii fun i j => some (.v (g i j))) := by
  intro g' m H v u d c e Q hm r1 r2 he k
  obtain ⟨i, j, rfl, rfl, q⟩ := ii_ex he
  cases q
  exact ⟨i, j, RBo.sc r1, RBo.sc r2, k _ H (Same.refl _) (.v _)⟩
theorem p2_rI {C : Int → Int → Prop} {Cb : Int → Int → Bool} {g : Int → Int → V} (hc : ∀ i j, Cb i j = true → C i j) : P2 K .s (rI C g) (ii fun i j => if Cb i j = true then some (.v (g i j)) else none) := by
  intro g' m H v u d c e Q hm r1 r2 he k
  obtain ⟨i, j, rfl, rfl, q⟩ := ii_ex he
  split at q
  · rename_i z
    cases q
    exact ⟨i, j, RBo.sc r1, RBo.sc r2, hc i j z, k _ H (Same.refl _) (.v _)⟩
  · cases q
def divB (_ j : Int) : Bool := decide (0 < j) && decide (j.natAbs.log2 < 9000)
theorem divB_ok : ∀ i j, divB i j = true → CDivW i j := fun i j h => by simpa [divB, CDivW] using h
def modB (_ j : Int) : Bool := decide (0 < j)
theorem modB_ok : ∀ i j, modB i j = true → 0 < j := fun i j h => by simpa [modB] using h
def powB (i j : Int) : Bool := decide (0 ≤ j) && decide (j ≤ 1000000) && decide (i.natAbs < 2 ^ 64)
theorem powB_ok : ∀ i j, powB i j = true → CPow i j := fun i j h => by
  simp only [powB, Bool.and_eq_true, decide_eq_true_eq] at h
  exact ⟨h.1.1, h.1.2, h.2⟩
def mulB (i j : Int) : Bool := (decide (-(2 ^ 64) < i) && decide (i < 2 ^ 64)) || (decide (-(2 ^ 64) < j) && decide (j < 2 ^ 64))
theorem mulB_ok : ∀ i j, mulB i j = true → CMul i j := fun i j h => by
  simp only [mulB, Bool.and_eq_true, Bool.or_eq_true, decide_eq_true_eq] at h
  exact h
theorem p2_div : P2 K .s (rI CDivW fun i j => .int (i / j)) (ii fun i j => if divB i j = true then some (dI (i / j)) else none) := p2_rI divB_ok
theorem p2_mod : P2 K .s (rI (fun _ j => 0 < j) fun i j => .int (i % j)) (ii fun i j => if modB i j = true then some (dI (i % j)) else none) := p2_rI modB_ok
theorem p2_pow : P2 K .s (rI CPow fun i j => .int (i ^ j.toNat)) (ii fun i j => if powB i j = true then some (dI (i ^ j.toNat)) else none) := p2_rI powB_ok
/-! ### + -/
def rAddD (K : W.Frag) : R2 := fun x y H Q => rAddU x y H Q ∨ rCatA K x y H Q
theorem op_addD {X : Cx} : OpR X (binaryOp .Add) (rAddD X.K) := OpR.or op_addU op_catA
def addD (x y : D) : Option D := match x, y with
  | .v (.int i), .v (.int j) => some (dI (i + j))
  | .v (.str a), .v (.str b) => if a.length + b.length ≤ sizeLine then some (dS (a ++ b)) else none
  | .lst xs, .lst ys => if xs.length + ys.length ≤ sizeLine then some (.lst (xs ++ ys)) else none
  | .tup xs, .tup ys => if xs.length + ys.length ≤ sizeLine then some (.tup (xs ++ ys)) else none
  | _, _ => none
def addL (x y : D) : Option D := match x, y with
  | .lst xs, .lst ys => if xs.length + ys.length ≤ sizeLine then some (.lst (xs ++ ys)) else none
  | _, _ => none
theorem p2_addL : P2 K .f (rAddD K) addL := by
  intro g m H v u d c e Q hm r1 r2 he k
  unfold addL at he
  split at he
  · rename_i xs ys
    split at he
    · rename_i l
      cases he
      obtain ⟨a, ws, rfl, h1, q1⟩ := RBo.lst r1
      obtain ⟨b, us, rfl, h2, q2⟩ := RBo.lst r2
      exact .inl (.inr (.inr ⟨a, b, ws, us, rfl, rfl, h1, h2, by rw [RAll.len q1, RAll.len q2]; exact l, fun p hp => k _ _ (same_upd hp) (lay_lst hm hp (q1.app q2))⟩))
    · cases he
  · cases he
theorem p2_add : P2 K .s (rAddD K) addD := by
  intro g m H v u d c e Q hm r1 r2 he k
  unfold addD at he
  split at he
  · cases he
    exact .inl (.inl ⟨_, _, RBo.sc r1, RBo.sc r2, k _ H (Same.refl _) (.v _)⟩)
  · split at he
    · rename_i l
      cases he
      exact .inl (.inr (.inl ⟨_, _, RBo.sc r1, RBo.sc r2, l, k _ H (Same.refl _) (.v _)⟩))
    · cases he
  · rename_i xs ys
    exact p2_addL (e := e) hm r1 r2 he fun v' H' s r => k v' H' s (RF.strict hm r)
  · rename_i xs ys
    split at he
    · rename_i l
      cases he
      obtain ⟨a, ws, rfl, h1, q1⟩ := RBo.tup r1
      obtain ⟨b, us, rfl, h2, q2⟩ := RBo.tup r2
      have strict : ∀ {a : Addr} {ds : List D}, RB K g m H (.ref a) (.tup ds) → R K (cut m H) (.ref a) (.tup ds) := fun r => by
        rcases r with r | ⟨_, c, _, e, _⟩
        · exact r
        · cases c <;> cases e
      refine .inr ⟨a, b, ws, us, rfl, rfl, h1, h2, by rw [RAll.len q1, RAll.len q2]; exact l, fun z => ?_, fun _ z => ?_, fun _ _ p hp => k _ _ (same_upd hp) (lay_tup hm hp (q1.app q2))⟩
      · have : xs = [] := by
          have := RAll.len q1
          rw [z] at this
          exact List.eq_nil_of_length_eq_zero this.symm
        subst this
        exact k _ H (Same.refl _) (strict r2)
      · have : ys = [] := by
          have := RAll.len q2
          rw [z] at this
          exact List.eq_nil_of_length_eq_zero this.symm
        subst this
        exact k _ H (Same.refl _) (by rw [List.append_nil]; exact strict r1)
    · cases he
  · cases he
/-! ### * -/
def mulD (x y : D) : Option D := match x, y with
  | .v (.int i), .v (.int j) => if mulB i j = true then some (dI (i * j)) else none
  | _, _ => none
theorem p2_mul : P2 K .s rMulU mulD := by
  intro g m H v u d c e Q hm r1 r2 he k
  unfold mulD at he
  split at he
  · split at he
    · rename_i l
      cases he
      exact .inl ⟨_, _, RBo.sc r1, RBo.sc r2, mulB_ok _ _ l, k _ H (Same.refl _) (.v _)⟩
    · cases he
  · cases he
def mulL (x y : D) : Option D := match x, y with
  | .lst xs, .v (.int k) => if decide (-(2 ^ 63) ≤ k) && decide (k < 2 ^ 63) && decide (xs.length * k.toNat ≤ sizeLine) then some (.lst (List.replicate k.toNat xs).flatten) else none
  | _, _ => none
theorem RAll.rep {G : Hp} {vs : List V} {ds : List D} (h : RAll K G vs ds) : ∀ n : Nat, RAll K G (List.replicate n vs).flatten (List.replicate n ds).flatten
  | 0 => .nil
  | n + 1 => by
    rw [List.replicate_succ, List.replicate_succ, List.flatten_cons, List.flatten_cons]
    exact h.app (RAll.rep h n)
/-! ### <, <= .. of numbers, of texts -/
def rCmpD (p : Int → Int → Bool) (q : List Nat → List Nat → Bool) : R2 := fun x y H Q => (∃ i j, x = .int i ∧ y = .int j ∧ Q (.bl (p i j)) H) ∨ (∃ i j, x = .str i ∧ y = .str j ∧ Q (.bl (q i.cps.toList j.cps.toList)) H)
abbrev rLtD := rCmpD (fun i j => decide (i < j)) (fun i j => decide (i < j))
abbrev rLeD := rCmpD (fun i j => decide (i ≤ j)) (fun i j => !decide (j < i))
abbrev rGtD := rCmpD (fun i j => decide (j < i)) (fun i j => decide (j < i))
abbrev rGeD := rCmpD (fun i j => decide (j ≤ i)) (fun i j => !decide (i < j))
theorem op_ltD {X : Cx} : OpR X (compareOp .Lt) rLtD := OpR.or op_lt op_lt_str
theorem op_leD {X : Cx} : OpR X (compareOp .LtE) rLeD := OpR.or op_le op_le_str
theorem op_gtD {X : Cx} : OpR X (compareOp .Gt) rGtD := OpR.or op_gt op_gt_str
theorem op_geD {X : Cx} : OpR X (compareOp .GtE) rGeD := OpR.or op_ge op_ge_str
def cmpD (p : Int → Int → Bool) (q : List Nat → List Nat → Bool) (x y : D) : Option D := match x, y with
  | .v (.int i), .v (.int j) => some (dB (p i j))
  | .v (.str i), .v (.str j) => some (dB (q i.cps.toList j.cps.toList))
  | _, _ => none
theorem p2_cmp {p : Int → Int → Bool} {q : List Nat → List Nat → Bool} : P2 K .s (rCmpD p q) (cmpD p q) := by
  intro g m H v u d c e Q hm r1 r2 he k
  unfold cmpD at he
  split at he
  · cases he; exact .inl ⟨_, _, RBo.sc r1, RBo.sc r2, k _ H (Same.refl _) (.v _)⟩
  · cases he; exact .inr ⟨_, _, RBo.sc r1, RBo.sc r2, k _ H (Same.refl _) (.v _)⟩
  · cases he
/-! ### is None, is True -/
def isD (b : Bool) (x y : D) : Option D := match y with
  | .v .non => (match x with
    | .v z => some (dB (b == decide (z = .non)))
    | _ => some (dB (b == false)))
  | .v (.bl c) => (match x with
    | .v (.bl a) => some (dB (b == decide (a = c)))
    | _ => none)
  | _ => none
def rIs (b : Bool) : R2 := fun x y H Q => (y = .non ∧ Q (.bl (b == decide (x = .non))) H) ∨ (∃ a c, x = .bl a ∧ y = .bl c ∧ Q (.bl (b == decide (a = c))) H)
theorem op_isD {X : Cx} : OpR X (compareOp .Is) (rIs true) := by
  intro pins s σ H x y v u Q I rx ry h
  rcases h with ⟨h1, h⟩ | ⟨a, c, h1, h2, h⟩
  · exact op_isN pins s σ H x y v u Q I rx ry ⟨h1, by simpa using h⟩
  · exact op_is_bl pins s σ H x y v u Q I rx ry ⟨a, c, h1, h2, by simpa using h⟩
theorem op_isNotD {X : Cx} : OpR X (compareOp .IsNot) (rIs false) := by
  intro pins s σ H x y v u Q I rx ry h
  have eb : ∀ b : Bool, (false == b) = !b := by decide
  rcases h with ⟨h1, h⟩ | ⟨a, c, h1, h2, h⟩
  · exact op_notN pins s σ H x y v u Q I rx ry ⟨h1, by rw [← eb]; exact h⟩
  · exact op_isnot_bl pins s σ H x y v u Q I rx ry ⟨a, c, h1, h2, by rw [← eb]; exact h⟩
theorem rb_ref {g m : Msk} {H : Hp} {v : V} {d : D} (r : RB K g m H v d) (h : ∀ x, d ≠ .v x) : v ≠ .non := by
  rcases r with r | ⟨a, c, rfl, _⟩
  · cases r with
    | v x => exact absurd rfl (h _)
    | _ => exact fun z => by cases z
  · exact fun z => by cases z
theorem p2_is {b : Bool} : P2 K .s (rIs b) (isD b) := by
  intro g m H v u d c e Q hm r1 r2 he k
  unfold isD at he
  split at he
  · obtain rfl := RBo.sc r2
    split at he
    · cases he
      obtain rfl := RBo.sc r1
      exact .inl ⟨rfl, k _ H (Same.refl _) (.v _)⟩
    · rename_i n
      cases he
      refine .inl ⟨rfl, ?_⟩
      rw [decide_eq_false (rb_ref r1 fun x z => n x z)]
      exact k _ H (Same.refl _) (.v _)
  · obtain rfl := RBo.sc r2
    split at he
    · cases he
      obtain rfl := RBo.sc r1
      exact .inr ⟨_, _, rfl, rfl, k _ H (Same.refl _) (.v _)⟩
    · cases he
  · cases he
/-! ### x[i], len, list(x), tuple(x), int(x), abs(x) -/
def ixD (x y : D) : Option D := match x, y with
  | .lst xs, .v (.int i) => atI xs i
  | .tup xs, .v (.int i) => atI xs i
  | .v (.str z), .v (.int i) => if z.length ≤ sizeLine then (atI z.cps.toList i).map fun c => dS ⟨#[c]⟩ else none
  | _, _ => none
theorem atI_rel {G : Hp} {xs : List V} {ds : List D} {i : Int} {d : D} (r : RAll K G xs ds) (e : atI ds i = some d) : ∃ v, atI xs i = some v ∧ R K G v d := by
  unfold atI at e ⊢
  rw [RAll.len r]
  cases q : ixN ds.length i with
  | none => rw [q] at e; cases e
  | some j => rw [q] at e; exact RAll.getD r e
theorem p2_ix : P2 K .s (rIx K) ixD := by
  intro g m H v u d c e Q hm r1 r2 he k
  unfold ixD at he
  split at he
  · obtain ⟨a, ws, rfl, h1, q1⟩ := RBo.lst r1
    obtain ⟨v, e1, rv⟩ := atI_rel q1 he
    exact .inl ⟨a, ws, _, v, rfl, RBo.sc r2, .inl (.inl h1), e1, k _ H (Same.refl _) rv⟩
  · obtain ⟨a, ws, rfl, h1, q1⟩ := RBo.tup r1
    obtain ⟨v, e1, rv⟩ := atI_rel q1 he
    exact .inr (.inl ⟨a, ws, _, v, rfl, RBo.sc r2, h1, e1, k _ H (Same.refl _) rv⟩)
  · split at he
    · rename_i l
      rw [Option.map_eq_some_iff] at he
      obtain ⟨c, e1, rfl⟩ := he
      exact .inr (.inr ⟨_, _, c, RBo.sc r1, RBo.sc r2, l, e1, k _ H (Same.refl _) (.v _)⟩)
    · cases he
  · cases he
def lenD (x : D) : Option D := match x with
  | .lst xs => some (dI xs.length)
  | .tup xs => some (dI xs.length)
  | .v (.str z) => if z.length ≤ sizeLine then some (dI z.length) else none
  | _ => none
def rLenD (K : W.Frag) : List V → Hp → VK → Prop := fun xs H Q => rLen1 K xs H Q ∨ ∃ z : Str, xs = [.str z] ∧ z.length ≤ sizeLine ∧ Q (.int z.length) H
theorem c_lenD {X : Cx} : CallR X (.builtin "len") (rLenD X.K) := by
  intro pins s σ H xs us Q I r h
  rcases h with h | h
  · exact c_len pins s σ H xs us Q I r h
  · exact call_len_str pins s σ H xs us Q I r h
theorem p1_len : P1 K .s (fun v => rLenD K [v]) lenD := by
  intro g m H v d e Q hm r he k
  unfold lenD at he
  split at he
  · cases he
    obtain ⟨a, ws, rfl, h1, q1⟩ := RBo.lst r
    exact .inl ⟨a, ws, rfl, .inl (.inl (.inl h1)), by rw [RAll.len q1]; exact k _ H (Same.refl _) (.v _)⟩
  · cases he
    obtain ⟨a, ws, rfl, h1, q1⟩ := RBo.tup r
    exact .inl ⟨a, ws, rfl, .inr h1, by rw [RAll.len q1]; exact k _ H (Same.refl _) (.v _)⟩
  · split at he
    · rename_i l
      cases he
      exact .inr ⟨_, by rw [RBo.sc r], l, k _ H (Same.refl _) (.v _)⟩
    · cases he
  · cases he
def listD (x : D) : Option D := (asSeq x).map .lst
theorem p1_list : P1 K .f (fun v => rList1 K [v]) listD := by
  intro g m H v d e Q hm r he k
  unfold listD asSeq at he
  split at he
  · cases he
    obtain ⟨a, ws, rfl, h1, q1⟩ := RBo.lst r
    exact ⟨a, ws, rfl, .inl (.inl (.inl h1)), fun l hl => k _ _ (same_upd hl) (lay_lst hm hl q1)⟩
  · cases he
    obtain ⟨a, ws, rfl, h1, q1⟩ := RBo.tup r
    exact ⟨a, ws, rfl, .inr h1, fun l hl => k _ _ (same_upd hl) (lay_lst hm hl q1)⟩
  · cases he
def intD (x : D) : Option D := match x with
  | .v (.int i) => some (dI i)
  | .v (.bl k) => some (dI (if k then 1 else 0))
  | _ => none
theorem p1_int : P1 K .s (fun v => rInt1 [v]) intD := by
  intro g m H v d e Q hm r he k
  unfold intD at he
  split at he
  · cases he; exact .inl ⟨_, by rw [RBo.sc r], k _ H (Same.refl _) (.v _)⟩
  · cases he; exact .inr ⟨_, by rw [RBo.sc r], k _ H (Same.refl _) (.v _)⟩
  · cases he
def absD (x : D) : Option D := match x with
  | .v (.int i) => some (dI (if i < 0 then -i else i))
  | _ => none
theorem p1_abs : P1 K .s (fun v => rAbs1 [v]) absD := by
  intro g m H v d e Q hm r he k
  unfold absD at he
  split at he
  · cases he; exact ⟨_, by rw [RBo.sc r], k _ H (Same.refl _) (.v _)⟩
  · cases he
/-! ### isinstance with a built-in class -/
def tyD : D → Option String
  | .v .non => some "NoneType"
  | .v (.bl _) => some "bool"
  | .v (.int _) => some "int"
  | .v (.str _) => some "str"
  | .tup _ => some "tuple"
  | .lst _ => some "list"
  | .dct _ => some "dict"
  | _ => none
def isTab (a b : String) : Bool := a == b || (a == "bool" && b == "int")
def tyNames : List String := ["NoneType", "bool", "int", "str", "tuple", "list", "dict"]
theorem kit_tab : ∀ a ∈ tyNames, ∀ b ∈ tyNames.drop 1, kitB a b = some (isTab a b) := by decide +kernel
theorem tyD_mem {d : D} {a : String} (h : tyD d = some a) : a ∈ tyNames := by
  unfold tyD at h
  split at h <;> first | (cases h; decide) | cases h
def isiD (x y : D) : Option D := match y with
  | .v (.ty b) => if b ∈ tyNames.drop 1 then (tyD x).map fun a => dB (isTab a b) else none
  | _ => none
theorem rb_ty {g m : Msk} {H : Hp} {v : V} {d : D} {a : String} (r : RB K g m H v d) (h : tyD d = some a) : TyX K H v (.type a) := by
  unfold tyD at h
  split at h
  · cases h; rw [RBo.sc r]; exact .base .non
  · cases h; rw [RBo.sc r]; exact .base (.bl _)
  · cases h; rw [RBo.sc r]; exact .base (.int _)
  · cases h; rw [RBo.sc r]; exact .base (.str _)
  · cases h
    obtain ⟨b, ws, rfl, h1, _⟩ := RBo.tup r
    rcases h1 with (h1 | ⟨o, h1⟩) | ⟨o, its, n, h1, h2, h3, _⟩
    · exact .base (.tup h1)
    · exact .fTuple h1
    · exact .kTuple h1 h2
  · cases h
    obtain ⟨b, ws, rfl, h1, _⟩ := RBo.lst r
    exact .base (.lst h1)
  · cases h
    obtain ⟨b, ws, rfl, h1, _⟩ := RBo.dct r
    exact .base (.dK h1)
  · cases h
theorem p2_isi : P2 K .s (fun v u => rIsA K [v, u]) isiD := by
  intro g m H v u d c e Q hm r1 r2 he k
  unfold isiD at he
  split at he
  · rename_i b
    obtain rfl := RBo.sc r2
    split at he
    · rename_i hb
      rw [Option.map_eq_some_iff] at he
      obtain ⟨a, ea, rfl⟩ := he
      exact .inl ⟨v, .ty b, .type a, .type b, isTab a b, rfl, .ty b, rb_ty r1 ea, kit_ty (kit_tab a (tyD_mem ea) b hb), k _ H (Same.refl _) (.v _)⟩
    · cases he
  · cases he
end
end L2.DL
/-! More built-ins over data; passing of exceptions; and, or of any mode -/
namespace L2.DL
open L2 L2.My PySem PySem.Spec PyProof.Rows

theorem passF {X : Cx} : Passes (L2.CX X.prog X.w) X E0 := fun pins σ H s e s' I ⟨a, B, H', cls, d, _, _, _, _, _, _, _, q⟩ => q.elim
theorem passX {X : Cx} {E : XK} (tk : Takes X (fun cls d _ H => E cls d H)) : Passes (L2.CX X.prog X.w) X E := passes_call tk (fun _ _ _ _ h => h)
/-- a constant of the module -/
structure KnA (mg : Str → Option Value) (x : Str) (v : V) : Prop where
  ex : ∃ u, mg x = some u ∧ RelV v u
theorem pe_k {X : Cx} {x : Str} {v : V} {pos : Pos} (h : KnA X.mg x v) (hg : Gl X x) (hd : (x == ("__debug__" : Str)) = false := by decide) : PE X (.Name x pos) (tC v) := by
  obtain ⟨u, h1, h2⟩ := h.ex
  exact pe_glob hg h1 h2 hd
section
variable {K : W.Frag}
theorem P2.lend {r : R2} {f : D → D → Option D} (h : P2 K .s r f) : P2 K .b r f := fun hm r1 r2 e k => h hm r1 r2 e fun v' H' s q => k v' H' s (.inl q)
variable {S : Type} {Γ : Fr S} {E : XK} {mo : Mo} {ta tb tc : TE} {A B C : TX S}
theorem ln_andM (hmo : mo ≠ .f) (ha : Ln Γ K E .b ta A) (hb : Ln Γ K E mo tb B) : Ln Γ K E mo (tAndV ta tb) (xAnd A B) := by
  intro M α σ H ρ s ok st QD QX Q q k kx
  refine ha ok st _ QX _ q (fun vx H1 x s1 p1 st1 rx q1 => ?_) kx
  obtain ⟨c, e, q2⟩ := opt_ex q1
  obtain rfl := asB_sc rx e
  refine ⟨c, rfl, ?_⟩
  cases c with
  | true =>
    rw [if_pos rfl] at q2 ⊢
    exact hb (ok.step p1) st1 QD QX _ q2 (fun v H' d s' p st' r z => k v H' d s' (p1.trans p) st' (r.from p1.trk) z) (fun c dx H' x s' p st' r z => kx c dx H' x s' (p1.trans p) st' r z)
  | false =>
    rw [if_neg (by decide)] at q2 ⊢
    refine k _ H1 _ s1 p1 st1 ?_ q2
    cases mo with
    | b => exact .inl (.v _)
    | s => exact .v _
    | f => exact absurd rfl hmo
theorem ln_orM (hmo : mo ≠ .f) (ha : Ln Γ K E .b ta A) (hb : Ln Γ K E mo tb B) : Ln Γ K E mo (tOrV ta tb) (xOr A B) := by
  intro M α σ H ρ s ok st QD QX Q q k kx
  refine ha ok st _ QX _ q (fun vx H1 x s1 p1 st1 rx q1 => ?_) kx
  obtain ⟨c, e, q2⟩ := opt_ex q1
  obtain rfl := asB_sc rx e
  refine ⟨c, rfl, ?_⟩
  cases c with
  | true =>
    rw [if_pos rfl] at q2 ⊢
    refine k _ H1 _ s1 p1 st1 ?_ q2
    cases mo with
    | b => exact .inl (.v _)
    | s => exact .v _
    | f => exact absurd rfl hmo
  | false =>
    rw [if_neg (by decide)] at q2 ⊢
    exact hb (ok.step p1) st1 QD QX _ q2 (fun v H' d s' p st' r z => k v H' d s' (p1.trans p) st' (r.from p1.trk) z) (fun c dx H' x s' p st' r z => kx c dx H' x s' (p1.trans p) st' r z)
/-! ### any, all, sum -/
def asBs : List D → Option (List Bool)
  | [] => some []
  | .v (.bl b) :: r => (asBs r).map (b :: ·)
  | _ => none
theorem asBs_rel {G : Hp} : ∀ {ds : List D} {vs : List V} {bs : List Bool}, RAll K G vs ds → asBs ds = some bs → vs = bs.map V.bl
  | [], _, _, .nil, e => by simp only [asBs, Option.some.injEq] at e; subst e; rfl
  | d :: r, _, bs, .cons h1 h2, e => by
    cases d with
    | v x =>
      cases x with
      | bl b =>
        simp only [asBs, Option.map_eq_some_iff] at e
        obtain ⟨cs, e, rfl⟩ := e
        cases h1
        rw [asBs_rel h2 e]
        rfl
      | _ => simp [asBs] at e
    | _ => simp [asBs] at e
def asIs : List D → Option (List Int)
  | [] => some []
  | .v (.int b) :: r => (asIs r).map (b :: ·)
  | _ => none
theorem asIs_rel {G : Hp} : ∀ {ds : List D} {vs : List V} {bs : List Int}, RAll K G vs ds → asIs ds = some bs → vs = bs.map V.int
  | [], _, _, .nil, e => by simp only [asIs, Option.some.injEq] at e; subst e; rfl
  | d :: r, _, bs, .cons h1 h2, e => by
    cases d with
    | v x =>
      cases x with
      | int b =>
        simp only [asIs, Option.map_eq_some_iff] at e
        obtain ⟨cs, e, rfl⟩ := e
        cases h1
        rw [asIs_rel h2 e]
        rfl
      | _ => simp [asIs] at e
    | _ => simp [asIs] at e
def asSs : List D → Option (List Str)
  | [] => some []
  | .v (.str b) :: r => (asSs r).map (b :: ·)
  | _ => none
theorem asSs_rel {G : Hp} : ∀ {ds : List D} {vs : List V} {bs : List Str}, RAll K G vs ds → asSs ds = some bs → vs = bs.map V.str
  | [], _, _, .nil, e => by simp only [asSs, Option.some.injEq] at e; subst e; rfl
  | d :: r, _, bs, .cons h1 h2, e => by
    cases d with
    | v x =>
      cases x with
      | str b =>
        simp only [asSs, Option.map_eq_some_iff] at e
        obtain ⟨cs, e, rfl⟩ := e
        cases h1
        rw [asSs_rel h2 e]
        rfl
      | _ => simp [asSs] at e
    | _ => simp [asSs] at e
theorem asBs_map (bs : List Bool) : asBs (bs.map dB) = some bs := by
  induction bs with
  | nil => rfl
  | cons b r ih => simp [asBs, ih]
theorem asIs_map (bs : List Int) : asIs (bs.map dI) = some bs := by
  induction bs with
  | nil => rfl
  | cons b r ih => simp [asIs, ih]
theorem asSs_map (bs : List Str) : asSs (bs.map dS) = some bs := by
  induction bs with
  | nil => rfl
  | cons b r ih => simp [asSs, ih]
def allD (x : D) : Option D := match x with
  | .lst xs => (asBs xs).map fun bs => dB (bs.all id)
  | _ => none
def anyD (x : D) : Option D := match x with
  | .lst xs => (asBs xs).map fun bs => dB (bs.any id)
  | _ => none
def sumD (x : D) : Option D := match x with
  | .lst xs => (asIs xs).map fun bs => dI bs.sum
  | _ => none
theorem p1_all : P1 K .s (fun v => rAll K [v]) allD := by
  intro g m H v d e Q hm r he k
  unfold allD at he
  split at he
  · obtain ⟨a, ws, rfl, h1, q1⟩ := RBo.lst r
    rw [Option.map_eq_some_iff] at he
    obtain ⟨bs, e1, rfl⟩ := he
    have := asBs_rel q1 e1
    subst this
    exact ⟨a, bs, rfl, .inl (.inl h1), k _ H (Same.refl _) (.v _)⟩
  · cases he
theorem p1_any : P1 K .s (fun v => rAny K [v]) anyD := by
  intro g m H v d e Q hm r he k
  unfold anyD at he
  split at he
  · obtain ⟨a, ws, rfl, h1, q1⟩ := RBo.lst r
    rw [Option.map_eq_some_iff] at he
    obtain ⟨bs, e1, rfl⟩ := he
    have := asBs_rel q1 e1
    subst this
    exact ⟨a, bs, rfl, .inl (.inl h1), k _ H (Same.refl _) (.v _)⟩
  · cases he
theorem p1_sum : P1 K .s (fun v => rSum K [v]) sumD := by
  intro g m H v d e Q hm r he k
  unfold sumD at he
  split at he
  · obtain ⟨a, ws, rfl, h1, q1⟩ := RBo.lst r
    rw [Option.map_eq_some_iff] at he
    obtain ⟨bs, e1, rfl⟩ := he
    have := asIs_rel q1 e1
    subst this
    exact ⟨a, bs, rfl, .inl (.inl h1), k _ H (Same.refl _) (.v _)⟩
  · cases he
def max2D : D → D → Option D := ii fun i j => some (dI (if j > i then j else i))
def min2D : D → D → Option D := ii fun i j => some (dI (if j < i then j else i))
theorem p2_max2 : P2 K .s (fun v u H Q => ∃ i j, [v, u] = [V.int i, .int j] ∧ Q (.int (if j > i then j else i)) H) max2D := by
  intro g m H v u d c e Q hm r1 r2 he k
  obtain ⟨i, j, rfl, rfl, q⟩ := ii_ex he
  cases q
  exact ⟨i, j, by rw [RBo.sc r1, RBo.sc r2], k _ H (Same.refl _) (.v _)⟩
theorem p2_min2 : P2 K .s (fun v u H Q => ∃ i j, [v, u] = [V.int i, .int j] ∧ Q (.int (if j < i then j else i)) H) min2D := by
  intro g m H v u d c e Q hm r1 r2 he k
  obtain ⟨i, j, rfl, rfl, q⟩ := ii_ex he
  cases q
  exact ⟨i, j, by rw [RBo.sc r1, RBo.sc r2], k _ H (Same.refl _) (.v _)⟩
def tupD (x : D) : Option D := (asSeq x).map .tup
theorem rb_strict {g m : Msk} {H : Hp} {v : V} {d : D} (r : RB K g m H v d) (h1 : ∀ c : Cell, d ≠ c.toD) : R K (cut m H) v d := by
  rcases r with r | ⟨_, c, _, e, _⟩
  · exact r
  · exact absurd e (h1 _)
theorem p1_tup : P1 K .s (fun v H Q => ∃ p ys, [v] = [V.ref p] ∧ ((SqL K H p ys ∧ ∀ l, H l = none → Q (.ref l) (upd H l (.tup ys))) ∨ (SqT K H p ys ∧ Q (.ref p) H))) tupD := by
  intro g m H v d e Q hm r he k
  unfold tupD asSeq at he
  split at he
  · cases he
    obtain ⟨a, ws, rfl, h1, q1⟩ := RBo.lst r
    exact ⟨a, ws, rfl, .inl ⟨.inl (.inl h1), fun l hl => k _ _ (same_upd hl) (lay_tup hm hl q1)⟩⟩
  · cases he
    have rs := rb_strict r (fun c z => by cases c <;> cases z)
    obtain ⟨a, ws, rfl, h1, q1⟩ := RBo.tup r
    exact ⟨a, ws, rfl, .inr ⟨h1, k _ H (Same.refl _) rs⟩⟩
  · cases he
/-! ### slices -/
abbrev TOx (S : Type) := Env → S → (Option Int → S → Prop) → (Exn → S → Prop) → Prop
def LnO (Γ : Fr S) (K : W.Frag) (E : XK) (t : TO) (T : TOx S) : Prop :=
  ∀ {M : Msk} {α : Nat → Addr} {σ : St} {H : Hp} {ρ : Env} {s : S}, Ok Γ K M α σ H ρ → Γ.st s H → ∀ (QD : Option Int → S → Prop) (QX : Exn → S → Prop) (Q : Option Int → Hp → Prop), T ρ s QD QX →
    (∀ b H' s', Stp Γ H H' → Γ.st s' H' → QD b s' → Q b H') →
    (∀ c dx H' x s', Stp Γ H H' → Γ.st s' H' → XR K (mask M α ρ) H' c dx x → QX x s' → E c dx H') → t σ H Q
def oNone : TOx S := fun _ s Q _ => Q none s
def oSome (A : TX S) : TOx S := fun ρ s Q X => A ρ s (fun d s1 => opt (asI d) fun i => Q (some i) s1) X
theorem lo_none : LnO Γ K E tNoPart oNone := fun {_ _ _ H _ s} _ st _ _ _ q k _ => k none H s .refl st q
theorem lo_some (ha : Ln Γ K E .b ta A) : LnO Γ K E (tPart ta) (oSome A) := by
  intro M α σ H ρ s ok st QD QX Q q k kx
  refine ha ok st _ QX _ q (fun v H' d s' p st' r z => ?_) kx
  obtain ⟨i, e, z⟩ := opt_ex z
  obtain rfl := asI_sc r e
  exact ⟨i, rfl, k _ H' s' p st' z⟩
def cutL {β : Type} (xs : List β) (lo hi : Option Int) : List β := (xs.drop (HT.sIx xs.length 0 lo)).take (HT.sIx xs.length xs.length hi - HT.sIx xs.length 0 lo)
def slD (x : D) (lo hi : Option Int) : Option D := match x with
  | .lst xs => some (.lst (cutL xs lo hi))
  | .tup xs => some (.tup (cutL xs lo hi))
  | .v (.str z) => if z.length ≤ sizeLine then some (dS (cutS z lo hi)) else none
  | _ => none
def slL (x : D) (lo hi : Option Int) : Option D := match x with
  | .lst xs => some (.lst (cutL xs lo hi))
  | _ => none
def rSlD (K : W.Frag) : V → Option Int → Option Int → Hp → VK → Prop := fun x lo hi H Q => rSlL K x lo hi H Q ∨ (rSlA K x lo hi H Q ∨ rSlS x lo hi H Q)
theorem sl_D {X : Cx} : SlR X (rSlD X.K) := SlR.or sl_list (SlR.or sl_tupA sl_str)
def xSl (f : D → Option Int → Option Int → Option D) (A : TX S) (L U : TOx S) : TX S := fun ρ s Q X => A ρ s (fun x s1 => L ρ s1 (fun lo s2 => U ρ s2 (fun hi s3 => opt (f x lo hi) fun d => Q d s3) X) X) X
def PS3 (K : W.Frag) (mo : Mo) (r : V → Option Int → Option Int → Hp → VK → Prop) (f : D → Option Int → Option Int → Option D) : Prop :=
  ∀ {g m : Msk} {H : Hp} {v : V} {d e : D} {lo hi : Option Int} {Q : VK}, (∀ a, m a → H a ≠ none) → RB K g m H v d → f d lo hi = some e → (∀ v' H', Same H H' → RR K g mo m H H' v' e → Q v' H') → r v lo hi H Q
theorem ln_sl {r : V → Option Int → Option Int → Hp → VK → Prop} {f : D → Option Int → Option Int → Option D} {tl th : TO} {L U : TOx S} (ha : Ln Γ K E .b ta A) (hl : LnO Γ K E tl L) (hh : LnO Γ K E th U) (hr : PS3 K mo r f) : Ln Γ K E mo (tSl r ta tl th) (xSl f A L U) := by
  intro M α σ H ρ s ok st QD QX Q q k kx
  refine ha ok st _ QX _ q (fun vx H1 x s1 p1 st1 rx q1 => ?_) kx
  refine hl (ok.step p1) st1 _ QX _ q1 (fun lo H2 s2 p2 st2 q2 => ?_) (fun c dx H' x s' p st' r z => kx c dx H' x s' (p1.trans p) st' r z)
  have p := p1.trans p2
  refine hh (ok.step p) st2 _ QX _ q2 (fun hi H3 s3 p3 st3 q3 => ?_) (fun c dx H' x s' p' st' r z => kx c dx H' x s' (p.trans p') st' r z)
  obtain ⟨d, e, q4⟩ := opt_ex q3
  have p' := p.trans p3
  have ok3 := ok.step p'
  exact hr ok3.mtrk (RBo.step ok.msub (p2.trans p3).keep rx) e fun v' H' sm r' => k v' H' d s3 (p'.trans (Stp.of sm)) (Fr.same ok3.frt sm st3) (r'.from p'.trk) q4
theorem RAll.cut {G : Hp} {vs : List V} {ds : List D} (h : RAll K G vs ds) (lo hi : Option Int) : RAll K G (cutV vs lo hi) (cutL ds lo hi) := by
  unfold cutV cutL
  rw [RAll.len h]
  exact RAll.take _ (RAll.drop _ h)
theorem p3_slL : PS3 K .f (rSlD K) slL := by
  intro g m H v d e lo hi Q hm r he k
  unfold slL at he
  split at he
  · cases he
    obtain ⟨a, ws, rfl, h1, q1⟩ := RBo.lst r
    exact .inl ⟨a, ws, rfl, .inl (.inl h1), fun p hp => k _ _ (same_upd hp) (lay_lst hm hp (q1.cut lo hi))⟩
  · cases he
theorem p3_sl : PS3 K .s (rSlD K) slD := by
  intro g m H v d e lo hi Q hm r he k
  unfold slD at he
  split at he
  · exact p3_slL (e := e) hm r he fun v' H' s r => k v' H' s (RF.strict hm r)
  · rename_i xs
    cases he
    have rs := rb_strict r (fun c z => by cases c <;> cases z)
    obtain ⟨a, ws, rfl, h1, q1⟩ := RBo.tup r
    refine .inr (.inl ⟨a, ws, rfl, h1, fun z => ?_, fun _ p hp => k _ _ (same_upd hp) (lay_tup hm hp (q1.cut lo hi))⟩)
    have ec : cutL xs lo hi = xs := by
      rw [RAll.len q1] at z
      unfold cutL
      rw [z.1, z.2]
      simp
    exact k _ H (Same.refl _) (by rw [ec]; exact rs)
  · split at he
    · rename_i l
      cases he
      exact .inr (.inr ⟨_, RBo.sc r, l, k _ H (Same.refl _) (.v _)⟩)
    · cases he
  · cases he
end
end L2.DL
/-! The pen of the laws beside data: draws, and defs that draw -/
namespace L2.DL
open L2 L2.My PySem PySem.Spec PyProof.Rows

theorem FnG.any {P : Program} {w : World} {K : W.Frag} {mg : Str → Option Value} {base : Heap} {CX : CXT} {k : Nat} {f : Addr} {fd : FuncData} {ps : List Str} {sp : Sp} (F : FnG P w K mg base CX0 k f fd ps sp) : FnG P w K mg base CX k f fd ps sp := by
  refine ⟨F.many, fun A outer s H args us vs Q E hr hq he hb hv hs => codeAny_mono (F.runs A outer s H args us vs Q E hr hq he hb hv hs) ?_⟩
  intro r s' h
  match r, h with
  | .ok (.ret u), h => exact h
  | .ok .next, h => exact h
  | .ok .brk, h => exact h
  | .ok .cont, h => exact h
  | .error e, h => exact False.elim h
theorem CalG.any {P : Program} {w : World} {K : W.Frag} {mg : Str → Option Value} {base : Heap} {CX : CXT} {k : Nat} {x : Str} {sp : Sp} (c : CalG P w K mg base CX0 k x sp) : CalG P w K mg base CX k x sp := by
  obtain ⟨f, fd, ps, F, r⟩ := c.ex
  exact ⟨f, fd, ps, FnG.any F, r⟩

def penFr (p q : Addr) (ns : List Int) : Fr Nat where
  M := fun a => a = p ∨ a = q
  st := fun n H => ∃ big, PenAt H p q ns n big
  loc := fun h ⟨b, e⟩ => ⟨b, by rw [h _ (.inl rfl)]; exact e.pen, by rw [h _ (.inr rfl)]; exact e.cells, e.a0, e.a1, e.b0⟩
section
variable {K : W.Frag} {E : XK} {p q : Addr} {ns : List Int} {tl : TA} {L : TL Nat} {os : List Mo}
theorem pen_next {n : Nat} {H H' : Hp} {big a2 b2 : Int} (h : PenAt H p q ns n big) (b : But H H' p) (e : H' p = some (.lst [.ref q, .int a2, .int b2])) (h1 : (n : Int) ≤ a2) (h2 : a2 ≤ 100000) (h3 : 0 ≤ b2) : Stp (penFr p q ns) H H' ∧ (penFr p q ns).st a2.toNat H' := by
  refine ⟨⟨fun a o n e => b a o (fun z => n (.inl z)) e, fun a z => ?_⟩, b2, ?_⟩
  · by_cases ne : a = p
    · rw [ne, e]; exact fun z => by cases z
    · cases q : H a with
      | none => exact absurd q z
      | some o => rw [b a o ne q]; exact fun z => by cases z
  · have := h.next b e h1 h2 h3
    have e2 : ((a2.toNat : Nat) : Int) = a2 := Int.toNat_of_nonneg (by omega)
    rw [e2]
    exact this
/-- what a draw gives -/
def xDraw (p : Addr) (L : TL Nat) : TX Nat := fun ρ n Q X => L ρ n (fun ds n1 => match ds with
  | [.v (.ref p'), .v (.int many)] => p' = p ∧ 0 < many ∧ many.natAbs < 2 ^ 200 ∧ n1 < 100000 ∧ ∀ (d : Int) (n2 : Nat), 0 ≤ d → d < many → n1 ≤ n2 → n2 ≤ n1 + 1 → Q (dI d) n2
  | _ => False) X
theorem ln_draw (h : LnA (penFr p q ns) K E [.b, .b] tl L) : Ln (penFr p q ns) K E .s (tCall spDraw [] E tl) (xDraw p L) := by
  intro M α σ H ρ s ok st QD QX Q z k kx
  refine h ok st _ QX _ z (fun vs H1 ds n1 p1 st1 r z => ?_) kx
  split at z
  · rename_i p' many
    obtain ⟨rfl, z1, z2, z3, z⟩ := z
    obtain ⟨l1, l2⟩ := ARel.len r
    obtain ⟨v, w, rfl⟩ := two l1
    obtain ⟨r1, r2, _⟩ := r
    have e1 := RBo.sc r1
    have e2 := RBo.sc r2
    subst e1 e2
    obtain ⟨big, pen⟩ := st1
    show spDraw ([V.ref p', V.int many] ++ []) H1 Q E
    refine ⟨p', q, ns, n1, big, many, rfl, z1, z2, pen, by omega, fun d a2 b2 H' h0 h1 h2 h3 h4 b e => ?_⟩
    obtain ⟨p2, st2⟩ := pen_next pen b e h2 (by omega) h4
    exact k _ H' _ a2.toNat (p1.trans p2) st2 (.v _) (z d a2.toNat h0 h1 (by omega) (by omega))
  · exact z.elim
/-- a def that draws at most k times: what it gives -/
def spP (K : W.Frag) (os : List Mo) (Pre : List D → Prop) (k : List D → Nat) (Post : List D → D → Prop) : Sp := fun vs H Q _ => ∃ (p q : Addr) (ns : List Int) (M : Msk) (n : Nat) (ds : List D), (∀ a, (penFr p q ns).M a → M a) ∧ (∀ a, M a → H a ≠ none) ∧
  ARel K (penFr p q ns).M (.b :: os) M H H vs (.v (.ref p) :: ds) ∧ (penFr p q ns).st n H ∧ n + k ds ≤ 100000 ∧ Pre ds ∧
  ∀ (d : D) (n' : Nat) (v : V) (H' : Hp), Stp (penFr p q ns) H H' → (penFr p q ns).st n' H' → n ≤ n' → n' ≤ n + k ds → R K (cut M H') v d → Post ds d → Q v H'
def xPen (p : Addr) (Pre : List D → Prop) (k : List D → Nat) (Post : List D → D → Prop) (L : TL Nat) : TX Nat := fun ρ n Q X => L ρ n (fun ds n1 => match ds with
  | .v (.ref p') :: ds => p' = p ∧ n1 + k ds ≤ 100000 ∧ Pre ds ∧ ∀ (d : D) (n2 : Nat), n1 ≤ n2 → n2 ≤ n1 + k ds → Post ds d → Q d n2
  | _ => False) X
theorem ln_pen {Pre : List D → Prop} {kk : List D → Nat} {Post : List D → D → Prop} (ho : os.all (fun o => match o with | .f => false | _ => true) = true) (h : LnA (penFr p q ns) K E (.b :: os) tl L) :
    Ln (penFr p q ns) K E .s (tCall (spP K os Pre kk Post) [] E tl) (xPen p Pre kk Post L) := by
  have hno : ∀ o ∈ (Mo.b :: os), o ≠ Mo.f := fun o z e => by
    rcases List.mem_cons.mp z with z | z
    · rw [z] at e; cases e
    · have := List.all_eq_true.mp ho o z
      rw [e] at this
      cases this
  intro M α σ H ρ s ok st QD QX Q z k kx
  refine h ok st _ QX _ z (fun vs H1 ds n1 p1 st1 r z => ?_) kx
  split at z
  · rename_i p' ds
    obtain ⟨rfl, z1, z2, z⟩ := z
    have ok1 := ok.step p1
    show spP K os Pre kk Post (vs ++ []) H1 Q E
    rw [List.append_nil]
    exact ⟨p', q, ns, mask M α ρ, n1, ds, ok.msub, ok1.mtrk, ARel.from hno r, st1, z1, z2, fun d n' v H' p2 st2 a b r' po => k v H' d n' (p1.trans p2) st2 r' (z d n' a b po)⟩
  · exact z.elim
/-- a mode for the pen's own slot: it is a plain value -/
def postP (n : Nat) (k : Nat) (Po : D → Prop) : Post Nat where
  nx := fun _ n' => n ≤ n' ∧ n' ≤ n + k ∧ Po dN
  rt := fun d n' => n ≤ n' ∧ n' ≤ n + k ∧ Po d
theorem fn_pen {P : Program} {w : World} {mg : Str → Option Value} {base : Heap} {x qual : Str} {st : Stmt} {f : Addr} {fd : FuncData} {N ps : List Str} {k : Nat} {Pre : List D → Prop} {kk : List D → Nat} {Post : List D → D → Prop}
    (Fd : Fun K x qual st f fd) (Sc : FnScope N ps (defScope st)) (hl : os.length + 1 = ps.length) (ho : os.all (fun o => match o with | .f => false | _ => true) = true)
    (hbody : ∀ (cdv : Value) (A : Around) (outer : List PySem.Env) (s : Shared) (H : Hp) (E : XK), Room k (A.deeper (envOfC qual (defScope st) s.heap.objs.size f cdv)) → Quiet (A.deeper (envOfC qual (defScope st) s.heap.objs.size f cdv)) →
      ∃ t, PSs (cxOf (L2.CX P w) P w K mg base N qual (defScope st) f cdv A outer s H E) (defBody st) t ∧
        ∀ (p q : Addr) (ns : List Int), ∃ T : TP Nat, LnS (penFr p q ns) K E t T ∧ ∀ (ds : List D) (n : Nat), ds.length = os.length → Pre ds → n + kk ds ≤ 100000 → T (envD (.b :: os) N.length (.v (.ref p) :: ds)) n (postP n (kk ds) (Post ds))) :
    FnG P w K mg base (L2.CX P w) (k + 1) f fd ps (spP K os Pre kk Post) := by
  have hno : ∀ o ∈ (Mo.b :: os), o ≠ Mo.f := fun o z e => by
    rcases List.mem_cons.mp z with z | z
    · rw [z] at e; cases e
    · have := List.all_eq_true.mp ho o z
      rw [e] at this
      cases this
  refine body_g Fd Sc (fun vs H Q E ⟨p, q, ns, M, n, ds, _, _, r, _⟩ => by rw [(ARel.len r).1, List.length_cons]; exact hl) ?_
  rintro cdv A outer s H vs Q E hr hq ⟨p, q, ns, M, n, ds, h1, h2, r, st0, hk, pre, z⟩
  obtain ⟨t, ht, hT⟩ := hbody cdv A outer s H E hr hq
  obtain ⟨T, lt, main⟩ := hT p q ns
  obtain ⟨ok, no⟩ := ok_start (N := N) rfl hno h1 h2 r
  have back' : ∀ {w : Msk} {H' : Hp}, StS (wmask (penFr p q ns) (fun _ => 0) (envD (.b :: os) N.length (.v (.ref p) :: ds))) w H H' → Stp (penFr p q ns) H H' := fun p => ⟨fun a o n e => p.keep a o (fun z => z.elim n fun ⟨j, o, _⟩ => no j o) e, p.trk⟩
  have hlen : ds.length = os.length := by have := (ARel.len r).2; simpa using this
  refine ⟨t, ht, lt ok st0 _ _ (main ds n hlen pre hk) (fun σ' H' ρ' s' α' ok' st' p z' => ?_) (fun _ _ _ _ _ _ _ _ z => z.elim) (fun _ _ _ _ _ _ _ _ z => z.elim) (fun v H' d s' p st' r' z' => ?_) (fun c dx H' x s' p st' r' z => z.elim)⟩
  · exact z dN s' .non H' (back' p) st' z'.1 z'.2.1 (.v _) z'.2.2
  · exact z d s' v H' (back' p) st' z'.1 z'.2.1 r' z'.2.2
end
end L2.DL
/-! A method that begins with super().__init__(..) -/
namespace L2.DL
open L2 L2.My NdefX PySem PySem.Spec PyProof.Rows

abbrev supFn (name qual : Str) (st : Stmt) (kV doc pm : Value) (an : Option Addr) (cdv ct : Value) (cc : Addr) : FuncData := W.ksFn name qual (defArgs st) (defBody st) (defScope st) .none kV doc pm an cdv ct cc
/-- a method of the text whose class is captured -/
structure FunS (P : Program) (K : W.Frag) (x qual : Str) (st : Stmt) (f : Addr) (fd : FuncData) (c cc Dc : Addr) : Prop where
  ex : ∃ (oc : Value) (od : Option Addr) (kV doc pm : Value) (an : Option Addr) (ct : Value) (osl : Array (Option Value)),
    fd = supFn x qual st kV doc pm an (.ref c) ct cc ∧ K.lookup f = some ⟨oc, od, .func fd, osl⟩ ∧ W.codeIn K (.ref c) qual = true
  kp : W.keepIn K (.ref f) = true
  cell : ∃ (cl : Value) (cld : Option Addr) (csl : Array (Option Value)), K.lookup cc = some ⟨cl, cld, .cell (some (.ref Dc)), csl⟩
  file : ∃ (ccl : Value) (cdd : Option Addr) (vs : Array Value) (ccs : Array (Option Value)) (fl : Str) (tf : Tok), K.lookup c = some ⟨ccl, cdd, .fields vs, ccs⟩ ∧ vs[2]? = some (.str fl tf) ∧ ((P.main.file : Str) == fl) = true
  top : (P.main.scope.names.lookup ("super" : Str)).isSome = false
  cls : ∃ cd, W.clsIn K Dc = some cd
def nfS (x qual : Str) (st : Stmt) (c cc : Addr) : NF := ⟨x, qual, defArgs st, defBody st, defScope st, [("__class__", cc)], c⟩
theorem body_super {P : Program} {w : World} {K : W.Frag} {mg : Str → Option Value} {base : Heap} {CX : CXT} {x qual : Str} {st : Stmt} {f : Addr} {fd : FuncData} {c cc Dc : Addr} {N ps : List Str} {self : Str} {k : Nat} {sp : Sp} {e : Expr} {es : List Expr} {rest : List Stmt} {p0 p1 apos pos pos2 : Pos} {ar : Arg}
    (Fd : FunS P K x qual st f fd c cc Dc) (Sc : NScope N (self :: ps) ["__class__"] (defScope st)) (hst : defBody st = .Expr (.Call (.Attribute (.Call (.Name "super" p0) [] [] p1) "__init__" apos) (e :: es) [] pos) pos2 :: rest)
    (hpar : ((defArgs st).posonlyargs ++ (defArgs st).args).head? = some ar) (har : ar.arg = self) (hks : (defScope st).names.lookup ("super" : Str) = some .globalImplicit) (m_super : mg "super" = none) (hop : W.nsIn K cStatics "thirdparty.any" = some none)
    (hN0 : N[0]? = some self) (many : ∀ vs H Q E, sp vs H Q E → vs.length = (self :: ps).length)
    (he : ∀ env : PySem.Env, starEach (e :: es) env = (false, eval e env) :: starEach es env) (hpl : ∀ env : PySem.Env, (backTo pos (starEach es env)).any (·.1) = false)
    (hev : ∀ env : PySem.Env, ∃ pl, eval (.Call (.Attribute (.Call (.Name "super" p0) [] [] p1) "__init__" apos) (e :: es) [] pos) env = (do
        let ov ← attributeBase (.Call (.Name "super" p0) [] [] p1) "__init__" env (eval (.Call (.Name "super" p0) [] [] p1) env)
        standAt apos.atName
        let (f, first) ← holding [ov] (getMethod ov "__init__" pl)
        callWith pos f first (backTo pos (starEach (e :: es) env)) []))
    (hsw : ∀ env : PySem.Env, swapsWith (.Call (.Attribute (.Call (.Name "super" p0) [] [] p1) "__init__" apos) (e :: es) [] pos) none pos2.line env = pure false)
    (hbody : ∀ (A : Around) (outer : List PySem.Env) (s : Shared) (H : Hp) (vs : List V) (Q : VK) (E : XK), Room k (A.deeper (envF (nfS x qual st c cc) f s.heap.objs.size)) → Quiet (A.deeper (envF (nfS x qual st c cc) f s.heap.objs.size)) → sp vs H Q E →
      ∃ (ta : TA) (t : TS) (a C dx : Addr) (us : List V) (fs : List (Str × V)) (fP : Addr) (fdP : FuncData) (psP : List Str) (spP : Sp),
        PA (ncx CX P w K mg base N (nfS x qual st c cc) f A outer s H E) (e :: es) ta ∧ PSs (ncx CX P w K mg base N (nfS x qual st c cc) f A outer s H E) rest t ∧ vs = .ref a :: us ∧ H a = some (.ins C dx fs) ∧
        W.mroIn K C (.ref Dc) = some true ∧ W.ks_superIn K C Dc "__init__" = some (some (.ref fP)) ∧ W.typeIn K (.ref fP) = some (.type "function") ∧ W.fnIn K fP = true ∧ FnG P w K mg base CX k fP fdP psP spP ∧ Binds K fdP psP [] ∧
        Passes CX (ncx CX P w K mg base N (nfS x qual st c cc) f A outer s H E) E ∧
        ∀ q, H q = none → ta (startF N vs [some (.ref Dc)]) (upd H q (.met fP a)) fun ws H2 => H2 q = some (.met fP a) ∧ spP (.ref a :: ws) H2 (fun _ H3 => t { nx := fun _ H' => Q .non H', rt := Q } (startF N vs [some (.ref Dc)]) H3) E) :
    FnG P w K mg base CX (k + 1) f fd (self :: ps) sp := by
  obtain ⟨oc, od, kV, doc, pm, an, ct, osl, rfl, lk, hcd⟩ := Fd.ex
  refine ⟨many, ?_⟩
  intro A outer s H args us0 vs Q E hr hq e0 hb r hsp
  have hk0 : ∀ b o, base.get? b = some o → s.heap.get? b = some o := fun b o e => (e0.bs b o e).1
  have KX : K.In s.heap := e0.mod.kin.keeps hk0
  have lim : s.heap.NoLimit := e0.mod.nolimit.keeps hk0
  obtain ⟨ta, t, a, C, dx, us, fs, fP, fdP, psP, spP, hA, hS, rfl, hH, hmro, hsup, htP, hfP, FP, bP, hx, main⟩ := hbody A outer s H vs Q E (hr.deeper _) hq hsp
  obtain ⟨cl, cld, csl, lcell⟩ := Fd.cell
  obtain ⟨ccl, cdd, vsf, ccs, fl, tf, lcode, hvs, hfile⟩ := Fd.file
  obtain ⟨cdD, hD⟩ := Fd.cls
  have hlen := many _ _ _ _ hsp
  refine ks_codeAny_call_defAt (fd := supFn x qual st kV doc pm an (.ref c) ct cc) (body := defBody st) hr.depth (KX _ _ lk) rfl lim (W.codeRec_of KX hcd) rfl hb Sc.nocell (fun ⟨n, _⟩ hy => Sc.par n (List.of_mem_zip hy).1) (fun h₁ hns kp => ?_) Sc.co Sc.gen Sc.kind
  -- the context
  have Cs : CellsAt (nfS x qual st c cc).cl ["__class__"] [some (.ref Dc)] s.heap H := by
    have at_ : ∀ y c', (nfS x qual st c cc).cl.lookup y = some c' → y = "__class__" ∧ c' = cc := fun y c' z => by
      have z : List.lookup y [(("__class__" : Str), cc)] = some c' := z
      rw [List.lookup_cons] at z
      split at z
      · rename_i hb
        cases z
        exact ⟨by simpa using hb, rfl⟩
      · cases z
    have hcc : s.heap.get? cc = some ⟨cl, cld, .cell (some (.ref Dc)), csl⟩ := KX _ _ lcell
    have hb' : base.get? cc = some ⟨cl, cld, .cell (some (.ref Dc)), csl⟩ := e0.mod.kin _ _ lcell
    refine ⟨rfl, fun y c' z => ?_, fun y y' c' z z' => ?_, fun i y z => ?_⟩
    · obtain ⟨_, rfl⟩ := at_ y c' z
      exact ⟨(e0.bs _ _ hb').2, _, _, hcc, rfl⟩
    · rw [(at_ y c' z).1, (at_ y' c' z').1]
    · match i, z with
      | 0, z =>
        cases z
        exact ⟨cc, rfl, fun v z => by cases z; exact ⟨.ref Dc, rfl, _, hcc, rfl⟩⟩
  have I : Inv (ncx CX P w K mg base N (nfS x qual st c cc) f A outer s H E) [] (startF N (.ref a :: us) [some (.ref Dc)]) H { s with heap := h₁, toks := s.toks + ((self :: ps).zip us0).length } := inv_startN Sc hr.hd e0 hlen r Cs hns kp
  show _root_.PySem.wpAt (model P w) (A.deeper (envF (nfS x qual st c cc) f s.heap.objs.size)) (.func (defBody st) (envF (nfS x qual st c cc) f s.heap.objs.size)) (execs (defBody st) (envF (nfS x qual st c cc) f s.heap.objs.size)) _ _ _
  have fin : ∀ {fl : Flow} {s' : Shared}, SP (ncx CX P w K mg base N (nfS x qual st c cc) f A outer s H E) [] { nx := fun _ H' => Q .non H', rt := Q } fl s' → CR CX outer P w H s Q E (.ok (.ret (match fl with | .ret v => v | _ => .none))) s' := by
    intro fl s' hs
    match fl, hs with
    | .ret u, ⟨v, σ', H', J, rv, q⟩ => exact (⟨v, H', J.os, J.bare, J.base, J.hok, rv, q⟩ : CE outer P w H s Q u s')
    | .next, ⟨σ', H', J, q⟩ => exact (⟨.non, H', J.os, J.bare, J.base, J.hok, rfl, q⟩ : CE outer P w H s Q .none s')
    | .brk, ⟨_, _, _, q⟩ => exact q.elim
    | .cont, ⟨_, _, _, q⟩ => exact q.elim
  generalize hs1 : ({ s with heap := h₁, toks := s.toks + ((self :: ps).zip us0).length } : Shared) = s1 at I
  have bodyE : ∀ b : List Stmt, b = defBody st → _root_.PySem.wpAt (model P w) (A.deeper (envF (nfS x qual st c cc) f s.heap.objs.size)) (.func b (envF (nfS x qual st c cc) f s.heap.objs.size)) (execs (.Expr (.Call (.Attribute (.Call (.Name "super" p0) [] [] p1) "__init__" apos) (e :: es) [] pos) pos2 :: rest) (envF (nfS x qual st c cc) f s.heap.objs.size))
      (fun fl s' => CR CX outer P w H s Q E (.ok (.ret (match fl with | .ret v => v | _ => .none))) s') (ncx CX P w K mg base N (nfS x qual st c cc) f A outer s H E).xe s1 := by
    intro b hb'
    refine ks_wpAt_execs_cons (ks_wpAt_mono (Q := fun fl s' => fl = .next ∧ ∃ H3, Inv (ncx CX P w K mg base N (nfS x qual st c cc) f A outer s H E) [] (startF N (.ref a :: us) [some (.ref Dc)]) H3 s' ∧ t { nx := fun _ H' => Q .non H', rt := Q } (startF N (.ref a :: us) [some (.ref Dc)]) H3) ?_ ?_ fun e s' z => z)
    · refine ks_wpAt_Expr_any ?_ (by unfold interactive; rw [show (envF (nfS x qual st c cc) f s.heap.objs.size).scope.kind = .function from Sc.kind]; rfl) (hsw _)
      obtain ⟨pl, hpl'⟩ := hev (envF (nfS x qual st c cc) f s.heap.objs.size)
      refine ks_wpAt_MethodCall (pl := pl) ?_ hpl'
      have KX1 : K.In s1.heap := I.kIn
      obtain ⟨mA, O, _⟩ := ins_get I.hok hH
      obtain ⟨odx, J, _⟩ := O.look
      obtain ⟨oD, hD1, hD2⟩ : ∃ oD, s1.heap.get? Dc = some oD ∧ oD.data = .cls cdD := by
        unfold W.clsIn at hD
        split at hD
        · rename_i c1 d1 cd1 sl1 ho
          cases hD
          exact ⟨_, KX1 _ _ ho, rfl⟩
        · cases hD
      have hs0 : (startF N (.ref a :: us) [some (.ref Dc)])[0]? = some (some (.ref a)) := rfl
      obtain ⟨m, hn, hl⟩ := id I.loc
      obtain ⟨mb, hb1, hb2⟩ := I.mod.blt
      have hself : (defScope st).names.lookup self = some .local := Sc.par self List.mem_cons_self
      obtain ⟨u, ru, lu⟩ := hl 0 self (.ref a) hN0 hs0 (.inl hself)
      cases (show u = Value.ref a from ru)
      have lu' : m self = some (.ref a) := by
        rcases lu with ⟨_, q⟩ | ⟨q, _⟩
        · exact q
        · rcases q with q | q
          · exact absurd (hself.symm.trans q) (by decide)
          · exact absurd (hself.symm.trans q) (by decide)
      refine ks_wpAt_super_base (env := envF (nfS x qual st c cc) f s.heap.objs.size) hks (Sc.frk "__class__" List.mem_cons_self) (by decide) rfl (KX1 _ _ lk) rfl hpar rfl (KX1 _ _ lcode) rfl hvs hfile Fd.top ?_
      refine W.ks_loadName_global Sc.kind hks (Calls.loadGlobal_builtin (I.mod.glob.keeps I.bk) m_super (hb1.keeps I.bk) ((hb2 _ (by decide +kernel)).trans (show bootBuiltins "super" = some (.type "super") by decide +kernel)) ⟨rfl, ?_⟩)
      refine wpAny_loadName_free Sc.kind (Sc.frk "__class__" List.mem_cons_self) rfl ⟨_, KX1 _ _ lcell, rfl⟩ ?_
      rw [har]
      refine wpAny_loadName_local Sc.kind hself hn lu' ?_
      refine ks_wpAny_isType_cls hD1 hD2 ⟨rfl, ?_⟩
      obtain ⟨hh, g, d, tk, os⟩ := s1
      refine ks_wpAny_call_super hD1 hD2 J.at_ J.cls (fun c e => ?_) (W.looks_mroIn KX1 hmro) (fun h' e' kp' => ?_)
      · have := J.no
        unfold W.notCls at this
        rw [e] at this
        exact Bool.noConfusion this
      have I2 : Inv (ncx CX P w K mg base N (nfS x qual st c cc) f A outer s H E) [] (startF N (.ref a :: us) [some (.ref Dc)]) H ⟨h', g, d, tk, os⟩ := I.kept (t' := tk) kp'
      -- the method
      cases hc : W.clsIn K C with
      | none => unfold W.ks_superIn at hsup; rw [hc] at hsup; cases hsup
      | some cd =>
        unfold W.ks_superIn at hsup
        rw [hc] at hsup
        have KX2 : K.In h' := I2.kIn
        obtain ⟨of, hof, hofc⟩ : ∃ of, h'.get? fP = some of ∧ of.cls = .type "function" := by
          have ht' : (K.lookup fP).map (·.cls) = some (.type "function") := htP
          cases z : K.lookup fP with
          | none => rw [z] at ht'; cases ht'
          | some of => rw [z] at ht'; exact ⟨of, KX2 _ _ z, Option.some.inj ht'⟩
        obtain ⟨mA2, O2, _⟩ := ins_get I2.hok hH
        obtain ⟨odx2, J2, _⟩ := O2.look
        refine ks_wpAny_getMethod_super e' (W.looks_opaque KX2 hop) (l₀ := cd.mro) ?_ rfl KX2 hsup hof hofc (W.ks_ne KX2 J2 hc) (by decide) ?_
        · exact fun A Q E s k q => wpAny_bind ((W.looks_clsIn KX2 hc) A _ E s k (wpAny_pure q))
        have nq : H h'.objs.size = none := I2.hok.fresh (Nat.le_refl _)
        have I3 : Inv (ncx CX P w K mg base N (nfS x qual st c cc) f A outer s H E) [] (startF N (.ref a :: us) [some (.ref Dc)]) (upd H h'.objs.size (.met fP a)) ⟨h'.push { cls := .type "method", data := .fields #[.ref fP, .ref a] }, g, d, tk + 1, os⟩ :=
          I2.laid (t' := tk + 1) (fun b o z => Heap.get?_push_of_some _ z) (Nat.le_refl _) (show ObjOk _ _ _ _ _ (.met fP a) from Heap.get?_push_size _ rfl)
        refine callwith_met (X := ncx CX P w K mg base N (nfS x qual st c cc) f A outer s H E) (a := a) ?_ hfP ?_
        · rw [he]
          show ((false || (backTo pos (starEach es _)).any (·.1)) || false) = false
          rw [hpl]
          rfl
        rw [he]
        refine Calls.evalArgs_plain ?_
        have run := hA.run pos [] _ _ _ _ I3 (main h'.objs.size nq)
        rw [he] at run
        refine thn run fun ws s4 ⟨zs, H4, I4, rv, hm, hz⟩ => ⟨met_P I4 hm, ?_⟩
        refine wpAny_call (ks_codeAny_call_bound (met_P I4 hm).1 ?_)
        have hl4 : ((Value.ref a :: ws) ++ []).length = psP.length := by
          rw [List.append_nil, List.length_cons, ← rv.length]
          exact FP.many _ _ _ _ hz
        have b4 := bP s4 (Value.ref a :: ws) I4.kIn hl4
        rw [List.append_nil] at b4
        refine codeAny_mono (FP.runs _ _ s4 H4 ⟨Value.ref a :: ws, []⟩ (Value.ref a :: ws) (V.ref a :: zs) _ _ (hr.deeper _) hq I4.env0 b4 (.cons rfl rv) hz) ?_
        intro res s' z
        match res, z with
        | .error er, z => exact hx [] _ H4 s4 er s' I4 z
        | .ok (.ret u), z =>
          obtain ⟨v, H5, I5, _, q5⟩ := I4.after z
          exact ⟨rfl, H5, I5, q5⟩
    · rintro fl s' ⟨rfl, H3, I3, q3⟩
      exact wpAt_of_wpAny (wpAny_mono (hS.run [] s' _ H3 _ I3 q3) (fun fl s'' hs => fin hs) fun _ _ z => z)
  have := bodyE (defBody st) rfl
  rw [← hst] at this
  exact this
end L2.DL
/-! Instances of own classes: fields, __init__, making -/
namespace L2.DL
open L2 L2.My NdefX PySem PySem.Spec PyProof.Rows

section
variable {S : Type} {Γ : Fr S} {K : W.Frag} {E : XK} {ta tb tc : TE} {A B : TX S} {t u : TS} {T U : TP S} {os : List Mo} {tl : TA} {L : TL S} {mo : Mo}
/-- one's own object is another now -/
theorem Ok.turnH {M : Msk} {α : Nat → Addr} {σ : St} {H H' : Hp} {ρ : Env} {i : Nat} {c c' : Cell} (ok : Ok Γ K M α σ H ρ) (e : ρ[i]? = some (.own c)) (kp : ∀ b o, ¬ Γ.M b → b ≠ α i → H b = some o → H' b = some o) (tr : ∀ b, H b ≠ none → H' b ≠ none)
    (r : ∀ m', (∀ b, m' b → mask M α ρ b) → CellR K (cut m' H') H' (α i) c') : Ok Γ K M α σ H' (ρ.set i (.own c')) ∧ StS (wmask Γ α ρ) (wmask Γ α (ρ.set i (.own c'))) H H' := by
  have oi : ownAt ρ i := ⟨_, e, rfl⟩
  obtain ⟨e1, _⟩ := ok.slot i _ e
  have own' : ∀ j, ownAt (ρ.set i (.own c')) j → ownAt ρ j := fun j o => by
    rcases own_set o with ⟨rfl, _⟩ | ⟨_, o⟩
    · exact oi
    · exact o
  have mm : ∀ a, mask M α (ρ.set i (.own c')) a → mask M α ρ a := fun a z => z.imp id fun ⟨j, o, q⟩ => ⟨j, own' j o, q⟩
  have cc : Same (cut (mask M α ρ) H) (cut (mask M α (ρ.set i (.own c'))) H') := fun b o q => by
    obtain ⟨n, q⟩ := of_cut q
    rw [cut_out fun z => n (mm b z)]
    exact kp b o (fun z => n (ok.msub b z)) (fun z => n (.inr ⟨i, oi, z.symm⟩)) q
  have put := ok.put (x := some (.ref (α i))) (sl := .own c') (a := α i) (H' := H') (i := i) self_upd (.inl rfl) tr cc (fun b o n z q => kp b o n (fun y => by
    rcases z with z | ⟨j, nj, oj, z⟩
    · exact ok.out i oi (by rw [← y]; exact z)
    · exact nj (ok.inj j i oj oi (z.trans y))) q) (fun _ => ⟨ok.out i oi, fun j nj oj z => nj (ok.inj j i oj oi z)⟩) fun _ => ⟨rfl, r _ mm⟩
  rw [set_same e1] at put
  exact ⟨put, ⟨fun a o n q => kp a o (fun z => n (.inl z)) (fun z => n (.inr ⟨i, oi, z.symm⟩)) q, fun a z => .inl (z.imp id fun ⟨j, o, q⟩ => ⟨j, own' j o, q⟩), tr⟩⟩

/-! ### fields -/
theorem RFs.look {G : Hp} {f : Str} : ∀ {vs : List (Str × V)} {ds : List (Str × D)} {d : D}, RFs K G vs ds → ds.lookup f = some d → ∃ v, vs.lookup f = some v ∧ R K G v d
  | _, _, _, .nil, e => by cases e
  | _, _, d, .cons (k := k) h t, e => by
    rw [List.lookup_cons] at e ⊢
    split at e
    · cases e; exact ⟨_, rfl, h⟩
    · exact RFs.look t e
theorem RFs.len {G : Hp} : ∀ {vs : List (Str × V)} {ds : List (Str × D)}, RFs K G vs ds → vs.length = ds.length
  | _, _, .nil => rfl
  | _, _, .cons _ t => by rw [List.length_cons, List.length_cons, RFs.len t]
def putD (f : Str) (d : D) : List (Str × D) → List (Str × D)
  | [] => [(f, d)]
  | (g, x) :: r => if g = f then (g, d) :: r else (g, x) :: putD f d r
theorem RFs.put {G : Hp} {f : Str} {v : V} {d : D} (h : R K G v d) : ∀ {vs : List (Str × V)} {ds : List (Str × D)}, RFs K G vs ds → RFs K G (putF f v vs) (putD f d ds)
  | _, _, .nil => .cons h .nil
  | _, _, .cons (k := k) q t => by
    unfold putF putD
    by_cases e : k = f
    · rw [if_pos e, if_pos e]; exact .cons h t
    · rw [if_neg e, if_neg e]; exact .cons q (RFs.put h t)
/-- instances of the class at C have an attribute f of their own -/
structure Att (K : W.Frag) (C : Addr) (f : Str) : Prop where
  cl : Cls K C
  no : NoAttr K C f
def xFld (K : W.Frag) (f : Str) (A : TX S) : TX S := fun ρ s Q X => A ρ s (fun d s1 => match d with
  | .obj C fs => Att K C f ∧ opt (fs.lookup f) fun d => Q d s1
  | _ => False) X
theorem ln_fld {f : Str} (ha : Ln Γ K E .b ta A) : Ln Γ K E .s (tFld K ta f) (xFld K f A) := by
  intro M α σ H ρ s ok st QD QX Q q k kx
  refine ha ok st _ QX _ q (fun v H' d s' p st' r z => ?_) kx
  split at z
  · rename_i C fs
    obtain ⟨⟨c1, c2⟩, z⟩ := z
    obtain ⟨d, e, z⟩ := opt_ex z
    obtain ⟨a, dx, vs, rfl, h1, h2⟩ := RBo.obj r
    obtain ⟨v, ev, rv⟩ := RFs.look h2 e
    exact ⟨a, C, dx, vs, v, rfl, h1, c1, c2, ev, k _ H' d s' p st' rv z⟩
  · exact z.elim
def ownO (ρ : Env) (i : Nat) : Option (Addr × List (Str × D)) := match ρ[i]? with
  | some (.own (.obj C fs)) => some (C, fs)
  | _ => none
theorem ownO_at {ρ : Env} {i : Nat} {x : Addr × List (Str × D)} (h : ownO ρ i = some x) : ρ[i]? = some (.own (.obj x.1 x.2)) := by
  unfold ownO at h
  split at h
  · rename_i C fs e; cases h; exact e
  · cases h
/-- self.f = e -/
def pFld (K : W.Frag) (f : Str) (i : Nat) (A : TX S) : TP S := fun ρ s P => A ρ s (fun d s1 => opt (ownO ρ i) fun x => Att K x.1 f ∧ x.2.length < 1000 ∧ P.nx (ρ.set i (.own (.obj x.1 (putD f d x.2)))) s1) P.ex
theorem ls_fld {f : Str} {i : Nat} (ha : Ln Γ K E .s ta A) : LnS Γ K E (sFld K (tVar i) ta f) (pFld K f i A) := by
  intro M α σ H ρ s ok st P Dn q kn kb kc kr kx
  refine ha ok st _ P.ex _ q (fun v H' d s' p st' r z => ?_) (fun c dx H' x s' p st' r z => kx c dx H' x s' (stS_end p) st' (r.mono fun _ z => .inl z) z)
  obtain ⟨⟨C, fs⟩, e, z⟩ := opt_ex z
  have e' := ownO_at e
  have ok' := ok.step p
  obtain ⟨e1, dx, vs, h1, r1⟩ := ok'.slot i _ e'
  obtain ⟨c1, c2, z⟩ := z
  have oi : ownAt ρ i := ⟨_, e', rfl⟩
  refine ⟨_, e1, α i, C, dx, vs, rfl, h1, c1.cl, c1.no, by rw [RFs.len r1]; exact c2, ?_⟩
  obtain ⟨o2, p2⟩ := ok'.turnC (u := .ins C dx (putF f v vs)) (c' := .obj C (putD f d fs)) e' fun m' H2 s e => ⟨dx, _, e, RFs.same s (RFs.put r r1)⟩
  exact kn σ _ _ s' α o2 (Γ.loc (fun a y => by rw [upd_ne fun e => ok.out i oi (ok.sub _ (by rw [← e]; exact y))]) st') ((stS_stp p).trans p2) z

/-! ### __init__ -/
abbrev IniF := Addr → List D → Option (Except Exn (List (Str × D)))
structure StX (Γ : Fr S) (x : Addr) (H H' : Hp) : Prop where
  keep : ∀ a o, ¬ Γ.M a → a ≠ x → H a = some o → H' a = some o
  trk : ∀ a, H a ≠ none → H' a ≠ none
def spI (K : W.Frag) (os : List Mo) (CC : Addr → Prop) (F : IniF) : Sp := fun vs H Q E => ∃ (S : Type) (Γ : Fr S) (M : Msk) (s : S) (x C dx : Addr) (us : List V) (ds : List D), vs = .ref x :: us ∧ (∀ a, Γ.M a → M a) ∧ (∀ a, M a → H a ≠ none) ∧ ¬ M x ∧ H x = some (.ins C dx []) ∧
  ARel K Γ.M os M (del H x) (del H x) us ds ∧ Γ.st s H ∧ CC C ∧ opt (F C ds) fun r => match r with
    | .ok fs => ∀ H', StX Γ x H H' → Γ.st s H' → CellR K (cut (fun b => M b ∨ b = x) H') H' x (.obj C fs) → Q .non H'
    | .error e => ∀ c dx H', StX Γ x H H' → Γ.st s H' → XR K M H' c dx e → E c dx H'
def iniE (os : List Mo) (n : Nat) (C : Addr) (ds : List D) : Env := .own (.obj C []) :: (startD os ds ++ List.replicate (n - ds.length - 1) .no)
/-- the frame with an object that is being made -/
abbrev Fr.mk' {S : Type} (Γ : Fr S) (x : Addr) : Fr S := ⟨Γ.M, Γ.st, Γ.loc, some x⟩
theorem ini_start {M : Msk} {H : Hp} {n : Nat} {vs : List V} {ds : List D} {x C dx : Addr} {tl : St} (ho : ∀ o ∈ os, o ≠ .f) (h1 : ∀ a, Γ.M a → M a) (h2 : ∀ a, M a → H a ≠ none) (h3 : ¬ M x) (hx : H x = some (.ins C dx [])) (r : ARel K Γ.M os M (del H x) (del H x) vs ds)
    (ht : tl.length = n - vs.length - 1) : Ok (Γ.mk' x) K M (fun _ => x) ((.ref x :: vs).map some ++ tl) H (iniE os n C ds) ∧ ∀ i, ownAt (iniE os n C ds) i → i = 0 := by
  obtain ⟨l1, l2⟩ := ARel.len r
  have own : ∀ i, ownAt (iniE os n C ds) i → i = 0 := fun i ⟨s, e, o⟩ => by
    match i with
    | 0 => rfl
    | i + 1 =>
      unfold iniE at e
      rw [List.getElem?_cons_succ] at e
      by_cases h : i < (startD os ds).length
      · rw [List.getElem?_append_left h] at e
        exact absurd ⟨s, e, o⟩ startD_own
      · rw [List.getElem?_append_right (by omega), List.getElem?_replicate] at e
        split at e
        · cases e; cases o
        · cases e
  have mm : ∀ a, mask M (fun _ => x) (iniE os n C ds) a → M a ∨ a = x := by
    rintro a (z | ⟨j, o, e⟩)
    · exact .inl z
    · exact .inr e.symm
  have c : Same (cut M (del H x)) (cut (mask M (fun _ => x) (iniE os n C ds)) H) := fun b o e => by
    obtain ⟨n, e⟩ := of_cut e
    have ne : b ≠ x := fun z => by rw [z] at e; unfold del at e; simp at e
    rw [cut_out fun z => (mm b z).elim n ne]
    rwa [del_ne ne] at e
  obtain ⟨hlen, slots⟩ := startD_slot (a := x) ho r
  refine ⟨⟨h1, h2, fun i o => h3, fun i j a b _ => (own i a).trans (own j b).symm, ?_, fun i s e => ?_, fun a z => by cases z; rfl⟩, own⟩
  · unfold iniE
    simp only [List.length_append, List.length_map, List.length_cons, List.length_replicate, ht, hlen]
    omega
  · match i with
    | 0 =>
      cases e
      exact ⟨rfl, dx, [], hx, .nil⟩
    | i + 1 =>
      unfold iniE at e
      rw [List.getElem?_cons_succ] at e
      by_cases h : i < (startD os ds).length
      · rw [List.getElem?_append_left h] at e
        obtain ⟨v, ev, rs⟩ := slots i s e
        have es : ((V.ref x :: vs).map some ++ tl)[i + 1]? = some (some v) := by
          rw [List.map_cons, List.cons_append, List.getElem?_cons_succ, List.getElem?_append_left (by rw [List.length_map]; exact (List.getElem?_eq_some_iff.mp ev).1), List.getElem?_map, ev]
          rfl
        rw [es]
        cases s with
        | no => trivial
        | d y => obtain ⟨v, e1, r⟩ := rs; exact ⟨v, e1, R.same c r⟩
        | bor y => obtain ⟨v, e1, r⟩ := rs; exact ⟨v, e1, RBo.carry c (fun _ _ _ _ e => del_le _ _ e) r⟩
        | own y => exact absurd ⟨_, e, rfl⟩ startD_own
      · rw [List.getElem?_append_right (by omega), List.getElem?_replicate] at e
        split at e
        · cases e; trivial
        · cases e
/-- what an __init__'s body is to reach -/
def postI (C : Addr) (s : S) (r : Except Exn (List (Str × D))) : Post S where
  nx := fun ρ s' => s' = s ∧ ∃ fs, r = .ok fs ∧ ownO ρ 0 = some (C, fs)
  rt := fun _ _ => False
  ex := fun x s' => r = .error x ∧ s' = s
theorem ini_cell {M : Msk} {α : Nat → Addr} {σ : St} {H : Hp} {ρ : Env} {x C : Addr} {fs : List (Str × D)} (ok : Ok (Γ.mk' x) K M α σ H ρ) (e : ownO ρ 0 = some (C, fs)) : CellR K (cut (fun b => M b ∨ b = x) H) H x (.obj C fs) := by
  have e' := ownO_at e
  have a0 : α 0 = x := ok.sf x rfl
  obtain ⟨_, r⟩ := ok.slot 0 _ e'
  rw [a0] at r
  exact r.move (cut_mono fun b z => z.imp id fun z => ⟨0, ⟨_, e', rfl⟩, a0.trans z.symm⟩) fun _ e => e
theorem stX_of {w : Msk} {H H' : Hp} {n : Nat} {x C : Addr} {ds : List D} (own : ∀ i, ownAt (iniE os n C ds) i → i = 0) (p : StS (wmask (Γ.mk' x) (fun _ => x) (iniE os n C ds)) w H H') : StX Γ x H H' :=
  ⟨fun a o n ne e => p.keep a o (fun z => z.elim n fun ⟨_, _, z⟩ => ne z.symm) e, p.trk⟩
end
section
variable {P : Program} {w : World} {K : W.Frag} {mg : Str → Option Value} {base : Heap} {xn qual self : Str} {st : Stmt} {f : Addr} {fd : FuncData} {N ps : List Str} {k : Nat} {os osP : List Mo} {CC CCP : Addr → Prop} {F FP : IniF}
theorem fn_ini (Fd : Fun K xn qual st f fd) (Sc : FnScope N (self :: ps) (defScope st)) (hl : os.length = ps.length) (ho : os.all (fun o => match o with | .f => false | _ => true) = true)
    (hbody : ∀ (cdv : Value) (A : Around) (outer : List PySem.Env) (s : Shared) (H : Hp) (E : XK), Room k (A.deeper (envOfC qual (defScope st) s.heap.objs.size f cdv)) → Quiet (A.deeper (envOfC qual (defScope st) s.heap.objs.size f cdv)) →
      ∃ t, PSs (cxOf (L2.CX P w) P w K mg base N qual (defScope st) f cdv A outer s H E) (defBody st) t ∧
        ∀ (S : Type) (Γ : Fr S) (x : Addr), ∃ T : TP S, LnS (Γ.mk' x) K E t T ∧ ∀ (C : Addr) (ds : List D) (r : Except Exn (List (Str × D))) (s : S), CC C → F C ds = some r → T (iniE os N.length C ds) s (postI C s r)) :
    FnG P w K mg base (L2.CX P w) (k + 1) f fd (self :: ps) (spI K os CC F) := by
  have hno : ∀ o ∈ os, o ≠ Mo.f := fun o z e => by
    have := List.all_eq_true.mp ho o z
    rw [e] at this
    cases this
  refine body_g Fd Sc (fun vs H Q E ⟨S, Γ, M, s, x, C, dx, us, ds, e, _, _, _, _, r, _⟩ => by rw [e, List.length_cons, List.length_cons, (ARel.len r).1, hl]) ?_
  rintro cdv A outer s H vs Q E hr hq ⟨S, Γ, M, s0, x, C, dx, us, ds, rfl, h1, h2, h3, hx, r, st0, hC, q⟩
  obtain ⟨t, ht, hT⟩ := hbody cdv A outer s H E hr hq
  obtain ⟨T, lt, main⟩ := hT S Γ x
  obtain ⟨y, e, q⟩ := opt_ex q
  obtain ⟨ok, own⟩ := ini_start (n := N.length) (tl := List.replicate (N.length - (us.length + 1)) none) hno h1 h2 h3 hx r (by rw [List.length_replicate]; omega)
  refine ⟨t, ht, lt ok st0 _ _ (main C ds y s0 hC e) (fun σ' H' ρ' s' α' ok' st' p z => ?_) (fun _ _ _ _ _ _ _ _ z => z.elim) (fun _ _ _ _ _ _ _ _ z => z.elim) (fun v H' d s' p st' r' z => z.elim) (fun c dx H' x s' p st' r' z => ?_)⟩
  · obtain ⟨rfl, fs, rfl, ef⟩ := z
    exact q H' (stX_of own p) st' (ini_cell ok' ef)
  · obtain ⟨rfl, rfl⟩ := z
    exact q c dx H' (stX_of own p) st' r'
theorem ARel.ofS {g m : Msk} {H0 H : Hp} : ∀ {os : List Mo} {vs : List V} {ds : List D}, os.length = vs.length → (∀ o ∈ os, o = .s) → RAll K (cut m H) vs ds → ARel K g os m H0 H vs ds
  | [], [], _, _, _, .nil => trivial
  | o :: os, _, _, l, ho, .cons h t => by
    have e := ho o List.mem_cons_self
    subst e
    exact ⟨h, ARel.ofS (by simpa using l) (fun o z => ho o (List.mem_cons_of_mem _ z)) t⟩
theorem fn_sup {c cc Dc : Addr} {e : Expr} {es : List Expr} {rest : List Stmt} {p0 p1 apos pos pos2 : Pos} {ar : Arg}
    (Fd : FunS P K xn qual st f fd c cc Dc) (Sc : NScope N (self :: ps) ["__class__"] (defScope st)) (hst : defBody st = .Expr (.Call (.Attribute (.Call (.Name "super" p0) [] [] p1) "__init__" apos) (e :: es) [] pos) pos2 :: rest)
    (hpar : ((defArgs st).posonlyargs ++ (defArgs st).args).head? = some ar) (har : ar.arg = self) (hks : (defScope st).names.lookup ("super" : Str) = some .globalImplicit) (m_super : mg "super" = none) (hop : W.nsIn K cStatics "thirdparty.any" = some none)
    (he : ∀ env : PySem.Env, starEach (e :: es) env = (false, eval e env) :: starEach es env) (hpl : ∀ env : PySem.Env, (backTo pos (starEach es env)).any (·.1) = false)
    (hev : ∀ env : PySem.Env, ∃ pl, eval (.Call (.Attribute (.Call (.Name "super" p0) [] [] p1) "__init__" apos) (e :: es) [] pos) env = (do
        let ov ← attributeBase (.Call (.Name "super" p0) [] [] p1) "__init__" env (eval (.Call (.Name "super" p0) [] [] p1) env)
        standAt apos.atName
        let (f, first) ← holding [ov] (getMethod ov "__init__" pl)
        callWith pos f first (backTo pos (starEach (e :: es) env)) []))
    (hsw : ∀ env : PySem.Env, swapsWith (.Call (.Attribute (.Call (.Name "super" p0) [] [] p1) "__init__" apos) (e :: es) [] pos) none pos2.line env = pure false)
    (hl : os.length = ps.length) (ho : os.all (fun o => match o with | .f => false | _ => true) = true) (hoP : osP.all (fun o => match o with | .s => true | _ => false) = true)
    {fP : Addr} {fdP : FuncData} {psP : List Str} (hC : ∀ C, CC C → W.mroIn K C (.ref Dc) = some true ∧ W.ks_superIn K C Dc "__init__" = some (some (.ref fP)) ∧ CCP C) (htP : W.typeIn K (.ref fP) = some (.type "function")) (hfP : W.fnIn K fP = true)
    (FF : FnG P w K mg base (L2.CX P w) k fP fdP psP (spI K osP CCP FP)) (bP : Binds K fdP psP [])
    (hbody : ∀ (A : Around) (outer : List PySem.Env) (s : Shared) (H : Hp) (E : XK), Room k (A.deeper (envF (nfS xn qual st c cc) f s.heap.objs.size)) → Quiet (A.deeper (envF (nfS xn qual st c cc) f s.heap.objs.size)) →
      ∃ (ta : TA) (t : TS), PA (ncx (L2.CX P w) P w K mg base N (nfS xn qual st c cc) f A outer s H E) (e :: es) ta ∧ PSs (ncx (L2.CX P w) P w K mg base N (nfS xn qual st c cc) f A outer s H E) rest t ∧
        Passes (L2.CX P w) (ncx (L2.CX P w) P w K mg base N (nfS xn qual st c cc) f A outer s H E) E ∧
        ∀ (S : Type) (Γ : Fr S) (x : Addr), ∃ (L : TL S) (T : TP S), LnA (Γ.mk' x) K E osP ta L ∧ LnS (Γ.mk' x) K E t T ∧ ∀ (C : Addr) (ds : List D) (r : Except Exn (List (Str × D))) (s : S), CC C → F C ds = some r →
          L (iniE os N.length C ds) s (fun ys s1 => s1 = s ∧ opt (FP C ys) fun y => match y with
            | .ok fs => T ((iniE os N.length C ds).set 0 (.own (.obj C fs))) s (postI C s r)
            | .error e => r = .error e) (fun x s1 => r = .error x ∧ s1 = s)) :
    FnG P w K mg base (L2.CX P w) (k + 1) f fd (self :: ps) (spI K os CC F) := by
  have hno : ∀ o ∈ os, o ≠ Mo.f := fun o z e => by
    have := List.all_eq_true.mp ho o z
    rw [e] at this
    cases this
  have hnP : ∀ o ∈ osP, o = Mo.s := fun o z => by
    have := List.all_eq_true.mp hoP o z
    cases o <;> first | rfl | cases this
  have hN : ps.length + 2 ≤ N.length := by
    have := congrArg List.length Sc.pre
    simp only [List.length_take, List.length_append, List.length_cons, List.length_nil] at this
    omega
  have hN0 : N[0]? = some self := by
    have := congrArg (fun l => l[0]?) Sc.pre
    simpa using this
  refine body_super Fd Sc hst hpar har hks m_super hop hN0 (fun vs H Q E ⟨S, Γ, M, s, x, C, dx, us, ds, e, _, _, _, _, r, _⟩ => by rw [e, List.length_cons, List.length_cons, (ARel.len r).1, hl]) he hpl hev hsw ?_
  rintro A outer s H vs Q E hr hq ⟨S, Γ, M, s0, x, C, dx, us, ds, rfl, h1, h2, h3, hx, r, st0, hc, q⟩
  obtain ⟨ta, t, hA, hS, hp, hT⟩ := hbody A outer s H E hr hq
  obtain ⟨L, T, la, lt, main⟩ := hT S Γ x
  obtain ⟨y, e, q⟩ := opt_ex q
  obtain ⟨m1, m2, m3⟩ := hC C hc
  have lus : us.length = ps.length := by rw [(ARel.len r).1, hl]
  obtain ⟨ok, own⟩ := ini_start (n := N.length) (tl := [some (.ref Dc)] ++ List.replicate (N.length - (us.length + 1) - 1) none) hno h1 h2 h3 hx r (by simp only [List.length_append, List.length_replicate, List.length_cons, List.length_nil]; omega)
  refine ⟨ta, t, x, C, dx, us, [], fP, fdP, psP, spI K osP CCP FP, hA, hS, rfl, hx, m1, m2, htP, hfP, FF, bP, hp, fun qa hqa => ?_⟩
  have p0 : Stp (Γ.mk' x) H (upd H qa (.met fP x)) := Stp.of (same_upd hqa)
  refine la (ok.step p0) (Fr.same (Γ := Γ) (fun a z => h2 a (h1 a z)) (same_upd hqa) st0) _ _ _ (main C ds y s0 hc e) (fun ws H2 ys s1 p1 st1 ra z => ?_) (fun c dx H' xx s' p st' r' z => ?_)
  · obtain ⟨rfl, z⟩ := z
    have p := p0.trans p1
    have ok2 := ok.step p
    have mx : ∀ b, mask M (fun _ => x) (iniE os N.length C ds) b → M b ∨ b = x := fun b z => z.imp id fun ⟨_, _, z⟩ => z.symm
    obtain ⟨_, dx2, vs2, hx2, r2⟩ := ok2.slot 0 _ rfl
    cases r2
    obtain ⟨y2, ey, z⟩ := opt_ex z
    refine ⟨p1.keep qa _ (fun z => h2 _ (h1 _ z) hqa) upd_same, ⟨S, Γ, M, s1, x, C, dx2, ws, ys, rfl, h1, fun a z => p.trk a (h2 a z), h3, hx2, ?_, st1, m3, ?_⟩⟩
    · have rr := ARel.strict hnP ra
      refine ARel.ofS (ARel.len ra).1.symm hnP (RAll.same (fun b o z => ?_) rr)
      obtain ⟨n, z⟩ := of_cut z
      have ne : b ≠ x := fun q => n (.inr ⟨0, ⟨_, rfl, rfl⟩, q.symm⟩)
      rw [cut_out fun z => n (.inl z), del_ne ne]
      exact z
    · rw [ey]
      cases y2 with
      | error x2 =>
        obtain rfl := z
        exact fun c dx H' sx st' rx => q c dx H' ⟨fun a o n ne e => sx.keep a o n ne (p.keep a o n e), fun a z => sx.trk a (p.trk a z)⟩ st' rx
      | ok fs =>
        intro H3 sx st3 cx
        obtain ⟨ok3, p3⟩ := ok2.turnH (i := 0) (c' := .obj C fs) rfl (fun b o n ne e => sx.keep b o n ne e) sx.trk (fun m' hm => cx.move (cut_mono fun b z => mx b (hm b z)) fun _ e => e)
        have pp : StS (wmask (Γ.mk' x) (fun _ => x) (iniE os N.length C ds)) (wmask (Γ.mk' x) (fun _ => x) ((iniE os N.length C ds).set 0 (.own (.obj C fs)))) H H3 := (stS_stp p).trans p3
        refine lt ok3 st3 _ _ z (fun σ' H' ρ' s' α' ok' st' p z => ?_) (fun _ _ _ _ _ _ _ _ z => z.elim) (fun _ _ _ _ _ _ _ _ z => z.elim) (fun v H' d s' p st' r' z => z.elim) (fun c dx H' x s' p st' r' z => ?_)
        · obtain ⟨rfl, fs', rfl, ef⟩ := z
          exact q H' (stX_of own (pp.trans p)) st' (ini_cell ok' ef)
        · obtain ⟨rfl, rfl⟩ := z
          exact q c dx H' (stX_of own (pp.trans p)) st' r'
  · obtain ⟨rfl, rfl⟩ := z
    exact q c dx H' (stX_of own (stS_stp (p0.trans p))) st' (r'.mono fun _ z => .inl z)
end
end L2.DL
/-! Instances are made; isinstance, ==, !=, repr of them -/
namespace L2.DL
open L2 L2.My NdefX PySem PySem.Spec PyProof.Rows

/-- C(e, ..) -/
def tMk (C : Addr) (sp : Sp) (E : XK) (t : TA) : TE := fun σ H Q => t σ H fun vs H1 => ∀ x dx, H1 x = none → H1 dx = none → dx ≠ x →
  sp (.ref x :: vs) (upd (upd H1 dx (.own x)) x (.ins C dx [])) (fun v H2 => v = .non ∧ Q (.ref x) H2) E
section
variable {X : Cx} {CX : CXT} {k : Nat} {f C : Addr} {fd : FuncData} {ps : List Str} {sp : Sp} {E : XK} {x : Str} {p pos : Pos} {e : Expr} {es : List Expr} {t : TA}
theorem run_mk {pins : List (Addr × Obj)} {σ : St} {H : Hp} {s : Shared} {Q : VK} {us : List Value} {vs : List V} (M : Mk X.K C f) (F : FnG X.prog X.w X.K X.mg X.base CX k f fd ps sp) (hr : Room (k + 1) X.A) (hq : My.Quiet X.A) (hb : Binds X.K fd ps []) (hx : Passes CX X E) (I : Inv X pins σ H s) (r : Vals vs us)
    (h : ∀ x dx, H x = none → H dx = none → dx ≠ x → sp (.ref x :: vs) (upd (upd H dx (.own x)) x (.ins C dx [])) (fun v H2 => v = .non ∧ Q (.ref x) H2) E) : wpAny (model X.prog X.w) X.A (call (.ref C) us) (EP X pins σ Q) X.xe s := by
  have h' := h (s.heap.objs.size + 1) s.heap.objs.size (I.hok.fresh (Nat.le_succ _)) (I.hok.fresh (Nat.le_refl _)) (Nat.ne_of_lt (Nat.lt_succ_self _))
  have I2 := Inv.made (C := C) I
  have lv := F.many _ _ _ _ h'
  have hl : ((Value.ref (s.heap.objs.size + 1) :: us) ++ []).length = ps.length := by
    rw [← lv, List.append_nil, List.length_cons, List.length_cons, r.length]
  have b := hb _ (Value.ref (s.heap.objs.size + 1) :: us) I2.kIn hl
  rw [List.append_nil] at b
  have hq2 : My.Quiet (X.A.under (.builtin "type.__call__" ⟨.ref C :: us, []⟩)) := by
    unfold My.Quiet Around.under
    rw [show X.A.guards = some [] from hq]
    rfl
  refine wpAny_call (make_map (f := f) I.kIn M.makes M.init (beq_iff_eq.mp M.fn) (codeAny_mono (F.runs _ X.stack _ _ ⟨Value.ref (s.heap.objs.size + 1) :: us, []⟩ _ (V.ref (s.heap.objs.size + 1) :: vs) _ E (hr.make C us []) hq2 (I2.env0.make C us []) b (.cons rfl r) h') ?_))
  intro res s' z
  match res, z with
  | .error er, z => exact hx pins σ _ _ er s' I2 z
  | .ok (.ret u), z =>
    obtain ⟨v, H', I3, rv, rfl, q⟩ := I2.after z
    exact ⟨rv, .ref (s.heap.objs.size + 1), H', I3, rfl, q⟩
theorem pe_mk (M : Mk X.K C f) (F : FnG X.prog X.w X.K X.mg X.base CX k f fd ps sp) (hr : Room (k + 1) X.A) (hq : My.Quiet X.A) (hg : Gl X x) (hm : X.mg x = some (.ref C)) (hb : Binds X.K fd ps []) (hx : Passes CX X E)
    (ha : PA X (e :: es) t) (hdb : (x == ("__debug__" : Str)) = false := by decide) (he : starEach (e :: es) X.env = (false, eval e X.env) :: starEach es X.env := by rfl) (hpl : (backTo pos (starEach es X.env)).any (·.1) = false := by rfl) :
    PE X (.Call (.Name x p) (e :: es) [] pos) (tMk C sp E t) := by
  constructor
  intro pins s σ H Q I h
  refine wpAny_Call_Name_kw (ld_glob I hg hm ?_ hdb)
  refine W.callWith_K (h₀ := X.base) I.ok.mod.kin M.kp (thn (ha.run pos pins s σ H _ I h) ?_) he hpl
  rintro us s1 ⟨vs, H1, I1, r, q⟩
  exact ⟨I1.kIn, run_mk M F hr hq hb hx I1 r q⟩
end
section
variable {S : Type} {Γ : Fr S} {K : W.Frag} {E : XK} {ta tb tc : TE} {A B : TX S} {t u : TS} {T U : TP S} {os : List Mo} {tl : TA} {L : TL S} {mo : Mo}
def xMk (C : Addr) (F : IniF) (L : TL S) : TX S := fun ρ s Q X => L ρ s (fun ds s1 => opt (F C ds) fun r => match r with
  | .ok fs => Q (.obj C fs) s1
  | .error x => X x s1) X
theorem ln_mk {CC : Addr → Prop} {C : Addr} {F : IniF} (ho : os.all (fun o => match o with | .f => false | _ => true) = true) (hC : CC C) (h : LnA Γ K E os tl L) : Ln Γ K E .f (tMk C (spI K os CC F) E tl) (xMk C F L) := by
  have hno : ∀ o ∈ os, o ≠ Mo.f := fun o z e => by
    have := List.all_eq_true.mp ho o z
    rw [e] at this
    cases this
  intro M α σ H ρ s ok st QD QX Q q k kx
  refine h ok st _ QX _ q (fun vs H1 ds s1 p1 st1 r z => ?_) kx
  obtain ⟨y, e, z⟩ := opt_ex z
  intro x dx nx nd ne
  have ok1 := ok.step p1
  have step : ∀ a o, H1 a = some o → a ≠ x ∧ upd (upd H1 dx (.own x)) x (.ins C dx []) a = some o := fun a o q => by
    have h1 := ne_of_none q nx
    have h2 := ne_of_none q nd
    exact ⟨h1, by rw [upd_ne h1, upd_ne h2]; exact q⟩
  have trk : ∀ a, H1 a ≠ none → upd (upd H1 dx (.own x)) x (.ins C dx []) a ≠ none := fun a q => by
    cases e : H1 a with
    | none => exact absurd e q
    | some o => rw [(step a o e).2]; exact fun z => by cases z
  have nm : ¬ mask M α ρ x := fun z => ok1.mtrk x z nx
  have nH : H x = none := Classical.byContradiction fun q => p1.trk x q nx
  refine ⟨S, Γ, mask M α ρ, s1, x, C, dx, vs, ds, rfl, ok.msub, fun a z => trk a (ok1.mtrk a z), nm, upd_same, ?_, Fr.same ok1.frt (fun a o q => (step a o q).2) st1, hC, ?_⟩
  · refine ARel.from hno (ARel.step ok.msub (fun a o _ q => ?_) hno r)
    rw [del_ne (step a o q).1]
    exact (step a o q).2
  · rw [e]
    cases y with
    | error x2 => exact fun c dx H' sx st' rx => kx c dx H' x2 s1 ⟨fun a o n e => sx.keep a o n (step a o (p1.keep a o n e)).1 (step a o (p1.keep a o n e)).2, fun a q => sx.trk a (trk a (p1.trk a q))⟩ st' rx z
    | ok fs => exact fun H' sx st' cx => ⟨rfl, k _ H' _ s1 ⟨fun a o n e => sx.keep a o n (step a o (p1.keep a o n e)).1 (step a o (p1.keep a o n e)).2, fun a q => sx.trk a (trk a (p1.trk a q))⟩ st' ⟨x, .obj C fs, rfl, rfl, nH, cx⟩ z⟩

/-! ### isinstance -/
structure ClsI (K : W.Frag) (C : Addr) : Prop where
  cl : Cls K C
  ci : W.findIn K (.ref C) "__class__" = some (some (.builtin "object.__class__"))
  ob : W.mroIn K C (.type "object") = some true
open Classical in
noncomputable def tyV (K : W.Frag) : D → Option Value
  | .obj C _ => if ClsI K C then some (.ref C) else none
  | .exc C _ => if ExK K C then some (.ref C) else none
  | d => (tyD d).map .type
def clsV : D → Option Value
  | .v (.ty b) => some (.type b)
  | .v (.ref C) => some (.ref C)
  | _ => none
noncomputable def isiK (K : W.Frag) (d c : D) : Option D := match isiD d c with
  | some r => some r
  | none => (tyV K d).bind fun t => (clsV c).bind fun u => (W.kitOne K t u).map dB
theorem clsV_of {g m : Msk} {H : Hp} {v : V} {c : D} {u : Value} (r : RB K g m H v c) (e : clsV c = some u) : ClsV v u := by
  unfold clsV at e
  split at e
  · cases e; rw [RBo.sc r]; exact .ty _
  · cases e; rw [RBo.sc r]; exact .own _
  · cases e
theorem RBo.exc {g o m : Msk} {H : Hp} {v : V} {C : Addr} {ds : List (Str × D)} (h : RBo K g o m H v (.exc C ds)) : ∃ a dx fs, v = .ref a ∧ H a = some (exz a (.ref C) (some dx)) ∧ H dx = some (.xd fs) ∧ RFs K (cut m H) fs ds := by
  rcases h with h | ⟨a, c, rfl, e, _⟩
  · cases h with
    | exc h1 h2 h3 => exact ⟨_, _, _, rfl, cut_le _ _ h1, cut_le _ _ h2, h3⟩
  · cases c <;> cases e
theorem p2_isiK (G : ExA K) : P2 K .s (fun v u => rIsA K [v, u]) (isiK K) := by
  intro g m H v u d c e Q hm r1 r2 he k
  unfold isiK at he
  split at he
  · rename_i r er
    cases he
    exact p2_isi hm r1 r2 er k
  · simp only [Option.bind_eq_some_iff, Option.map_eq_some_iff] at he
    obtain ⟨t, et, cu, ec, b, eb, rfl⟩ := he
    have hc := clsV_of r2 ec
    unfold tyV at et
    split at et
    · rename_i C fs
      split at et
      · rename_i hC
        cases et
        obtain ⟨a, dx, vs, rfl, h1, _⟩ := RBo.obj r1
        exact .inl ⟨_, _, _, _, b, rfl, hc, .base (.ins h1 hC.cl hC.ci G.gt G.tk hC.ob), eb, k _ H (Same.refl _) (.v _)⟩
      · cases et
    · split at et
      · rename_i hC
        cases et
        obtain ⟨a, dx, vs, rfl, h1, h2, _⟩ := RBo.exc r1
        exact .inr ⟨a, _, dx, vs, _, cu, b, rfl, h1, h2, hC, G, fun w rw' => hc.eq rw', eb, k _ H (Same.refl _) (.v _)⟩
      · cases et
    · rw [Option.map_eq_some_iff] at et
      obtain ⟨a, ea, rfl⟩ := et
      exact .inl ⟨_, _, _, _, b, rfl, hc, rb_ty r1 ea, eb, k _ H (Same.refl _) (.v _)⟩
end
end L2.DL
/-! ==, !=, repr of instances; f-strings; join; raise; try .. except X as e -/
namespace L2.DL
open L2 L2.My NdefX PySem PySem.Spec PyProof.Rows

section
variable {K : W.Frag}
/-- a call that leaves all alone -/
def agree (g m : Msk) (H : Hp) : Fr Unit := ⟨fun a => g a ∧ m a, fun _ H' => ∀ a, g a ∧ m a → H' a = H a, fun h q a z => (h a z).trans (q a z), none⟩
theorem RBo.less {g g' o m : Msk} {H : Hp} {v : V} {d : D} (h : ∀ a, g' a → g a) (r : RBo K g o m H v d) : RBo K g' o m H v d := by
  rcases r with r | ⟨a, c, e1, e2, n, r⟩
  · exact .inl r
  · exact .inr ⟨a, c, e1, e2, ⟨n.1, fun z => n.2 (h a z)⟩, r⟩
theorem agree_same {g m : Msk} {H H' : Hp} (p : Stp (agree g m H) H H') (st : (agree g m H).st () H') : Same H H' := fun a o e => by
  by_cases z : g a ∧ m a
  · rw [st a z]; exact e
  · exact p.keep a o z e
/-- a pure def of two lent values, called from within an operator -/
theorem spF_two {F : Fn} {g m : Msk} {H : Hp} {v u : V} {d c e : D} {Q : VK} {E : XK} (hm : ∀ a, m a → H a ≠ none) (r1 : RB K g m H v d) (r2 : RB K g m H u c) (h : F [d, c] = some (.ok e)) (k : ∀ v' H', Same H H' → R K (cut m H') v' e → Q v' H') : spF K [.b, .b] F [v, u] H Q E := by
  refine ⟨Unit, agree g m H, m, (), [d, c], fun a z => z.2, hm, ⟨RBo.less (fun a z => z.1) r1, RBo.less (fun a z => z.1) r2, trivial⟩, fun a _ => rfl, ?_⟩
  rw [h]
  exact fun v' H' p st r => k v' H' (agree_same p st) r
theorem spF_one {F : Fn} {g m : Msk} {H : Hp} {v : V} {d e : D} {Q : VK} {E : XK} (hm : ∀ a, m a → H a ≠ none) (r1 : RB K g m H v d) (h : F [d] = some (.ok e)) (k : ∀ v' H', Same H H' → R K (cut m H') v' e → Q v' H') : spF K [.b] F [v] H Q E := by
  refine ⟨Unit, agree g m H, m, (), [d], fun a z => z.2, hm, ⟨RBo.less (fun a z => z.1) r1, trivial⟩, fun a _ => rfl, ?_⟩
  rw [h]
  exact fun v' H' p st r => k v' H' (agree_same p st) r

/-! ### ==, != -/
def DEq (K : W.Frag) (EF : Addr → Option Fn) : Addr → Sp → Prop := fun C sp => ∃ F, EF C = some F ∧ sp = spF K [.b, .b] F
def rtD : D → Option Value
  | .v (.str _) => some (.type "str")
  | .obj C _ => some (.ref C)
  | _ => none
def resB (pos : Bool) : Option (Except Exn D) → Option D
  | some (.ok (.v (.bl b))) => some (dB (pos == b))
  | _ => none
def eqO (K : W.Frag) (EF : Addr → Option Fn) (pos : Bool) (d c : D) : Option D := match d with
  | .obj C _ => (rtD c).bind fun t => if W.notFirst K C t = true then (EF C).bind fun F => resB pos (F [d, c]) else match c with
    | .obj C' _ => if C' ≠ C ∧ W.subIn K (.ref C') (.ref C) = some true then (EF C').bind fun F => resB pos (F [c, d]) else none
    | _ => none
  | _ => none
theorem resB_ex {pos : Bool} {r : Option (Except Exn D)} {e : D} (h : resB pos r = some e) : ∃ b, r = some (.ok (dB b)) ∧ e = dB (pos == b) := by
  unfold resB at h
  split at h
  · cases h; exact ⟨_, rfl, rfl⟩
  · cases h
theorem rb_rt {g m : Msk} {H : Hp} {v : V} {c : D} {t : Value} (r : RB K g m H v c) (e : rtD c = some t) : RT H v t := by
  unfold rtD at e
  split at e
  · cases e; rw [RBo.sc r]; exact .str _
  · cases e
    obtain ⟨a, dx, fs, rfl, h1, _⟩ := RBo.obj r
    exact .ins h1
  · cases e
theorem p2_eqO {EF : Addr → Option Fn} {pos : Bool} : P2 K .s (rEqO K (DEq K EF) pos) (eqO K EF pos) := by
  intro g m H v u d c e Q hm r1 r2 he k
  unfold eqO at he
  split at he
  · rename_i C fs
    obtain ⟨t, et, he⟩ := Option.bind_eq_some_iff.mp he
    obtain ⟨a, dx, vs, rfl, h1, _⟩ := RBo.obj r1
    refine ⟨a, C, dx, vs, rfl, h1, ?_⟩
    split at he
    · rename_i hn
      obtain ⟨F, eF, he⟩ := Option.bind_eq_some_iff.mp he
      obtain ⟨b, eb, rfl⟩ := resB_ex he
      refine .inl ⟨t, _, rb_rt r2 et, hn, ⟨F, eF, rfl⟩, spF_two hm r1 r2 eb fun v' H' s r => ?_⟩
      cases r
      exact ⟨b, rfl, k _ H' s (.v _)⟩
    · split at he
      · rename_i C' gs
        split at he
        · rename_i hn
          obtain ⟨F, eF, he⟩ := Option.bind_eq_some_iff.mp he
          obtain ⟨b, eb, rfl⟩ := resB_ex he
          obtain ⟨a2, dy, ws, rfl, h2, _⟩ := RBo.obj r2
          refine .inr ⟨a2, _, dy, ws, _, rfl, h2, hn.1, hn.2, ⟨F, eF, rfl⟩, spF_two hm r2 r1 eb fun v' H' s r => ?_⟩
          cases r
          exact ⟨b, rfl, k _ H' s (.v _)⟩
        · cases he
      · cases he
  · cases he
/-- both: data, instances -/
def rEqA (K : W.Frag) (D : Addr → Sp → Prop) (pos : Bool) : R2 := fun x y H Q => rEqP K pos x y H Q ∨ rEqO K D pos x y H Q
def eqA (K : W.Frag) (EF : Addr → Option Fn) (pos : Bool) (d c : D) : Option D := match d with
  | .obj _ _ => eqO K EF pos d c
  | _ => eqD pos d c
theorem p2_eqA {EF : Addr → Option Fn} {pos : Bool} : P2 K .s (rEqA K (DEq K EF) pos) (eqA K EF pos) := by
  intro g m H v u d c e Q hm r1 r2 he k
  unfold eqA at he
  split at he
  · exact .inr (p2_eqO hm r1 r2 he k)
  · exact .inl (p2_eq hm r1 r2 he k)
section
variable {X : Cx} {n : Nat} {D : Addr → Sp → Prop}
theorem op_eqA (hr : Room n X.A) (hq : My.Quiet X.A) (hD : ∀ C sp, D C sp → EqDef X.prog X.w X.K X.mg X.base n C sp) (hu : X.A.units + 64 < cLine) : OpR X (compareOp .Eq) (rEqA X.K D true) := by
  intro pins s σ H x y v u Q I rx ry h
  rcases h with h | h
  · exact op_eqP hu pins s σ H x y v u Q I rx ry h
  · exact op_eqO hr hq hD pins s σ H x y v u Q I rx ry h
theorem op_neA (hr : Room (n + 1) X.A) (hq : My.Quiet X.A) (hD : ∀ C sp, D C sp → EqDef X.prog X.w X.K X.mg X.base n C sp) (hu : X.A.units + 64 < cLine) : OpR X (compareOp .NotEq) (rEqA X.K D false) := by
  intro pins s σ H x y v u Q I rx ry h
  rcases h with h | h
  · exact op_neP hu pins s σ H x y v u Q I rx ry h
  · exact op_neO hr hq hD pins s σ H x y v u Q I rx ry h
end

/-! ### repr -/
mutual
theorem Dp.dq {H : Hp} : ∀ {v : V} {d : PyData}, Dp K H v d → Dq K H v d
  | _, _, .non => .non
  | _, _, .bl b => .bl b
  | _, _, .int i => .int i
  | _, _, .str x => .str x
  | _, _, .lst h1 h2 => .lst h1 (DpAll.dq h2)
  | _, _, .tup h1 h2 => .tup h1 (DpAll.dq h2)
theorem DpAll.dq {H : Hp} : ∀ {v : List V} {d : List PyData}, DpAll K H v d → DqAll K H v d
  | _, _, .nil => .nil
  | _, _, .cons h1 h2 => .cons (Dp.dq h1) (DpAll.dq h2)
end
def DRp (K : W.Frag) (RF : Addr → Option Fn) : Addr → Sp → Prop := fun C sp => ∃ F, RF C = some F ∧ sp = spF K [.b] F
def resS : Option (Except Exn D) → Option D
  | some (.ok (.v (.str y))) => some (dS y)
  | _ => none
def reprD (RF : Addr → Option Fn) (d : D) : Option D := match d with
  | .obj C _ => (RF C).bind fun F => resS (F [d])
  | _ => (toPy d).bind fun p => if p.showable = true ∧ p.depth ≤ 60 ∧ p.shown.length ≤ sizeLine then some (dS p.shown) else none
theorem resS_ex {r : Option (Except Exn D)} {e : D} (h : resS r = some e) : ∃ y, r = some (.ok (dS y)) ∧ e = dS y := by
  unfold resS at h
  split at h
  · cases h; exact ⟨_, rfl, rfl⟩
  · cases h
theorem p1_repr {RF : Addr → Option Fn} : P1 K .s (fun v => rReprA K (DRp K RF) [v]) (reprD RF) := by
  intro g m H v d e Q hm r he k
  unfold reprD at he
  split at he
  · rename_i C fs
    obtain ⟨F, eF, he⟩ := Option.bind_eq_some_iff.mp he
    obtain ⟨y, ey, rfl⟩ := resS_ex he
    obtain ⟨a, dx, vs, rfl, h1, _⟩ := RBo.obj r
    refine .inr ⟨a, C, dx, vs, _, rfl, h1, ⟨F, eF, rfl⟩, spF_one hm r ey fun v' H' s r' => ?_⟩
    cases r'
    exact ⟨y, rfl, k _ H' s (.v _)⟩
  · obtain ⟨p, ep, he⟩ := Option.bind_eq_some_iff.mp he
    split at he
    · rename_i hp
      cases he
      exact .inl ⟨v, p, rfl, Dp.dq (rb_dp r ep), hp.1, hp.2.1, hp.2.2, k _ H (Same.refl _) (.v _)⟩
    · cases he
end
end L2.DL
/-! f-strings; join, split; raise; try .. except X as e -/
namespace L2.DL
open L2 L2.My NdefX PySem PySem.Spec PyProof.Rows

section
variable {S : Type} {Γ : Fr S} {K : W.Frag} {E : XK} {ta tb tc te : TE} {A B : TX S} {t u : TS} {T U : TP S} {os : List Mo} {tl : TA} {L : TL S} {mo : Mo}
/-! ### f-strings -/
def fmtD (r : Bool) : D → Option Str
  | .v (.str y) => bif r then (if (reprText y).length ≤ sizeLine then some (reprText y) else none) else (if y.length ≤ sizeLine then some y else none)
  | .v (.int i) => if i.natAbs.log2 < 1920 then some (toString i) else none
  | _ => none
def xFmt (r : Bool) (A : TX S) : TX S := fun ρ s Q X => A ρ s (fun d s1 => opt (fmtD r d) fun y => Q (dS y) s1) X
theorem ln_fmt (ha : Ln Γ K E .b ta A) : Ln Γ K E .s (tFmt ta) (xFmt false A) := by
  intro M α σ H ρ s ok st QD QX Q q k kx
  refine ha ok st _ QX _ q (fun v H' d s' p st' r z => ?_) kx
  obtain ⟨y, e, z2⟩ := opt_ex z
  unfold fmtD at e
  split at e
  · simp only [cond_true, cond_false] at e
    split at e
    · rename_i h
      cases e
      exact .inl ⟨_, RBo.sc r, h, k _ H' _ s' p st' (.v _) z2⟩
    · cases e
  · split at e
    · rename_i h
      cases e
      exact .inr ⟨_, RBo.sc r, h, k _ H' _ s' p st' (.v _) z2⟩
    · cases e
  · cases e
theorem ln_fmtR (ha : Ln Γ K E .b ta A) : Ln Γ K E .s (tFmtR ta) (xFmt true A) := by
  intro M α σ H ρ s ok st QD QX Q q k kx
  refine ha ok st _ QX _ q (fun v H' d s' p st' r z => ?_) kx
  obtain ⟨y, e, z2⟩ := opt_ex z
  unfold fmtD at e
  split at e
  · simp only [cond_true, cond_false] at e
    split at e
    · rename_i h
      cases e
      exact .inl ⟨_, RBo.sc r, h, k _ H' _ s' p st' (.v _) z2⟩
    · cases e
  · split at e
    · rename_i h
      cases e
      exact .inr ⟨_, RBo.sc r, h, k _ H' _ s' p st' (.v _) z2⟩
    · cases e
  · cases e
inductive LnJ (Γ : Fr S) (K : W.Frag) (E : XK) : List TE → List (TX S) → Prop
  | nil : LnJ Γ K E [] []
  | cons {t : TE} {A : TX S} {ts : List TE} {As : List (TX S)} (h : Ln Γ K E .s t A) (r : LnJ Γ K E ts As) : LnJ Γ K E (t :: ts) (A :: As)
def xJs : List (TX S) → Str → Env → S → (Str → S → Prop) → (Exn → S → Prop) → Prop
  | [], acc, _, s, Q, _ => Q acc s
  | A :: As, acc, ρ, s, Q, X => A ρ s (fun d s1 => match d with
    | .v (.str y) => (acc ++ y).length ≤ sizeLine ∧ xJs As (acc ++ y) ρ s1 Q X
    | _ => False) X
def xJoined (As : List (TX S)) : TX S := fun ρ s Q X => xJs As Str.empty ρ s (fun y s1 => Q (dS y) s1) X
theorem ln_joined {ts : List TE} {As : List (TX S)} (h : LnJ Γ K E ts As) : Ln Γ K E .s (fun σ H Q => tJs ts Str.empty σ H fun out H1 => Q (.str out) H1) (xJoined As) := by
  intro M α σ H ρ s ok st QD QX Q q k kx
  have main : ∀ {ts : List TE} {As : List (TX S)}, LnJ Γ K E ts As → ∀ (acc : Str) (H1 : Hp) (s1 : S), Stp Γ H H1 → Γ.st s1 H1 → xJs As acc ρ s1 (fun y s1 => QD (dS y) s1) QX → tJs ts acc σ H1 fun out H2 => Q (.str out) H2 := by
    intro ts As h
    induction h with
    | nil => exact fun acc H1 s1 p st1 q => k _ H1 _ s1 p st1 (.v _) q
    | cons ha _ ih =>
      intro acc H1 s1 p st1 q
      refine ha (ok.step p) st1 _ QX _ q (fun v H' d s' p' st' r z => ?_) fun c dx H' x s' p' st' r z => kx c dx H' x s' (p.trans p') st' r z
      split at z
      · rename_i y
        cases r
        exact ⟨y, rfl, z.1, ih _ H' s' (p.trans p') st' z.2⟩
      · exact z.elim
  exact main h _ H s .refl st q

/-! ### texts' methods -/
def asStrs : List D → Option (List Str)
  | [] => some []
  | .v (.str y) :: r => (asStrs r).map (y :: ·)
  | _ => none
theorem asStrs_eq : ∀ {ds : List D} {ys : List Str}, asStrs ds = some ys → ds = (ys.map V.str).map D.v
  | [], _, e => by cases e; rfl
  | .v (.str y) :: r, _, e => by
    unfold asStrs at e
    obtain ⟨zs, e1, e2⟩ := Option.map_eq_some_iff.mp e
    rw [← e2, asStrs_eq e1]; rfl
  | .v .non :: _, _, e => by cases e
  | .v (.bl _) :: _, _, e => by cases e
  | .v (.int _) :: _, _, e => by cases e
  | .v (.byt _) :: _, _, e => by cases e
  | .v (.flt _) :: _, _, e => by cases e
  | .v (.ref _) :: _, _, e => by cases e
  | .v (.ty _) :: _, _, e => by cases e
  | .tup _ :: _, _, e => by cases e
  | .lst _ :: _, _, e => by cases e
  | .dct _ :: _, _, e => by cases e
  | .obj _ _ :: _, _, e => by cases e
  | .exc _ _ :: _, _, e => by cases e
def joinD (d c : D) : Option D := match d with
  | .v (.str a) => (asSeq c).bind fun ds => (asStrs ds).bind fun ys => if (ys.map (·.length)).sum + ys.length * a.length ≤ 16777216 then some (dS (Txt.join a ys)) else none
  | _ => none
theorem ln_join (ha : Ln Γ K E .b ta A) (hb : Ln Γ K E .b tb B) : Ln Γ K E .s (tM1 (fun x xs H Q => ∃ a p, ∃ ys : List Str, x = .str a ∧ xs = [.ref p] ∧ (SqL K H p (ys.map V.str) ∨ SqT K H p (ys.map V.str)) ∧
      (ys.map (·.length)).sum + ys.length * a.length ≤ 16777216 ∧ Q (.str (Txt.join a ys)) H) ta tb) (fun ρ s Q X => A ρ s (fun d s1 => (∃ a, d = dS a) ∧ B ρ s1 (fun c s2 => opt (joinD d c) fun e => Q e s2) X) X) := by
  intro M α σ H ρ s ok st QD QX Q q k kx
  refine ha ok st _ QX _ q (fun v H1 d s1 p1 st1 r1 z => ?_) kx
  obtain ⟨⟨a, rfl⟩, z⟩ := z
  obtain rfl := RBo.sc r1
  refine ⟨⟨a, rfl⟩, ?_⟩
  refine hb (ok.step p1) st1 _ QX _ z (fun u H2 c s2 p2 st2 r2 z => ?_) fun c dx H' x s' p st' r z => kx c dx H' x s' (p1.trans p) st' r z
  obtain ⟨e, he, z2⟩ := opt_ex z
  obtain ⟨ds, ed, he⟩ := Option.bind_eq_some_iff.mp he
  obtain ⟨ys, ey, he⟩ := Option.bind_eq_some_iff.mp he
  split at he
  · rename_i hz
    cases he
    have eds := asStrs_eq ey
    unfold asSeq at ed
    split at ed
    · cases ed
      obtain ⟨b, ws, rfl, h1, h2⟩ := RBo.lst r2
      rw [eds] at h2
      obtain rfl := RAll.vs h2
      exact ⟨a, b, ys, rfl, rfl, .inl (.inl (.inl h1)), hz, k _ H2 _ s2 (p1.trans p2) st2 (.v _) z2⟩
    · cases ed
      obtain ⟨b, ws, rfl, h1, h2⟩ := RBo.tup r2
      rw [eds] at h2
      obtain rfl := RAll.vs h2
      exact ⟨a, b, ys, rfl, rfl, .inr h1, hz, k _ H2 _ s2 (p1.trans p2) st2 (.v _) z2⟩
    · cases ed
  · cases he
def strsD (ys : List Str) : D := .lst ((ys.map V.str).map D.v)
theorem rf_strs {m : Msk} {H H0 : Hp} {p : Addr} {ys : List Str} (h0 : H0 p = none) : RF K m H0 (upd H p (.lst (ys.map V.str))) (.ref p) (strsD ys) := ⟨p, .lst _, rfl, rfl, h0, _, upd_same, RAll.ofV⟩
def splitD (a b : Str) : Option D := if (b.length == 0) = false ∧ a.length + 2 ≤ sizeLine then some (strsD (Txt.split a b)) else none
theorem ln_split (ha : Ln Γ K E .b ta A) (hb : Ln Γ K E .b tb B) : Ln Γ K E .f (tM1 (fun x xs H Q => ∃ a b, x = .str a ∧ xs = [.str b] ∧ (b.length == 0) = false ∧ a.length + 2 ≤ sizeLine ∧ rNewStrs (Txt.split a b) H Q) ta tb)
    (fun ρ s Q X => A ρ s (fun d s1 => (∃ a, d = dS a) ∧ B ρ s1 (fun c s2 => match d, c with
      | .v (.str a), .v (.str b) => opt (splitD a b) fun e => Q e s2
      | _, _ => False) X) X) := by
  intro M α σ H ρ s ok st QD QX Q q k kx
  refine ha ok st _ QX _ q (fun v H1 d s1 p1 st1 r1 z => ?_) kx
  obtain ⟨⟨a, rfl⟩, z⟩ := z
  obtain rfl := RBo.sc r1
  refine ⟨⟨a, rfl⟩, ?_⟩
  refine hb (ok.step p1) st1 _ QX _ z (fun u H2 c s2 p2 st2 r2 z => ?_) fun c dx H' x s' p st' r z => kx c dx H' x s' (p1.trans p) st' r z
  split at z
  · rename_i a' b e1
    cases e1
    obtain rfl := RBo.sc r2
    obtain ⟨e, he, z⟩ := opt_ex z
    unfold splitD at he
    split at he
    · rename_i hz
      cases he
      refine ⟨_, b, rfl, rfl, hz.1, hz.2, fun p np => ?_⟩
      have pp := p1.trans p2
      have nH : H p = none := Classical.byContradiction fun q => pp.trk p q np
      have ok2 := ok.step pp
      exact k _ _ _ s2 (pp.trans (Stp.of (same_upd np))) (Fr.same ok2.frt (same_upd np) st2) (rf_strs nH) z
    · cases he
  · exact z.elim
end
end L2.DL
/-! raise; try .. except X as e; fields of a kept exception -/
namespace L2.DL
open L2 L2.My NdefX PySem PySem.Spec PyProof.Rows

section
variable {S : Type} {Γ : Fr S} {K : W.Frag} {E : XK} {ta tb tc te : TE} {A B : TX S} {t u : TS} {T U : TP S} {os : List Mo} {tl : TA} {L : TL S} {mo : Mo}
theorem RFs.zip {G : Hp} : ∀ {fs : List Str} {vs : List V} {ds : List D}, RAll K G vs ds → RFs K G (fs.zip vs) (fs.zip ds)
  | [], _, _, _ => .nil
  | _ :: _, _, _, .nil => .nil
  | f :: fs, _, _, .cons h t => .cons h (RFs.zip t)
theorem RFs.app {G : Hp} : ∀ {vs ws : List (Str × V)} {ds es : List (Str × D)}, RFs K G vs ds → RFs K G ws es → RFs K G (vs ++ ws) (ds ++ es)
  | _, _, _, _, .nil, t => t
  | _, _, _, _, .cons h r, t => .cons h (RFs.app r t)
theorem RFs.rev {G : Hp} : ∀ {vs : List (Str × V)} {ds : List (Str × D)}, RFs K G vs ds → RFs K G vs.reverse ds.reverse
  | _, _, .nil => .nil
  | _, _, .cons h t => by rw [List.reverse_cons, List.reverse_cons]; exact RFs.app (RFs.rev t) (.cons h .nil)
/-- raise X(e, ..), an own class whose __init__ stores its parameters -/
def pRaise (C : Addr) (fs : List Str) (L : TL S) : TP S := fun ρ s P => L (frz ρ) s (fun ds s1 => ds.length = fs.length ∧ ds.length ≤ 1000 ∧ P.ex ⟨C, some (fs.zip ds).reverse⟩ s1) P.ex
theorem ls_raise {C : Addr} {fs : List Str} (hs : os.all (fun o => match o with | .s => true | _ => false) = true) (h : LnA Γ K E os tl L) : LnS Γ K E (fun _ σ H => tMkO C (spIni C fs) [] tl σ H fun cls d H' => E cls d H') (pRaise C fs L) := by
  have hnS : ∀ o ∈ os, o = Mo.s := fun o z => by
    have := List.all_eq_true.mp hs o z
    cases o <;> first | rfl | cases this
  intro M α σ H ρ s ok st P Dn q kn kb kc kr kx
  obtain ⟨ok0, no⟩ := ok.frz
  have mm : ∀ a, M a → mask M α (frz ρ) a := fun a z => .inl z
  refine h ok0 st _ P.ex _ q (fun vs H1 ds s1 p st1 r z => ?_) (fun c dx H' x s' p st' r z => kx c dx H' x s' (stS_end p) st' (r.mono mm) z)
  obtain ⟨z1, z2, z⟩ := z
  obtain ⟨l1, l2⟩ := ARel.len r
  have rr := ARel.strict hnS r
  have lv : vs.length = ds.length := RAll.len rr
  refine ⟨by rw [lv]; exact z2, fun a na => ⟨a, vs, by rw [List.append_nil], by rw [lv]; exact z1, upd_same, fun dx nd ne => ⟨rfl, dx, (fs.zip vs).reverse, upd_same, by rw [upd_ne ne, upd_same], ?_, ?_⟩⟩⟩
  · rwa [upd_ne ne] at nd
  · have nd1 : H1 dx = none := by rwa [upd_ne ne] at nd
    have sm : Same H1 (upd (del (upd (upd (upd H1 a (exo a C none)) dx (exd dx (fs.zip vs).reverse)) a (exo a C (some dx))) a) dx (.xd (fs.zip vs).reverse)) := fun b o e => by
      have h1 := ne_of_none e na
      have h2 := ne_of_none e nd1
      rw [upd_ne h2, del_ne h1, upd_ne h1, upd_ne h2, upd_ne h1]
      exact e
    have p2 : Stp Γ H1 _ := Stp.of sm
    have ok1 := ok0.step p
    refine kx _ _ _ ⟨C, some (fs.zip ds).reverse⟩ s1 (stS_end (p.trans p2)) (Fr.same ok1.frt sm st1) ⟨rfl, dx, _, rfl, fun z => ok1.trk dx z nd1, upd_same, ?_⟩ z
    exact RFs.same (fun b o e => by
      obtain ⟨n, e⟩ := of_cut e
      rw [cut_out fun z => n (mm b z)]
      exact sm b o e) (RFs.rev (RFs.zip rr))

/-! ### try -/
theorem Ok.clear {M : Msk} {α : Nat → Addr} {σ : St} {H : Hp} {ρ : Env} (i : Nat) (ok : Ok Γ K M α σ H ρ) : Ok Γ K M α (σ.set i none) H (ρ.set i .no) :=
  ok.put (a := α i) self_upd (.inl rfl) (fun _ z => z) (cut_mono (mask_set_sub rfl)) (fun _ _ _ _ e => e) (fun z => by cases z) fun _ => trivial
/-- what is tried is one expression, dropped; what is raised by it is caught as slot i's, for the suite t -/
def tTry (K : W.Frag) (c : Value) (i : Nat) (te : (St → XK) → TE) (ts : TS) (E : XK) : TS := fun D σ H => tDrop (te (fun σ cls d H => wKeep K c i (fun _ _ _ => ts) (fun cls d _ H => E cls d H) D cls d σ H)) D σ H
def pTry (K : W.Frag) (c : Value) (i : Nat) (A : TX S) (U : TP S) : TP S := fun ρ s P => A ρ s (fun _ s1 => P.nx ρ s1) (fun x s1 => opt (W.exmOne K (.ref x.C) c) fun b => if b = true then opt x.fs fun ds => U (ρ.set i (.d (.exc x.C ds))) s1 { P with nx := fun ρ' s' => P.nx (ρ'.set i .no) s', bk := fun ρ' s' => P.bk (ρ'.set i .no) s', ct := fun ρ' s' => P.ct (ρ'.set i .no) s' }
  else P.ex x s1)
theorem ls_try {c : Value} {i : Nat} {te : (St → XK) → TE} (hS : ∀ (W : St → XK) σ H Q, te W σ H Q = te (fun _ => W σ) σ H Q) (ha : ∀ E', Ln Γ K E' mo (te fun _ => E') A) (hU : LnS Γ K E t U) : LnS Γ K E (tTry K c i te t E) (pTry K c i A U) := by
  intro M α σ H ρ s ok st P Dn q kn kb kc kr kx
  show te _ σ H _
  rw [hS]
  refine ha _ ok st _ _ _ q (fun v H' d s' p st' r z => kn σ H' ρ s' α (ok.step p) st' (stS_stp p) z) (fun cls dx H' x s' p st' r z => ?_)
  obtain ⟨b, eb, z⟩ := opt_ex z
  obtain ⟨rfl, rx⟩ := r
  refine ⟨b, eb, fun hb a na => ?_, fun hb => ?_⟩
  · rw [if_pos hb] at z
    obtain ⟨ds, eds, z⟩ := opt_ex z
    rw [eds] at rx
    obtain ⟨d, fs, rfl, nm, hd, rf⟩ := rx
    have ok' := ok.step p
    have sm := same_upd (o := exz a (.ref x.C) (some d)) na
    have p2 := p.trans (Stp.of sm)
    have ok2 := ok.step p2
    have nma : ¬ mask M α ρ a := fun z => ok'.mtrk a z na
    have rr : R K (cut (mask M α ρ) (upd H' a (exz a (.ref x.C) (some d)))) (.ref a) (.exc x.C ds) := by
      refine .exc (by rw [cut_out nma, upd_same]) (by rw [cut_out nm]; exact sm _ _ hd) (RFs.same (cut_step fun b o _ e => sm b o e) rf)
    have ok3 := ok2.setD (i := i) rr
    have pp : StS (wmask Γ α ρ) (wmask Γ α (ρ.set i (.d (.exc x.C ds)))) H (upd H' a (exz a (.ref x.C) (some d))) := .of (wmask_set_sub rfl) p2 fun _ z => .inl z
    refine hU ok3 (Fr.same ok'.frt sm st') _ _ z (fun σ' H2 ρ' s2 α' o2 t2 p3 z => ?_) (fun σ' H2 ρ' s2 α' o2 t2 p3 z => ?_) (fun σ' H2 ρ' s2 α' o2 t2 p3 z => ?_) (fun v H2 d s2 p3 t2 r z => kr v H2 d s2 (pp.trans p3) t2 r z) (fun c dx H2 x s2 p3 t2 r z => kx c dx H2 x s2 (pp.trans p3) t2 r z)
    · exact kn _ H2 _ s2 α' (o2.clear i) t2 ((pp.trans p3).trans (.of (wmask_set_sub rfl) (.refl (Γ := Γ)) fun _ z => .inl z)) z
    · exact kb _ H2 _ s2 α' (o2.clear i) t2 ((pp.trans p3).trans (.of (wmask_set_sub rfl) (.refl (Γ := Γ)) fun _ z => .inl z)) z
    · exact kc _ H2 _ s2 α' (o2.clear i) t2 ((pp.trans p3).trans (.of (wmask_set_sub rfl) (.refl (Γ := Γ)) fun _ z => .inl z)) z
  · rw [if_neg (by rw [hb]; decide)] at z
    exact kx _ _ _ x s' (stS_end p) st' (XR.mono (fun _ z => .inl z) ⟨rfl, rx⟩) z
/-- e.f of a kept exception -/
def xZget (K : W.Frag) (f : Str) (A : TX S) : TX S := fun ρ s Q X => A ρ s (fun d s1 => match d with
  | .exc C fs => ExK K C ∧ W.findIn K (.ref C) f = some none ∧ opt (fs.lookup f) fun d => Q d s1
  | _ => False) X
theorem ln_zget {f : Str} (ha : Ln Γ K E .b ta A) : Ln Γ K E .s (tZget K f ta) (xZget K f A) := by
  intro M α σ H ρ s ok st QD QX Q q k kx
  refine ha ok st _ QX _ q (fun v H' d s' p st' r z => ?_) kx
  split at z
  · rename_i C fs
    obtain ⟨c1, c2, z⟩ := z
    obtain ⟨d, e, z⟩ := opt_ex z
    obtain ⟨a, dx, vs, rfl, h1, h2, h3⟩ := RBo.exc r
    obtain ⟨v, ev, rv⟩ := RFs.look h3 e
    exact ⟨a, C, dx, vs, v, rfl, c1, c2, h1, h2, ev, k _ H' d s' p st' rv z⟩
  · exact z.elim
theorem ln_callS {F : Fn} (ho : os.all (fun o => match o with | .f => false | _ => true) = true) (h : LnA Γ K E os tl L) : Ln Γ K E .s (tCallS (spF K os F) (fun _ => E) tl) (xCall F L) := by
  have e : tCallS (spF K os F) (fun _ => E) tl = tCall (spF K os F) [] E tl := by
    funext σ H Q
    show (tl σ H fun vs H1 => spF K os F vs H1 Q E) = (tl σ H fun vs H1 => spF K os F (vs ++ []) H1 Q E)
    simp only [List.append_nil]
  rw [e]
  intro M α σ H ρ s ok st QD QX Q q k kx
  exact ln_call ho h ok st QD QX Q q k kx
end
section
variable {X : Cx} {CX : CXT} {j k : Nat} {f : Addr} {fd : FuncData} {ps : List Str} {sp : Sp} {E : St → XK} {x : Str} {p pos : Pos} {e : Expr} {es : List Expr} {t : TA}
theorem goesS {pins : List (Addr × Obj)} {σ : St} {H : Hp} {s : Shared} {Q : VK} {us : List Value} {vs : List V} (F : FnG X.prog X.w X.K X.mg X.base CX k f fd ps sp) (hr : Room k X.A) (hq : My.Quiet X.A) (hb : Binds X.K fd ps []) (hx : PassesAt CX X σ (E σ)) (I : Inv X pins σ H s) (r : Vals vs us) (h : sp vs H Q (E σ)) :
    wpAny (model X.prog X.w) X.A (call (.ref f) us) (EP X pins σ Q) X.xe s := by
  have hl : (us ++ []).length = ps.length := by
    rw [List.append_nil, ← r.length]
    exact F.many vs H Q _ h
  have b := hb s us I.kIn hl
  rw [List.append_nil] at b
  refine wpAny_call (codeAny_mono (F.runs X.A X.stack s H ⟨us, []⟩ us vs Q (E σ) hr hq I.env0 b r h) ?_)
  intro res s' z
  match res, z with
  | .error er, z => exact hx pins H s er s' I z
  | .ok (.ret u), z => exact I.after z
theorem pe_gS (c : CalG X.prog X.w X.K X.mg X.base CX j x sp) (hr : Room k X.A) (hjk : j ≤ k) (hq : My.Quiet X.A) (hx : ∀ σ, PassesAt CX X σ (E σ)) (hg : Gl X x) (ha : PA X (e :: es) t)
    (hdb : (x == ("__debug__" : Str)) = false := by decide) (he : starEach (e :: es) X.env = (false, eval e X.env) :: starEach es X.env := by rfl) (hpl : (backTo pos (starEach es X.env)).any (·.1) = false := by rfl) :
    PE X (.Call (.Name x p) (e :: es) [] pos) (tCallS sp E t) := by
  obtain ⟨f, fd, ps, F, hm, hk, hb⟩ := c.ex
  constructor
  intro pins s σ H Q I h
  refine wpAny_Call_Name_kw (ld_glob I hg hm ?_ hdb)
  refine W.callWith_K (h₀ := X.base) I.ok.mod.kin hk (thn (ha.run pos pins s σ H _ I h) ?_) he hpl
  rintro us s1 ⟨vs, H1, I1, r, q⟩
  exact ⟨I1.kIn, goesS (F.up hjk) hr hq hb (hx σ) I1 r q⟩
end
end L2.DL
/-! Small rules for plain data -/
namespace L2.DL
open L2 L2.My NdefX PySem PySem.Spec PyProof.Rows

section
variable {S : Type}
/-- a comprehension whose element is a function -/
theorem lcT_map {gd : GD} {A : TX S} {ρ : Env} {Q : D → S → Prop} {s : S} (f : D → D) : ∀ (ds acc : List D), (∀ d ∈ ds, ∃ ρ1, gd d ρ = some ρ1 ∧ ∀ (Q' : D → S → Prop) (X : Exn → S → Prop), Q' (f d) s → A ρ1 s Q' X) → acc.length + ds.length ≤ sizeLine → Q (.lst (acc ++ ds.map f)) s → lcT gd bYes A ρ Q ds acc s
  | [], acc, _, _, q => by unfold lcT; simpa using q
  | d :: r, acc, h, l, q => by
    unfold lcT
    obtain ⟨ρ1, e, k⟩ := h d List.mem_cons_self
    rw [e]
    simp only [opt, bYes, if_true]
    refine k _ _ ⟨?_, lcT_map f r (acc ++ [f d]) (fun d z => h d (List.mem_cons_of_mem _ z)) ?_ ?_⟩
    · rw [List.length_cons] at l; omega
    · rw [List.length_append, List.length_cons, List.length_nil]; rw [List.length_cons] at l; omega
    · rw [List.append_assoc]; exact q
theorem cmpD_i {p : Int → Int → Bool} {q : List Nat → List Nat → Bool} {i j : Int} : cmpD p q (dI i) (dI j) = some (dB (p i j)) := rfl
theorem cmpD_s {p : Int → Int → Bool} {q : List Nat → List Nat → Bool} {i j : Str} : cmpD p q (dS i) (dS j) = some (dB (q i.cps.toList j.cps.toList)) := rfl
theorem lenD_l {xs : List D} : lenD (.lst xs) = some (dI xs.length) := rfl
theorem lenD_t {xs : List D} : lenD (.tup xs) = some (dI xs.length) := rfl
theorem lenD_s {z : Str} (h : z.length ≤ sizeLine) : lenD (dS z) = some (dI z.length) := by simp [lenD, h]
theorem allD_l {xs : List D} : allD (.lst xs) = (asBs xs).map fun bs => dB (bs.all id) := rfl
theorem chr_lt {c d : Nat} : decide (([c] : List Nat) < [d]) = decide (c < d) := by
  have e : ([c] < [d]) ↔ c < d := by rw [List.cons_lt_cons_iff]; simp
  by_cases h : c < d
  · rw [decide_eq_true h, decide_eq_true (e.mpr h)]
  · rw [decide_eq_false h, decide_eq_false fun z => h (e.mp z)]
theorem chr_le {c d : Nat} : ([c] : List Nat) ≤ [d] ↔ c ≤ d := by
  rw [← List.not_lt, List.cons_lt_cons_iff]
  simp
theorem eqD_s {b : Bool} {x y : Str} : eqD b (dS x) (dS y) = some (dB (b == (x == y))) := by simp [eqD, toPy, PyData.eqv, PyData.depth]
theorem eqD_i {b : Bool} {x y : Int} : eqD b (dI x) (dI y) = some (dB (b == (x == y))) := by simp [eqD, toPy, PyData.eqv, PyData.depth]
theorem eqD_b {b x y : Bool} : eqD b (dB x) (dB y) = some (dB (b == (x == y))) := by simp [eqD, toPy, PyData.eqv, PyData.depth]
theorem eqD_n {b : Bool} : eqD b dN dN = some (dB b) := by simp [eqD, toPy, PyData.eqv, PyData.depth]
theorem eqD_in {b : Bool} {x : Int} : eqD b (dI x) dN = some (dB !b) := by cases b <;> simp [eqD, toPy, PyData.eqv, PyData.depth]
theorem eqD_ni {b : Bool} {x : Int} : eqD b dN (dI x) = some (dB !b) := by cases b <;> simp [eqD, toPy, PyData.eqv, PyData.depth]
theorem eqD_sn {b : Bool} {x : Str} : eqD b (dS x) dN = some (dB !b) := by cases b <;> simp [eqD, toPy, PyData.eqv, PyData.depth]
theorem eqD_ns {b : Bool} {x : Str} : eqD b dN (dS x) = some (dB !b) := by cases b <;> simp [eqD, toPy, PyData.eqv, PyData.depth]
theorem isiK_o {K : W.Frag} {C c : Addr} {fs : List (Str × D)} (h : ClsI K C) : isiK K (.obj C fs) (.v (.ref c)) = (W.kitOne K (.ref C) (.ref c)).map dB := by
  simp [isiK, isiD, DL.tyV, clsV, h]
theorem isiK_x {K : W.Frag} {C c : Addr} {fs : List (Str × D)} (h : ExK K C) : isiK K (.exc C fs) (.v (.ref c)) = (W.kitOne K (.ref C) (.ref c)).map dB := by
  simp [isiK, isiD, DL.tyV, clsV, h]
theorem isiK_s {K : W.Frag} {c : Addr} {z : Str} : isiK K (dS z) (.v (.ref c)) = (W.kitOne K (.type "str") (.ref c)).map dB := by
  simp [isiK, isiD, DL.tyV, clsV, tyD]
end
theorem ln_dct0 {S : Type} {Γ : Fr S} {K : W.Frag} {E : XK} : Ln Γ K E .f tDNewK (xC (.dct []) : TX S) := by
  intro M α σ H ρ s ok st QD QX Q q k kx
  intro d hd
  exact k _ _ _ s (Stp.of (same_upd hd)) (Fr.same ok.frt (same_upd hd) st) ⟨d, .dct [], rfl, rfl, hd, _, upd_same, .nil⟩ q
/-- a comprehension that draws once for each element -/
theorem lcT_pen {gd : GD} {A : TX Nat} {ρ : Env} {Q : D → Nat → Prop} {R : D → Prop} : ∀ (ds acc : List D) (n : Nat), (∀ d ∈ ds, ∃ ρ1, gd d ρ = some ρ1 ∧ ∀ (n : Nat) (Q' : D → Nat → Prop) (X : Exn → Nat → Prop), n < 100000 → (∀ y n', R y → n ≤ n' → n' ≤ n + 1 → Q' y n') → A ρ1 n Q' X) →
    acc.length + ds.length ≤ sizeLine → n + ds.length ≤ 100000 → (∀ ys n', ys.length = ds.length → (∀ y ∈ ys, R y) → n ≤ n' → n' ≤ n + ds.length → Q (.lst (acc ++ ys)) n') → lcT gd bYes A ρ Q ds acc n
  | [], acc, n, _, _, _, q => by unfold lcT; simpa using q [] n rfl (by simp) (Nat.le_refl _) (by simp)
  | d :: r, acc, n, h, l, hn, q => by
    unfold lcT
    obtain ⟨ρ1, e, k⟩ := h d List.mem_cons_self
    rw [e]
    simp only [opt, bYes, if_true]
    rw [List.length_cons] at l hn q
    refine k n _ _ (by omega) fun y n' hy l1 l2 => ⟨by omega, lcT_pen r (acc ++ [y]) n' (fun d z => h d (List.mem_cons_of_mem _ z)) ?_ (by omega) fun ys n2 e1 e2 l3 l4 => ?_⟩
    · rw [List.length_append, List.length_cons, List.length_nil]; omega
    · rw [List.append_assoc]
      refine q (y :: ys) n2 (by rw [List.length_cons, e1]) (fun z hz => ?_) (by omega) (by omega)
      rcases List.mem_cons.mp hz with rfl | hz
      · exact hy
      · exact e2 z hz
/-- a class of the module by its name, with its __init__'s promise -/
structure MkC (P : Program) (w : World) (K : W.Frag) (mg : Str → Option Value) (base : Heap) (k : Nat) (x : Str) (C : Addr) (ps : List Str) (sp : Sp) : Prop where
  ex : ∃ (f : Addr) (fd : FuncData), Mk K C f ∧ FnG P w K mg base (L2.CX P w) k f fd ps sp ∧ Binds K fd ps []
  nm : mg x = some (.ref C)
theorem pe_mkc {X : Cx} {k n : Nat} {C : Addr} {ps : List Str} {sp : Sp} {E : XK} {x : Str} {p pos : Pos} {e : Expr} {es : List Expr} {t : TA} (c : MkC X.prog X.w X.K X.mg X.base k x C ps sp) (hr : Room n X.A) (hk : k + 1 ≤ n) (hq : My.Quiet X.A) (hg : Gl X x) (hx : Passes (L2.CX X.prog X.w) X E) (ha : PA X (e :: es) t)
    (hdb : (x == ("__debug__" : Str)) = false := by decide) (he : starEach (e :: es) X.env = (false, eval e X.env) :: starEach es X.env := by rfl) (hpl : (backTo pos (starEach es X.env)).any (·.1) = false := by rfl) : PE X (.Call (.Name x p) (e :: es) [] pos) (tMk C sp E t) := by
  obtain ⟨f, fd, M, F, hb⟩ := c.ex
  exact pe_mk M F (hr.mono hk) hq hg c.nm hb hx ha hdb he hpl
end L2.DL
/-! Readings over data by big steps -/
namespace L2.DL
open L2 L2.My NdefX PySem PySem.Spec PyProof.Rows

section
variable {S : Type}
/-- the reading gives d and leaves the state -/
structure Ev (A : TX S) (ρ : Env) (s : S) (d : D) : Prop where
  to : ∀ (Q : D → S → Prop) (X : Exn → S → Prop), Q d s → A ρ s Q X
structure EvL (L : TL S) (ρ : Env) (s : S) (ds : List D) : Prop where
  to : ∀ (Q : List D → S → Prop) (X : Exn → S → Prop), Q ds s → L ρ s Q X
structure EvB (C : TB S) (ρ : Env) (s : S) (b : Bool) : Prop where
  to : ∀ (Q : Bool → S → Prop) (X : Exn → S → Prop), Q b s → C ρ s Q X
structure EvO (U : TOx S) (ρ : Env) (s : S) (o : Option Int) : Prop where
  to : ∀ (Q : Option Int → S → Prop) (X : Exn → S → Prop), Q o s → U ρ s Q X
variable {ρ : Env} {s : S} {A B C : TX S} {L : TL S} {T U U2 : TP S} {I : TL S} {c c' : TB S} {d e x y : D} {ds : List D} {a b : Bool} {P : Post S} {i : Nat} {mo : Mo}
theorem ev_c : Ev (xC d) ρ s d := ⟨fun Q X q => q⟩
theorem ev_vd (h : ρ[i]? = some (.d x)) : Ev (xVar mo i) ρ s x := ⟨fun Q X q => by unfold xVar; rw [h]; exact q⟩
theorem ev_vb (h : ρ[i]? = some (.bor x)) : Ev (xVar .b i) ρ s x := ⟨fun Q X q => by unfold xVar; rw [h]; exact q⟩
theorem ev_vs {v : V} (h : ρ[i]? = some (.bor (.v v))) : Ev (xVar .s i) ρ s (.v v) := ⟨fun Q X q => by unfold xVar; rw [h]; exact q⟩
theorem ev_vo {u : Cell} (h : ρ[i]? = some (.own u)) : Ev (xVar .b i) ρ s u.toD := ⟨fun Q X q => by unfold xVar; rw [h]; exact q⟩
theorem ev_op {f : D → D → Option D} (h1 : Ev A ρ s x) (h2 : Ev B ρ s y) (h : f x y = some d) : Ev (xOp f A B) ρ s d := ⟨fun Q X q => h1.to _ _ (h2.to _ _ (by rw [h]; exact q))⟩
theorem ev_un {f : D → Option D} (h1 : Ev A ρ s x) (h : f x = some d) : Ev (xUn f A) ρ s d := ⟨fun Q X q => h1.to _ _ (by rw [h]; exact q)⟩
theorem ev_nil : EvL (xNil : TL S) ρ s [] := ⟨fun Q X q => q⟩
theorem ev_cons (h1 : Ev A ρ s x) (h2 : EvL L ρ s ds) : EvL (xCons A L) ρ s (x :: ds) := ⟨fun Q X q => h1.to _ _ (h2.to _ _ q)⟩
theorem ev_tup (h : EvL L ρ s ds) (hl : ds.length ≤ sizeLine) : Ev (xTup L) ρ s (.tup ds) := ⟨fun Q X q => h.to _ _ ⟨hl, q⟩⟩
theorem ev_lst (h : EvL L ρ s ds) (hl : ds.length ≤ sizeLine) : Ev (xLst L) ρ s (.lst ds) := ⟨fun Q X q => h.to _ _ ⟨hl, q⟩⟩
theorem ev_not (h : Ev A ρ s (dB a)) : Ev (xNot A) ρ s (dB (!a)) := ⟨fun Q X q => h.to _ _ q⟩
theorem ev_and_f (h : Ev A ρ s (dB a)) (ha : a = false) : Ev (xAnd A B) ρ s (dB false) := ⟨fun Q X q => h.to _ _ (by subst ha; exact q)⟩
theorem ev_and_t (h : Ev A ρ s (dB a)) (ha : a = true) (h2 : Ev B ρ s d) : Ev (xAnd A B) ρ s d := ⟨fun Q X q => h.to _ _ (by subst ha; exact h2.to _ _ q)⟩
theorem ev_or_t (h : Ev A ρ s (dB a)) (ha : a = true) : Ev (xOr A B) ρ s (dB true) := ⟨fun Q X q => h.to _ _ (by subst ha; exact q)⟩
theorem ev_or_f (h : Ev A ρ s (dB a)) (ha : a = false) (h2 : Ev B ρ s d) : Ev (xOr A B) ρ s d := ⟨fun Q X q => h.to _ _ (by subst ha; exact h2.to _ _ q)⟩
/-- both sides are plain truths -/
theorem ev_and (h : Ev A ρ s (dB a)) (h2 : a = true → Ev B ρ s (dB b)) : Ev (xAnd A B) ρ s (dB (a && b)) := ⟨fun Q X q => h.to _ _ (by
  cases a with
  | false => exact q
  | true => exact (h2 rfl).to _ _ q)⟩
theorem ev_or (h : Ev A ρ s (dB a)) (h2 : a = false → Ev B ρ s (dB b)) : Ev (xOr A B) ρ s (dB (a || b)) := ⟨fun Q X q => h.to _ _ (by
  cases a with
  | true => exact q
  | false => exact (h2 rfl).to _ _ q)⟩
theorem ev_if_t (h : EvB c ρ s b) (hb : b = true) (h2 : Ev A ρ s d) : Ev (xIf c A B) ρ s d := ⟨fun Q X q => h.to _ _ (by subst hb; exact h2.to _ _ q)⟩
theorem ev_if_f (h : EvB c ρ s b) (hb : b = false) (h2 : Ev B ρ s d) : Ev (xIf c A B) ρ s d := ⟨fun Q X q => h.to _ _ (by subst hb; exact h2.to _ _ q)⟩
theorem evb_test (h : Ev A ρ s (dB b)) : EvB (bTest A) ρ s b := ⟨fun Q X q => h.to _ _ q⟩
theorem evb_not (h : EvB c ρ s b) : EvB (bNot c) ρ s (!b) := ⟨fun Q X q => h.to _ _ q⟩
theorem evb_yes : EvB (bYes : TB S) ρ s true := ⟨fun Q X q => q⟩
theorem evb_and (h : EvB c ρ s a) (h2 : a = true → EvB c' ρ s b) : EvB (bAnd c c') ρ s (a && b) := ⟨fun Q X q => h.to _ _ (by
  cases a with
  | false => exact q
  | true => exact (h2 rfl).to _ _ q)⟩
theorem evb_or (h : EvB c ρ s a) (h2 : a = false → EvB c' ρ s b) : EvB (bOr c c') ρ s (a || b) := ⟨fun Q X q => h.to _ _ (by
  cases a with
  | true => exact q
  | false => exact (h2 rfl).to _ _ q)⟩
theorem evb_and_f (h : EvB c ρ s a) (ha : a = false) : EvB (bAnd c c') ρ s false := ⟨fun Q X q => h.to _ _ (by subst ha; exact q)⟩
theorem evb_and_t (h : EvB c ρ s a) (ha : a = true) (h2 : EvB c' ρ s b) : EvB (bAnd c c') ρ s b := ⟨fun Q X q => h.to _ _ (by subst ha; exact h2.to _ _ q)⟩
theorem evb_or_t (h : EvB c ρ s a) (ha : a = true) : EvB (bOr c c') ρ s true := ⟨fun Q X q => h.to _ _ (by subst ha; exact q)⟩
theorem evb_or_f (h : EvB c ρ s a) (ha : a = false) (h2 : EvB c' ρ s b) : EvB (bOr c c') ρ s b := ⟨fun Q X q => h.to _ _ (by subst ha; exact h2.to _ _ q)⟩
theorem ev_chain {f f' : D → D → Option D} {z : D} (h1 : Ev A ρ s x) (h2 : Ev B ρ s y) (h3 : Ev C ρ s z) (e1 : f x y = some (dB a)) (e2 : f' y z = some (dB b)) : Ev (xChain f f' A B C) ρ s (dB (a && b)) := ⟨fun Q X q => h1.to _ _ (h2.to _ _ (by
  rw [e1]
  cases a with
  | false => exact q
  | true => exact h3.to _ _ (by rw [e2]; exact q)))⟩
theorem ev_call {F : Fn} (h : EvL L ρ s ds) (e : F ds = some (.ok d)) : Ev (xCall F L) ρ s d := ⟨fun Q X q => h.to _ _ (by rw [e]; exact q)⟩
theorem ev_mk {Cc : Addr} {F : IniF} {fs : List (Str × D)} (h : EvL L ρ s ds) (e : F Cc ds = some (.ok fs)) : Ev (xMk Cc F L) ρ s (.obj Cc fs) := ⟨fun Q X q => h.to _ _ (by rw [e]; exact q)⟩
theorem ev_fld {K : W.Frag} {f : Str} {Cc : Addr} {fs : List (Str × D)} (h : Ev A ρ s (.obj Cc fs)) (ha : Att K Cc f) (e : fs.lookup f = some d) : Ev (xFld K f A) ρ s d := ⟨fun Q X q => h.to _ _ ⟨ha, by rw [e]; exact q⟩⟩
theorem ev_sl {f : D → Option Int → Option Int → Option D} {lo hi : TOx S} {u v : Option Int} (h : Ev A ρ s x) (h1 : EvO lo ρ s u) (h2 : EvO hi ρ s v) (e : f x u v = some d) : Ev (xSl f A lo hi) ρ s d := ⟨fun Q X q => h.to _ _ (h1.to _ _ (h2.to _ _ (by rw [e]; exact q)))⟩
theorem evo_none : EvO (oNone : TOx S) ρ s none := ⟨fun Q X q => q⟩
theorem evo_some {k : Int} (h : Ev A ρ s (dI k)) : EvO (oSome A) ρ s (some k) := ⟨fun Q X q => h.to _ _ q⟩
theorem evl_seq (h : Ev A ρ s x) (e : asIt x = some ds) : EvL (xSeq A) ρ s ds := ⟨fun Q X q => h.to _ _ (by rw [e]; exact q)⟩
theorem evl_seqd (h : ρ[i]? = some (.d x)) (e : asIt x = some ds) : EvL (xSeqP i : TL S) ρ s ds := ⟨fun Q X q => by unfold xSeqP; rw [h]; show opt _ _; rw [e]; exact q⟩
theorem evl_seqb (h : ρ[i]? = some (.bor x)) (e : asIt x = some ds) : EvL (xSeqP i : TL S) ρ s ds := ⟨fun Q X q => by unfold xSeqP; rw [h]; show opt _ _; rw [e]; exact q⟩
theorem evl_rng1 {j : Int} (h : Ev A ρ s (dI j)) (hj : inR j = true) : EvL (xRng1 A) ρ s (rngD 0 j) := ⟨fun Q X q => h.to _ _ ⟨hj, q⟩⟩
theorem evl_rng2 {j k : Int} (h : Ev A ρ s (dI j)) (h2 : Ev B ρ s (dI k)) (hj : inR j = true) (hk : inR k = true) : EvL (xRng2 A B) ρ s (rngD j k) := ⟨fun Q X q => h.to _ _ (h2.to _ _ ⟨hj, hk, q⟩)⟩
theorem lcT_ev {gd : GD} {cc : TB S} {Q : D → S → Prop} (p : D → Bool) (f : D → D) : ∀ (ds acc : List D), (∀ d ∈ ds, ∃ ρ1, gd d ρ = some ρ1 ∧ EvB cc ρ1 s (p d) ∧ (p d = true → Ev A ρ1 s (f d))) → acc.length + ds.length ≤ sizeLine → Q (.lst (acc ++ (ds.filter p).map f)) s → lcT gd cc A ρ Q ds acc s
  | [], acc, _, _, q => by unfold lcT; simpa using q
  | d :: r, acc, h, l, q => by
    unfold lcT
    obtain ⟨ρ1, e, k, ka⟩ := h d List.mem_cons_self
    rw [e]
    rw [List.length_cons] at l
    show cc ρ1 s _ _
    refine k.to _ _ ?_
    rw [List.filter_cons] at q
    cases hp : p d with
    | true =>
      rw [hp] at q
      simp only [if_true] at q ⊢
      refine (ka hp).to _ _ ⟨by omega, lcT_ev p f r (acc ++ [f d]) (fun d z => h d (List.mem_cons_of_mem _ z)) ?_ ?_⟩
      · rw [List.length_append, List.length_cons, List.length_nil]; omega
      · rw [List.append_assoc]; simpa using q
    | false =>
      rw [hp] at q
      rw [if_neg (by decide)] at q ⊢
      exact lcT_ev p f r acc (fun d z => h d (List.mem_cons_of_mem _ z)) (by omega) q
theorem ev_lc {gd : GD} {vs : List Nat} (p : D → Bool) (f : D → D) (h : EvL I ρ s ds) (hd : ∀ d ∈ ds, ∃ ρ1, gd d (inE ρ vs) = some ρ1 ∧ EvB c ρ1 s (p d) ∧ (p d = true → Ev A ρ1 s (f d))) (hl : ds.length ≤ sizeLine) : Ev (xLc I gd c A vs) ρ s (.lst ((ds.filter p).map f)) := ⟨fun Q X q => h.to _ _ (lcT_ev p f ds [] hd (by simpa using hl) q)⟩
/-! statements -/
theorem ck_opt {α : Type} {o : Option α} {x : α} {q : α → Prop} (e : o = some x) (h : q x) : opt o q := by rw [e]; exact h
/-- what is wanted of a statement, closed -/
structure Run (T : TP S) (ρ : Env) (s : S) (P : Post S) : Prop where
  go : T ρ s P
theorem sq_assoc (h : Run (pSeq T (pSeq U U2)) ρ s P) : Run (pSeq (pSeq T U) U2) ρ s P := ⟨h.go⟩
theorem sq_next (h : Run U ρ s P) : Run (pSeq pNext U) ρ s P := ⟨h.go⟩
theorem sq_nx (h : P.nx ρ s) : Run pNext ρ s P := ⟨h⟩
theorem sq_set (h : Ev A ρ s d) (k : Run U (ρ.set i (.d d)) s P) : Run (pSeq (pSet A i) U) ρ s P := ⟨h.to _ _ k.go⟩
theorem sq_own {u : Cell} (h : Ev A ρ s d) (e : ownOf d = some u) (k : Run U (ρ.set i (.own u)) s P) : Run (pSeq (pOwn A i) U) ρ s P := ⟨h.to _ _ (ck_opt e k.go)⟩
theorem sq_drop (h : Ev A ρ s d) (k : Run U ρ s P) : Run (pSeq (pDrop A) U) ρ s P := ⟨h.to _ _ k.go⟩
theorem sq_ret (h : Ev A (frz ρ) s d) (k : P.rt d s) : Run (pSeq (pRet A) U) ρ s P := ⟨h.to _ _ k⟩
theorem sq_retN (k : P.rt dN s) : Run (pSeq pRetN U) ρ s P := ⟨k⟩
theorem sq_ifR (h : EvB c ρ s b) (k : if b = true then Run (pSeq T U2) ρ s P else Run (pSeq U U2) ρ s P) : Run (pSeq (pIf c T U) U2) ρ s P := ⟨h.to _ _ (by
  cases b with
  | true => rw [if_pos rfl] at k ⊢; exact k.go
  | false => rw [if_neg (by decide)] at k ⊢; exact k.go)⟩
theorem sq_if (h : EvB c ρ s b) (kt : b = true → Run (pSeq T U2) ρ s P) (kf : b = false → Run (pSeq U U2) ρ s P) : Run (pSeq (pIf c T U) U2) ρ s P := sq_ifR h (by
  cases b with
  | true => rw [if_pos rfl]; exact kt rfl
  | false => rw [if_neg (by decide)]; exact kf rfl)
theorem sq_par {j : Nat} (h : EvL L ρ s [x, y]) (k : Run U ((ρ.set i (.d x)).set j (.d y)) s P) : Run (pSeq (pPar L i j) U) ρ s P := ⟨h.to _ _ k.go⟩
theorem sq_asg {gd : GD} {ρ' : Env} (h : Ev A ρ s d) (e : gd d ρ = some ρ') (k : Run U ρ' s P) : Run (pSeq (pAsg A gd) U) ρ s P := ⟨h.to _ _ (ck_opt e k.go)⟩
theorem sq_app {xs : List D} (e : ownL ρ i = some xs) (h : Ev A ρ s d) (hl : xs.length < sizeLine) (k : Run U (ρ.set i (.own (.lst (xs ++ [d])))) s P) : Run (pSeq (onOwn i (pApp i A)) U) ρ s P := ⟨by rw [e]; rfl, h.to _ _ (ck_opt e ⟨hl, k.go⟩)⟩
theorem sq_ext {xs ys : List D} (e : ownL ρ i = some xs) (h : Ev A ρ s (.lst ys)) (hl : xs.length + ys.length ≤ sizeLine) (k : Run U (ρ.set i (.own (.lst (xs ++ ys)))) s P) : Run (pSeq (onOwn i (pExt i A)) U) ρ s P := ⟨by rw [e]; rfl, h.to _ _ (ck_opt e ⟨hl, k.go⟩)⟩
theorem sq_pop {xs : List D} {gd : GD} {ρ' : Env} (e : ownL ρ i = some xs) (h : xs.getLast? = some d) (eg : gd d (ρ.set i (.own (.lst xs.dropLast))) = some ρ') (k : Run U ρ' s P) : Run (pSeq (pPop i gd) U) ρ s P := ⟨ck_opt e (ck_opt h (ck_opt eg k.go))⟩
/-- what is wanted of a loop's turn -/
def loopP (P : Post S) (ρ : Env) (Fr Bk : Env → S → Prop) : Post S := { P with nx := fun ρ' s' => ρ'.length = ρ.length ∧ Fr (back ρ ρ') s', ct := fun ρ' s' => ρ'.length = ρ.length ∧ Fr (back ρ ρ') s', bk := fun ρ' s' => ρ'.length = ρ.length ∧ Bk (back ρ ρ') s' }
theorem forT_by {gd : GD} (W : List D → Env → S → Prop) (done : ∀ ρ s, W [] ρ s → Run U ρ s P)
    (turn : ∀ d r (Fr Bk : Env → S → Prop), (∀ ρ s, W r ρ s → Fr ρ s) → (∀ ρ s, Run U ρ s P → Bk ρ s) → ∀ ρ s, W (d :: r) ρ s → ∃ ρ1, gd d ρ = some ρ1 ∧ Run T ρ1 s (loopP P ρ Fr Bk)) :
    ∀ (ds : List D) (ρ : Env) (s : S), W ds ρ s → forT gd T { P with nx := fun ρ' s' => U ρ' s' P } ds ρ s
  | [], ρ, s, w => (done ρ s w).go
  | d :: r, ρ, s, w => by
    obtain ⟨ρ1, e, h⟩ := turn d r (forT gd T { P with nx := fun ρ' s' => U ρ' s' P } r) (fun ρ' s' => U ρ' s' P) (forT_by W done turn r) (fun ρ s h => h.go) ρ s w
    unfold forT
    exact ck_opt e h.go
/-- a loop over data: W speaks of what is left -/
theorem sq_for {gd : GD} (W : List D → Env → S → Prop) (h : EvL I ρ s ds) (w0 : W ds ρ s) (done : ∀ ρ s, W [] ρ s → Run U ρ s P)
    (turn : ∀ d r (Fr Bk : Env → S → Prop), (∀ ρ s, W r ρ s → Fr ρ s) → (∀ ρ s, Run U ρ s P → Bk ρ s) → ∀ ρ s, W (d :: r) ρ s → ∃ ρ1, gd d ρ = some ρ1 ∧ Run T ρ1 s (loopP P ρ Fr Bk)) :
    Run (pSeq (pFor I gd T) U) ρ s P := ⟨h.to _ _ (forT_by W done turn ds ρ s w0)⟩
/-- a loop that ends by a measure -/
theorem sq_while (W : Nat → Env → S → Prop) (w0 : ∃ m, W m ρ s)
    (turn : ∀ (m : Nat) (ρ : Env) (s : S) (Bk : Env → S → Prop), (∀ ρ s, Run U ρ s P → Bk ρ s) → W m ρ s → ∃ b, EvB c ρ s b ∧ (b = true → Run T ρ s (loopP P ρ (fun ρ' s' => ∃ m', m' < m ∧ W m' ρ' s') Bk)) ∧ (b = false → Run U ρ s P)) :
    Run (pSeq (pWhile c T) U) ρ s P := ⟨by
  refine ⟨W, w0, fun m ρ s w => ?_⟩
  obtain ⟨b, h, ht, hf⟩ := turn m ρ s (fun ρ' s' => U ρ' s' P) (fun ρ s h => h.go) w
  refine h.to _ _ ?_
  cases b with
  | true => rw [if_pos rfl]; exact (ht rfl).go
  | false => rw [if_neg (by decide)]; exact (hf rfl).go⟩
/-- what an and, an or gives -/
inductive AndR (a : Bool) (B : TX S) (ρ : Env) (s : S) : D → Prop
  | t {d : D} (h : a = true) (k : Ev B ρ s d) : AndR a B ρ s d
  | f (h : a = false) : AndR a B ρ s (dB false)
  | b {b : Bool} (k : a = true → Ev B ρ s (dB b)) : AndR a B ρ s (dB (a && b))
inductive OrR (a : Bool) (B : TX S) (ρ : Env) (s : S) : D → Prop
  | t (h : a = true) : OrR a B ρ s (dB true)
  | f {d : D} (h : a = false) (k : Ev B ρ s d) : OrR a B ρ s d
  | b {b : Bool} (k : a = false → Ev B ρ s (dB b)) : OrR a B ρ s (dB (a || b))
theorem ev_andR (h : Ev A ρ s (dB a)) (k : AndR a B ρ s d) : Ev (xAnd A B) ρ s d := by
  cases k with
  | t e k => exact ev_and_t h e k
  | f e => exact ev_and_f h e
  | b k => exact ev_and h k
theorem ev_orR (h : Ev A ρ s (dB a)) (k : OrR a B ρ s d) : Ev (xOr A B) ρ s d := by
  cases k with
  | t e => exact ev_or_t h e
  | f e k => exact ev_or_f h e k
  | b k => exact ev_or h k
inductive BAndR (a : Bool) (c : TB S) (ρ : Env) (s : S) : Bool → Prop
  | t {b : Bool} (h : a = true) (k : EvB c ρ s b) : BAndR a c ρ s b
  | f (h : a = false) : BAndR a c ρ s false
  | b {b : Bool} (k : a = true → EvB c ρ s b) : BAndR a c ρ s (a && b)
inductive BOrR (a : Bool) (c : TB S) (ρ : Env) (s : S) : Bool → Prop
  | t (h : a = true) : BOrR a c ρ s true
  | f {b : Bool} (h : a = false) (k : EvB c ρ s b) : BOrR a c ρ s b
  | b {b : Bool} (k : a = false → EvB c ρ s b) : BOrR a c ρ s (a || b)
theorem evb_andR (h : EvB c ρ s a) (k : BAndR a c' ρ s b) : EvB (bAnd c c') ρ s b := by
  cases k with
  | t e k => exact evb_and_t h e k
  | f e => exact evb_and_f h e
  | b k => exact evb_and h k
theorem evb_orR (h : EvB c ρ s a) (k : BOrR a c' ρ s b) : EvB (bOr c c') ρ s b := by
  cases k with
  | t e => exact evb_or_t h e
  | f e k => exact evb_or_f h e k
  | b k => exact evb_or h k
theorem ev_ifR (h : EvB c ρ s b) (k : if b = true then Ev A ρ s d else Ev B ρ s d) : Ev (xIf c A B) ρ s d := by
  cases b with
  | true => rw [if_pos rfl] at k; exact ev_if_t h rfl k
  | false => rw [if_neg (by decide)] at k; exact ev_if_f h rfl k
theorem ite_t {p q : Prop} (h : a = true) (k : p) : if a = true then p else q := by rw [if_pos h]; exact k
theorem ite_f {p q : Prop} (h : a = false) (k : q) : if a = true then p else q := by rw [if_neg (by rw [h]; decide)]; exact k
/-! the same where the state moves -/
variable {Q : D → S → Prop} {QL : List D → S → Prop} {X : Exn → S → Prop}
theorem ck_ev (h : Ev A ρ s d) (q : Q d s) : A ρ s Q X := h.to _ _ q
theorem ck_evl (h : EvL L ρ s ds) (q : QL ds s) : L ρ s QL X := h.to _ _ q
theorem ck_evb {QB : Bool → S → Prop} (h : EvB c ρ s b) (q : QB b s) : c ρ s QB X := h.to _ _ q
theorem ck_op {f : D → D → Option D} (h : A ρ s (fun x s1 => B ρ s1 (fun y s2 => opt (f x y) fun d => Q d s2) X) X) : xOp f A B ρ s Q X := h
theorem ck_un {f : D → Option D} (h : A ρ s (fun x s1 => opt (f x) fun d => Q d s1) X) : xUn f A ρ s Q X := h
theorem ck_nil (h : QL [] s) : (xNil : TL S) ρ s QL X := h
theorem ck_cons (h : A ρ s (fun x s1 => L ρ s1 (fun xs s2 => QL (x :: xs) s2) X) X) : xCons A L ρ s QL X := h
theorem ck_tup (h : L ρ s (fun xs s1 => xs.length ≤ sizeLine ∧ Q (.tup xs) s1) X) : xTup L ρ s Q X := h
theorem ck_lst (h : L ρ s (fun xs s1 => xs.length ≤ sizeLine ∧ Q (.lst xs) s1) X) : xLst L ρ s Q X := h
theorem ck_call {F : Fn} (h : L ρ s (fun ds s1 => opt (F ds) fun r => match r with
  | .ok d => Q d s1
  | .error x => X x s1) X) : xCall F L ρ s Q X := h
theorem ck_test {QB : Bool → S → Prop} (h : A ρ s (fun x s1 => opt (asB x) fun b => QB b s1) X) : bTest A ρ s QB X := h
theorem sq_setk (h : A ρ s (fun d s1 => U (ρ.set i (.d d)) s1 P) P.ex) : Run (pSeq (pSet A i) U) ρ s P := ⟨h⟩
theorem sq_ownk (h : A ρ s (fun d s1 => opt (ownOf d) fun u => U (ρ.set i (.own u)) s1 P) P.ex) : Run (pSeq (pOwn A i) U) ρ s P := ⟨h⟩
theorem sq_retk (h : A (frz ρ) s P.rt P.ex) : Run (pSeq (pRet A) U) ρ s P := ⟨h⟩
theorem sq_ifk (h : c ρ s (fun b s1 => if b = true then pSeq T U2 ρ s1 P else pSeq U U2 ρ s1 P) P.ex) : Run (pSeq (pIf c T U) U2) ρ s P := ⟨h⟩
theorem sq_park {j : Nat} (h : L ρ s (fun ds s1 => match ds with
  | [x, y] => U ((ρ.set i (.d x)).set j (.d y)) s1 P
  | _ => False) P.ex) : Run (pSeq (pPar L i j) U) ρ s P := ⟨h⟩
theorem sq_fork {gd : GD} (h : I ρ s (fun ds s1 => forT gd T { P with nx := fun ρ' s' => U ρ' s' P } ds ρ s1) P.ex) : Run (pSeq (pFor I gd T) U) ρ s P := ⟨h⟩
theorem sq_asgk {gd : GD} (h : A ρ s (fun d s1 => opt (gd d ρ) fun ρ' => U ρ' s1 P) P.ex) : Run (pSeq (pAsg A gd) U) ρ s P := ⟨h⟩
end
section
variable {n : Nat} {ρ : Env} {L : TL Nat} {p : Addr} {Q : D → Nat → Prop} {X : Exn → Nat → Prop}
theorem ck_draw {many : Int} (h : EvL L ρ n [.v (.ref p), dI many]) (h1 : 0 < many) (h2 : many.natAbs < 2 ^ 200) (h3 : n < 100000) (k : ∀ (d : Int) (n2 : Nat), 0 ≤ d → d < many → n ≤ n2 → n2 ≤ n + 1 → Q (dI d) n2) : xDraw p L ρ n Q X := h.to _ _ ⟨rfl, h1, h2, h3, k⟩
theorem ck_pen {Pre : List D → Prop} {kk : List D → Nat} {Post : List D → D → Prop} {ds : List D} (h : EvL L ρ n (.v (.ref p) :: ds)) (h1 : n + kk ds ≤ 100000) (h2 : Pre ds) (k : ∀ (d : D) (n2 : Nat), n ≤ n2 → n2 ≤ n + kk ds → Post ds d → Q d n2) : xPen p Pre kk Post L ρ n Q X := h.to _ _ ⟨rfl, h1, h2, k⟩
end
section
variable {P : Program} {w : World} {K : W.Frag} {mg : Str → Option Value} {base : Heap} {x qual : Str} {st : Stmt} {f : Addr} {fd : FuncData} {N ps : List Str} {k : Nat} {os : List Mo} {F : Fn}
theorem fn_dataR (Fd : Fun K x qual st f fd) (Sc : FnScope N ps (defScope st)) (hl : os.length = ps.length) (ho : os.all (fun o => match o with | .f => false | _ => true) = true)
    (hbody : ∀ (cdv : Value) (A : Around) (outer : List PySem.Env) (s : Shared) (H : Hp) (E : XK), Room k (A.deeper (envOfC qual (defScope st) s.heap.objs.size f cdv)) → Quiet (A.deeper (envOfC qual (defScope st) s.heap.objs.size f cdv)) →
      ∃ t, PSs (cxOf (L2.CX P w) P w K mg base N qual (defScope st) f cdv A outer s H E) (defBody st) t ∧
        ∀ (S : Type) (Γ : Fr S), ∃ T : TP S, LnS Γ K E t T ∧ ∀ (ds : List D) (r : Except Exn D) (s : S), F ds = some r → Run T (envD os N.length ds) s (postF s r)) :
    FnG P w K mg base (L2.CX P w) (k + 1) f fd ps (spF K os F) :=
  fn_data Fd Sc hl ho fun cdv A outer s H E hr hq => by
    obtain ⟨t, h1, h2⟩ := hbody cdv A outer s H E hr hq
    exact ⟨t, h1, fun S Γ => by
      obtain ⟨T, l, m⟩ := h2 S Γ
      exact ⟨T, l, fun ds r s e => (m ds r s e).go⟩⟩
theorem fn_penR {Pre : List D → Prop} {kk : List D → Nat} {Post : List D → D → Prop}
    (Fd : Fun K x qual st f fd) (Sc : FnScope N ps (defScope st)) (hl : os.length + 1 = ps.length) (ho : os.all (fun o => match o with | .f => false | _ => true) = true)
    (hbody : ∀ (cdv : Value) (A : Around) (outer : List PySem.Env) (s : Shared) (H : Hp) (E : XK), Room k (A.deeper (envOfC qual (defScope st) s.heap.objs.size f cdv)) → Quiet (A.deeper (envOfC qual (defScope st) s.heap.objs.size f cdv)) →
      ∃ t, PSs (cxOf (L2.CX P w) P w K mg base N qual (defScope st) f cdv A outer s H E) (defBody st) t ∧
        ∀ (p q : Addr) (ns : List Int), ∃ T : TP Nat, LnS (penFr p q ns) K E t T ∧ ∀ (ds : List D) (n : Nat), ds.length = os.length → Pre ds → n + kk ds ≤ 100000 → Run T (envD (.b :: os) N.length (.v (.ref p) :: ds)) n (postP n (kk ds) (Post ds))) :
    FnG P w K mg base (L2.CX P w) (k + 1) f fd ps (spP K os Pre kk Post) :=
  fn_pen Fd Sc hl ho fun cdv A outer s H E hr hq => by
    obtain ⟨t, h1, h2⟩ := hbody cdv A outer s H E hr hq
    exact ⟨t, h1, fun p q ns => by
      obtain ⟨T, l, m⟩ := h2 p q ns
      exact ⟨T, l, fun ds n a b c => (m ds n a b c).go⟩⟩
end
end L2.DL
/-! Calls by keywords; the law's own def -/
namespace L2.DL
open L2 L2.My NdefX PySem PySem.Spec PyProof.Rows

def swL {β : Type} (sw : Bool) (xs : List β) : List β := match sw, xs with
  | true, [a, b] => [b, a]
  | _, xs => xs
theorem swL_len {β : Type} {sw : Bool} {xs : List β} : (swL sw xs).length = xs.length := by
  unfold swL
  split <;> rfl
theorem vals_sw {sw : Bool} {vs : List V} {us : List Value} (r : Vals vs us) : Vals (swL sw vs) (swL sw us) := by
  cases sw with
  | false =>
    have e1 : swL false vs = vs := by unfold swL; split <;> first | rfl | simp_all
    have e2 : swL false us = us := by unfold swL; split <;> first | rfl | simp_all
    rw [e1, e2]
    exact r
  | true =>
    match vs, us, r with
    | [], _, .nil => exact .nil
    | [_], _, .cons a .nil => exact .cons a .nil
    | [_, _], _, .cons a (.cons b .nil) => exact .cons b (.cons a .nil)
    | _ :: _ :: _ :: _, _, .cons a (.cons b (.cons c r)) => exact .cons a (.cons b (.cons c r))
/-- a class called with keywords alone -/
structure MkW (P : Program) (w : World) (K : W.Frag) (mg : Str → Option Value) (base : Heap) (k : Nat) (x : Str) (C : Addr) (sp : Sp) (ks : List Str) (sw : Bool) : Prop where
  ex : ∃ (f : Addr) (fd : FuncData) (ps : List Str), Mk K C f ∧ FnG P w K mg base (L2.CX P w) k f fd ps sp ∧ (∀ (s : Shared) (self : Value) (ws : List Value), ws.length = ks.length → BindsTo s fd ⟨[self], ks.zip ws⟩ (ps.zip (self :: swL sw ws)))
  nm : mg x = some (.ref C)
def tSw (n : Nat) (sw : Bool) (t : TA) : TA := fun σ H Q => t σ H fun zs H1 => zs.length = n ∧ Q (swL sw zs) H1
/-- a def called with keywords alone -/
structure CalW (P : Program) (w : World) (K : W.Frag) (mg : Str → Option Value) (base : Heap) (CX : CXT) (k : Nat) (x : Str) (sp : Sp) (ks : List Str) (sw : Bool) : Prop where
  ex : ∃ (f : Addr) (fd : FuncData) (ps : List Str), FnG P w K mg base CX k f fd ps sp ∧ mg x = some (.ref f) ∧ W.keepIn K (.ref f) = true ∧ (∀ (s : Shared) (ws : List Value), ws.length = ks.length → BindsTo s fd ⟨[], ks.zip ws⟩ (ps.zip (swL sw ws)))
section
variable {X : Cx} {CX : CXT} {k n : Nat} {f C : Addr} {fd : FuncData} {ps ks : List Str} {sp : Sp} {E : XK} {x : Str} {p pos : Pos} {e : Expr} {kws : List Keyword} {t : TA} {sw : Bool}
theorem run_mkw {pins : List (Addr × Obj)} {σ : St} {H : Hp} {s : Shared} {Q : VK} {ws : List Value} {vs : List V} (M : Mk X.K C f) (F : FnG X.prog X.w X.K X.mg X.base CX k f fd ps sp) (hr : Room (k + 1) X.A) (hq : My.Quiet X.A)
    (hb : ∀ (s : Shared) (self : Value) (ws : List Value), ws.length = ks.length → BindsTo s fd ⟨[self], ks.zip ws⟩ (ps.zip (self :: swL sw ws))) (hx : Passes CX X E) (I : Inv X pins σ H s) (r : Vals vs ws) (hl : vs.length = ks.length)
    (h : ∀ x dx, H x = none → H dx = none → dx ≠ x → sp (.ref x :: swL sw vs) (upd (upd H dx (.own x)) x (.ins C dx [])) (fun v H2 => v = .non ∧ Q (.ref x) H2) E) : wpAny (model X.prog X.w) X.A (call (.ref C) [] (ks.zip ws)) (EP X pins σ Q) X.xe s := by
  have h' := h (s.heap.objs.size + 1) s.heap.objs.size (I.hok.fresh (Nat.le_succ _)) (I.hok.fresh (Nat.le_refl _)) (Nat.ne_of_lt (Nat.lt_succ_self _))
  have I2 := Inv.made (C := C) I
  have hq2 : My.Quiet (X.A.under (.builtin "type.__call__" ⟨.ref C :: [], ks.zip ws⟩)) := by
    unfold My.Quiet Around.under
    rw [show X.A.guards = some [] from hq]
    rfl
  refine wpAny_call (make_map (f := f) I.kIn M.makes M.init (beq_iff_eq.mp M.fn) (codeAny_mono (F.runs _ X.stack _ _ ⟨[Value.ref (s.heap.objs.size + 1)], ks.zip ws⟩ _ (V.ref (s.heap.objs.size + 1) :: swL sw vs) _ E (hr.make C [] (ks.zip ws)) hq2 (I2.env0.make C [] (ks.zip ws)) (hb _ _ ws (r.length.symm.trans hl)) (.cons rfl (vals_sw r)) h') ?_))
  intro res s' z
  match res, z with
  | .error er, z => exact hx pins σ _ _ er s' I2 z
  | .ok (.ret u), z =>
    obtain ⟨v, H', I3, rv, rfl, q⟩ := I2.after z
    exact ⟨rv, .ref (s.heap.objs.size + 1), H', I3, rfl, q⟩
theorem run_gkw {pins : List (Addr × Obj)} {σ : St} {H : Hp} {s : Shared} {Q : VK} {ws : List Value} {vs : List V} (F : FnG X.prog X.w X.K X.mg X.base CX k f fd ps sp) (hr : Room k X.A) (hq : My.Quiet X.A)
    (hb : ∀ (s : Shared) (ws : List Value), ws.length = ks.length → BindsTo s fd ⟨[], ks.zip ws⟩ (ps.zip (swL sw ws))) (hx : Passes CX X E) (I : Inv X pins σ H s) (r : Vals vs ws) (hl : vs.length = ks.length)
    (h : sp (swL sw vs) H Q E) : wpAny (model X.prog X.w) X.A (call (.ref f) [] (ks.zip ws)) (EP X pins σ Q) X.xe s := by
  refine wpAny_call (codeAny_mono (F.runs X.A X.stack s H ⟨[], ks.zip ws⟩ _ _ Q E hr hq I.env0 (hb s ws (r.length.symm.trans hl)) (vals_sw r) h) ?_)
  intro res s' z
  match res, z with
  | .error er, z => exact hx pins σ H s er s' I z
  | .ok (.ret u), z => exact I.after z
/-- X(k = v, ..) of a class -/
theorem pe_mkw (c : MkW X.prog X.w X.K X.mg X.base k x C sp ks sw) (hr : Room n X.A) (hk : k + 1 ≤ n) (hq : My.Quiet X.A) (hg : Gl X x) (hx : Passes (L2.CX X.prog X.w) X E) (hkw : PK X kws t)
    (hall : (backToKw pos (keywordEach kws X.env)).all (·.1.isSome) = true := by rfl) (hks : (backToKw pos (keywordEach kws X.env)).filterMap (·.1) = ks := by rfl) (hdb : (x == ("__debug__" : Str)) = false := by decide)
    (hpl : ((backTo pos (starEach [] X.env)).any (·.1) || (backToKw pos (keywordEach kws X.env)).any (·.1.isNone)) = false := by rfl) :
    PE X (.Call (.Name x p) [] kws pos) (tMk C sp E (tSw ks.length sw t)) := by
  obtain ⟨f, fd, ps, M, F, hb⟩ := c.ex
  constructor
  intro pins s σ H Q I h
  refine wpAny_Call_Name_kw (ld_glob I hg c.nm ?_ hdb)
  refine W.callWith_KW0 (h₀ := X.base) I.ok.mod.kin M.kp hall ?_ hpl
  refine thn (hkw.run pos pins s σ H _ I h) ?_
  rintro ws s1 ⟨vs, H1, I1, r, hl, q⟩
  refine ⟨I1.kIn, ?_⟩
  rw [hks]
  exact run_mkw M F (hr.mono hk) hq hb hx I1 r hl q
/-- f(k = v, ..) of a def -/
theorem pe_gkw {j : Nat} (c : CalW X.prog X.w X.K X.mg X.base CX j x sp ks sw) (hr : Room k X.A) (hjk : j ≤ k) (hq : My.Quiet X.A) (hx : Passes CX X E) (hg : Gl X x) (hkw : PK X kws t)
    (hall : (backToKw pos (keywordEach kws X.env)).all (·.1.isSome) = true := by rfl) (hks : (backToKw pos (keywordEach kws X.env)).filterMap (·.1) = ks := by rfl) (hdb : (x == ("__debug__" : Str)) = false := by decide)
    (hpl : ((backTo pos (starEach [] X.env)).any (·.1) || (backToKw pos (keywordEach kws X.env)).any (·.1.isNone)) = false := by rfl) :
    PE X (.Call (.Name x p) [] kws pos) (tCall sp [] E (tSw ks.length sw t)) := by
  obtain ⟨f, fd, ps, F, hm, hk, hb⟩ := c.ex
  constructor
  intro pins s σ H Q I h
  refine wpAny_Call_Name_kw (ld_glob I hg hm ?_ hdb)
  refine W.callWith_KW0 (h₀ := X.base) I.ok.mod.kin hk hall ?_ hpl
  refine thn (hkw.run pos pins s σ H _ I h) ?_
  rintro ws s1 ⟨vs, H1, I1, r, hl, q⟩
  refine ⟨I1.kIn, ?_⟩
  rw [hks]
  rw [List.append_nil] at q
  exact run_gkw (F.up hjk) hr hq hb hx I1 r hl q
end
section
variable {S : Type} {Γ : Fr S} {K : W.Frag} {E : XK} {tl : TA} {L : TL S} {os : List Mo}
def xSw (sw : Bool) (L : TL S) : TL S := fun ρ s Q X => L ρ s (fun ds s1 => Q (swL sw ds) s1) X
theorem arel_sw {g m : Msk} {H0 H : Hp} {sw : Bool} : ∀ {os : List Mo} {vs : List V} {ds : List D}, ARel K g os m H0 H vs ds → ARel K g (swL sw os) m H0 H (swL sw vs) (swL sw ds) := by
  intro os vs ds r
  obtain ⟨l1, l2⟩ := ARel.len r
  cases sw with
  | false =>
    have e : ∀ {β : Type} (xs : List β), swL false xs = xs := fun xs => by unfold swL; split <;> first | rfl | simp_all
    rw [e, e, e]
    exact r
  | true =>
    match os, vs, ds, r, l1, l2 with
    | [], [], [], r, _, _ => exact r
    | [_], [_], [_], r, _, _ => exact r
    | [_, _], [_, _], [_, _], r, _, _ => exact ⟨r.2.1, r.1, trivial⟩
    | _ :: _ :: _ :: _, _ :: _ :: _ :: _, _ :: _ :: _ :: _, r, _, _ => exact r
theorem ln_sw {n : Nat} {sw : Bool} {os' : List Mo} (hn : os.length = n) (ho : swL sw os = os') (h : LnA Γ K E os tl L) : LnA Γ K E os' (tSw n sw tl) (xSw sw L) := by
  subst ho
  intro M α σ H ρ s ok st QD QX Q q k kx
  refine h ok st _ QX _ q (fun vs H1 ds s1 p1 st1 r z => ?_) kx
  exact ⟨by rw [(ARel.len r).1, hn], k _ H1 _ s1 p1 st1 (arel_sw r) z⟩
theorem ev_sw1 {ρ : Env} {s : S} {ds : List D} (h : EvL L ρ s ds) : EvL (xSw false L) ρ s ds := ⟨fun Q X q => h.to _ _ (by
  have e : swL false ds = ds := by unfold swL; split <;> first | rfl | simp_all
  rw [e]
  exact q)⟩
theorem ev_sw2 {ρ : Env} {s : S} {x y : D} (h : EvL L ρ s [x, y]) : EvL (xSw true L) ρ s [y, x] := ⟨fun Q X q => h.to _ _ q⟩
theorem ev_sw {ρ : Env} {s : S} {ds : List D} {sw : Bool} (h : EvL L ρ s ds) : EvL (xSw sw L) ρ s (swL sw ds) := ⟨fun Q X q => h.to _ _ q⟩
end

section
variable {S : Type} {Γ : Fr S} {K : W.Frag} {E : XK} {tl : TA} {L : TL S}
def pPar3 (L : TL S) (i j l : Nat) : TP S := fun ρ s P => L ρ s (fun ds s1 => match ds with
  | [x, y, z] => P.nx (((ρ.set i (.d x)).set j (.d y)).set l (.d z)) s1
  | _ => False) P.ex
theorem three {β : Type} {xs : List β} (h : xs.length = 3) : ∃ a b c, xs = [a, b, c] := by
  match xs, h with
  | [a, b, c], _ => exact ⟨a, b, c, rfl⟩
theorem ls_par3 {i j l : Nat} (h : LnA Γ K E [.s, .s, .s] tl L) : LnS Γ K E (tPar3 i j l tl) (pPar3 L i j l) := by
  intro M α σ H ρ s ok st P Dn q kn kb kc kr kx
  refine h ok st _ P.ex _ q (fun vs H' ds s' p st' r z => ?_) (fun c dx H' x s' p st' r z => kx c dx H' x s' (stS_end p) st' (r.mono fun _ z => .inl z) z)
  obtain ⟨l1, l2⟩ := ARel.len r
  obtain ⟨v, w, u, rfl⟩ := three l1
  obtain ⟨x, y, d, rfl⟩ := three l2
  obtain ⟨r1, r2, r3, _⟩ := r
  have ok1 := (ok.step p).setD (i := i) r1
  have ok2 := ok1.setD (i := j) (R.same (cut_mono (mask_set_sub rfl)) r2)
  have ok3 := ok2.setD (i := l) (R.same (cut_mono fun a z => mask_set_sub rfl a (mask_set_sub rfl a z)) r3)
  exact ⟨v, w, u, rfl, kn _ H' _ s' α ok3 st' (.of (fun a z => wmask_set_sub rfl a (wmask_set_sub rfl a (wmask_set_sub rfl a z))) p fun _ z => .inl z) z⟩
variable {ρ : Env} {s : S} {U : TP S} {P : Post S} {x y z : D} {i j l : Nat}
theorem sq_par3 (h : EvL L ρ s [x, y, z]) (k : Run U (((ρ.set i (.d x)).set j (.d y)).set l (.d z)) s P) : Run (pSeq (pPar3 L i j l) U) ρ s P := ⟨h.to _ _ k.go⟩
theorem sq_par3k (h : L ρ s (fun ds s1 => match ds with
  | [x, y, z] => U (((ρ.set i (.d x)).set j (.d y)).set l (.d z)) s1 P
  | _ => False) P.ex) : Run (pSeq (pPar3 L i j l) U) ρ s P := ⟨h⟩
/-- a cut: what holds between -/
theorem sq_cut {T : TP S} (J : Env → S → Prop) (h : Run (pSeq T pNext) ρ s { P with nx := J }) (k : ∀ ρ' s', J ρ' s' → Run U ρ' s' P) : Run (pCut T U) ρ s P := ⟨J, h.go, fun ρ' s' j => (k ρ' s' j).go⟩
theorem rn_seq {T : TP S} (h : Run (pSeq T pNext) ρ s P) : Run T ρ s P := ⟨h.go⟩
theorem sq_done (h : P.nx ρ s) : Run (pSeq pNext pNext) ρ s P := ⟨h⟩
end
/-! ### the law's def: a pen is made, then data beside it -/
def spLaw (K : W.Frag) : Sp := fun vs H Q _ => ∃ (a : Addr) (ns : List Int), vs = [.ref a] ∧ SqL K H a (ns.map V.int) ∧ ∀ H', Q (.bl true) H'
def lawE (n : Nat) (p : Addr) : Env := .no :: .d (.v (.ref p)) :: List.replicate (n - 2) .no
def postW : Post Nat where
  nx := fun _ _ => False
  rt := fun d _ => d = dB true
section
variable {P : Program} {w : World} {K : W.Frag} {mg : Str → Option Value} {base : Heap} {st : Stmt} {f : Addr} {fd : FuncData} {N : List Str} {k : Nat} {r1 : Stmt} {rest : List Stmt}
theorem fn_law (Fd : Fun K "law" "law" st f fd) (Sc : FnScope N ["_law_script"] (defScope st)) (h2 : 2 ≤ N.length) (hst : defBody st = r1 :: rest)
    (hbody : ∀ (cdv : Value) (A : Around) (outer : List PySem.Env) (s : Shared) (H : Hp), Room k (A.deeper (envOfC "law" (defScope st) s.heap.objs.size f cdv)) → Quiet (A.deeper (envOfC "law" (defScope st) s.heap.objs.size f cdv)) →
      ∃ t, PS (cxOf CX0 P w K mg base N "law" (defScope st) f cdv A outer s H E0).nox r1 (tAsg (tCall (spPen K) [] E0 (tCons (tVar 0) tNil)) (gName 1)) ∧ PSs (cxOf CX0 P w K mg base N "law" (defScope st) f cdv A outer s H E0).nox rest t ∧
        ∀ (p q : Addr) (ns : List Int), ∃ T : TP Nat, LnS (penFr p q ns) K E0 t T ∧ Run T (lawE N.length p) 0 postW) :
    FnG P w K mg base CX0 (k + 1) f fd ["_law_script"] (spLaw K) := by
  refine body_g0 Fd Sc ?_ ?_
  · rintro vs H Q E ⟨a, ns, rfl, _⟩
    rfl
  rintro cdv A outer s H vs Q E hr hq ⟨a0, ms, rfl, sa, z⟩
  obtain ⟨t, h1, h2', hT⟩ := hbody cdv A outer s H hr hq
  rw [hst]
  refine ⟨_, pss_cons h1 h2', ?_⟩
  have hN : N.length = N.length - 2 + 2 := by omega
  refine ⟨V.ref a0, rfl, ⟨a0, ms, rfl, sa, fun p q ns H' sm hp pen => ?_⟩⟩
  obtain ⟨T, lt, main⟩ := hT p q ns
  have pM : ∀ a, (penFr p q ns).M a → H' a ≠ none := by
    rintro a (rfl | rfl)
    · rw [pen.pen]; exact fun z => by cases z
    · rw [pen.cells]; exact fun z => by cases z
  have no : ∀ i, ¬ ownAt (lawE N.length p) i := by
    rintro i ⟨sl, e, o⟩
    match i with
    | 0 => cases e; cases o
    | 1 => cases e; cases o
    | i + 2 =>
      unfold lawE at e
      rw [List.getElem?_cons_succ, List.getElem?_cons_succ, List.getElem?_replicate] at e
      split at e
      · cases e; cases o
      · cases e
  have ok : Ok (penFr p q ns) K (penFr p q ns).M (fun _ => 0) ((start N [V.ref a0]).set 1 (some (.ref p))) H' (lawE N.length p) := by
    refine ⟨fun _ z => z, pM, fun i o => absurd o (no i), fun i j a b => absurd a (no i), ?_, fun i sl e => ?_, fun a z => by cases z⟩
    · unfold start lawE
      simp only [List.length_set, List.length_append, List.length_map, List.length_replicate, List.length_cons, List.length_nil]
      omega
    · match i with
      | 0 => cases e; trivial
      | 1 =>
        cases e
        refine ⟨.ref p, ?_, .v _⟩
        rw [List.getElem?_set_self]
        unfold start
        simp only [List.length_append, List.length_map, List.length_replicate, List.length_cons, List.length_nil]
        omega
      | i + 2 =>
        unfold lawE at e
        rw [List.getElem?_cons_succ, List.getElem?_cons_succ, List.getElem?_replicate] at e
        split at e
        · cases e; trivial
        · cases e
  exact lt ok ⟨0, pen⟩ postW _ main.go (fun _ _ _ _ _ _ _ _ z => z.elim) (fun _ _ _ _ _ _ _ _ z => z.elim) (fun _ _ _ _ _ _ _ _ z => z.elim) (fun v H2 d s' _ _ r e => by
    rw [e] at r
    cases r
    exact z H2) (fun _ _ _ _ _ _ _ _ z => z.elim)
end
end L2.DL
/-! Comprehensions of any sort: a turn does something with the thing that is being made -/
namespace L2.DL
open L2 L2.My PySem PySem.Spec PyProof.Rows

/-- one turn of one clause: act is what is done where the tests are passed, ag the next turn -/
def turnG (p : Pos) (tg : Expr) (ifs : List Expr) (it : Value) (env : PySem.Env) (act : Sem Fin → Sem Fin) (ag : Sem Fin) : Sem Fin := do
  standAt p
  match ← pyNext it with
  | none => pure (.done .next)
  | some v =>
    letOwnedTupleGo tg it v
    assign tg env v
    let mut ok := true
    for c in ifs do
      if ok then ok ← isTrue c env (eval c env)
    if ok then act ag else ag
abbrev testsG (ifs : List Expr) (env : PySem.Env) : Sem Bool := forIn ifs true fun c r => if r = true then do let ok ← isTrue c env (eval c env); pure (ForInStep.yield ok) else pure (ForInStep.yield r)
section
variable {prog : Program} {w : World} {A : Around} {s : Shared}
theorem wp_turnG {p : Pos} {tg : Expr} {ifs : List Expr} {it : Value} {env : PySem.Env} {act : Sem Fin → Sem Fin} {ag : Sem Fin} {Q : Fin → Shared → Prop} {E : Value → Shared → Prop}
    (h : wpAny (model prog w) A (pyNext it) (fun r s1 => match r with
      | none => Q (.done .next) s1
      | some v => wpAny (model prog w) A (letOwnedTupleGo tg it v) (fun _ s2 => wpAny (model prog w) A (assign tg env v) (fun _ s3 => wpAny (model prog w) A (testsG ifs env) (fun ok s4 =>
          if ok = true then wpAny (model prog w) A (act ag) Q E s4 else wpAny (model prog w) A ag Q E s4) E s3) E s2) E s1) E s) :
    wpAny (model prog w) A (turnG p tg ifs it env act ag) Q E s := by
  unfold turnG
  refine wpAny_bind (wpAny_standAt (wpAny_bind (wpAny_mono h (fun r s1 h1 => ?_) fun _ _ z => z)))
  match r, h1 with
  | none, h1 => exact wpAny_pure h1
  | some v, h1 =>
    refine wpAny_bind (wpAny_mono h1 (fun _ s2 h2 => wpAny_bind (wpAny_mono h2 (fun _ s3 h3 => wpAny_bind (wpAny_mono h3 (fun ok s4 h4 => ?_) fun _ _ z => z)) fun _ _ z => z)) fun _ _ z => z)
    cases ok with
    | false => exact h4
    | true => exact h4
/-- what the machine does for a clause's loop -/
structure NodeL (prog : Program) (w : World) (node : Expr) (lvl : Nat) (it acc : Value) (env : PySem.Env) : Prop where
  un : ∀ A : Around, A.under (.compLoop node lvl it acc env) = A
  de : (model prog w).den (.compLoop node lvl it acc env) = (compTurn node lvl it acc env).onRaise fun x => do noteFrame x env; theTreesLotGoes x
  qu : (Code.compLoop node lvl it acc env).quiet = true
/-- the loop of a clause -/
theorem loopG {node : Expr} {lvl : Nat} {p : Pos} {tg : Expr} {ifs : List Expr} {it acc : Value} {env : PySem.Env} {act : Sem Fin → Sem Fin} {R : Result → Shared → Prop}
    (nl : NodeL prog w node lvl it acc env) (ht : compTurn node lvl it acc env = turnG p tg ifs it env act (again (.compLoop node lvl it acc env))) (I : Nat → Shared → Prop)
    (turn : ∀ n s, I n s → wpAny (model prog w) A (pyNext it) (fun r s1 => match r with
      | none => R (.ok .next) s1
      | some v => wpAny (model prog w) A (letOwnedTupleGo tg it v) (fun _ s2 => wpAny (model prog w) A (assign tg env v) (fun _ s3 => wpAny (model prog w) A (testsG ifs env) (fun ok s4 =>
          if ok = true then ∀ (Q : Fin → Shared → Prop) (E : Value → Shared → Prop) (k : Sem Fin), (∀ s5, (∃ m, m < n ∧ I m s5) → wpAny (model prog w) A k Q E s5) → wpAny (model prog w) A (act k) Q E s4 else ∃ m, m < n ∧ I m s4) (fun _ _ => False) s3) (fun _ _ => False) s2) (fun _ _ => False) s1) (fun _ _ => False) s)
    (n : Nat) (h : I n s) : codeAny (model prog w) A (.compLoop node lvl it acc env) R s := by
  refine codeAny_loop nl.qu I (fun n s hI => ?_) n h
  rw [nl.un, nl.de]
  refine wpAny_noted ?_
  rw [ht]
  have nof : ∀ {α : Type} {t : Sem α} {Q : α → Shared → Prop} {E : Value → Shared → Prop} {s : Shared}, wpAny (model prog w) A t Q (fun _ _ => False) s → wpAny (model prog w) A t Q E s := fun z => wpAny_mono z (fun _ _ q => q) fun _ _ q => q.elim
  have agn : ∀ {s' : Shared} {E : Value → Shared → Prop}, (∃ m, m < n ∧ I m s') → wpAny (model prog w) A (again (.compLoop node lvl it acc env)) (fun fin s' => match fin with
      | .done f => R (.ok f) s'
      | .again c' => c' = .compLoop node lvl it acc env ∧ ∃ m, m < n ∧ I m s') E s' := fun q => wpAny_pure ⟨rfl, q⟩
  refine wp_turnG (nof (wpAny_mono (turn n s hI) (fun r s1 h1 => ?_) fun _ _ z => z))
  match r, h1 with
  | none, h1 => exact h1
  | some v, h1 =>
    refine nof (wpAny_mono h1 (fun _ s2 h2 => nof (wpAny_mono h2 (fun _ s3 h3 => nof (wpAny_mono h3 (fun ok s4 h4 => ?_) fun _ _ z => z)) fun _ _ z => z)) fun _ _ z => z)
    cases ok with
    | false =>
      rw [if_neg (by decide)] at h4 ⊢
      exact agn h4
    | true =>
      rw [if_pos rfl] at h4 ⊢
      exact h4 _ _ _ fun s5 h5 => agn h5
end
/-- what a turn does, read: from slots and the heap to what the next turn wants; vs1: the slots that it forgets -/
structure PAc (Y : Cx) (act : Sem Fin → Sem Fin) (vs1 : List Nat) (ta : St → Hp → (Hp → Prop) → Prop) : Prop where
  run : ∀ (pins : List (Addr × Obj)) (s : Shared) (σ : St) (H : Hp) (Nx : Hp → Prop), Inv Y pins σ H s → ta σ H Nx → ∀ (Q : Fin → Shared → Prop) (E : Value → Shared → Prop) (k : Sem Fin), (∀ s' H', Inv Y pins (wipe σ vs1) H' s' → Nx H' → wpAny (model Y.prog Y.w) Y.A k Q E s') → wpAny (model Y.prog Y.w) Y.A (act k) Q E s
/-- a comprehension's reading: o0 D the thing at its start -/
def tCo (o0 : Addr → HO) (wi : TI) (g : TG) (tt : TT) (ta : Addr → St → Hp → (Hp → Prop) → Prop) (vs : List Nat) : TE := fun σ H Q => wi σ H fun J H1 => ∀ D, H1 D = none → ∃ W : Nat → Nat → Hp → Prop, (∃ m, W 0 m (upd H1 D (o0 D))) ∧ ∀ i m H, W i m H →
  (J.stop i H ∧ Q (.ref D) H) ∨ (J.go i H ∧ ∃ Nx : Hp → Prop, (∀ H', Nx H' → ∃ m', m' < m ∧ W (i + 1) m' H') ∧ ∀ x H', J.yld i H x H' → g x (wipe σ vs) H' fun σ2 H2 => wipe σ2 vs = wipe σ vs ∧ tt σ2 H2 fun b H3 => if b = true then ta D σ2 H3 Nx else Nx H3)
theorem wipe_back {σ σ2 : St} {vs vs1 : List Nat} (hw : wipe σ2 vs = wipe σ vs) (hv : ∀ i ∈ vs1, i ∈ vs) : ∀ (i : Nat) v, (wipe σ vs)[i]? = some (some v) → (wipe σ2 vs1)[i]? = some (some v) := fun i v e => by
  rw [← hw] at e
  obtain ⟨e1, e2⟩ := wipe_some e
  rw [wipe_out fun z => e2 (hv i z)]
  exact e1
section
variable {X : Cx} {pins : List (Addr × Obj)} {s : Shared} {σ : St} {H : Hp} {Q : VK}
/-- THE loop of the first clause, within the block -/
theorem co_loop {Y : Cx} {node tg : Expr} {ifs : List Expr} {p : Pos} {it D : Addr} {fp : List Addr} {tn : Nat → Heap → Prop} {J : It} {g : TG} {tt : TT} {ta : St → Hp → (Hp → Prop) → Prop} {vs vs1 : List Nat} {lvl : Nat} {act : Sem Fin → Sem Fin} {R : Result → Shared → Prop} {pn : List (Addr × Obj)} {H3 : Hp} {s4 : Shared} {Qe : Hp → Prop} {W : Nat → Nat → Hp → Prop} {m0 : Nat}
    (hc : Y.calm = true) (hxe : ∀ (e : Value) (s : Shared), Y.xe e s → False) (nl : NodeL Y.prog Y.w node lvl (.ref it) (.ref D) Y.env) (T : Turn Y.prog Y.w Y.K tg J fp it tn) (ht : compTurn node lvl (.ref it) (.ref D) Y.env = turnG p tg ifs (.ref it) Y.env act (again (.compLoop node lvl (.ref it) (.ref D) Y.env)))
    (pg : PG Y tg g) (pt : PTs Y ifs tt) (pa : PAc Y act vs1 ta) (hv : ∀ i ∈ vs1, i ∈ vs)
    (stat : ∀ {H' : Hp} {σ' : St} {s' : Shared}, Inv Y pn σ' H' s' → (∀ b ∈ fp, H' b = none) → ∀ b ∈ fp, FpOk Y pn H' b)
    (I4 : Inv Y pn (wipe σ vs) H3 s4) (st4 : tn 0 s4.heap) (nfp : ∀ b ∈ fp, H3 b = none) (w0 : W 0 m0 H3)
    (turn : ∀ i m H, W i m H → (J.stop i H ∧ Qe H) ∨ (J.go i H ∧ ∃ Nx : Hp → Prop, (∀ H', Nx H' → ∃ m', m' < m ∧ W (i + 1) m' H') ∧ ∀ x H', J.yld i H x H' → g x (wipe σ vs) H' fun σ2 H2 => wipe σ2 vs = wipe σ vs ∧ tt σ2 H2 fun b H3 => if b = true then ta σ2 H3 Nx else Nx H3))
    (fin : ∀ (s6 : Shared) (H6 : Hp), Inv Y pn (wipe σ vs) H6 s6 → Qe H6 → R (.ok .next) s6) :
    codeAny (model Y.prog Y.w) Y.A (.compLoop node lvl (.ref it) (.ref D) Y.env) R s4 := by
  refine loopG nl ht (fun n s' => ∃ i H', Inv Y pn (wipe σ vs) H' s' ∧ tn i s'.heap ∧ (∀ b ∈ fp, H' b = none) ∧ W i n H') ?_ m0 ⟨0, H3, I4, st4, nfp, w0⟩
  rintro n s5 ⟨i, H5, I5, st5, n5, w5⟩
  rcases turn i n H5 w5 with ⟨stop, qq⟩ | ⟨go, Nx, hNx, step⟩
  · refine wpAny_mono (T.done Y rfl rfl rfl hc i pn s5 _ H5 (fun _ _ => False) I5 (stat I5 n5) st5 stop) (fun r s6 ⟨hr, I6⟩ => ?_) fun _ _ z => z
    subst hr
    exact fin s6 H5 I6 qq
  · refine wpAny_mono (T.item Y rfl rfl rfl hc i pn s5 _ H5 (fun _ _ => False) I5 (stat I5 n5) st5 go) (fun r s6 ⟨u, hr, h6⟩ => ?_) fun _ _ z => z
    subst hr
    refine wpAny_mono h6 (fun _ s7 ⟨x, H7, I7, r7, y7, st7, n7⟩ => ?_) fun _ _ z => z
    have I7' := I7.pinned (stat I7 n7) (T.obj _ _ st7)
    have back : ∀ {s' : Shared} {H' : Hp} {σ' : St}, Inv Y (pn ++ pinsAt fp s7.heap) σ' H' s' → σ'.length = (wipe σ vs).length → (∀ (j : Nat) v, (wipe σ vs)[j]? = some (some v) → σ'[j]? = some (some v)) → Nx H' → ∃ m, m < n ∧ ∃ i H', Inv Y pn (wipe σ vs) H' s' ∧ tn i s'.heap ∧ (∀ b ∈ fp, H' b = none) ∧ W i m H' := fun {s' H' σ'} I' hl hk nx => by
      obtain ⟨m', lt, w'⟩ := hNx H' nx
      have still : ∀ b ∈ fp, ∀ o, s7.heap.get? b = some o → s'.heap.get? b = some o ∧ H' b = none := fun b hb o e =>
        ⟨(I'.pin (b, o) (List.mem_append_right _ (List.mem_append_right _ (mem_pinsAt hb e)))).1, (I'.pin (b, o) (List.mem_append_right _ (List.mem_append_right _ (mem_pinsAt hb e)))).2.1⟩
      refine ⟨m', lt, i + 1, H', I'.unpinned.weak hl.symm hk, T.keep _ _ _ st7 fun b hb o e => (still b hb o e).1, fun b hb => ?_, w'⟩
      obtain ⟨o, e, _⟩ := T.obj _ _ st7 b hb
      exact (still b hb o e).2
    refine wpAny_mono (pg.run _ s7 _ H7 x u _ I7' r7 (step x H7 y7)) (fun _ s8 ⟨σ8, H8, I8, hw8, q8⟩ => ?_) hxe
    have l8 : σ8.length = (wipe σ vs).length := by rw [← hw8, wipe_length]
    have k8 : ∀ (j : Nat) v, (wipe σ vs)[j]? = some (some v) → σ8[j]? = some (some v) := fun j v e => by
      rw [← hw8] at e
      exact (wipe_some e).1
    refine wpAny_mono (pt.run _ s8 σ8 H8 _ I8 q8) (fun ok s9 ⟨H9, I9, q9⟩ => ?_) hxe
    cases ok with
    | false =>
      rw [if_neg (by decide)] at q9 ⊢
      exact back I9 l8 k8 q9
    | true =>
      rw [if_pos rfl] at q9 ⊢
      exact fun Q E k hk => pa.run _ s9 σ8 H9 Nx I9 q9 Q E k fun s10 H10 I10 q10 => hk s10 (back I10 (by rw [wipe_length]; exact l8) (fun j v e => wipe_back hw8 hv j v e) q10)
/-- a sort of comprehension: what it makes at first, its turn, its start -/
structure Sort' (X : Cx) (node iter tg : Expr) (ifs : List Expr) (scope : Scope) (rest : List Comprehension) (newAcc : Sem Value) (ob : Obj) (o0 : Addr → HO) (act : Addr → PySem.Env → Sem Fin → Sem Fin) : Prop where
  cls : clausesOf node = ⟨tg, iter, ifs, 0⟩ :: rest
  evl : ∃ pos', eval node X.env = comprehension node scope X.env pos' newAcc false (eval iter X.env)
  new : ∀ {s : Shared} {Q E : Value → Shared → Prop}, Q (.ref s.heap.objs.size) { s with heap := s.heap.push ob } → wpAny (model X.prog X.w) X.A newAcc Q E s
  isO : ∀ (H : Hp) (h : Heap), sysModules < h.objs.size → ObjOk X.prog X.w H (h.push ob) h.objs.size (o0 h.objs.size)
  trn : ∀ (it D : Addr) (env : PySem.Env), compTurn node 0 (.ref it) (.ref D) env = turnG iter.pos tg ifs (.ref it) env (act D env) (again (.compLoop node 0 (.ref it) (.ref D) env))
  nod : ∀ (it D : Addr) (env : PySem.Env), NodeL X.prog X.w node 0 (.ref it) (.ref D) env
  sta : ∀ {it acc : Value} {env : PySem.Env} {R : Result → Shared → Prop} {s : Shared}, codeAny (model X.prog X.w) X.A (.compLoop node 0 it acc env) R s → (∀ (Q : Value → Shared → Prop) (E : Value → Shared → Prop), Q it s → wpAny (model X.prog X.w) X.A (pyIter it) Q E s) → codeAny (model X.prog X.w) X.A (.compStart node 0 it acc env) R s
  fol : ∀ x, foldedSetIterable iter X.env x = pure x
/-- a comprehension, whatever is done with it -/
theorem co_core {use : Option (Value → Sem Unit)} {Qf : Value → Shared → Prop} {pos' : Pos} {node iter tg : Expr} {ifs : List Expr} {scope : Scope} {rest : List Comprehension} {newAcc : Sem Value} {ob : Obj} {o0 : Addr → HO} {act : Addr → PySem.Env → Sem Fin → Sem Fin} {own : List (Str × Nat)} {vs1 : List Nat} {wi : TI} {g : TG} {tt : TT} {ta : Addr → St → Hp → (Hp → Prop) → Prop}
    (so : Sort' X node iter tg ifs scope rest newAcc ob o0 act) (hc : X.calm = true) (hN : X.N.Nodup) (hi : PI X tg iter wi) (ok : BlkOk X.N X.env.scope scope own) (hv : ∀ i ∈ vs1, i ∈ own.map (·.2))
    (hg : ∀ (s : Shared) (H : Hp) (C : Addr) (cl : List (Str × Addr)) (fp : List Addr), PG (X.blk s H scope (compEnvC scope cl C X.env) fp) tg g) (ht : ∀ (s : Shared) (H : Hp) (C : Addr) (cl : List (Str × Addr)) (fp : List Addr), PTs (X.blk s H scope (compEnvC scope cl C X.env) fp) ifs tt)
    (ha : ∀ (s : Shared) (H : Hp) (C : Addr) (cl : List (Str × Addr)) (fp : List Addr) (D : Addr), PAc (X.blk s H scope (compEnvC scope cl C X.env) fp) (act D (compEnvC scope cl C X.env)) vs1 (ta D))
    (I : Inv X pins σ H s) (h : tCo o0 wi g tt ta (own.map (·.2)) σ H Q)
    (hRR : ∀ D C s' m H', Inv X pins σ H' s' → Q (.ref D) H' → s'.heap.Ns C m → FpOk X pins H' C → compPost (model X.prog X.w) X.A X.xe use Qf (.ref D) C (.ok .next) s') :
    wpAny (model X.prog X.w) X.A (comprehension node scope X.env pos' newAcc false (eval iter X.env) use) Qf X.xe s := by
  have free : ∀ y ∈ scope.names, y.2 = .free → ∃ c, X.env.cells.lookup y.1 = some c := fun y hy e => (ok.free y hy e).elim (fun z => I.ok.has _ (.inl z)) fun z => I.ok.has _ (.inr z)
  refine wpAny_comprehension_free (use := use) so.cls so.fol (closure_ok free) ok.kind (fun y hy e => by rw [ok.uniq y hy, e]) (thn (hi.run pins s σ H _ I h) fun xv s1 hx => thn hx fun itv s2 h2 => ?_)
  obtain ⟨it, fp, tn, J, H2, rfl, I2, T, st2, f2, q⟩ := h2
  refine so.new (newEnv_comp ?_)
  have hDn : H2 s2.heap.objs.size = none := I2.hok.fresh (Nat.le_refl _)
  obtain ⟨W, ⟨m0, w0⟩, turn⟩ := q _ hDn
  have I3 : Inv X pins σ (upd H2 s2.heap.objs.size (o0 s2.heap.objs.size)) { s2 with heap := s2.heap.push ob } := I2.laid (t' := s2.toks) (fun b o e => Heap.get?_push_of_some _ e) (Nat.le_refl _) (so.isO _ _ I2.big)
  have there : ∀ b ∈ fp, b < s2.heap.objs.size := fun b hb => let ⟨_, e, _⟩ := T.obj _ _ st2 b hb; Heap.lt_size e
  have f3 : ∀ b ∈ fp, FpOk X pins (upd H2 s2.heap.objs.size (o0 s2.heap.objs.size)) b ∧ b < (s2.heap.push ob).objs.size := fun b hb =>
    ⟨⟨by rw [upd_ne (Nat.ne_of_lt (there b hb))]; exact (f2 b hb).1, (f2 b hb).2⟩, by rw [Heap.size_push]; exact Nat.lt_succ_of_lt (there b hb)⟩
  have st3 : tn 0 (s2.heap.push ob) := T.keep _ _ _ st2 fun b _ o e => Heap.get?_push_of_some _ e
  revert I3 f3 st3
  generalize hs3 : ({ s2 with heap := s2.heap.push ob } : Shared) = s3
  have e3 : s2.heap.push ob = s3.heap := by rw [← hs3]
  rw [e3]
  generalize upd H2 s2.heap.objs.size (o0 s2.heap.objs.size) = H3 at w0 ⊢
  intro I3 f3 st3
  have I4 := block_start I3 ok hN f3
  have pg := hg s3 H3 s3.heap.objs.size (cellsFrom (s3.heap.objs.size + 1) scope.names (cloFrom X.env.cells scope.names [])) fp
  have pt := ht s3 H3 s3.heap.objs.size (cellsFrom (s3.heap.objs.size + 1) scope.names (cloFrom X.env.cells scope.names [])) fp
  have pa := ha s3 H3 s3.heap.objs.size (cellsFrom (s3.heap.objs.size + 1) scope.names (cloFrom X.env.cells scope.names [])) fp s2.heap.objs.size
  show codeAny _ _ (.compStart node 0 (.ref it) (.ref s2.heap.objs.size) (compEnvC scope (cellsFrom (s3.heap.objs.size + 1) scope.names (cloFrom X.env.cells scope.names [])) s3.heap.objs.size X.env)) (compPost (model X.prog X.w) X.A X.xe use Qf (.ref s2.heap.objs.size) s3.heap.objs.size) { s3 with heap := pushCells (s3.heap.push { cls := .type "dict", data := .dict #[] }) scope.names }
  have cL : (compEnvC scope (cellsFrom (s3.heap.objs.size + 1) scope.names (cloFrom X.env.cells scope.names [])) s3.heap.objs.size X.env).locals = s3.heap.objs.size := rfl
  revert I4 pg pt pa cL
  generalize compEnvC scope (cellsFrom (s3.heap.objs.size + 1) scope.names (cloFrom X.env.cells scope.names [])) s3.heap.objs.size X.env = ce
  generalize hs4 : ({ s3 with heap := pushCells (s3.heap.push { cls := .type "dict", data := .dict #[] }) scope.names } : Shared) = s4
  intro I4 pg pt pa cL
  have st4 : tn 0 s4.heap := T.keep _ _ _ st3 fun b _ o e => by rw [← hs4]; exact pushCells_keeps _ _ _ _ (Heap.get?_push_of_some _ e)
  have loop := co_loop (Y := X.blk s3 H3 scope ce fp) (node := node) (lvl := 0) (D := s2.heap.objs.size) (σ := σ) (R := compPost (model X.prog X.w) X.A X.xe use Qf (.ref s2.heap.objs.size) s3.heap.objs.size) hc (fun _ _ z => z) (so.nod it s2.heap.objs.size ce) T (so.trn it s2.heap.objs.size ce) pg pt pa hv
    (fun {H' σ' s'} I' hn b hb => ⟨hn b hb, (I'.ok.exf b hb).1, I'.ok.exfs b hb, .inl hb, fun x c e => (I'.ok.exf b hb).2 x c e, fun p hp => absurd (show p ∈ ([] : List (Addr × Obj)) ++ [] from hp) (by simp)⟩)
    I4 st4 (fun b hb => (f3 b hb).1.1) w0 turn fun s6 H6 I6 qq => by
      have I7 : Inv X pins σ H6 s6 := I3.call' (ch := fp) I6.os I6.base I6.hok I6.bare fun b hb => ⟨(f3 b hb).1.2.2.2.1, (f3 b hb).1.2.1, (f3 b hb).1.2.2.2.2.1, (f3 b hb).1.2.2.2.2.2⟩
      have nC : H6 s3.heap.objs.size = none := by
        have z : H6 ce.locals = none := I6.free
        rwa [cL] at z
      obtain ⟨m, hn, _⟩ := I6.loc
      have hn : s6.heap.Ns ce.locals m := hn
      rw [cL] at hn
      exact hRR _ _ s6 m H6 I7 qq hn (I3.fpOk (Nat.le_refl _) nC)
  exact so.sta loop fun Q E q => T.self X.A 0 _ _ _ st4 q
/-- a comprehension as a value -/
theorem pe_co {node iter tg : Expr} {ifs : List Expr} {scope : Scope} {rest : List Comprehension} {newAcc : Sem Value} {ob : Obj} {o0 : Addr → HO} {act : Addr → PySem.Env → Sem Fin → Sem Fin} {own : List (Str × Nat)} {vs1 : List Nat} {wi : TI} {g : TG} {tt : TT} {ta : Addr → St → Hp → (Hp → Prop) → Prop}
    (so : Sort' X node iter tg ifs scope rest newAcc ob o0 act) (hc : X.calm = true) (hN : X.N.Nodup) (hi : PI X tg iter wi) (ok : BlkOk X.N X.env.scope scope own) (hv : ∀ i ∈ vs1, i ∈ own.map (·.2))
    (hg : ∀ (s : Shared) (H : Hp) (C : Addr) (cl : List (Str × Addr)) (fp : List Addr), PG (X.blk s H scope (compEnvC scope cl C X.env) fp) tg g) (ht : ∀ (s : Shared) (H : Hp) (C : Addr) (cl : List (Str × Addr)) (fp : List Addr), PTs (X.blk s H scope (compEnvC scope cl C X.env) fp) ifs tt)
    (ha : ∀ (s : Shared) (H : Hp) (C : Addr) (cl : List (Str × Addr)) (fp : List Addr) (D : Addr), PAc (X.blk s H scope (compEnvC scope cl C X.env) fp) (act D (compEnvC scope cl C X.env)) vs1 (ta D)) :
    PE X node (tCo o0 wi g tt ta (own.map (·.2))) := by
  refine ⟨fun pins s σ H Q I h => ?_⟩
  obtain ⟨pos', he⟩ := so.evl
  rw [he]
  refine co_core so hc hN hi ok hv hg ht ha I h fun D C s' m H' I' q hn f => ⟨m, hn, fun h'' sb => ?_⟩
  obtain ⟨y0, y1, y2, y3, y4, y5⟩ := f
  exact ⟨.ref D, H', I'.turned (t' := s'.toks) (fun b o hb e => (sb.2 b hb).trans e) y0 y1 y3 y4 y5, rfl, q⟩
/-- name = comprehension on one line, the name a local -/
theorem ps_setCo {i : Nat} {y : Str} {py spos : Pos} {node iter tg : Expr} {ifs : List Expr} {scope : Scope} {rest : List Comprehension} {newAcc : Sem Value} {ob : Obj} {o0 : Addr → HO} {act : Addr → PySem.Env → Sem Fin → Sem Fin} {own : List (Str × Nat)} {vs1 : List Nat} {wi : TI} {g : TG} {tt : TT} {ta : Addr → St → Hp → (Hp → Prop) → Prop}
    (so : Sort' X node iter tg ifs scope rest newAcc ob o0 act) (hc : X.calm = true) (hN : X.N.Nodup) (hi : PI X tg iter wi) (ok : BlkOk X.N X.env.scope scope own) (hv : ∀ i ∈ vs1, i ∈ own.map (·.2))
    (hg : ∀ (s : Shared) (H : Hp) (C : Addr) (cl : List (Str × Addr)) (fp : List Addr), PG (X.blk s H scope (compEnvC scope cl C X.env) fp) tg g) (ht : ∀ (s : Shared) (H : Hp) (C : Addr) (cl : List (Str × Addr)) (fp : List Addr), PTs (X.blk s H scope (compEnvC scope cl C X.env) fp) ifs tt)
    (ha : ∀ (s : Shared) (H : Hp) (C : Addr) (cl : List (Str × Addr)) (fp : List Addr) (D : Addr), PAc (X.blk s H scope (compEnvC scope cl C X.env) fp) (act D (compEnvC scope cl C X.env)) vs1 (ta D))
    (hy : X.N[i]? = some y) (hyl : X.env.scope.names.lookup y = some .local) (hsw : swapsWith node (some (.Name y py)) spos.line X.env = pure true)
    (hus : ∃ pos', ∀ use, evalThenUse node X.env use = (comprehension node scope X.env pos' newAcc false (eval iter X.env) (some use) >>= fun _ => pure ())) :
    PS X (.Assign [.Name y py] node spos) (tAsg (tCo o0 wi g tt ta (own.map (·.2))) (gName i)) := by
  refine ⟨fun pins s σ H D I h => ?_⟩
  obtain ⟨pos', hu⟩ := hus
  rw [exec_Assign_Name_used _ _ _ _ hsw, hu]
  have h : tCo o0 wi g tt ta (own.map (·.2)) σ H (fun x H1 => gName i x σ H1 D.nx) := h
  refine wpAny_bind (wpAny_standAt (wpAny_bind (wpAny_bind (thn (co_core (Qf := fun _ s' => SP X pins D .next s') so hc hN hi ok hv hg ht ha I h fun L C s' m H' I' q hn f => ?_) fun _ s' hq => wpAny_pure (wpAny_pure hq)))))
  refine (wpAny_assign_Name (store_ok2 (v := V.ref L) I' hN hy (.inl hyl) rfl (fun s2 I2 ⟨a, sb, ha⟩ => ?_) (.inr hyl)) : wpAny _ _ (assign (.Name y py) X.env (.ref L)) _ _ _)
  obtain ⟨f0, f1, f2, f3, f4, f5⟩ := f
  have ne : C ≠ a := ha.elim (fun z => by rw [z]; exact f1) fun z e => f4 y a z e.symm
  exact ⟨m, hn.sameBut sb ne, fun h3 sb3 => ⟨_, H', I2.turned (t' := s2.toks) (fun b o hb e => (sb3.2 b hb).trans e) f0 f1 f3 f4 f5, q⟩⟩
end
/-- the second clause as what a turn of the first does -/
def actIn (node i1 : Expr) (D : Addr) (env : PySem.Env) (k : Sem Fin) : Sem Fin := do
  let x ← eval i1 env
  standAt i1.pos
  let x ← foldedSetIterable i1 env x
  let _ ← runOwn (.compStart node 1 (← holding [x] (pyIter x)) (.ref D) env) env
  k
def taIn (wi1 : TI) (g1 : TG) (tt1 : TT) (vs1 : List Nat) (ta1 : Addr → St → Hp → (Hp → Prop) → Prop) : Addr → St → Hp → (Hp → Prop) → Prop := fun D σ H Nx => wi1 σ H fun J1 H4 => ∃ W1 : Nat → Nat → Hp → Prop, (∃ m, W1 0 m H4) ∧ ∀ j k H, W1 j k H →
  (J1.stop j H ∧ Nx H) ∨ (J1.go j H ∧ ∃ Nx1 : Hp → Prop, (∀ H', Nx1 H' → ∃ k', k' < k ∧ W1 (j + 1) k' H') ∧ ∀ x H', J1.yld j H x H' → g1 x (wipe σ vs1) H' fun σ3 H5 => wipe σ3 vs1 = wipe σ vs1 ∧ tt1 σ3 H5 fun b H6 => if b = true then ta1 D σ3 H6 Nx1 else Nx1 H6)
structure Sort2 (prog : Program) (w : World) (A : Around) (node i1 t1 : Expr) (ifs1 : List Expr) (act1 : Addr → PySem.Env → Sem Fin → Sem Fin) : Prop where
  trn : ∀ (it D : Addr) (env : PySem.Env), compTurn node 1 (.ref it) (.ref D) env = turnG i1.pos t1 ifs1 (.ref it) env (act1 D env) (again (.compLoop node 1 (.ref it) (.ref D) env))
  nod : ∀ (it D : Addr) (env : PySem.Env), NodeL prog w node 1 (.ref it) (.ref D) env
  sta : ∀ {it acc : Value} {env : PySem.Env} {R : Result → Shared → Prop} {s : Shared}, codeAny (model prog w) A (.compLoop node 1 it acc env) R s → (∀ (Q : Value → Shared → Prop) (E : Value → Shared → Prop), Q it s → wpAny (model prog w) A (pyIter it) Q E s) → codeAny (model prog w) A (.compStart node 1 it acc env) R s
  fol : ∀ (env : PySem.Env) x, foldedSetIterable i1 env x = pure x
theorem pac_in {Y : Cx} {node i1 t1 : Expr} {ifs1 : List Expr} {act1 : Addr → PySem.Env → Sem Fin → Sem Fin} {D : Addr} {wi1 : TI} {g1 : TG} {tt1 : TT} {vs1 : List Nat} {ta1 : Addr → St → Hp → (Hp → Prop) → Prop} (so : Sort2 Y.prog Y.w Y.A node i1 t1 ifs1 act1) (hc : Y.calm = true) (hxe : ∀ (e : Value) (s : Shared), Y.xe e s → False)
    (hi1 : PI Y t1 i1 wi1) (hg1 : PG Y t1 g1) (ht1 : PTs Y ifs1 tt1) (pa1 : PAc Y (act1 D Y.env) [] (ta1 D)) : PAc Y (actIn node i1 D Y.env) vs1 (taIn wi1 g1 tt1 vs1 ta1 D) := by
  refine ⟨fun pins s σ H Nx I h Qk Ek k hk => ?_⟩
  unfold actIn
  have hx0 : ∀ (e : Value) (s : Shared), Y.xe e s → Ek e s := fun e s z => (hxe e s z).elim
  refine wpAny_bind (wpAny_mono (hi1.run pins s σ H _ I h) (fun xv s1 hx => ?_) hx0)
  refine wpAny_bind (wpAny_standAt (wpAny_bind (wpAny_of_eq (so.fol Y.env xv) (wpAny_bind (wpAny_holding (wpAny_mono hx (fun itv s2 h2 => ?_) hx0))))))
  obtain ⟨it, fp, tn, J, H2, rfl, I2, T, st2, f2, W, ⟨m0, w0⟩, turn⟩ := h2
  refine wpAny_bind (wpAny_runOwn ?_)
  rw [Around.mark_none]
  have I4 : Inv Y pins (wipe σ vs1) H2 s2 := I2.weak (wipe_length _ _) fun j v e => (wipe_some e).1
  have loop := co_loop (Y := Y) (node := node) (lvl := 1) (D := D) (σ := σ) (vs := vs1) (R := fun r s' => match r with
      | .ok _ => ∃ H', Inv Y pins (wipe σ vs1) H' s' ∧ Nx H'
      | .error _ => False) hc hxe (so.nod it D Y.env) T (so.trn it D Y.env) hg1 ht1 pa1 (fun _ z => by cases z) (fun {H' σ' s'} _ hn b hb => ⟨hn b hb, (f2 b hb).2⟩) I4 st2 (fun b hb => (f2 b hb).1) w0 turn fun s6 H6 I6 qq => ⟨H6, I6, qq⟩
  refine codeAny_mono (so.sta loop fun Q E q => T.self Y.A 0 _ _ _ st2 q) fun r s' hr => ?_
  match r, hr with
  | .ok f, ⟨H', I', q'⟩ => exact hk s' H' I' q'
  | .error e, hr => exact hr.elim
end L2.DL
/-! Sets of ints by two clauses; dicts with any keys by one -/
namespace L2.DL
open L2 L2.My PySem PySem.Spec PyProof.Rows

section
variable {prog : Program} {w : World} {A : Around} {R : Result → Shared → Prop} {s : Shared} {env : PySem.Env} {it acc : Value}
/-- a clause's start, whatever is made -/
theorem start_any {node : Expr} {lvl : Nat} {c : Comprehension} (hc : (clausesOf node)[lvl]? = some c) (ha : (c.is_async != 0) = false) (hu : A.under (.compStart node lvl it acc env) = A) (hq : (Code.compLoop node lvl it acc env).quiet = true)
    (hd : (model prog w).den (.compStart node lvl it acc env) = (compStart node lvl it acc env).onRaise fun x => do noteFrame x env; standAt theWindowsPlace)
    (h : codeAny (model prog w) A (.compLoop node lvl it acc env) R s) (hi : ∀ (Q : Value → Shared → Prop) (E : Value → Shared → Prop), Q it s → wpAny (model prog w) A (pyIter it) Q E s) :
    codeAny (model prog w) A (.compStart node lvl it acc env) R s := by
  refine codeAny_of_tree ?_
  rw [hu, hd]
  refine wpAny_notedAt ?_
  unfold compStart
  rw [hc]
  simp only [Option.elim_some, ha, Bool.false_eq_true, if_false]
  refine wpAny_bind (wpAny_askSetting (wpAny_ite ?_))
  split
  · first
      | exact wpAny_bind (wpAny_pure (wpAny_pure ⟨hq, h⟩))
      | exact wpAny_pure ⟨hq, h⟩
  · refine wpAny_bind (wpAny_rule ?_)
    first
      | exact wpAny_bind (wpAny_standAt (wpAny_bind (hi _ _ (wpAny_pure ⟨hq, h⟩))))
      | (show wpAny _ _ (standAt c.iter.pos >>= _) _ _ s; exact wpAny_bind (wpAny_standAt (wpAny_bind (hi _ _ (wpAny_pure ⟨hq, h⟩)))))
end
/-! ### sets -/
def actAdd (elt : Expr) (D : Addr) (env : PySem.Env) (k : Sem Fin) : Sem Fin := do
  (do let v ← eval elt env; standAt elt.pos; let _ ← call (.builtin "set.add") [.ref D, v])
  k
def taAdd (r : V → List V → Hp → VK → Prop) (te : TE) : Addr → St → Hp → (Hp → Prop) → Prop := fun D σ H Nx => te σ H fun y H1 => r (.ref D) [y] H1 fun _ H2 => Nx H2
theorem pac_add {Y : Cx} {elt : Expr} {te : TE} {r : V → List V → Hp → VK → Prop} {D : Addr} (hxe : ∀ (e : Value) (s : Shared), Y.xe e s → False) (hm : MtR Y "set.add" r) (he : PE Y elt te) : PAc Y (actAdd elt D Y.env) [] (taAdd r te D) := by
  refine ⟨fun pins s σ H Nx I h Qk Ek k hk => ?_⟩
  have hx0 : ∀ (e : Value) (s : Shared), Y.xe e s → Ek e s := fun e s z => (hxe e s z).elim
  unfold actAdd
  refine wpAny_bind (wpAny_bind (wpAny_mono (he.run pins s σ H _ I h) (fun u s1 ⟨y, H1, I1, r1, q1⟩ => ?_) hx0))
  refine wpAny_bind (wpAny_standAt (wpAny_bind (wpAny_mono (hm pins s1 σ H1 (.ref D) [y] (.ref D) [u] _ I1 rfl (.cons r1 .nil) q1) (fun _ s2 ⟨_, H2, I2, _, q2⟩ => ?_) hx0)))
  exact wpAny_pure (hk s2 H2 I2 q2)
def newSetO (w : World) : Obj := { cls := .type "set", dict := none, data := .set #[] 0 (.fresh 0 0 (!w.params.followText "set-order")) }
section
variable {X : Cx} {elt tg iter t1 i1 : Expr} {ifs ifs1 : List Expr} {scope : Scope} {pos : Pos}
theorem sort_set2 {r : V → List V → Hp → VK → Prop} {o0 : Addr → HO} (ho : ∀ (H : Hp) (h : Heap), ObjOk X.prog X.w H (h.push (newSetO X.w)) h.objs.size (o0 h.objs.size)) (hs : ∀ x, foldedSetIterable iter X.env x = pure x) :
    Sort' X (.SetComp elt [⟨tg, iter, ifs, 0⟩, ⟨t1, i1, ifs1, 0⟩] scope pos) iter tg ifs scope [⟨t1, i1, ifs1, 0⟩] (newSet (.type "set")) (newSetO X.w) o0 (actIn (.SetComp elt [⟨tg, iter, ifs, 0⟩, ⟨t1, i1, ifs1, 0⟩] scope pos) i1) where
  cls := rfl
  evl := ⟨_, rfl⟩
  new := fun h => PpSet.newSet_ok h
  isO := fun H h _ => ho H h
  trn := fun it D env => rfl
  nod := fun it D env => ⟨fun _ => rfl, rfl, rfl⟩
  sta := fun h hi => start_any rfl rfl rfl rfl rfl h hi
  fol := hs
theorem sort_set2' {prog : Program} {w : World} {A : Around} (hs : ∀ env x, foldedSetIterable i1 env x = pure x) : Sort2 prog w A (.SetComp elt [⟨tg, iter, ifs, 0⟩, ⟨t1, i1, ifs1, 0⟩] scope pos) i1 t1 ifs1 (actAdd elt) where
  trn := fun it D env => rfl
  nod := fun it D env => ⟨fun _ => rfl, rfl, rfl⟩
  sta := fun h hi => start_any rfl rfl rfl rfl rfl h hi
  fol := hs
theorem sort_set1 {o0 : Addr → HO} (ho : ∀ (H : Hp) (h : Heap), ObjOk X.prog X.w H (h.push (newSetO X.w)) h.objs.size (o0 h.objs.size)) (hs : ∀ x, foldedSetIterable iter X.env x = pure x) :
    Sort' X (.SetComp elt [⟨tg, iter, ifs, 0⟩] scope pos) iter tg ifs scope [] (newSet (.type "set")) (newSetO X.w) o0 (actAdd elt) where
  cls := rfl
  evl := ⟨_, rfl⟩
  new := fun h => PpSet.newSet_ok h
  isO := fun H h _ => ho H h
  trn := fun it D env => rfl
  nod := fun it D env => ⟨fun _ => rfl, rfl, rfl⟩
  sta := fun h hi => start_any rfl rfl rfl rfl rfl h hi
  fol := hs
abbrev oSet0 (w : World) (D : Addr) : HO := SetO w D (fun _ => false) 0
/-- {elt for tg in iter if .. for t1 in i1 if ..} of ints -/
theorem pe_set2 {own : List (Str × Nat)} {vs1 : List Nat} {wi wi1 : TI} {g g1 : TG} {tt tt1 : TT} {te : TE} (hc : X.calm = true) (hN : X.N.Nodup) (hi : PI X tg iter wi) (ok : BlkOk X.N X.env.scope scope own) (hv : ∀ i ∈ vs1, i ∈ own.map (·.2))
    (hg : ∀ (s : Shared) (H : Hp) (C : Addr) (cl : List (Str × Addr)) (fp : List Addr), PG (X.blk s H scope (compEnvC scope cl C X.env) fp) tg g) (ht : ∀ (s : Shared) (H : Hp) (C : Addr) (cl : List (Str × Addr)) (fp : List Addr), PTs (X.blk s H scope (compEnvC scope cl C X.env) fp) ifs tt)
    (he : ∀ (s : Shared) (H : Hp) (C : Addr) (cl : List (Str × Addr)) (fp : List Addr), PE (X.blk s H scope (compEnvC scope cl C X.env) fp) elt te)
    (hi1 : ∀ (s : Shared) (H : Hp) (C : Addr) (cl : List (Str × Addr)) (fp : List Addr), PI (X.blk s H scope (compEnvC scope cl C X.env) fp) t1 i1 wi1)
    (hg1 : ∀ (s : Shared) (H : Hp) (C : Addr) (cl : List (Str × Addr)) (fp : List Addr), PG (X.blk s H scope (compEnvC scope cl C X.env) fp) t1 g1) (ht1 : ∀ (s : Shared) (H : Hp) (C : Addr) (cl : List (Str × Addr)) (fp : List Addr), PTs (X.blk s H scope (compEnvC scope cl C X.env) fp) ifs1 tt1)
    (hs : ∀ x, foldedSetIterable iter X.env x = pure x := by intro _; rfl) (hs1 : ∀ env x, foldedSetIterable i1 env x = pure x := by intro _ _; rfl) :
    PE X (.SetComp elt [⟨tg, iter, ifs, 0⟩, ⟨t1, i1, ifs1, 0⟩] scope pos) (tCo (oSet0 X.w) wi g tt (taIn wi1 g1 tt1 vs1 (taAdd (rSAdd X.w) te)) (own.map (·.2))) :=
  pe_co (sort_set2 (r := rSAdd X.w) (fun _ _ => setO_new (setR_fresh X.w)) hs) hc hN hi ok hv hg ht fun s H C cl fp D =>
    pac_in (Y := X.blk s H scope (compEnvC scope cl C X.env) fp) (sort_set2' hs1) hc (fun _ _ z => z) (hi1 s H C cl fp) (hg1 s H C cl fp) (ht1 s H C cl fp) (pac_add (fun _ _ z => z) mt_sadd (he s H C cl fp))
end
end L2.DL
/-! set(list of ints), sorted(set(..)) over data -/
namespace L2.DL
open L2 L2.My PySem PySem.Spec PyProof.Rows
section
variable {P : Program} {w : World} {A : Around} {E : Value → Shared → Prop} {s : Shared}
theorem set_get (h : Heap) : (h.push (newSetO w)).get? h.objs.size = some (newSetO w) := Heap.get?_push_size _ rfl
/-- set(l): l a list of ints -/
theorem set_of_ints {l : Addr} {its : Array Value} (ns : List Int) {Q : Value → Shared → Prop} (calm : A.handled = none) (isl : s.heap.IsList l its) (hints : IntsAre its.toList ns) (few : ns.length + 1 < scanBound)
    (k : ∀ (g : Heap) (tk c : Nat), SetR w g s.heap.objs.size (fun j => decide (j ∈ ns)) c → c ≤ ns.length → (∀ b o, s.heap.get? b = some o → g.get? b = some o) → Q (.ref s.heap.objs.size) { s with heap := g, toks := tk }) :
    wpAny (model P w) A (call (.type "set") [.ref l]) Q E s := by
  have zl : its.size = ns.length := by rw [← Array.length_toList]; exact IntsAre.length hints
  obtain ⟨mc, mt, mmro⟩ := F.called_set.mro
  have m1 := F.called_set.made
  have m2 := F.called_set.sub
  have m3 := F.called_set.notType
  have m4 := F.called_set.canCreate
  have m5 := F.typeCall_set_1 (.ref l)
  refine wpAny_call (codeAny_of_tree (show wpAny _ _ (callAny (.type "set") _) _ _ _ from wpAny_pure ⟨Code.quiet_builtin _ (by decide +kernel), codeAny_builtin F.entry_type_call ?_⟩))
  rw [Around.under_plain (weight_type_call_type "set" [.ref l] []) rfl]
  repeat (any_goals (first | assumption | wp_step))
  refine codeAny_mono (code_set_led1 (.ref l) (E := E) (Q₁ := fun z s₁ => z = .ref s.heap.objs.size ∧ s₁ = { s with heap := s.heap.push (newSetO w) }) ⟨rfl, rfl⟩) fun r s₁ hr => ?_
  match r, hr with
  | .error e, hr => exact hr
  | .ok (.ret z), ⟨ez, es⟩ =>
    subst ez es
    have isS : Shared.TypeIs { s with heap := s.heap.push (newSetO w) } (.ref s.heap.objs.size) "set" := ⟨_, set_get s.heap, rfl⟩
    have b1 := F.called_set.init.lookup
    have b2 := F.called_set.init.bind (.ref s.heap.objs.size)
    repeat (any_goals (first | assumption | wp_step))
    refine codeAny_mono (codeAny_call_builtin (R := wants (fun r s₂ => r = .none ∧ ∃ g tk c, s₂ = { s with heap := g, toks := tk } ∧ SetR w g s.heap.objs.size (fun j => decide (j ∈ ns)) c ∧ c ≤ ns.length ∧ (∀ b o, s.heap.get? b = some o → g.get? b = some o)) E) F.called_set.init.plain F.entry_set_init (check_set_init_1 isS ?_)) fun r₂ s₂ hr₂ => ?_
    · obtain ⟨⟨oc, od, oda, osl⟩, got, hc, n, hd⟩ := isl
      simp only at hc hd
      subst hc hd
      have got1 : (s.heap.push (newSetO w)).get? l = some { cls := .type "list", dict := od, data := .seq its n, slots := osl } := Heap.get?_push_of_some _ got
      have isl1 : (s.heap.push (newSetO w)).IsList l its := ⟨_, got1, rfl, n, rfl⟩
      have f1 := F.sub_list_set
      have f2 := F.sub_list_frozenset
      have f3 : (Value.type "list" == Value.type "dict") = false := by decide
      unfold Builtin.«set.__init__» noKeywords Builtin.Frozenset.updateFrom
      generalize hp : pyIter = PI
      wp_walk
      subst hp
      refine wpAny_pyIter_list isl1 (wpAny_bind (wpAny_runValue ?_))
      have lt : l < s.heap.objs.size := Heap.lt_size got
      have z1 : (s.heap.push (newSetO w)).objs.size = s.heap.objs.size + 1 := Heap.size_push ..
      have neI : l ≠ (s.heap.push (newSetO w)).objs.size := by
        rw [z1]
        exact Nat.ne_of_lt (Nat.lt_succ_of_lt lt)
      have notin : s.heap.objs.size ∉ [(s.heap.push (newSetO w)).objs.size, l] := by
        rw [z1]
        intro q
        rcases List.mem_cons.mp q with q | q
        · exact absurd q (Nat.ne_of_lt (Nat.lt_succ_self _))
        · exact absurd (List.mem_singleton.mp q) (Nat.ne_of_gt lt)
      have val : ∀ (i : Nat) (v : Value), its[i]? = some v → ∃ k t, ns[i]? = some k ∧ v = .int k t := fun i v hv => by
        have li : i < ns.length := zl ▸ (Array.getElem?_eq_some_iff.mp hv).1
        obtain ⟨t, e⟩ := PyProof.Rows.IntsAre.int_at hints i v (by rw [Array.getElem?_toList]; exact hv)
        exact ⟨ns[i], t, List.getElem?_eq_getElem li, by rw [e, List.getD_eq_getElem?_getD, List.getElem?_eq_getElem li]; rfl⟩
      refine set_update_ints ((Walks.list (by simp [calm] : A.in1.in1.in1.handled = none) _ l neI its).toS) s.heap.objs.size notin ns zl few val (its.size - 0) 0 _ (by omega) (Nat.zero_le _)
        ⟨⟨_, Heap.get?_push_size _ rfl, rfl, rfl⟩, isl1.push _⟩ ⟨0, Nat.le_refl 0, setR_new_at (Heap.get?_push_of_some _ (set_get s.heap))⟩ fun s' c' hm hc' hS' => ?_
      obtain ⟨g, g2, d', tk', os'⟩ := s'
      have eg : g2 = s.gens := hm.gens
      have ed : d' = s.drawn := hm.drawn
      have eo : os' = s.os := hm.os
      subst eg ed eo
      refine wpAny_pure (show wpAny _ _ (ret Value.none) _ _ _ from wpAny_pure ⟨rfl, g, tk', c', rfl, hS', by omega, fun b o e => ?_⟩)
      have b0 : b < s.heap.objs.size := Heap.lt_size e
      refine hm.heap b o (fun q => ?_) (Heap.get?_push_of_some _ (Heap.get?_push_of_some _ e))
      rcases List.mem_cons.mp q with q | q
      · exact absurd q (Nat.ne_of_lt b0)
      · rw [List.mem_singleton.mp q, z1] at b0
        exact absurd b0 (Nat.not_lt.mpr (Nat.le_succ _))
    · match r₂, hr₂ with
      | .error e, hr₂ => exact hr₂
      | .ok (.ret r), ⟨e1, g, tk, c', e2, hS', hc', hk'⟩ =>
        subst e1 e2
        repeat (any_goals (first | assumption | wp_step))
        exact k _ _ _ hS' hc' hk'
end
section
variable {X : Cx}
/-- set(xs), xs a list of ints -/
def rSetOfI (K : PySem.W.Frag) (w : World) : List V → Hp → VK → Prop := fun xs H Q => ∃ (l : Addr) (ns : List Int), xs = [V.ref l] ∧ SqL K H l (ns.map V.int) ∧ ns.length < 64 ∧ ∀ a c, H a = none → c ≤ ns.length → Q (.ref a) (upd H a (SetO w a (fun j => decide (j ∈ ns)) c))
theorem cr_setOfI (hc : X.calm = true) : CallR X (.type "set") (rSetOfI X.K X.w) := by
  intro pins s σ H xs us Q I r h
  obtain ⟨l, ns, rfl, hl, hf, q⟩ := h
  rw [Vals.ref1 r]
  obtain ⟨its, rv, pl, hz⟩ := I.list hl
  have hn : H s.heap.objs.size = none := I.hok.fresh (Nat.le_refl _)
  refine set_of_ints (P := X.prog) (w := X.w) ns (I.ok.hd hc) pl.isList (by simpa using rv.ints) (by unfold scanBound; omega) fun g tk c R hc' k => ?_
  exact ⟨.ref s.heap.objs.size, upd H s.heap.objs.size (SetO X.w s.heap.objs.size (fun j => decide (j ∈ ns)) c), I.laid (t' := tk) k (Nat.le_refl _) (setO_new R), rfl, q _ c hn hc'⟩
end
end L2.DL
/-! sorted(set(..)) over data: ints, pairs -/
namespace L2.DL
open L2 L2.My PySem PySem.Spec PyProof.Rows
/-! ### sorting by a key, twins out -/
section
variable {α : Type} (κ : α → Int)
def insK (x : α) : List α → List α
  | [] => [x]
  | y :: r => if κ x < κ y then x :: y :: r else if κ x = κ y then y :: r else y :: insK x r
def sortK : List α → List α
  | [] => []
  | x :: r => insK κ x (sortK r)
variable {κ}
abbrev Asc (κ : α → Int) (l : List α) : Prop := l.Pairwise fun a b => κ a < κ b
theorem insK_sub {x : α} : ∀ {l : List α} {y : α}, y ∈ insK κ x l → y = x ∨ y ∈ l
  | [], y, h => by unfold insK at h; simp at h; exact .inl h
  | z :: r, y, h => by
    unfold insK at h
    split at h
    · rcases List.mem_cons.mp h with h | h
      · exact .inl h
      · exact .inr h
    · split at h
      · exact .inr h
      · rcases List.mem_cons.mp h with h | h
        · exact .inr (by rw [h]; exact List.mem_cons_self)
        · exact (insK_sub h).imp id fun q => List.mem_cons_of_mem _ q
theorem insK_asc {x : α} : ∀ {l : List α}, Asc κ l → Asc κ (insK κ x l)
  | [], _ => by unfold insK; exact List.pairwise_singleton _ _
  | z :: r, h => by
    unfold insK
    have hz : ∀ {y}, y ∈ r → κ z < κ y := fun q => List.rel_of_pairwise_cons h q
    split
    · rename_i lt
      refine List.pairwise_cons.mpr ⟨fun y hy => ?_, h⟩
      rcases List.mem_cons.mp hy with rfl | hy
      · exact lt
      · exact Int.lt_trans lt (hz hy)
    · rename_i nlt
      split
      · exact h
      · rename_i ne
        refine List.pairwise_cons.mpr ⟨fun y hy => ?_, insK_asc (List.Pairwise.of_cons h)⟩
        rcases insK_sub hy with rfl | hy
        · omega
        · exact hz hy
theorem insK_mem {x : α} : ∀ {l : List α}, (∀ y ∈ l, κ y = κ x → y = x) → ∀ {y : α}, y ∈ insK κ x l ↔ y = x ∨ y ∈ l
  | [], _, y => by unfold insK; simp
  | z :: r, h, y => by
    unfold insK
    split
    · simp
    · split
      · rename_i e
        have ez := h z List.mem_cons_self e.symm
        constructor
        · exact .inr
        · rintro (q | q)
          · rw [q, ← ez]; exact List.mem_cons_self
          · exact q
      · rw [List.mem_cons, insK_mem (fun y hy => h y (List.mem_cons_of_mem _ hy)), List.mem_cons]
        constructor
        · rintro (q | q | q)
          · exact .inr (.inl q)
          · exact .inl q
          · exact .inr (.inr q)
        · rintro (q | q | q)
          · exact .inr (.inl q)
          · exact .inl q
          · exact .inr (.inr q)
theorem sortK_sub : ∀ {l : List α} {y : α}, y ∈ sortK κ l → y ∈ l
  | [], _, h => by cases h
  | x :: r, y, h => by
    unfold sortK at h
    rcases insK_sub h with rfl | h
    · exact List.mem_cons_self
    · exact List.mem_cons_of_mem _ (sortK_sub h)
theorem sortK_asc : ∀ (l : List α), Asc κ (sortK κ l)
  | [] => .nil
  | x :: r => insK_asc (sortK_asc r)
theorem sortK_mem : ∀ {l : List α}, (∀ x ∈ l, ∀ y ∈ l, κ x = κ y → x = y) → ∀ {y : α}, y ∈ sortK κ l ↔ y ∈ l
  | [], _, y => by unfold sortK; simp
  | x :: r, h, y => by
    have hr : ∀ x ∈ r, ∀ y ∈ r, κ x = κ y → x = y := fun a ha b hb => h a (List.mem_cons_of_mem _ ha) b (List.mem_cons_of_mem _ hb)
    unfold sortK
    rw [insK_mem (fun z hz e => h z (List.mem_cons_of_mem _ (sortK_sub hz)) x List.mem_cons_self e), sortK_mem hr, List.mem_cons]
theorem asc_eq : ∀ {l m : List α}, Asc κ l → Asc κ m → (∀ y, y ∈ l ↔ y ∈ m) → l = m
  | [], [], _, _, _ => rfl
  | [], z :: m, _, _, h => by have := (h z).mpr List.mem_cons_self; cases this
  | x :: l, [], _, _, h => by have := (h x).mp List.mem_cons_self; cases this
  | x :: l, z :: m, hl, hm, h => by
    have hx : ∀ {y}, y ∈ l → κ x < κ y := fun q => List.rel_of_pairwise_cons hl q
    have hz : ∀ {y}, y ∈ m → κ z < κ y := fun q => List.rel_of_pairwise_cons hm q
    have e : x = z := by
      rcases List.mem_cons.mp ((h x).mp List.mem_cons_self) with q | q
      · exact q
      · rcases List.mem_cons.mp ((h z).mpr List.mem_cons_self) with q' | q'
        · exact q'.symm
        · have a := hz q
          have b := hx q'
          omega
    subst e
    rw [asc_eq (List.Pairwise.of_cons hl) (List.Pairwise.of_cons hm) fun y => ?_]
    constructor
    · intro hy
      rcases List.mem_cons.mp ((h y).mp (List.mem_cons_of_mem _ hy)) with q | q
      · have := hx hy; rw [q] at this; omega
      · exact q
    · intro hy
      rcases List.mem_cons.mp ((h y).mpr (List.mem_cons_of_mem _ hy)) with q | q
      · have := hz hy; rw [q] at this; omega
      · exact q
end
abbrev sortI (ns : List Int) : List Int := sortK id ns
theorem sortI_mem {ns : List Int} {y : Int} : y ∈ sortI ns ↔ y ∈ ns := sortK_mem fun _ _ _ _ e => e
abbrev kp (p : Int × Int) : Int := p.1 * 64 + p.2
def smallP (p : Int × Int) : Bool := decide (0 ≤ p.1) && decide (p.1 < 64) && decide (0 ≤ p.2) && decide (p.2 < 64)
theorem kp_inj {p q : Int × Int} (hp : smallP p = true) (hq : smallP q = true) (e : kp p = kp q) : p = q := by
  simp only [smallP, Bool.and_eq_true, decide_eq_true_eq] at hp hq
  have e : p.1 * 64 + p.2 = q.1 * 64 + q.2 := e
  exact Prod.ext (by omega) (by omega)
/-! ### data -/
abbrev dP (p : Int × Int) : D := .tup [dI p.1, dI p.2]
def asPs : List D → Option (List (Int × Int))
  | [] => some []
  | .tup [.v (.int i), .v (.int j)] :: r => (asPs r).map ((i, j) :: ·)
  | _ :: _ => none
theorem asPs_cons {d : D} {r : List D} {ps : List (Int × Int)} (h : asPs (d :: r) = some ps) : ∃ p m, d = dP p ∧ asPs r = some m ∧ ps = p :: m := by
  unfold asPs at h
  split at h
  · rename_i e
    cases e
  · rename_i i j r' e
    cases e
    obtain ⟨m, em, rfl⟩ := Option.map_eq_some_iff.mp h
    exact ⟨(i, j), m, rfl, em, rfl⟩
  · cases h
theorem asPs_eq : ∀ {ds : List D} {ps : List (Int × Int)}, asPs ds = some ps → ds = ps.map dP
  | [], ns, h => by unfold asPs at h; cases h; rfl
  | d :: r, ns, h => by
    obtain ⟨p, m, rfl, em, rfl⟩ := asPs_cons h
    rw [asPs_eq em]
    rfl
theorem asPs_map : ∀ (ps : List (Int × Int)), asPs (ps.map dP) = some ps
  | [] => rfl
  | p :: r => by rw [List.map_cons, asPs, asPs_map r]; rfl
def ssI : D → Option D
  | .lst ds => (asIs ds).bind fun ns => if ns.length < 64 then some (.lst ((sortI ns).map dI)) else none
  | _ => none
def ssP : D → Option D
  | .lst ds => (asPs ds).bind fun ps => if ps.length < 64 ∧ ps.all smallP = true then some (.lst ((sortK kp ps).map dP)) else none
  | _ => none
section
variable {K : W.Frag}
theorem rb_ints {g m : Msk} {H : Hp} {v : V} {ds : List D} {ns : List Int} (r : RB K g m H v (.lst ds)) (e : asIs ds = some ns) : ∃ a, v = .ref a ∧ SqL K H a (ns.map V.int) := by
  obtain ⟨a, xs, rfl, h1, h2⟩ := RBo.lst r
  exact ⟨a, rfl, .inl (.inl (by rw [h1, asIs_rel h2 e]))⟩
theorem p1_ssI {w : World} : P1 K .f (fun v H Q => rSetOfI K w [v] H fun s H1 => rSortedSet w [s] H1 Q) ssI := by
  intro g m H v d c Q hm r e k
  unfold ssI at e
  split at e
  · rename_i ds
    obtain ⟨ns, en, e⟩ := Option.bind_eq_some_iff.mp e
    split at e
    · rename_i l64
      cases e
      obtain ⟨a, rfl, sq⟩ := rb_ints r en
      refine ⟨a, ns, rfl, sq, l64, fun A cn hA lc => ⟨A, _, cn, rfl, upd_same, by omega, fun out p asc mem len hp => ?_⟩⟩
      have eo : out = sortI ns := asc_eq (κ := id) asc (sortK_asc ns) fun y => by rw [mem y, sortI_mem]; simp
      subst eo
      have s1 := same_upd (o := SetO w A (fun j => decide (j ∈ ns)) cn) hA
      have s2 := same_upd (o := HO.lst ((sortI ns).map V.int)) hp
      have hp0 : H p = none := by
        cases q : H p with
        | none => rfl
        | some o => rw [s1 p o q] at hp; cases hp
      refine k _ _ (fun b o q => s2 b o (s1 b o q)) ⟨p, .lst ((sortI ns).map dI), rfl, rfl, hp0, _, upd_same, ?_⟩
      have := RAll.ofV (K := K) (G := cut (fun b => m b ∨ b = p) (upd (upd H A (SetO w A (fun j => decide (j ∈ ns)) cn)) p (.lst ((sortI ns).map V.int)))) (xs := (sortI ns).map V.int)
      rwa [List.map_map] at this
    · cases e
  · cases e
theorem RAll.pairs {G : Hp} : ∀ {vs : List V} {ps : List (Int × Int)}, RAll K G vs (ps.map dP) → ∃ ks : List (Addr × List Int), vs = ks.map (fun p => V.ref p.1) ∧ ks.map (·.2) = ps.map (fun p => [p.1, p.2]) ∧ ∀ p ∈ ks, SqT K G p.1 (p.2.map V.int)
  | _, [], h => by cases h; exact ⟨[], rfl, rfl, fun _ z => by cases z⟩
  | _, p :: ps, h => by
    rw [List.map_cons] at h
    cases h with
    | cons h1 h2 =>
      obtain ⟨ks, e1, e2, e3⟩ := RAll.pairs h2
      cases h1 with
      | tup q1 q2 =>
        rename_i a xs
        have q2 : RAll K G xs (([p.1, p.2].map V.int).map D.v) := q2
        rw [RAll.vs q2] at q1
        refine ⟨(a, [p.1, p.2]) :: ks, by rw [e1]; rfl, by rw [List.map_cons, List.map_cons, e2], fun q hq => ?_⟩
        rcases List.mem_cons.mp hq with rfl | hq
        · exact q1
        · exact e3 q hq
theorem pairs_of {G : Hp} : ∀ {L : List (Addr × List Int)} {ps : List (Int × Int)}, L.map (·.2) = ps.map (fun p => [p.1, p.2]) → (∀ p ∈ L, SqT K G p.1 (p.2.map V.int)) → RAll K G (L.map fun p => V.ref p.1) (ps.map dP)
  | [], [], _, _ => .nil
  | [], _ :: _, h, _ => by cases h
  | _ :: _, [], h, _ => by cases h
  | q :: L, p :: ps, h, hs => by
    rw [List.map_cons, List.map_cons] at h
    obtain ⟨h1, h2⟩ := List.cons.inj h
    have sq := hs q List.mem_cons_self
    rw [h1] at sq
    exact .cons (.tup sq (RAll.ofV (xs := [p.1, p.2].map V.int))) (pairs_of h2 fun x hx => hs x (List.mem_cons_of_mem _ hx))
theorem l2_pairs : ∀ {ls : List (List Int)}, (∀ l ∈ ls, ∃ p : Int × Int, l = [p.1, p.2]) → ∃ ps : List (Int × Int), ls = ps.map fun p => [p.1, p.2]
  | [], _ => ⟨[], rfl⟩
  | l :: ls, h => by
    obtain ⟨p, e⟩ := h l List.mem_cons_self
    obtain ⟨ps, es⟩ := l2_pairs fun x hx => h x (List.mem_cons_of_mem _ hx)
    exact ⟨p :: ps, by rw [e, es, List.map_cons]⟩
theorem p1_ssP {P : Program} {w : World} : P1 K .f (fun v H Q => rSetOfT K P w [v] H fun s H1 => rSortedT K P w [s] H1 Q) ssP := by
  intro g m H v d c Q hm r e k
  unfold ssP at e
  split at e
  · rename_i ds
    obtain ⟨ps, en, e⟩ := Option.bind_eq_some_iff.mp e
    split at e
    · rename_i hl
      obtain ⟨l64, small⟩ := hl
      cases e
      obtain ⟨a, xs, rfl, h1, h2⟩ := RBo.lst r
      rw [asPs_eq en] at h2
      obtain ⟨ks, rfl, e2, e3⟩ := RAll.pairs h2
      have e3' : ∀ p ∈ ks, SqT K H p.1 (p.2.map V.int) := fun p hp => SqT.same cut_le (e3 p hp)
      have lk : ks.length = ps.length := by have := congrArg List.length e2; simpa using this
      have sm : ∀ p ∈ ps, smallP p = true := fun p hp => List.all_eq_true.mp small p hp
      refine ⟨a, ks, rfl, .inl (.inl h1), e3', by omega, fun A L hA sub all => ?_⟩
      have s1 := same_upd (o := SetTO P w A L) hA
      have inP : ∀ q ∈ L, ∃ p ∈ ps, q.2 = [p.1, p.2] := fun q hq => by
        have : q.2 ∈ ks.map (·.2) := List.mem_map_of_mem (sub q hq)
        rw [e2] at this
        obtain ⟨p, hp, e⟩ := List.mem_map.mp this
        exact ⟨p, hp, e.symm⟩
      refine ⟨A, L, 2, 64, rfl, upd_same, fun p hp => SqT.same s1 (e3' p (sub p hp)), by omega, fun p hp => ?_, fun L' p pm nd l' pw hp => ?_⟩
      · obtain ⟨q, hq, e⟩ := inP p hp
        have := sm q hq
        simp only [smallP, Bool.and_eq_true, decide_eq_true_eq] at this
        rw [e]
        refine ⟨rfl, fun x hx => ?_⟩
        rcases List.mem_cons.mp hx with rfl | hx
        · omega
        · have := List.mem_singleton.mp hx; subst this; omega
      · have mem' : ∀ q ∈ L', q ∈ L := fun q hq => pm.mem_iff.mp hq
        obtain ⟨out, eo⟩ := l2_pairs (ls := L'.map (·.2)) fun l hl => by
          obtain ⟨q, hq, rfl⟩ := List.mem_map.mp hl
          obtain ⟨p, hp, e⟩ := inP q (mem' q hq)
          exact ⟨p, e⟩
        have outP : ∀ o, o ∈ out ↔ o ∈ ps := fun o => by
          have inj : ∀ {p : Int × Int} {l : List (Int × Int)}, [p.1, p.2] ∈ l.map (fun p => [p.1, p.2]) → p ∈ l := fun {p l} h => by
            obtain ⟨q, hq, e⟩ := List.mem_map.mp h
            have : q = p := by
              have := List.cons.inj e
              exact Prod.ext this.1 (List.cons.inj this.2).1
            rw [← this]; exact hq
          constructor
          · intro ho
            have : [o.1, o.2] ∈ L'.map (·.2) := by rw [eo]; exact List.mem_map_of_mem ho
            obtain ⟨q, hq, e⟩ := List.mem_map.mp this
            obtain ⟨p, hp, e'⟩ := inP q (mem' q hq)
            rw [e] at e'
            have := List.cons.inj e'
            have : o = p := Prod.ext this.1 (List.cons.inj this.2).1
            rw [this]; exact hp
          · intro ho
            have : [o.1, o.2] ∈ ks.map (·.2) := by rw [e2]; exact List.mem_map_of_mem ho
            obtain ⟨q, hq, e⟩ := List.mem_map.mp this
            have := all q hq
            rw [e] at this
            obtain ⟨q', hq', e'⟩ := List.mem_map.mp this
            have : [o.1, o.2] ∈ L'.map (·.2) := by rw [← e']; exact List.mem_map_of_mem (pm.mem_iff.mpr hq')
            rw [eo] at this
            exact inj this
        have ascO : Asc kp out := by
          have a1 : (L'.map (·.2)).Pairwise fun x y => TS.code 64 x ≤ TS.code 64 y := List.pairwise_map.mpr pw
          have a2 : (L'.map (·.2)).Pairwise (· ≠ ·) := nd
          rw [eo] at a1 a2
          have b1 := List.pairwise_map.mp a1
          have b2 := List.pairwise_map.mp a2
          refine ((b1.and b2).imp_of_mem fun {x y} hx hy ⟨q1, q2⟩ => ?_)
          have q1 : TS.code 64 [x.1, x.2] ≤ TS.code 64 [y.1, y.2] := q1
          rw [code_pair, code_pair] at q1
          have ne : kp x ≠ kp y := fun e => q2 (by rw [kp_inj (sm x ((outP x).mp hx)) (sm y ((outP y).mp hy)) e])
          have q1 : kp x ≤ kp y := q1
          omega
        have eo2 : out = sortK kp ps := asc_eq ascO (sortK_asc ps) fun y => by rw [outP y, sortK_mem fun x hx y hy e => kp_inj (sm x hx) (sm y hy) e]
        subst eo2
        have s2 := same_upd (o := HO.lst (L'.map fun q => V.ref q.1)) hp
        have hp0 : H p = none := by
          cases q : H p with
          | none => rfl
          | some o => rw [s1 p o q] at hp; cases hp
        refine k _ _ (fun b o q => s2 b o (s1 b o q)) ⟨p, .lst ((sortK kp ps).map dP), rfl, rfl, hp0, _, upd_same, pairs_of eo fun q hq => ?_⟩
        refine SqT.same (fun b o z => ?_) (e3 q (sub q (mem' q hq)))
        obtain ⟨n, z⟩ := of_cut z
        have nb : b ≠ p := ne_of_none z hp0
        rw [cut_out fun y => y.elim n nb]
        exact s2 b o (s1 b o z)
    · cases e
  · cases e
end
section
variable {S : Type} {Γ : Fr S} {K : W.Frag} {E : XK} {ta : TE} {A : TX S}
theorem ln_ssI {w : World} (ha : Ln Γ K E .b ta A) : Ln Γ K E .f (tCB (rSortedSet w) (tCons (tCB (rSetOfI K w) (tCons ta tNil)) tNil)) (xUn ssI A) := fun ok st QD QX Q q k kx => ln_un (r := fun v H Q => rSetOfI K w [v] H fun s H1 => rSortedSet w [s] H1 Q) ha p1_ssI ok st QD QX Q q k kx
theorem ln_ssP {P : Program} {w : World} (ha : Ln Γ K E .b ta A) : Ln Γ K E .f (tCB (rSortedT K P w) (tCons (tCB (rSetOfT K P w) (tCons ta tNil)) tNil)) (xUn ssP A) := fun ok st QD QX Q q k kx => ln_un (r := fun v H Q => rSetOfT K P w [v] H fun s H1 => rSortedT K P w [s] H1 Q) ha p1_ssP ok st QD QX Q q k kx
end
end L2.DL
/-! Comprehensions of any sort over data -/
namespace L2.DL
open L2 L2.My NdefX PySem PySem.Spec PyProof.Rows
section
variable {S : Type}
abbrev Stepper (S Acc : Type) := Env → S → Acc → (Acc → S → Prop) → Prop
def coT {Acc : Type} (gd : GD) (C : TB S) (step : Stepper S Acc) (Q : Acc → S → Prop) (ρ : Env) : List D → Acc → S → Prop
  | [], acc, s => Q acc s
  | d :: r, acc, s => opt (gd d ρ) fun ρ1 => C ρ1 s (fun b s1 => if b = true then step ρ1 s1 acc (fun acc' s2 => coT gd C step Q ρ r acc' s2) else coT gd C step Q ρ r acc s1) (fun _ _ => False)
/-- what stands for the thing that is being made -/
abbrev ARep (Acc : Type) := Acc → Addr → Hp → HO → Prop
/-- the frame that minds D0, too -/
def Fr.plus (Γ : Fr S) (D0 : Addr) : Fr S := ⟨fun a => Γ.M a ∨ a = D0, fun _ _ => True, fun _ _ => trivial, Γ.self⟩
def LnAct {Acc : Type} (Γ : Fr S) (K : W.Frag) (AR : ARep Acc) (ta : Addr → St → Hp → (Hp → Prop) → Prop) (step : Stepper S Acc) : Prop :=
  ∀ {M : Msk} {α : Nat → Addr} {σ : St} {H : Hp} {ρ : Env} {s : S} {D0 : Addr} {acc : Acc} {o : HO}, Ok (Γ.plus D0) K M α σ H ρ → ¬ Γ.M D0 → (∀ i, ¬ ownAt ρ i) → Γ.st s H → H D0 = some o → AR acc D0 (cut (mask M α ρ) H) o → ∀ (QD : Acc → S → Prop) (Nx : Hp → Prop), step ρ s acc QD →
    (∀ H' acc' s' o', Stp (Γ.plus D0) H H' → Γ.st s' H' → H' D0 = some o' → AR acc' D0 (cut (mask M α ρ) H') o' → QD acc' s' → Nx H') → ta D0 σ H Nx
variable {Acc : Type} {Γ : Fr S} {K : W.Frag} {E : XK} {g : TG} {gd : GD} {ts : List Nat} {tt : TT} {C : TB S} {AR : ARep Acc} {ta : Addr → St → Hp → (Hp → Prop) → Prop} {step : Stepper S Acc} {wi : TI} {I : TL S} {vs : List Nat}
def Mono (AR : ARep Acc) : Prop := ∀ {acc : Acc} {D0 : Addr} {G G' : Hp} {o : HO}, Same G G' → AR acc D0 G o → AR acc D0 G' o
theorem Ok.less {M : Msk} {α : Nat → Addr} {σ : St} {H : Hp} {ρ : Env} {D0 : Addr} (ok : Ok (Γ.plus D0) K M α σ H ρ) (no : ∀ i, ¬ ownAt ρ i) : Ok Γ K M α σ H ρ := by
  refine ⟨fun a z => ok.sub a (.inl z), ok.trk, ok.out, ok.inj, ok.len, fun j sl e => ?_, ok.sf⟩
  have q := ok.slot j sl e
  cases sl with
  | no => trivial
  | d y => exact q
  | bor y =>
    obtain ⟨v, e1, r⟩ := q
    refine ⟨v, e1, ?_⟩
    rcases r with r | ⟨a, c, e2, e3, n, r⟩
    · exact .inl r
    · exact .inr ⟨a, c, e2, e3, ⟨n.1, fun z => n.2 (.inl z)⟩, r⟩
  | own y => exact (no j ⟨_, e, rfl⟩).elim
theorem Stp.more {D0 : Addr} {H H' : Hp} (p : Stp Γ H H') : Stp (Γ.plus D0) H H' := ⟨fun a o n e => p.keep a o (fun z => n (.inl z)) e, p.trk⟩
theorem Ok.innerD {M : Msk} {α : Nat → Addr} {σ : St} {H H' : Hp} {ρ : Env} {D0 : Addr} (ok : Ok Γ K M α σ H ρ) (hD : H D0 = none) (hD' : H' D0 ≠ none) (p : Stp (Γ.plus D0) H H') :
    Ok (Γ.plus D0) K (fun b => mask M α ρ b ∨ b = D0) α (L2.wipe σ vs) H' (inE ρ vs) ∧ (∀ i, ¬ ownAt (inE ρ vs) i) := by
  obtain ⟨okI, no⟩ := ok.inner (vs := vs) hD hD' (fun a o n ne e => p.keep a o (fun z => z.elim n ne) e) p.trk
  refine ⟨⟨fun a z => z.elim (fun z => .inl (ok.msub a z)) .inr, okI.trk, okI.out, okI.inj, okI.len, fun j sl e => ?_, okI.sf⟩, no⟩
  have mm : ∀ a, mask (fun b => mask M α ρ b ∨ b = D0) α (inE ρ vs) a → mask M α ρ a ∨ a = D0 := by
    rintro a (z | ⟨i, o, _⟩)
    · exact z
    · exact absurd o (no i)
  have c : Same (cut (mask M α ρ) H) (cut (mask (fun b => mask M α ρ b ∨ b = D0) α (inE ρ vs)) H') := fun b o e => by
    obtain ⟨n, e⟩ := of_cut e
    have ne : b ≠ D0 := ne_of_none e hD
    rw [cut_out fun z => (mm b z).elim n ne]
    exact p.keep b o (fun z => z.elim (fun z => n (ok.msub b z)) ne) e
  unfold inE at e
  rw [List.getElem?_map] at e
  cases q : (wipeE ρ vs)[j]? with
  | none => rw [q] at e; cases e
  | some u =>
    rw [q] at e
    cases e
    rcases wipeE_at q with rfl | ⟨nj, q⟩
    · trivial
    · rw [wipe_ne nj]
      have sl' := ok.slot j u q
      cases u with
      | no => trivial
      | d y => obtain ⟨v, e1, r⟩ := sl'; exact ⟨v, e1, R.same c r⟩
      | bor y =>
        obtain ⟨v, e1, r⟩ := sl'
        refine ⟨v, e1, ?_⟩
        rcases r with r | ⟨a, k, e2, e3, n, r⟩
        · exact .inl (R.same c r)
        · have na : a ≠ D0 := fun z => by
            obtain ⟨o, eo⟩ := r.some
            rw [z, hD] at eo
            cases eo
          exact .inr ⟨a, k, e2, e3, ⟨.inl (.inl n.1), fun z => z.elim n.2 na⟩, r.move c fun u e => p.keep a u (fun z => z.elim n.2 na) e⟩
      | own y =>
        have oj : ownAt ρ j := ⟨_, q, rfl⟩
        have ng : ¬ Γ.M (α j) := fun z => ok.out j oj (ok.sub _ z)
        have na : α j ≠ D0 := fun z => by
          obtain ⟨o, eo⟩ := sl'.2.some
          rw [z, hD] at eo
          cases eo
        exact ⟨_, sl'.1, .inr ⟨α j, y, rfl, rfl, ⟨.inl (.inr ⟨j, oj, rfl⟩), fun z => z.elim ng na⟩, sl'.2.move c fun o e => p.keep _ _ (fun z => z.elim ng na) e⟩⟩
theorem Ok.wipe {M : Msk} {α : Nat → Addr} {σ : St} {H : Hp} {ρ : Env} (ok : Ok Γ K M α σ H ρ) (no : ∀ i, ¬ ownAt ρ i) : Ok Γ K M α (L2.wipe σ vs) H (wipeE ρ vs) ∧ ∀ i, ¬ ownAt (wipeE ρ vs) i := by
  have no' : ∀ j, ¬ ownAt (wipeE ρ vs) j := by
    rintro j ⟨sl, e, o⟩
    rcases wipeE_at e with rfl | ⟨_, e⟩
    · cases o
    · exact no j ⟨sl, e, o⟩
  have mm : ∀ a, mask M α (wipeE ρ vs) a → mask M α ρ a := by
    rintro a (z | ⟨i, o, _⟩)
    · exact .inl z
    · exact (no' i o).elim
  refine ⟨⟨ok.sub, ok.trk, fun i o => (no' i o).elim, fun i j o _ _ => (no' i o).elim, by rw [wipe_length, wipeE_len]; exact ok.len, fun j sl e => ?_, ok.sf⟩, no'⟩
  rcases wipeE_at e with rfl | ⟨nj, e⟩
  · trivial
  · rw [wipe_ne nj]
    have q := ok.slot j sl e
    have c : Same (cut (mask M α ρ) H) (cut (mask M α (wipeE ρ vs)) H) := cut_mono mm
    cases sl with
    | no => trivial
    | d y => obtain ⟨v, e1, r⟩ := q; exact ⟨v, e1, R.same c r⟩
    | bor y =>
      obtain ⟨v, e1, r⟩ := q
      exact ⟨v, e1, RBo.carry c (fun _ _ _ _ e => e) r⟩
    | own y => exact (no j ⟨_, e, rfl⟩).elim
/-- how a loop stands -/
structure CoW (Γ : Fr S) (K : W.Frag) (AR : ARep Acc) (gd : GD) (C : TB S) (step : Stepper S Acc) (QA : Acc → S → Prop) (ρ : Env) (m0 : Msk) (D0 : Addr) (H1 : Hp) (ds : List D) (i m : Nat) (H : Hp) : Prop where
  m : m = ds.length - i
  le : i ≤ ds.length
  ex : ∃ acc o s', H D0 = some o ∧ AR acc D0 (cut m0 H) o ∧ Γ.st s' H ∧ Stp (Γ.plus D0) H1 H ∧ coT gd C step QA ρ (ds.drop i) acc s'
/-- one loop's turns -/
theorem co_turns {M : Msk} {α : Nat → Addr} {σ : St} {H1 : Hp} {ρ : Env} {D0 : Addr} {J : It} {ds : List D} {Qf : Hp → Prop} {QA : Acc → S → Prop}
    (hm : Mono AR) (hts : ts.all (fun i => vs.contains i) = true) (hg : ∀ Γ : Fr S, LnG Γ K ts g gd) (hc : LnT Γ K E0 tt C) (hact : LnAct Γ K AR ta step)
    (okw : ∀ {H : Hp}, Stp (Γ.plus D0) H1 H → H D0 ≠ none → Ok (Γ.plus D0) K M α (L2.wipe σ vs) H ρ) (no : ∀ i, ¬ ownAt ρ i) (gD : ¬ Γ.M D0)
    (jgo : ∀ i H, i < ds.length → Stp (Γ.plus D0) H1 H → J.go i H) (jstop : ∀ H, Stp (Γ.plus D0) H1 H → J.stop ds.length H)
    (jyld : ∀ (i : Nat) (H : Hp) (x : V) (H' : Hp) (d : D), ds[i]? = some d → Stp (Γ.plus D0) H1 H → (∀ a, mask M α ρ a → H a ≠ none) → J.yld i H x H' → Same H H' ∧ R K (cut (mask M α ρ) H') x d)
    (fin : ∀ H' acc s' o, Stp (Γ.plus D0) H1 H' → Γ.st s' H' → H' D0 = some o → AR acc D0 (cut (mask M α ρ) H') o → QA acc s' → Qf H') :
    ∀ i m H, CoW Γ K AR gd C step QA ρ (mask M α ρ) D0 H1 ds i m H →
      (J.stop i H ∧ Qf H) ∨ (J.go i H ∧ ∃ Nx : Hp → Prop, (∀ H', Nx H' → ∃ m', m' < m ∧ CoW Γ K AR gd C step QA ρ (mask M α ρ) D0 H1 ds (i + 1) m' H') ∧
        ∀ x H', J.yld i H x H' → g x (L2.wipe σ vs) H' fun σ2 H2 => L2.wipe σ2 vs = L2.wipe σ vs ∧ tt σ2 H2 fun b H3 => if b = true then ta D0 σ2 H3 Nx else Nx H3) := by
  have tsv : ∀ i ∈ ts, i ∈ vs := fun i z => by
    have := List.all_eq_true.mp hts i z
    simpa using this
  rintro i m H' ⟨rfl, hi', acc, o, s', hD', ra, st', kp, z⟩
  by_cases lt : i < ds.length
  · have e : ds.drop i = ds[i] :: ds.drop (i + 1) := List.drop_eq_getElem_cons lt
    rw [e] at z
    unfold coT at z
    obtain ⟨ρ1, e1, z⟩ := opt_ex z
    have okI := okw kp (by rw [hD']; exact fun z => by cases z)
    refine .inr ⟨jgo i H' lt kp, _, fun H2 w => ⟨ds.length - (i + 1), by omega, rfl, lt, w⟩, fun x H2 y => ?_⟩
    obtain ⟨sm, rx⟩ := jyld i H' x H2 ds[i] (List.getElem?_eq_getElem lt) kp okI.mtrk y
    have pI := Stp.of (Γ := Γ) sm
    refine hg (Γ.plus D0) (okI.step pI.more) rx e1 _ fun σ2 ok2 mm ww pw => ⟨(pw vs tsv).trans wipe_wipe, ?_⟩
    have no2 : ∀ i, ¬ ownAt ρ1 i := fun j oj => by
      have q : wmask (Γ.plus D0) α ρ1 (α j) := .inr ⟨j, oj, rfl⟩
      rcases ww _ q with q | ⟨l, ol, _⟩
      · exact ok2.out j oj (ok2.sub _ q)
      · exact no l ol
    have m1 : ∀ a, mask M α ρ1 a → M a := fun a q => q.elim id fun ⟨l, ol, _⟩ => (no2 l ol).elim
    have m0 : ∀ a, mask M α ρ a → M a := fun a q => q.elim id fun ⟨l, ol, _⟩ => (no l ol).elim
    have mE : ∀ {G : Hp}, Same (cut (mask M α ρ) G) (cut (mask M α ρ1) G) := cut_mono fun a q => .inl (m1 a q)
    have mE' : ∀ {G : Hp}, Same (cut (mask M α ρ1) G) (cut (mask M α ρ) G) := cut_mono fun a q => .inl (m0 a q)
    have gM : ∀ a, Γ.M a → mask M α ρ a := fun a z => .inl (okI.sub a (.inl z))
    have frt : ∀ a, Γ.M a → H' a ≠ none := fun a z => okI.trk a (okI.sub a (.inl z))
    refine hc (Ok.less ok2 no2) (Fr.same frt sm st') _ _ _ z (fun b H3 s3 p3 st3 z => ?_) (fun c dx H' x s' p st' r z => z.elim)
    have p3' := pI.trans p3
    have D3 : H3 D0 = some o := p3'.keep _ _ gD hD'
    have ra3 : AR acc D0 (cut (mask M α ρ) H3) o := hm (p3'.cut gM) ra
    cases b with
    | true =>
      rw [if_pos rfl] at z ⊢
      refine hact (ok2.step p3.more) gD no2 st3 D3 (hm mE ra3) _ _ z fun H4 acc' s4 o' k4 st4 D4 r4 z => ?_
      exact ⟨acc', o', s4, D4, hm mE' r4, st4, kp.trans (p3'.more.trans k4), z⟩
    | false =>
      rw [if_neg (by decide)] at z ⊢
      exact ⟨acc, o, s3, D3, ra3, st3, kp.trans p3'.more, z⟩
  · have e : i = ds.length := by omega
    subst e
    rw [List.drop_length] at z
    exact .inl ⟨jstop H' kp, fin H' acc s' o kp st' hD' ra z⟩
/-- the first clause -/
theorem co_first {o0 : Addr → HO} {acc0 : Acc} {M : Msk} {α : Nat → Addr} {σ : St} {H : Hp} {ρ : Env} {s : S} {QA : Acc → S → Prop} {QX : Exn → S → Prop} {Q : VK}
    (hm : Mono AR) (h0 : ∀ D0 G, AR acc0 D0 G (o0 D0)) (hts : ts.all (fun i => vs.contains i) = true) (hi : LnI Γ K E false wi I) (hg : ∀ Γ : Fr S, LnG Γ K ts g gd) (hc : LnT Γ K E0 tt C) (hact : LnAct Γ K AR ta step)
    (ok : Ok Γ K M α σ H ρ) (st : Γ.st s H) (q : I ρ s (fun ds s1 => coT gd C step QA (inE ρ vs) ds acc0 s1) QX)
    (k : ∀ D0 H' acc s' o, H D0 = none → H' D0 = some o → AR acc D0 (cut (fun b => mask M α ρ b ∨ b = D0) H') o → Stp Γ H H' → Γ.st s' H' → QA acc s' → Q (.ref D0) H')
    (kx : ∀ c dx H' x s', Stp Γ H H' → Γ.st s' H' → XR K (mask M α ρ) H' c dx x → QX x s' → E c dx H') : tCo o0 wi g tt ta vs σ H Q := by
  refine hi ok st _ QX _ q (fun J H1 ds s1 p1 st1 jok q1 => ?_) kx
  intro D0 nD
  have ok1 := ok.step p1
  have gD : ¬ Γ.M D0 := fun z => ok1.frt D0 z nD
  have hne : ∀ {H'' : Hp}, Stp (Γ.plus D0) H1 H'' → Keep Γ.M H1 H'' := fun kp a o n e => kp.keep a o (fun z => z.elim n (ne_of_none e nD)) e
  have p0 : Stp Γ H1 (upd H1 D0 (o0 D0)) := Stp.of (same_upd nD)
  obtain ⟨_, no⟩ := ok1.innerD (vs := vs) (H' := upd H1 D0 (o0 D0)) nD (by rw [upd_same]; exact fun z => by cases z) p0.more
  have mI : ∀ b, mask (fun b => mask M α ρ b ∨ b = D0) α (inE ρ vs) b → mask M α ρ b ∨ b = D0 := by
    rintro a (z | ⟨i, o, _⟩)
    · exact z
    · exact absurd o (no i)
  refine ⟨CoW Γ K AR gd C step QA (inE ρ vs) (mask (fun b => mask M α ρ b ∨ b = D0) α (inE ρ vs)) D0 H1 ds, ⟨ds.length - 0, rfl, Nat.zero_le _, acc0, o0 D0, s1, upd_same, h0 _ _, Fr.same ok1.frt (same_upd nD) st1, p0.more, q1⟩, ?_⟩
  refine co_turns hm hts hg hc hact (fun kp n => (ok1.innerD (vs := vs) nD n kp).1) no gD (fun i H lt kp => jok.go i H lt (hne kp)) (fun H kp => jok.stop H (hne kp)) (fun i H' x H2 d e kp mt y => ?_) (fun H' acc s' o kp st' hD' ra z => ?_)
  · exact jok.yld i H' x H2 d _ e (hne kp) (fun b z => (mI b z).imp id fun e => by rw [e]; exact nD) mt y
  · refine k D0 H' acc s' o (Classical.byContradiction fun q => p1.trk D0 q nD) hD' (hm (cut_mono fun a z => .inl z) ra) ⟨fun a o n e => hne kp a o n (p1.keep a o n e), fun a z => kp.trk a (p1.trk a z)⟩ st' z
/-- a walk of what is strict: nothing masked is walked -/
def LnIs (Γ : Fr S) (K : W.Frag) (E : XK) (wi : TI) (T : TL S) : Prop :=
  ∀ {M : Msk} {α : Nat → Addr} {σ : St} {H : Hp} {ρ : Env} {s : S}, Ok Γ K M α σ H ρ → Γ.st s H → ∀ (QD : List D → S → Prop) (QX : Exn → S → Prop) (Q : It → Hp → Prop), T ρ s QD QX →
    (∀ J H' ds s', Stp Γ H H' → Γ.st s' H' → JOk K (mask M α ρ) (mask M α ρ) H' J ds → QD ds s' → Q J H') →
    (∀ c dx H' x s', Stp Γ H H' → Γ.st s' H' → XR K (mask M α ρ) H' c dx x → QX x s' → E c dx H') → wi σ H Q
theorem lis_seq {te : TE} {A : TX S} (ha : Ln Γ K E .s te A) : LnIs Γ K E (iSeq K te) (xSeq A) := by
  intro M α σ H ρ s ok st QD QX Q q k kx
  refine ha ok st _ QX _ q (fun v H' d s' p st' r z => ?_) kx
  obtain ⟨ds, e, z⟩ := opt_ex z
  cases r with
  | lst h1 h2 =>
    cases e
    obtain ⟨n, h1⟩ := of_cut h1
    exact .inl ⟨_, rfl, .inl ⟨⟨_, .inl (.inl h1)⟩, k _ H' _ s' p st' (jok_list (fun _ y => y) n h1 h2) z⟩⟩
  | tup h1 h2 =>
    cases e
    exact .inl ⟨_, rfl, .inr ⟨⟨_, SqT.same cut_le h1⟩, k _ H' _ s' p st' (jok_tup (fun _ y => y) h1 h2) z⟩⟩
  | v => cases v <;> first | (cases e; exact .inr ⟨_, rfl, k _ H' _ s' p st' jok_str z⟩) | cases e
  | dct => cases e
  | obj => cases e
  | exc => cases e
  | dtp => cases e
/-- the second clause as a step of the first -/
def stIn (I1 : TL S) (gd1 : GD) (C1 : TB S) (vs1 : List Nat) (step1 : Stepper S Acc) : Stepper S Acc := fun ρ s acc QD => I1 ρ s (fun ds s1 => coT gd1 C1 step1 QD (wipeE ρ vs1) ds acc s1) (fun _ _ => False)
theorem la_in {g1 : TG} {gd1 : GD} {ts1 vs1 : List Nat} {tt1 : TT} {C1 : TB S} {ta1 : Addr → St → Hp → (Hp → Prop) → Prop} {step1 : Stepper S Acc} {wi1 : TI} {I1 : TL S}
    (hm : Mono AR) (hts : ts1.all (fun i => vs1.contains i) = true) (hi : LnIs Γ K E0 wi1 I1) (hg : ∀ Γ : Fr S, LnG Γ K ts1 g1 gd1) (hc : LnT Γ K E0 tt1 C1) (hact : LnAct Γ K AR ta1 step1) : LnAct Γ K AR (taIn wi1 g1 tt1 vs1 ta1) (stIn I1 gd1 C1 vs1 step1) := by
  intro M α σ H ρ s D0 acc o ok gD no st hD ra QD Nx q k
  refine hi (Ok.less ok no) st _ _ _ q (fun J H1 ds s1 p1 st1 jok q1 => ?_) (fun c dx H' x s' p st' r z => z.elim)
  have ok1 := ok.step p1.more
  have mD : M D0 := ok.sub D0 (.inr rfl)
  have hD1 : H1 D0 = some o := p1.keep _ _ gD hD
  have gM : ∀ a, Γ.M a → mask M α ρ a := fun a z => .inl (ok.sub a (.inl z))
  have ra1 : AR acc D0 (cut (mask M α ρ) H1) o := hm (p1.cut gM) ra
  have noW : ∀ i, ¬ ownAt (wipeE ρ vs1) i := (ok1.wipe (vs := vs1) no).2
  have mW : ∀ a, mask M α (wipeE ρ vs1) a → mask M α ρ a := fun a q => q.elim .inl fun ⟨l, ol, _⟩ => (noW l ol).elim
  have mW' : ∀ a, mask M α ρ a → mask M α (wipeE ρ vs1) a := fun a q => q.elim .inl fun ⟨l, ol, _⟩ => (no l ol).elim
  have kk : ∀ {H'' : Hp}, Stp (Γ.plus D0) H1 H'' → Keep (mask M α ρ) H1 H'' := fun kp a o n e => kp.keep a o (fun z => n (z.elim (gM a) fun e => .inl (by rw [e]; exact mD))) e
  refine ⟨CoW Γ K AR gd1 C1 step1 QD (wipeE ρ vs1) (mask M α (wipeE ρ vs1)) D0 H1 ds, ⟨ds.length - 0, rfl, Nat.zero_le _, acc, o, s1, hD1, hm (cut_mono mW) ra1, st1, .refl, q1⟩, ?_⟩
  refine co_turns hm hts hg hc hact (fun kp n => ((ok1.step kp).wipe (vs := vs1) no).1) noW gD (fun i H lt kp => jok.go i H lt (kk kp)) (fun H kp => jok.stop H (kk kp)) (fun i H' x H2 d e kp mt y => ?_) (fun H' acc s' o kp st' hD' ra z => ?_)
  · exact jok.yld i H' x H2 d _ e (kk kp) (fun b z => .inl (mW b z)) mt y
  · exact k H' acc s' o (p1.more.trans kp) st' hD' (hm (cut_mono mW') ra) z
end
end L2.DL
/-! Sets and dicts by comprehension, over data -/
namespace L2.DL
open L2 L2.My NdefX PySem PySem.Spec PyProof.Rows
/-! ### dicts as readings -/
def actPut (kx vx : Expr) (D : Addr) (env : PySem.Env) (k : Sem Fin) : Sem Fin := do
  (do
    let kv ← eval kx env
    let vv ← holding [kv] (eval vx env)
    standAt { kx.pos with endLine := vx.pos.endLine, endCol := vx.pos.endCol }
    holding [kv, vv] (dictSet D kv vv))
  k
def newDictO : Obj := { cls := .type "dict", data := .dict #[] }
section
variable {X : Cx} {kx vx tg iter : Expr} {ifs : List Expr} {scope : Scope} {pos : Pos}
theorem sort_dict1 {o0 : Addr → HO} (ho : ∀ (H : Hp) (h : Heap), sysModules < h.objs.size → ObjOk X.prog X.w H (h.push newDictO) h.objs.size (o0 h.objs.size)) (hs : ∀ x, foldedSetIterable iter X.env x = pure x) :
    Sort' X (.DictComp kx vx [⟨tg, iter, ifs, 0⟩] scope pos) iter tg ifs scope [] newDict newDictO o0 (actPut kx vx) where
  cls := rfl
  evl := ⟨_, rfl⟩
  new := fun h => wpAny_newObj_type h
  isO := ho
  trn := fun it D env => rfl
  nod := fun it D env => ⟨fun _ => rfl, rfl, rfl⟩
  sta := fun h hi => start_any rfl rfl rfl rfl rfl h hi
  fol := hs
end
theorem dtT_empty {P : Program} {w : World} {H : Hp} {h : Heap} (hb : sysModules < h.objs.size) : ObjOk P w H (h.push newDictO) h.objs.size (DTO h.objs.size []) := by
  have ho : (h.push newDictO).get? h.objs.size = some newDictO := Heap.get?_push_size _ rfl
  refine ⟨⟨beq_eq_false_iff_ne.mpr (Ne.symm (Nat.ne_of_lt hb)), Nat.zero_le _, newDictO, #[], 0, [], ho, ⟨rfl, rfl, rfl⟩, rfl, rfl, rfl, List.nodup_nil⟩, ⟨_, ho⟩, fun h1 h2 p k => ?_⟩
  obtain ⟨p1, p2, o, es, ep, xs, e, r⟩ := p
  exact ⟨p1, p2, o, es, ep, xs, k _ e, r⟩
theorem dtT_new {P : Program} {w : World} {H : Hp} {h : Heap} {a : Addr} {L : List (List Int × Addr)} (d : DT0 h a L) : ObjOk P w H h a (DTO a L) := by
  have d' := d
  obtain ⟨p1, p2, o, es, ep, xs, e, r⟩ := d'
  refine ⟨d, ⟨o, e⟩, fun h1 h2 p k => ?_⟩
  obtain ⟨p1, p2, o, es, ep, xs, e, r⟩ := p
  exact ⟨p1, p2, o, es, ep, xs, k _ e, r⟩
/-- the whole dict -/
theorem DT0.full {P : Program} {w : World} {h : Heap} {a : Addr} {L : List (List Int × Addr)} (d : DT0 h a L) (ht : ∀ q ∈ L, IsT P w h q.1 q.2) : ∃ xs : List (List Int × Addr × Value), L = xs.map (fun x => (x.1, x.2.1)) ∧ h.DictOfH (TK P w) a xs := by
  obtain ⟨p1, p2, o, es, ep, xs, e, ex, da, rows, eL, nd⟩ := d
  refine ⟨xs, eL, o, es, ep, e, ex, da, rows, fun x hx => ?_, nd⟩
  exact ht (x.1, x.2.1) (by rw [eL]; exact List.mem_map_of_mem (f := fun x : List Int × Addr × Value => (x.1, x.2.1)) hx)
theorem keys_stored {xs : List (List Int × Addr × Value)} {k : List Int} {b : Addr} {v : Value} :
    (storedH xs k b v).map (fun x => (x.1, x.2.1)) = if k ∈ xs.map (·.1) then xs.map (fun x => (x.1, x.2.1)) else xs.map (fun x => (x.1, x.2.1)) ++ [(k, b)] := by
  have mem : k ∈ xs.map (·.1) ↔ (atKey xs k).isSome = true := by
    unfold atKey
    rw [Option.isSome_map, List.find?_isSome]
    constructor
    · intro h
      obtain ⟨x, hx, e⟩ := List.mem_map.mp h
      exact ⟨x, hx, by simpa using e⟩
    · rintro ⟨x, hx, e⟩
      exact List.mem_map.mpr ⟨x, hx, by simpa using e⟩
  unfold storedH
  by_cases h : (atKey xs k).isSome = true
  · rw [if_pos h, if_pos (mem.mpr h), List.map_map]
    refine List.map_congr_left fun x hx => ?_
    show ((putAt k v x).1, (putAt k v x).2.1) = _
    unfold putAt
    split <;> rfl
  · rw [if_neg h, if_neg fun z => h (mem.mp z), List.map_append]
    rfl
def putT (L : List (List Int × Addr)) (k : List Int) (b : Addr) : List (List Int × Addr) := if k ∈ L.map (·.1) then L else L ++ [(k, b)]
section
variable {X : Cx} {pins : List (Addr × Obj)} {σ : L2.St} {H : Hp} {s : Shared} {A : Around} {E : Value → Shared → Prop}
theorem dto_at (I : Inv X pins σ H s) {a : Addr} {L : List (List Int × Addr)} (h : H a = some (DTO a L)) (hs : ∀ q ∈ L, SqT X.K H q.2 (q.1.map V.int)) : DT0 s.heap a L ∧ ∃ xs : List (List Int × Addr × Value), L = xs.map (fun x => (x.1, x.2.1)) ∧ s.heap.DictOfH (TK X.prog X.w) a xs := by
  have d : DT0 s.heap a L := (I.hok a _ h).1
  exact ⟨d, d.full fun q hq => I.isT (hs q hq)⟩
theorem dt0_of {P : Program} {w : World} {h : Heap} {a : Addr} {xs : List (List Int × Addr × Value)} (z : (a == sysModules) = false) (l : xs.length ≤ sizeLine) (d : h.DictOfH (TK P w) a xs) : DT0 h a (xs.map fun x => (x.1, x.2.1)) := by
  obtain ⟨o, es, ep, e, ex, da, rows, _, nd⟩ := d
  exact ⟨z, by rw [List.length_map]; exact l, o, es, ep, xs, e, ex, da, rows, rfl, nd⟩
/-- d[t] = v by a comprehension, t a tuple of ints -/
theorem dto_put {D b : Addr} {L : List (List Int × Addr)} {k : List Int} {v : Value} {Q : Unit → Shared → Prop} (hu : X.A.units < cLine) (I : Inv X pins σ H s) (hD : H D = some (DTO D L)) (hs : ∀ q ∈ L, SqT X.K H q.2 (q.1.map V.int)) (hb : SqT X.K H b (k.map V.int)) (hl : L.length < sizeLine)
    (h : ∀ s', Inv X pins σ (upd H D (DTO D (putT L k b))) s' → Q () s') : wpAny (model X.prog X.w) X.A (dictSet D (.ref b) v) Q E s := by
  obtain ⟨d, xs, eL, dd⟩ := dto_at I hD hs
  have lx : xs.length = L.length := by rw [eL, List.length_map]
  refine wpAny_dictSet_heap (hsz := by omega) (knd := TK X.prog X.w) (k := k) hu (I.isT hb) dd fun h' dd' sb => h _ ?_
  have lst : (storedH xs k b v).length ≤ sizeLine := by
    unfold storedH
    split
    · rw [List.length_map]; omega
    · rw [List.length_append, List.length_cons, List.length_nil]; omega
  have new := dt0_of (P := X.prog) (w := X.w) d.ns lst dd'
  rw [keys_stored, ← eL] at new
  have ek : xs.map (·.1) = L.map (·.1) := by rw [eL, List.map_map]; rfl
  rw [ek] at new
  obtain ⟨o, _, _, e, _⟩ := dd'
  exact d_write I (by rw [hD]; exact True.intro) sb ⟨o, e⟩ (dtT_new (P := X.prog) (w := X.w) new)
end
def taPutK (tk tv : TE) : Addr → L2.St → Hp → (Hp → Prop) → Prop := fun D σ H Nx => tk σ H fun y H1 => tv σ H1 fun z H2 => ∃ kvs k, y = kV k ∧ H2 D = some (.dK kvs) ∧ kvs.length < sizeLine ∧ Nx (upd H2 D (.dK (putK kvs k z)))
def taPutT (K : W.Frag) (tk tv : TE) : Addr → L2.St → Hp → (Hp → Prop) → Prop := fun D σ H Nx => tk σ H fun y H1 => tv σ H1 fun _ H2 => ∃ b k L, y = .ref b ∧ SqT K H2 b (k.map V.int) ∧ H2 D = some (DTO D L) ∧ (∀ q ∈ L, SqT K H2 q.2 (q.1.map V.int)) ∧ L.length < sizeLine ∧ Nx (upd H2 D (DTO D (putT L k b)))
section
variable {Y : Cx} {kx vx : Expr} {tk tv : TE} {D : Addr}
theorem pac_putK (hxe : ∀ (e : Value) (s : Shared), Y.xe e s → False) (hk : PE Y kx tk) (hv : PE Y vx tv) : PAc Y (actPut kx vx D Y.env) [] (taPutK tk tv D) := by
  refine ⟨fun pins s σ H Nx I h Qk Ek k hk' => ?_⟩
  have hx0 : ∀ (e : Value) (s : Shared), Y.xe e s → Ek e s := fun e s z => (hxe e s z).elim
  unfold actPut
  refine wpAny_bind (wpAny_bind (wpAny_mono (hk.run pins s σ H _ I h) (fun u s1 ⟨y, H1, I1, r1, q1⟩ => ?_) hx0))
  refine wpAny_bind (wpAny_holding (wpAny_mono (hv.run pins s1 σ H1 _ I1 q1) (fun v s2 ⟨z, H2, I2, r2, kvs, kk, ey, hD, hl, q2⟩ => ?_) hx0))
  subst ey
  refine wpAny_bind (wpAny_standAt (wpAny_holding (d_dictSet I2 hD hl r1 r2 fun s3 I3 => hk' s3 _ I3 q2)))
theorem pac_putT (hu : Y.A.units < cLine) (hxe : ∀ (e : Value) (s : Shared), Y.xe e s → False) (hk : PE Y kx tk) (hv : PE Y vx tv) : PAc Y (actPut kx vx D Y.env) [] (taPutT Y.K tk tv D) := by
  refine ⟨fun pins s σ H Nx I h Qk Ek k hk' => ?_⟩
  have hx0 : ∀ (e : Value) (s : Shared), Y.xe e s → Ek e s := fun e s z => (hxe e s z).elim
  unfold actPut
  refine wpAny_bind (wpAny_bind (wpAny_mono (hk.run pins s σ H _ I h) (fun u s1 ⟨y, H1, I1, r1, q1⟩ => ?_) hx0))
  refine wpAny_bind (wpAny_holding (wpAny_mono (hv.run pins s1 σ H1 _ I1 q1) (fun v s2 ⟨z, H2, I2, r2, b, kk, L, ey, hb, hD, hs, hl, q2⟩ => ?_) hx0))
  subst ey
  cases r1
  refine wpAny_bind (wpAny_standAt (wpAny_holding (dto_put hu I2 hD hs hb hl fun s3 I3 => hk' s3 _ I3 q2)))
end
section
variable {X : Cx} {kx vx tg iter : Expr} {ifs : List Expr} {scope : Scope} {pos : Pos} {own : List (Str × Nat)} {wi : TI} {g : TG} {tt : TT} {tk tv : TE}
abbrev oDK : Addr → HO := fun _ => .dK []
abbrev oDT : Addr → HO := fun D => DTO D []
/-- {k: v for tg in iter if ..}, keys ints or texts -/
theorem pe_dcK (hc : X.calm = true) (hN : X.N.Nodup) (hi : PI X tg iter wi) (ok : BlkOk X.N X.env.scope scope own)
    (hg : ∀ (s : Shared) (H : Hp) (C : Addr) (cl : List (Str × Addr)) (fp : List Addr), PG (X.blk s H scope (compEnvC scope cl C X.env) fp) tg g) (ht : ∀ (s : Shared) (H : Hp) (C : Addr) (cl : List (Str × Addr)) (fp : List Addr), PTs (X.blk s H scope (compEnvC scope cl C X.env) fp) ifs tt)
    (hk : ∀ (s : Shared) (H : Hp) (C : Addr) (cl : List (Str × Addr)) (fp : List Addr), PE (X.blk s H scope (compEnvC scope cl C X.env) fp) kx tk) (hv : ∀ (s : Shared) (H : Hp) (C : Addr) (cl : List (Str × Addr)) (fp : List Addr), PE (X.blk s H scope (compEnvC scope cl C X.env) fp) vx tv)
    (hs : ∀ x, foldedSetIterable iter X.env x = pure x := by intro _; rfl) : PE X (.DictComp kx vx [⟨tg, iter, ifs, 0⟩] scope pos) (tCo oDK wi g tt (taPutK tk tv) (own.map (·.2))) :=
  pe_co (vs1 := []) (sort_dict1 (fun _ h hb => dk_empty h hb) hs) hc hN hi ok (fun _ z => by cases z) hg ht fun s H C cl fp D => pac_putK (Y := X.blk s H scope (compEnvC scope cl C X.env) fp) (fun _ _ z => z) (hk s H C cl fp) (hv s H C cl fp)
/-- keys tuples of ints -/
theorem pe_dcT (hu : X.A.units < cLine) (hc : X.calm = true) (hN : X.N.Nodup) (hi : PI X tg iter wi) (ok : BlkOk X.N X.env.scope scope own)
    (hg : ∀ (s : Shared) (H : Hp) (C : Addr) (cl : List (Str × Addr)) (fp : List Addr), PG (X.blk s H scope (compEnvC scope cl C X.env) fp) tg g) (ht : ∀ (s : Shared) (H : Hp) (C : Addr) (cl : List (Str × Addr)) (fp : List Addr), PTs (X.blk s H scope (compEnvC scope cl C X.env) fp) ifs tt)
    (hk : ∀ (s : Shared) (H : Hp) (C : Addr) (cl : List (Str × Addr)) (fp : List Addr), PE (X.blk s H scope (compEnvC scope cl C X.env) fp) kx tk) (hv : ∀ (s : Shared) (H : Hp) (C : Addr) (cl : List (Str × Addr)) (fp : List Addr), PE (X.blk s H scope (compEnvC scope cl C X.env) fp) vx tv)
    (hs : ∀ x, foldedSetIterable iter X.env x = pure x := by intro _; rfl) : PE X (.DictComp kx vx [⟨tg, iter, ifs, 0⟩] scope pos) (tCo oDT wi g tt (taPutT X.K tk tv) (own.map (·.2))) :=
  pe_co (vs1 := []) (sort_dict1 (fun _ h hb => dtT_empty hb) hs) hc hN hi ok (fun _ z => by cases z) hg ht fun s H C cl fp D => pac_putT (Y := X.blk s H scope (compEnvC scope cl C X.env) fp) hu (fun _ _ z => z) (hk s H C cl fp) (hv s H C cl fp)
/-- a comprehension of a dict on a name's line -/
theorem sw_trueD {gs : List Comprehension} {py : Pos} {y : Str} {l : Nat} {env : PySem.Env} (fk : env.scope.kind = .function) (hy : env.scope.names.lookup y = some .local) (hl : (py.line == pos.line) = true)
    (own0 : (scope.names.any fun (n, k) => n == y && (k == .local || k == .cell)) = false) : swapsWith (.DictComp kx vx gs scope pos) (some (.Name y py)) l env = pure true := by
  have k1 : env.kindOf y = some .local := hy
  have k2 : env.blockKind = .function := by unfold Env.blockKind; rw [fk]; rfl
  unfold swapsWith
  simp only [k2, k1, own0, Expr.pos, hl]
  rfl
variable {i : Nat} {y : Str} {py spos : Pos}
theorem ps_setDcK (hc : X.calm = true) (hN : X.N.Nodup) (hy : X.N[i]? = some y) (hyl : X.env.scope.names.lookup y = some .local) (hsw : swapsWith (.DictComp kx vx [⟨tg, iter, ifs, 0⟩] scope pos) (some (.Name y py)) spos.line X.env = pure true) (hi : PI X tg iter wi) (ok : BlkOk X.N X.env.scope scope own)
    (hg : ∀ (s : Shared) (H : Hp) (C : Addr) (cl : List (Str × Addr)) (fp : List Addr), PG (X.blk s H scope (compEnvC scope cl C X.env) fp) tg g) (ht : ∀ (s : Shared) (H : Hp) (C : Addr) (cl : List (Str × Addr)) (fp : List Addr), PTs (X.blk s H scope (compEnvC scope cl C X.env) fp) ifs tt)
    (hk : ∀ (s : Shared) (H : Hp) (C : Addr) (cl : List (Str × Addr)) (fp : List Addr), PE (X.blk s H scope (compEnvC scope cl C X.env) fp) kx tk) (hv : ∀ (s : Shared) (H : Hp) (C : Addr) (cl : List (Str × Addr)) (fp : List Addr), PE (X.blk s H scope (compEnvC scope cl C X.env) fp) vx tv)
    (hs : ∀ x, foldedSetIterable iter X.env x = pure x := by intro _; rfl) : PS X (.Assign [.Name y py] (.DictComp kx vx [⟨tg, iter, ifs, 0⟩] scope pos) spos) (tAsg (tCo oDK wi g tt (taPutK tk tv) (own.map (·.2))) (gName i)) :=
  ps_setCo (vs1 := []) (sort_dict1 (fun _ h hb => dk_empty h hb) hs) hc hN hi ok (fun _ z => by cases z) hg ht (fun s H C cl fp D => pac_putK (Y := X.blk s H scope (compEnvC scope cl C X.env) fp) (fun _ _ z => z) (hk s H C cl fp) (hv s H C cl fp)) hy hyl hsw ⟨_, fun use => rfl⟩
theorem ps_setDcT (hu : X.A.units < cLine) (hc : X.calm = true) (hN : X.N.Nodup) (hy : X.N[i]? = some y) (hyl : X.env.scope.names.lookup y = some .local) (hsw : swapsWith (.DictComp kx vx [⟨tg, iter, ifs, 0⟩] scope pos) (some (.Name y py)) spos.line X.env = pure true) (hi : PI X tg iter wi) (ok : BlkOk X.N X.env.scope scope own)
    (hg : ∀ (s : Shared) (H : Hp) (C : Addr) (cl : List (Str × Addr)) (fp : List Addr), PG (X.blk s H scope (compEnvC scope cl C X.env) fp) tg g) (ht : ∀ (s : Shared) (H : Hp) (C : Addr) (cl : List (Str × Addr)) (fp : List Addr), PTs (X.blk s H scope (compEnvC scope cl C X.env) fp) ifs tt)
    (hk : ∀ (s : Shared) (H : Hp) (C : Addr) (cl : List (Str × Addr)) (fp : List Addr), PE (X.blk s H scope (compEnvC scope cl C X.env) fp) kx tk) (hv : ∀ (s : Shared) (H : Hp) (C : Addr) (cl : List (Str × Addr)) (fp : List Addr), PE (X.blk s H scope (compEnvC scope cl C X.env) fp) vx tv)
    (hs : ∀ x, foldedSetIterable iter X.env x = pure x := by intro _; rfl) : PS X (.Assign [.Name y py] (.DictComp kx vx [⟨tg, iter, ifs, 0⟩] scope pos) spos) (tAsg (tCo oDT wi g tt (taPutT X.K tk tv) (own.map (·.2))) (gName i)) :=
  ps_setCo (vs1 := []) (sort_dict1 (fun _ h hb => dtT_empty hb) hs) hc hN hi ok (fun _ z => by cases z) hg ht (fun s H C cl fp D => pac_putT (Y := X.blk s H scope (compEnvC scope cl C X.env) fp) hu (fun _ _ z => z) (hk s H C cl fp) (hv s H C cl fp)) hy hyl hsw ⟨_, fun use => rfl⟩
end
end L2.DL
/-! Sets and dicts over data: comprehensions, in, stores -/
namespace L2.DL
open L2 L2.My NdefX PySem PySem.Spec PyProof.Rows
/-! ### keys -/
def asKey : D → Option Key
  | .v (.int i) => some (.inl i)
  | .v (.str x) => some (.inr x)
  | _ => none
theorem asKey_eq {d : D} {k : Key} (h : asKey d = some k) : d = .v (kV k) := by
  unfold asKey at h
  split at h
  · cases h; rfl
  · cases h; rfl
  · cases h
def asTI : D → Option (List Int)
  | .tup ds => asIs ds
  | _ => none
theorem asTI_eq {d : D} {k : List Int} (h : asTI d = some k) : ∃ ds, d = .tup ds ∧ asIs ds = some k := by
  unfold asTI at h
  split at h
  · exact ⟨_, rfl, h⟩
  · cases h
def putDk (kvs : List (Key × D)) (k : Key) (d : D) : List (Key × D) :=
  if (kvs.any fun kv => decide (kv.1 = k)) = true then kvs.map (fun kv => if kv.1 = k then (kv.1, d) else kv) else kvs ++ [(k, d)]
section
variable {K : W.Frag} {G : Hp}
theorem RKv.app : ∀ {vs us : List (Key × V)} {ds es : List (Key × D)}, RKv K G vs ds → RKv K G us es → RKv K G (vs ++ us) (ds ++ es)
  | _, _, _, _, .nil, h => h
  | _, _, _, _, .cons h t, h' => .cons h (RKv.app t h')
theorem RKv.any {k : Key} : ∀ {vs : List (Key × V)} {ds : List (Key × D)}, RKv K G vs ds → (vs.any fun kv => decide (kv.1 = k)) = ds.any fun kv => decide (kv.1 = k)
  | _, _, .nil => rfl
  | _, _, .cons _ t => by rw [List.any_cons, List.any_cons, RKv.any t]
theorem RKv.repl {k : Key} {v : V} {d : D} (r : R K G v d) : ∀ {vs : List (Key × V)} {ds : List (Key × D)}, RKv K G vs ds → RKv K G (vs.map fun kv => if kv.1 = k then (kv.1, v) else kv) (ds.map fun kv => if kv.1 = k then (kv.1, d) else kv)
  | _, _, .nil => .nil
  | _, _, @RKv.cons _ _ k' _ _ _ _ h t => by
    rw [List.map_cons, List.map_cons]
    by_cases e : k' = k
    · simp only [e, if_true]
      exact .cons r (RKv.repl r t)
    · simp only [e, if_false]
      exact .cons h (RKv.repl r t)
theorem RKv.put {k : Key} {v : V} {d : D} {vs : List (Key × V)} {ds : List (Key × D)} (h : RKv K G vs ds) (r : R K G v d) : RKv K G (putK vs k v) (putDk ds k d) := by
  unfold putK putDk
  rw [RKv.any h]
  by_cases e : (ds.any fun kv => decide (kv.1 = k)) = true
  · rw [if_pos e, if_pos e]
    exact RKv.repl r h
  · rw [if_neg e, if_neg e]
    exact RKv.app h (.cons r .nil)
end
/-! ### in, not in: lists, tuples, texts' lists, dicts -/
def rInX (K : W.Frag) (b : Bool) : R2 := fun x y H Q => rInP K b x y H Q ∨ (∃ a o, y = .ref a ∧ DGet H a x o ∧ Q (.bl (b == o.isSome)) H) ∨
  ∃ a p k L, x = .ref p ∧ y = .ref a ∧ SqT K H p (k.map V.int) ∧ H a = some (DTO a L) ∧ (∀ q ∈ L, SqT K H q.2 (q.1.map V.int)) ∧ Q (.bl (b == decide (k ∈ L.map (·.1)))) H
section
variable {X : Cx}
theorem dto_has {h : Heap} {P : Program} {w : World} {xs : List (List Int × Addr × Value)} {L : List (List Int × Addr)} {k : List Int} (eL : L = xs.map (fun x => (x.1, x.2.1))) : (atKey xs k).isSome = decide (k ∈ L.map (·.1)) := by
  rw [eL, List.map_map]
  unfold atKey
  rw [Option.isSome_map, Bool.eq_iff_iff, List.find?_isSome, decide_eq_true_eq]
  constructor
  · rintro ⟨x, hx, e⟩
    exact List.mem_map.mpr ⟨x, hx, by simpa using e⟩
  · intro h
    obtain ⟨x, hx, e⟩ := List.mem_map.mp h
    exact ⟨x, hx, by simpa using e⟩
theorem op_inX (hu : X.A.units + 64 < cLine) : OpR X (compareOp .In) (rInX X.K true) := by
  intro pins s σ H x y v u Q I rx ry h
  rcases h with h | ⟨a, o, rfl, g, q⟩ | ⟨a, p, k, L, rfl, rfl, hk, hL, hs, q⟩
  · exact op_inP hu pins s σ H x y v u Q I rx ry h
  · cases (show u = Value.ref a from ry)
    refine d_in (by omega) I g rx fun s' I' => ⟨.bl o.isSome, H, I', rfl, by simpa using q⟩
  · cases (show u = Value.ref a from ry)
    cases (show v = Value.ref p from rx)
    obtain ⟨d, xs, eL, dd⟩ := dto_at I hL hs
    refine wpAny_in_heap (knd := TK X.prog X.w) (k := k) (tupleKind_room_in1 (by omega)) (I.isT hk) d.ns dd ⟨.bl _, H, I.tok _, rfl, ?_⟩
    rw [dto_has (h := s.heap) (P := X.prog) (w := X.w) eL]
    simpa using q
theorem op_notInX (hu : X.A.units + 64 < cLine) : OpR X (compareOp .NotIn) (rInX X.K false) := by
  intro pins s σ H x y v u Q I rx ry h
  have eb : ∀ b : Bool, (false == b) = !b := by decide
  rcases h with h | ⟨a, o, rfl, g, q⟩ | ⟨a, p, k, L, rfl, rfl, hk, hL, hs, q⟩
  · exact op_notInP hu pins s σ H x y v u Q I rx ry h
  · cases (show u = Value.ref a from ry)
    refine d_notIn (by omega) I g rx fun s' I' => ⟨.bl (!o.isSome), H, I', rfl, by rw [← eb]; exact q⟩
  · cases (show u = Value.ref a from ry)
    cases (show v = Value.ref p from rx)
    obtain ⟨d, xs, eL, dd⟩ := dto_at I hL hs
    refine wpAny_notIn_heap (knd := TK X.prog X.w) (k := k) (tupleKind_room_in1 (by omega)) (I.isT hk) d.ns dd ⟨.bl _, H, I.tok _, rfl, ?_⟩
    rw [dto_has (h := s.heap) (P := X.prog) (w := X.w) eL, ← eb]
    exact q
end
def inX (b : Bool) (x y : D) : Option D := match y with
  | .dct kvs => (asKey x).map fun k => dB (b == kvs.any fun kv => decide (kv.1 = k))
  | .dtp ks => (asTI x).map fun k => dB (b == decide (k ∈ ks))
  | _ => inD b x y
section
variable {K : W.Frag}
theorem rb_tint {g m : Msk} {H : Hp} {v : V} {d : D} {k : List Int} (r : RB K g m H v d) (e : asTI d = some k) : ∃ p, v = .ref p ∧ SqT K H p (k.map V.int) := by
  obtain ⟨ds, rfl, e⟩ := asTI_eq e
  obtain ⟨a, xs, rfl, h1, h2⟩ := RBo.tup r
  exact ⟨a, rfl, by rw [← asIs_rel h2 e]; exact h1⟩
theorem rb_dtp {g m : Msk} {H : Hp} {v : V} {ks : List (List Int)} (r : RB K g m H v (.dtp ks)) : ∃ a L, v = .ref a ∧ H a = some (DTO a L) ∧ (∀ q ∈ L, SqT K H q.2 (q.1.map V.int)) ∧ ks = L.map (·.1) := by
  rcases r with r | ⟨_, c, _, e, _⟩
  · cases r with
    | dtp h1 h2 h3 => exact ⟨_, _, rfl, cut_le _ _ h1, fun q hq => SqT.same cut_le (h2 q hq), h3⟩
  · cases c <;> cases e
theorem p2_inX {b : Bool} : P2 K .s (rInX K b) (inX b) := by
  intro g m H v u d c e Q hm r1 r2 he k
  unfold inX at he
  split at he
  · rename_i kvs
    obtain ⟨key, ek, e2⟩ := Option.map_eq_some_iff.mp he
    subst e2
    obtain ⟨a, ws, rfl, h1, h2⟩ := RBo.dct r2
    have := asKey_eq ek
    subst this
    obtain rfl := RBo.sc r1
    refine .inr (.inl ⟨a, _, rfl, DGet.k h1, ?_⟩)
    rw [← valV_any, RKv.any h2]
    exact k _ H (Same.refl _) (.v _)
  · rename_i ks
    obtain ⟨key, ek, e2⟩ := Option.map_eq_some_iff.mp he
    subst e2
    obtain ⟨p, rfl, hp⟩ := rb_tint r1 ek
    obtain ⟨a, L, rfl, h1, h2, rfl⟩ := rb_dtp r2
    exact .inr (.inr ⟨a, p, key, L, rfl, rfl, hp, h1, h2, k _ H (Same.refl _) (.v _)⟩)
  · exact .inl (p2_in hm r1 r2 he k)
end
/-! ### o[i] = v -/
def rSetX : TSet := fun o i v H Q => rSetL o i v H Q ∨ rSetD o i v H Q
theorem set_any {X : Cx} (hu : X.A.units + 1 < cLine) : PSet X rSetX := by
  intro pins s σ H o i v ov iv u Q I ro ri rv h
  rcases h with h | h
  · exact set_list pins s σ H o i v ov iv u Q I ro ri rv h
  · exact set_dict hu pins s σ H o i v ov iv u Q I ro ri rv h
def putX (ρ : Env) (i : Nat) (k d : D) : Option Cell := match ρ[i]? with
  | some (.own (.lst xs)) => (asI k).bind fun k => (ixN xs.length k).map fun j => .lst (xs.set j d)
  | some (.own (.dct kvs)) => (asKey k).bind fun k => if kvs.length < sizeLine then some (.dct (putDk kvs k d)) else none
  | _ => none
section
variable {S : Type} {Γ : Fr S} {K : W.Frag} {E : XK} {ta tb tk tv : TE} {A B : TX S} {g : TG} {gd : GD} {ts : List Nat} {tt : TT} {C : TB S} {wi : TI} {I : TL S} {vs : List Nat}
def isO (ρ : Env) (i : Nat) : Prop := ∃ c, ρ[i]? = some (.own c)
def pSetX (i : Nat) (A B : TX S) : TP S := fun ρ s P => isO ρ i ∧ A ρ s (fun d s1 => B ρ s1 (fun k s2 => opt (putX ρ i k d) fun c => P.nx (ρ.set i (.own c)) s2) P.ex) P.ex
theorem ls_setX {i : Nat} (ha : Ln Γ K E .s ta A) (hb : Ln Γ K E .b tb B) : LnS Γ K E (tAsg ta (gSub (tVar i) tb rSetX)) (pSetX i A B) := by
  intro M α σ H ρ s ok st P Dn ⟨⟨c0, e'⟩, q⟩ kn kb kc kr kx
  refine ha ok st _ P.ex _ q (fun v H1 d s1 p1 st1 r1 z => ?_) (fun c dx H' x s' p st' r z => kx c dx H' x s' (stS_end p) st' (r.mono fun _ z => .inl z) z)
  refine ⟨_, (((ok.step p1).slot i _ e').1), ?_⟩
  refine hb (ok.step p1) st1 _ P.ex _ z (fun u H2 k s2 p2 st2 r2 z => ?_) (fun c dx H' x s' p st' r z => kx c dx H' x s' (stS_end (p1.trans p)) st' (r.mono fun _ z => .inl z) z)
  obtain ⟨c1, ec, zz⟩ := opt_ex z
  clear z
  have p := p1.trans p2
  have ok' := ok.step p
  have cell := (ok'.slot i _ e').2
  have rd : R K (cut (mask M α ρ) H2) v d := R.same (p2.cut ok.msub) r1
  have loc : ∀ {o : HO}, Γ.st s2 (upd H2 (α i) o) := fun {o} => Γ.loc (fun a y => by rw [upd_ne fun e => ok.out i ⟨_, e', rfl⟩ (ok.sub _ (by rw [← e]; exact y))]) st2
  unfold putX at ec
  rw [e'] at ec
  cases c0 with
  | lst xs =>
    obtain ⟨n, en, ec⟩ := Option.bind_eq_some_iff.mp ec
    obtain ⟨j, ej, ec⟩ := Option.map_eq_some_iff.mp ec
    subst ec
    obtain rfl := asI_sc r2 en
    obtain ⟨ws, h1, rr⟩ := cell
    obtain ⟨o3, p3⟩ := ok'.turn e' (RAll.set rd j rr)
    refine .inl ⟨_, ws, n, j, rfl, rfl, h1, by rw [RAll.len rr]; exact ej, ?_⟩
    exact kn σ _ _ s2 α o3 loc ((stS_stp p).trans p3) zz
  | dct kvs =>
    obtain ⟨key, ek, ec⟩ := Option.bind_eq_some_iff.mp ec
    split at ec
    · rename_i hl
      cases ec
      have := asKey_eq ek
      subst this
      obtain rfl := RBo.sc r2
      obtain ⟨ws, h1, rr⟩ := cell
      obtain ⟨o3, p3⟩ := ok'.turnC (c' := .dct (putDk kvs key d)) (u := .dK (putK ws key v)) e' fun m' H' sm e => ⟨_, e, RKv.same sm (RKv.put rr rd)⟩
      refine .inr ⟨α i, _, rfl, DPut.k h1 (by rw [RKv.len rr]; exact hl), ?_⟩
      exact kn σ _ _ s2 α o3 loc ((stS_stp p).trans p3) zz
    · cases ec
  | obj => cases ec
/-! ### acts -/
def arS (w : World) : ARep (List Int) := fun acc D0 _ o => ∃ Sf n, o = SetO w D0 Sf n ∧ (∀ k, Sf k = decide (k ∈ acc)) ∧ n ≤ acc.length
def arK (K : W.Frag) : ARep (List (Key × D)) := fun acc _ G o => ∃ ws, o = .dK ws ∧ RKv K G ws acc
def arT (K : W.Frag) : ARep (List (List Int)) := fun acc D0 G o => ∃ L, o = DTO D0 L ∧ (∀ q ∈ L, SqT K G q.2 (q.1.map V.int)) ∧ acc = L.map (·.1)
theorem arS_mono {w : World} : Mono (arS w) := fun _ h => h
theorem arK_mono : Mono (arK K) := fun s ⟨ws, e, r⟩ => ⟨ws, e, RKv.same s r⟩
theorem arT_mono : Mono (arT K) := fun s ⟨L, e, r, h⟩ => ⟨L, e, fun q hq => SqT.same s (r q hq), h⟩
def stAdd (A : TX S) : Stepper S (List Int) := fun ρ s acc QD => A ρ s (fun y s1 => opt (asI y) fun k => acc.length < 1000 ∧ QD (acc ++ [k]) s1) (fun _ _ => False)
def stPutK (A B : TX S) : Stepper S (List (Key × D)) := fun ρ s acc QD => A ρ s (fun y s1 => B ρ s1 (fun z s2 => opt (asKey y) fun k => acc.length < sizeLine ∧ QD (putDk acc k z) s2) (fun _ _ => False)) (fun _ _ => False)
def stPutT (A B : TX S) : Stepper S (List (List Int)) := fun ρ s acc QD => A ρ s (fun y s1 => B ρ s1 (fun _ s2 => opt (asTI y) fun k => acc.length < sizeLine ∧ QD (if k ∈ acc then acc else acc ++ [k]) s2) (fun _ _ => False)) (fun _ _ => False)
section
variable {M : Msk} {α : Nat → Addr} {σ : L2.St} {H : Hp} {ρ : Env} {s : S} {D0 : Addr} {o : HO}
theorem at_D0 (mD : mask M α ρ D0) : Same (cut (mask M α ρ) H) (cut (mask M α ρ) (upd H D0 o)) := fun b u e => by
  obtain ⟨n, e⟩ := of_cut e
  rw [cut_out n, upd_ne fun z => n (by rw [z]; exact mD)]
  exact e
theorem stp_D0 : Stp (Γ.plus D0) H (upd H D0 o) := ⟨fun a u n e => by rw [upd_ne fun z => n (.inr z)]; exact e, fun a z => by
  by_cases ne : a = D0
  · rw [ne, upd_same]; exact fun q => by cases q
  · rw [upd_ne ne]; exact z⟩
end
theorem la_add {w : World} (ha : Ln Γ K E0 .b ta A) : LnAct Γ K (arS w) (taAdd (rSAdd w) ta) (stAdd A) := by
  intro M α σ H ρ s D0 acc o ok gD no st hD ra QD Nx q k
  refine ha (Ok.less ok no) st _ _ _ q (fun v H1 d s1 p1 st1 r z => ?_) (fun c dx H' x s' p st' r z => z.elim)
  obtain ⟨n, en, z⟩ := opt_ex z
  obtain rfl := asI_sc r en
  obtain ⟨Sf, c, rfl, hS, hc⟩ := ra
  have hD1 : H1 D0 = some (SetO w D0 Sf c) := p1.keep _ _ gD hD
  refine ⟨D0, n, Sf, c, rfl, rfl, hD1, by have := z.1; unfold scanBound; omega, ?_⟩
  refine k _ _ s1 _ (p1.more.trans stp_D0) (Γ.loc (fun a y => by rw [upd_ne fun e => gD (by rw [← e]; exact y)]) st1) upd_same ⟨_, _, rfl, fun j => ?_, ?_⟩ z.2
  · rw [hS j]; simp
  · rw [List.length_append, List.length_cons, List.length_nil]; split <;> omega
theorem la_putK (ha : Ln Γ K E0 .b tk A) (hb : Ln Γ K E0 .s tv B) : LnAct Γ K (arK K) (taPutK tk tv) (stPutK A B) := by
  intro M α σ H ρ s D0 acc o ok gD no st hD ra QD Nx q k
  have okl := Ok.less ok no
  refine ha okl st _ _ _ q (fun v H1 d s1 p1 st1 r z => ?_) (fun c dx H' x s' p st' r z => z.elim)
  refine hb (okl.step p1) st1 _ _ _ z (fun u H2 e s2 p2 st2 r2 z => ?_) (fun c dx H' x s' p st' r z => z.elim)
  obtain ⟨n, en, zz⟩ := opt_ex z
  clear z
  have := asKey_eq en
  subst this
  obtain rfl := RBo.sc r
  obtain ⟨ws, rfl, hr⟩ := ra
  have p := p1.trans p2
  have hD2 : H2 D0 = some (.dK ws) := p.keep _ _ gD hD
  have mD : mask M α ρ D0 := .inl (ok.sub D0 (.inr rfl))
  refine ⟨ws, n, rfl, hD2, by rw [RKv.len hr]; exact zz.1, ?_⟩
  exact k _ _ s2 _ (p.more.trans stp_D0) (Γ.loc (fun a y => by rw [upd_ne fun e => gD (by rw [← e]; exact y)]) st2) upd_same ⟨_, rfl, RKv.put (RKv.same (at_D0 mD) (RKv.same (p.cut okl.msub) hr)) (R.same (at_D0 mD) r2)⟩ zz.2
theorem la_putT (ha : Ln Γ K E0 .s tk A) (hb : Ln Γ K E0 .s tv B) : LnAct Γ K (arT K) (taPutT K tk tv) (stPutT A B) := by
  intro M α σ H ρ s D0 acc o ok gD no st hD ra QD Nx q k
  have okl := Ok.less ok no
  refine ha okl st _ _ _ q (fun v H1 d s1 p1 st1 r z => ?_) (fun c dx H' x s' p st' r z => z.elim)
  refine hb (okl.step p1) st1 _ _ _ z (fun u H2 e s2 p2 st2 r2 z => ?_) (fun c dx H' x s' p st' r z => z.elim)
  obtain ⟨n, en, zz⟩ := opt_ex z
  clear z
  obtain ⟨ds, rfl, ei⟩ := asTI_eq en
  obtain ⟨L, rfl, hr, rfl⟩ := ra
  have p := p1.trans p2
  have hD2 : H2 D0 = some (DTO D0 L) := p.keep _ _ gD hD
  have mD : mask M α ρ D0 := .inl (ok.sub D0 (.inr rfl))
  cases r with
  | tup h1 h2 =>
    have e2 := asIs_rel h2 ei
    subst e2
    have c1 : Same (cut (mask M α ρ) H1) (cut (mask M α ρ) H2) := p2.cut okl.msub
    have c2 : Same (cut (mask M α ρ) H) (cut (mask M α ρ) H2) := p.cut okl.msub
    refine ⟨_, n, L, rfl, SqT.same cut_le (SqT.same c1 h1), hD2, fun q hq => SqT.same cut_le (SqT.same c2 (hr q hq)), by simpa using zz.1, ?_⟩
    refine k _ _ s2 _ (p.more.trans stp_D0) (Γ.loc (fun a y => by rw [upd_ne fun e => gD (by rw [← e]; exact y)]) st2) upd_same ⟨_, rfl, fun q hq => ?_, ?_⟩ zz.2
    · unfold putT at hq
      split at hq
      · exact SqT.same (at_D0 mD) (SqT.same c2 (hr q hq))
      · rcases List.mem_append.mp hq with hq | hq
        · exact SqT.same (at_D0 mD) (SqT.same c2 (hr q hq))
        · rw [List.mem_singleton.mp hq]
          exact SqT.same (at_D0 mD) (SqT.same c1 h1)
    · unfold putT
      split
      · rfl
      · rw [List.map_append]; rfl
/-! ### links -/
def xDk (I : TL S) (gd : GD) (C : TB S) (A B : TX S) (vs : List Nat) : TX S := fun ρ s Q X => I ρ s (fun ds s1 => coT gd C (stPutK A B) (fun acc s' => Q (.dct acc) s') (inE ρ vs) ds [] s1) X
theorem ln_dcK (hts : ts.all (fun i => vs.contains i) = true) (hi : LnI Γ K E false wi I) (hg : ∀ Γ : Fr S, LnG Γ K ts g gd) (hc : LnT Γ K E0 tt C) (ha : Ln Γ K E0 .b tk A) (hb : Ln Γ K E0 .s tv B) :
    Ln Γ K E .f (tCo oDK wi g tt (taPutK tk tv) vs) (xDk I gd C A B vs) := by
  intro M α σ H ρ s ok st QD QX Q q k kx
  refine co_first (QX := QX) (AR := arK K) (acc0 := []) (o0 := oDK) arK_mono (fun _ _ => ⟨[], rfl, .nil⟩) hts hi hg hc (la_putK ha hb) ok st q (fun D0 H' acc s' o nD hD ra p st' z => ?_) kx
  obtain ⟨ws, rfl, hr⟩ := ra
  exact k _ H' _ s' p st' ⟨D0, .dct acc, rfl, rfl, nD, ws, hD, hr⟩ z
def xDt (I : TL S) (gd : GD) (C : TB S) (A B : TX S) (vs : List Nat) : TX S := fun ρ s Q X => I ρ s (fun ds s1 => coT gd C (stPutT A B) (fun acc s' => Q (.dtp acc) s') (inE ρ vs) ds [] s1) X
theorem ln_dcT (hts : ts.all (fun i => vs.contains i) = true) (hi : LnI Γ K E false wi I) (hg : ∀ Γ : Fr S, LnG Γ K ts g gd) (hc : LnT Γ K E0 tt C) (ha : Ln Γ K E0 .s tk A) (hb : Ln Γ K E0 .s tv B) :
    Ln Γ K E .s (tCo oDT wi g tt (taPutT K tk tv) vs) (xDt I gd C A B vs) := by
  intro M α σ H ρ s ok st QD QX Q q k kx
  refine co_first (QX := QX) (AR := arT K) (acc0 := []) (o0 := oDT) arT_mono (fun _ _ => ⟨[], rfl, (fun _ z => nomatch z), rfl⟩) hts hi hg hc (la_putT ha hb) ok st q (fun D0 H' acc s' o nD hD ra p st' z => ?_) kx
  obtain ⟨L, rfl, hr, rfl⟩ := ra
  have nm : ¬ mask M α ρ D0 := fun y => ok.mtrk D0 y nD
  exact k _ H' _ s' p st' (.dtp (by rw [cut_out nm]; exact hD) (fun q hq => SqT.same (cut_mono fun a y => .inl y) (hr q hq)) rfl) z
def xSs {Acc : Type} (I : TL S) (gd : GD) (C : TB S) (step : Stepper S (List Int)) (vs : List Nat) : TX S := fun ρ s Q X => I ρ s (fun ds s1 => coT gd C step (fun acc s' => acc.length < 64 ∧ Q (.lst ((sortI acc).map dI)) s') (inE ρ vs) ds [] s1) X
theorem ln_ss2 {w : World} {tact : Addr → L2.St → Hp → (Hp → Prop) → Prop} {step : Stepper S (List Int)} (hts : ts.all (fun i => vs.contains i) = true) (hi : LnI Γ K E false wi I) (hg : ∀ Γ : Fr S, LnG Γ K ts g gd) (hc : LnT Γ K E0 tt C) (ha : LnAct Γ K (arS w) tact step) :
    Ln Γ K E .f (tCB (rSortedSet w) (tCons (tCo (oSet0 w) wi g tt tact vs) tNil)) (xSs (Acc := Unit) I gd C step vs) := by
  intro M α σ H ρ s ok st QD QX Q q k kx
  show tCo (oSet0 w) wi g tt tact vs σ H fun v H' => rSortedSet w [v] H' Q
  refine co_first (QX := QX) (AR := arS w) (acc0 := []) (o0 := oSet0 w) arS_mono (fun _ _ => ⟨fun _ => false, 0, rfl, fun j => by simp, Nat.zero_le _⟩) hts hi hg hc ha ok st q (fun D0 H' acc s' o nD hD ra p st' z => ?_) kx
  obtain ⟨Sf, n, rfl, hS, hn⟩ := ra
  refine ⟨D0, Sf, n, rfl, hD, by have := z.1; omega, fun out b asc mem len hb => ?_⟩
  have eo : out = sortI acc := asc_eq (κ := id) asc (sortK_asc acc) fun y => by rw [mem y, sortI_mem, hS y]; simp
  subst eo
  have s2 := same_upd (o := HO.lst ((sortI acc).map V.int)) hb
  have ok' := ok.step p
  have hb0 : H b = none := Classical.byContradiction fun y => p.trk b y hb
  refine k _ _ _ s' (p.trans (Stp.of s2)) (Fr.same ok'.frt s2 st') ⟨b, .lst ((sortI acc).map dI), rfl, rfl, hb0, _, upd_same, ?_⟩ z.2
  have := RAll.ofV (K := K) (G := cut (fun c => mask M α ρ c ∨ c = b) (upd H' b (.lst ((sortI acc).map V.int)))) (xs := (sortI acc).map V.int)
  rwa [List.map_map] at this
end
end L2.DL
/-! pop at a place, lists turned round, two new lists at once; big steps for the new statements -/
namespace L2.DL
open L2 L2.My NdefX PySem PySem.Spec PyProof.Rows
section
variable {S : Type} {Γ : Fr S} {K : W.Frag} {E : XK} {ta tb : TE} {A B : TX S} {g : TG} {gd : GD} {ts : List Nat} {mo : Mo}
/-! ### x = xs.pop(k) -/
def pPopAt (i : Nat) (A : TX S) (gd : GD) : TP S := fun ρ s P => (ownL ρ i).isSome = true ∧ A ρ s (fun k s1 => opt (ownL ρ i) fun xs => opt (asI k) fun n => 0 ≤ n ∧ n < 2 ^ 63 ∧ opt xs[n.toNat]? fun d => opt (gd d (ρ.set i (.own (.lst (xs.eraseIdx n.toNat))))) fun ρ' => P.nx ρ' s1) P.ex
theorem seq_at {n : Int} {l : Nat} (h0 : 0 ≤ n) (h1 : n.toNat < l) : seqIndex? n l = some n.toNat := by
  unfold seqIndex?
  have h2 : ¬ n < 0 := by omega
  have h3 : n < l := by omega
  simp [h2, h0, h3]
theorem ls_popAt {i : Nat} (hg : LnG Γ K ts g gd) (ha : Ln Γ K E .b ta A) : LnS Γ K E (tAsg (tBM K "list" rPopAt (tVar i) (tCons ta tNil)) g) (pPopAt i A gd) := by
  intro M α σ H ρ s ok st P Dn ⟨hs, q⟩ kn kb kc kr kx
  obtain ⟨xs0, e0⟩ := Option.isSome_iff_exists.mp hs
  have e0' := ownL_at e0
  refine ⟨_, (own_var ok e0').1, ?_⟩
  obtain ⟨e1, vs0, h10, r10⟩ := own_var ok e0'
  refine ⟨tyV_lst h10, ?_⟩
  refine ha ok st _ P.ex _ q (fun v H' k s' p st' r z => ?_) (fun c dx H' x s' p st' r z => kx c dx H' x s' (stS_end p) st' (r.mono fun _ z => .inl z) z)
  obtain ⟨xs, e, z⟩ := opt_ex z
  obtain ⟨n, en, z⟩ := opt_ex z
  obtain ⟨n0, n1, z⟩ := z
  obtain ⟨d, ed, z⟩ := opt_ex z
  obtain ⟨ρ', eg, z⟩ := opt_ex z
  obtain rfl := asI_sc r en
  have e' := ownL_at e
  have ok' := ok.step p
  obtain ⟨_, vs, h1, r1⟩ := own_var ok' e'
  obtain ⟨o2, p2⟩ := ok'.turn e' (RAll.erase n.toNat r1)
  obtain ⟨w, ew, rw'⟩ := RAll.getD r1 ed
  have lw : n.toNat < vs.length := (List.getElem?_eq_some_iff.mp ew).1
  refine ⟨_, vs, n, n.toNat, w, rfl, rfl, h1, by omega, n1, seq_at n0 lw, ew, ?_⟩
  have mm : ∀ a, mask M α (ρ.set i (.own (.lst (xs.eraseIdx n.toNat)))) a → mask M α ρ a := fun a z => z.imp id fun ⟨j, o, y⟩ => by
    rcases own_set o with ⟨rfl, _⟩ | ⟨_, o⟩
    · exact ⟨j, ⟨_, e', rfl⟩, y⟩
    · exact ⟨j, o, y⟩
  have rw2 : R K (cut (mask M α (ρ.set i (.own (.lst (xs.eraseIdx n.toNat))))) (upd H' (α i) (.lst (vs.eraseIdx n.toNat)))) w d := R.same (fun b o q => by
    obtain ⟨n', q⟩ := of_cut q
    rw [cut_out fun z => n' (mm b z), upd_ne fun z => n' (.inr ⟨i, ⟨_, e', rfl⟩, z.symm⟩)]
    exact q) rw'
  refine hg o2 rw2 eg _ fun σ' o3 m3 w3 _ => kn σ' _ ρ' s' α o3 (Γ.loc (fun a y => by rw [upd_ne fun e => ok.out i ⟨_, e', rfl⟩ (ok.sub _ (by rw [← e]; exact y))]) st') ((stS_stp p).trans (p2.trans (.of w3 (.refl (Γ := Γ)) fun _ z => .inl z))) z
/-! ### xs[::-1] -/
def revD : D → Option D
  | .lst xs => some (.lst xs.reverse)
  | _ => none
theorem p1_revL : P1 K .f (fun x H1 Q => ∃ a xs, x = V.ref a ∧ SqL K H1 a xs ∧ ∀ p, H1 p = none → Q (.ref p) (upd H1 p (.lst xs.reverse))) revD := by
  intro g m H v d c Q hm r e k
  unfold revD at e
  split at e
  · rename_i ds
    cases e
    obtain ⟨a, xs, rfl, h1, h2⟩ := RBo.lst r
    exact ⟨a, xs, rfl, .inl (.inl h1), fun p hp => k _ _ (same_upd hp) (lay_lst hm hp (RAll.rev h2))⟩
  · cases e
theorem ln_revL (ha : Ln Γ K E .b ta A) : Ln Γ K E .f (tRevL K ta) (xUn revD A) := fun ok st QD QX Q q k kx => ln_un (r := fun x H1 Q => ∃ a xs, x = V.ref a ∧ SqL K H1 a xs ∧ ∀ p, H1 p = none → Q (.ref p) (upd H1 p (.lst xs.reverse))) ha p1_revL ok st QD QX Q q k kx
/-! ### two new lists at once -/
def pParFF (A B : TX S) (i j : Nat) : TP S := fun ρ s P => A ρ s (fun d s1 => B ρ s1 (fun e s2 => opt (ownOf d) fun c => opt (ownOf e) fun c' => P.nx ((ρ.set i (.own c)).set j (.own c')) s2) P.ex) P.ex
theorem toD_own {d : D} {c : Cell} (h : ownOf d = some c) {c2 : Cell} (e : d = c2.toD) : c2 = c := by
  rw [e, ownOf_toD] at h
  exact Option.some.inj h
/-- what is new is one's own -/
theorem Ok.get {M : Msk} {α : Nat → Addr} {σ : L2.St} {H H' : Hp} {ρ : Env} {i : Nat} {a : Addr} {c : Cell} (ok : Ok Γ K M α σ H ρ) (hi : i ≠ 0) (na : H a = none) (p : Stp Γ H H') (hc : CellR K (cut (fun b => mask M α ρ b ∨ b = a) H') H' a c) :
    Ok Γ K M (fun l => if l = i then a else α l) (σ.set i (some (.ref a))) H' (ρ.set i (.own c)) ∧ ∀ b, mask M (fun l => if l = i then a else α l) (ρ.set i (.own c)) b → mask M α ρ b ∨ b = a := by
  have nM : ¬ M a := fun z => ok.trk a z na
  have nO : ∀ j, ownAt ρ j → α j ≠ a := fun j o e => ok.mtrk (α j) (.inr ⟨j, o, rfl⟩) (by rw [e]; exact na)
  have sub : ∀ b, mask M (fun l => if l = i then a else α l) (ρ.set i (.own c)) b → mask M α ρ b ∨ b = a := by
    rintro b (z | ⟨l, o, rfl⟩)
    · exact .inl (.inl z)
    · by_cases hl : l = i
      · exact .inr (by simp [hl])
      · rcases own_set o with ⟨e, _⟩ | ⟨_, o⟩
        · exact absurd e hl
        · exact .inl (.inr ⟨l, o, by simp [hl]⟩)
  refine ⟨ok.put (a := a) rfl (.inr hi) p.trk (fun b o e => ?_) (fun b o n _ e => p.keep b o n e) (fun _ => ⟨nM, fun j _ o => nO j o⟩) fun _ => ⟨rfl, hc.move (cut_mono sub) fun _ e => e⟩, sub⟩
  obtain ⟨n, e⟩ := of_cut e
  have nb : b ≠ a := fun q => by rw [q, na] at e; cases e
  rw [cut_out fun z => (sub b z).elim n nb]
  exact p.keep b o (fun z => n (ok.msub b z)) e
/-- the same environment where one more place is masked -/
theorem Ok.hide {M : Msk} {α : Nat → Addr} {σ : L2.St} {H H' : Hp} {ρ : Env} {a : Addr} (ok : Ok Γ K M α σ H ρ) (na : H a = none) (p : Stp Γ H H') (ha : H' a ≠ none) : Ok Γ K (fun b => M b ∨ b = a) α σ H' ρ := by
  have nO : ∀ j, ownAt ρ j → α j ≠ a := fun j o e => ok.mtrk (α j) (.inr ⟨j, o, rfl⟩) (by rw [e]; exact na)
  have c : Same (cut (mask M α ρ) H) (cut (mask (fun b => M b ∨ b = a) α ρ) H') := fun b o e => by
    obtain ⟨n, e⟩ := of_cut e
    have nb : b ≠ a := fun q => by rw [q, na] at e; cases e
    rw [cut_out fun z => z.elim (fun z => z.elim (fun z => n (.inl z)) nb) fun z => n (.inr z)]
    exact p.keep b o (fun z => n (ok.msub b z)) e
  refine ⟨fun b z => .inl (ok.sub b z), fun b z => z.elim (fun z => p.trk b (ok.trk b z)) (fun z => by rw [z]; exact ha), fun l o z => z.elim (ok.out l o) (nO l o), ok.inj, ok.len, fun l sl e => ?_, ok.sf⟩
  have q := ok.slot l sl e
  cases sl with
  | no => trivial
  | d y => obtain ⟨v, e1, r⟩ := q; exact ⟨v, e1, R.same c r⟩
  | bor y =>
    obtain ⟨v, e1, r⟩ := q
    exact ⟨v, e1, RBo.mono (fun b z => .inl z) (RBo.carry c (fun b u n _ e => p.keep b u n e) r)⟩
  | own y =>
    have oj : ownAt ρ l := ⟨_, e, rfl⟩
    exact ⟨q.1, q.2.move c fun o e => p.keep _ _ (fun z => ok.out l oj (ok.sub _ z)) e⟩
theorem ls_parFF {i j : Nat} (hi : i ≠ 0) (hj : j ≠ 0) (ha : Ln Γ K E .f ta A) (hb : Ln Γ K E .f tb B) : LnS Γ K E (tPar i j (tCons ta (tCons tb tNil))) (pParFF A B i j) := by
  intro M α σ H ρ s ok st P Dn q kn kb kc kr kx
  refine ha ok st _ P.ex _ q (fun v H1 d s1 p1 st1 r1 z => ?_) (fun c dx H' x s' p st' r z => kx c dx H' x s' (stS_end p) st' (r.mono fun _ z => .inl z) z)
  obtain ⟨a, c, rfl, rfl, na, hc⟩ := r1
  have okh := ok.hide na p1 hc.there
  refine hb okh st1 _ P.ex _ z (fun w H2 e s2 p2 st2 r2 z => ?_) (fun c dx H' x s' p st' r z => kx c dx H' x s' (stS_end (p1.trans p)) st' (r.mono fun _ z => .inl (.inl z)) z)
  obtain ⟨b, c', rfl, rfl, nb, hc'⟩ := r2
  obtain ⟨k1, e1, z⟩ := opt_ex z
  obtain ⟨k2, e2, z⟩ := opt_ex z
  rw [ownOf_toD] at e1 e2
  cases e1
  cases e2
  obtain ⟨ok1, sub1⟩ := ok.get hi na p1 hc
  have hc2 : CellR K (cut (fun x => mask M (fun l => if l = i then a else α l) (ρ.set i (.own c)) x ∨ x = b) H2) H2 b c' := hc'.move (cut_mono fun x z => z.elim (fun z => (sub1 x z).elim (fun z => z.elim (fun z => .inl (.inl (.inl z))) fun z => .inl (.inr z)) fun z => .inl (.inl (.inr z))) .inr) fun _ e => e
  obtain ⟨ok2, sub2⟩ := ok1.get hj nb p2 hc2
  refine ⟨_, _, rfl, kn _ H2 _ s2 _ ok2 st2 ⟨fun x o n e => ?_, ?_, fun x z => p2.trk x (p1.trk x z)⟩ z⟩
  · exact p2.keep x o (fun z => n (.inl z)) (p1.keep x o (fun z => n (.inl z)) e)
  · rintro x (z | ⟨l, o, rfl⟩)
    · exact .inl (.inl z)
    · by_cases hl : l = j
      · subst hl
        simp only [if_true]
        refine .inr (Classical.byContradiction fun q => p1.trk b q nb)
      · simp only [hl, if_false]
        by_cases hl2 : l = i
        · simp only [hl2, if_true]
          exact .inr na
        · simp only [hl2, if_false]
          rcases own_set o with ⟨q, _⟩ | ⟨_, o⟩
          · exact absurd q hl
          · rcases own_set o with ⟨q, _⟩ | ⟨_, o⟩
            · exact absurd q hl2
            · exact .inl (.inr ⟨l, o, rfl⟩)
/-! ### big steps -/
variable {ρ ρ' : Env} {s : S} {U : TP S} {P : Post S} {i j : Nat} {d e k : D} {xs : List D}
theorem sq_setX {c c2 : Cell} (h : ρ[i]? = some (.own c)) (h1 : Ev A ρ s d) (h2 : Ev B ρ s k) (h3 : putX ρ i k d = some c2) (z : Run U (ρ.set i (.own c2)) s P) : Run (pSeq (pSetX i A B) U) ρ s P := ⟨⟨⟨c, h⟩, h1.to _ _ (h2.to _ _ (ck_opt h3 z.go))⟩⟩
theorem sq_popAtk (h : ownL ρ i = some xs) (z : A ρ s (fun k s1 => opt (ownL ρ i) fun xs => opt (asI k) fun n => 0 ≤ n ∧ n < 2 ^ 63 ∧ opt xs[n.toNat]? fun d => opt (gd d (ρ.set i (.own (.lst (xs.eraseIdx n.toNat))))) fun ρ' => U ρ' s1 P) P.ex) : Run (pSeq (pPopAt i A gd) U) ρ s P := ⟨⟨by rw [h]; rfl, z⟩⟩
theorem sq_parFF {c c2 : Cell} (h1 : Ev A ρ s d) (h2 : Ev B ρ s e) (e1 : ownOf d = some c) (e2 : ownOf e = some c2) (z : Run U ((ρ.set i (.own c)).set j (.own c2)) s P) : Run (pSeq (pParFF A B i j) U) ρ s P := ⟨h1.to _ _ (h2.to _ _ (ck_opt e1 (ck_opt e2 z.go)))⟩
end
end L2.DL
/-! Comprehensions of sets and dicts by big steps -/
namespace L2.DL
open L2 L2.My NdefX PySem PySem.Spec PyProof.Rows
section
variable {S : Type} {Acc : Type} {gd : GD} {C : TB S} {A B : TX S} {step : Stepper S Acc} {Q : Acc → S → Prop} {ρ : Env} {s : S} {I : TL S} {vs : List Nat} {ds : List D}
theorem coT_ev (f : D → Acc → Acc) (J : List D → Acc → Prop) (h : ∀ d r acc, J (d :: r) acc → J r (f d acc) ∧ ∃ ρ1, gd d ρ = some ρ1 ∧ EvB C ρ1 s true ∧ ∀ Q' : Acc → S → Prop, Q' (f d acc) s → step ρ1 s acc Q') : ∀ (ds : List D) (acc : Acc), J ds acc → Q (ds.foldl (fun a d => f d a) acc) s → coT gd C step Q ρ ds acc s
  | [], acc, _, q => by unfold coT; exact q
  | d :: r, acc, j, q => by
    unfold coT
    obtain ⟨j', ρ1, e, c, st⟩ := h d r acc j
    refine ck_opt e (c.to _ _ ?_)
    rw [if_pos rfl]
    exact st _ (coT_ev f J h r (f d acc) j' q)
/-- tests that may fail -/
theorem coT_evp (p : D → Bool) (f : D → Acc → Acc) (J : List D → Acc → Prop) (h : ∀ d r acc, J (d :: r) acc → J r (if p d = true then f d acc else acc) ∧ ∃ ρ1, gd d ρ = some ρ1 ∧ EvB C ρ1 s (p d) ∧ (p d = true → ∀ Q' : Acc → S → Prop, Q' (f d acc) s → step ρ1 s acc Q')) : ∀ (ds : List D) (acc : Acc), J ds acc → Q ((ds.filter p).foldl (fun a d => f d a) acc) s → coT gd C step Q ρ ds acc s
  | [], acc, _, q => by unfold coT; exact q
  | d :: r, acc, j, q => by
    unfold coT
    obtain ⟨j', ρ1, e, c, st⟩ := h d r acc j
    refine ck_opt e (c.to _ _ ?_)
    rw [List.filter_cons] at q
    cases hp : p d with
    | true =>
      rw [hp, if_pos rfl] at q j'
      rw [if_pos rfl]
      exact st hp _ (coT_evp p f J h r (f d acc) j' q)
    | false =>
      rw [hp, if_neg (by decide)] at q j'
      rw [if_neg (by decide)]
      exact coT_evp p f J h r acc j' q
/-! ### dicts -/
theorem putDk_len (kvs : List (Key × D)) (k : Key) (d : D) : (putDk kvs k d).length ≤ kvs.length + 1 := by
  unfold putDk
  split
  · rw [List.length_map]; omega
  · rw [List.length_append]; simp
theorem putDk_any (kvs : List (Key × D)) (k j : Key) (d : D) : ((putDk kvs k d).any fun kv => decide (kv.1 = j)) = (decide (k = j) || kvs.any fun kv => decide (kv.1 = j)) := by
  unfold putDk
  split
  · rename_i h
    rw [List.any_map]
    have e : (kvs.any ((fun kv : Key × D => decide (kv.1 = j)) ∘ fun kv => if kv.1 = k then (kv.1, d) else kv)) = kvs.any fun kv => decide (kv.1 = j) := by
      congr 1
      funext kv
      show decide ((if kv.1 = k then (kv.1, d) else kv).1 = j) = _
      split <;> rfl
    rw [e]
    by_cases q : k = j
    · subst q
      simp only [decide_true, Bool.true_or]
      exact h
    · simp [q]
  · rw [List.any_append, Bool.or_comm]
    simp
def dcKF (kf : D → Key) (vf : D → D) (ds : List D) : List (Key × D) := ds.foldl (fun a d => putDk a (kf d) (vf d)) []
theorem dcK_any (kf : D → Key) (vf : D → D) (j : Key) : ∀ (ds : List D) (acc : List (Key × D)), ((ds.foldl (fun a d => putDk a (kf d) (vf d)) acc).any fun kv => decide (kv.1 = j)) = ((ds.any fun d => decide (kf d = j)) || acc.any fun kv => decide (kv.1 = j))
  | [], acc => by simp
  | d :: r, acc => by
    rw [List.foldl_cons, dcK_any kf vf j r, putDk_any, List.any_cons, Bool.or_left_comm, Bool.or_assoc]
theorem dcKF_any {kf : D → Key} {vf : D → D} {j : Key} {ds : List D} : ((dcKF kf vf ds).any fun kv => decide (kv.1 = j)) = ds.any fun d => decide (kf d = j) := by
  unfold dcKF
  rw [dcK_any]
  simp
theorem ev_dcK (kf : D → Key) (vf : D → D) (h : EvL I ρ s ds) (hd : ∀ d ∈ ds, ∃ ρ1, gd d (inE ρ vs) = some ρ1 ∧ EvB C ρ1 s true ∧ (∃ y, Ev A ρ1 s y ∧ asKey y = some (kf d)) ∧ Ev B ρ1 s (vf d)) (hl : ds.length ≤ sizeLine) : Ev (xDk I gd C A B vs) ρ s (.dct (dcKF kf vf ds)) := ⟨fun Q X q => h.to _ _ (by
  refine coT_ev (fun d a => putDk a (kf d) (vf d)) (fun r acc => acc.length + r.length ≤ sizeLine ∧ ∀ d ∈ r, d ∈ ds) ?_ ds [] ⟨by simpa using hl, fun _ z => z⟩ q
  rintro d r acc ⟨l, m⟩
  obtain ⟨ρ1, e, c, ⟨y, ey, ky⟩, ev⟩ := hd d (m d List.mem_cons_self)
  rw [List.length_cons] at l
  have := putDk_len acc (kf d) (vf d)
  exact ⟨⟨by omega, fun x hx => m x (List.mem_cons_of_mem _ hx)⟩, ρ1, e, c, fun Q' q' => ey.to _ _ (ev.to _ _ (ck_opt ky ⟨by omega, q'⟩))⟩)⟩
def dcTF (kf : D → List Int) (ds : List D) : List (List Int) := ds.foldl (fun a d => if kf d ∈ a then a else a ++ [kf d]) []
theorem dcT_mem (kf : D → List Int) (k : List Int) : ∀ (ds : List D) (acc : List (List Int)), k ∈ ds.foldl (fun a d => if kf d ∈ a then a else a ++ [kf d]) acc ↔ (∃ d ∈ ds, kf d = k) ∨ k ∈ acc
  | [], acc => by simp
  | d :: r, acc => by
    rw [List.foldl_cons, dcT_mem kf k r]
    by_cases h : kf d ∈ acc
    · rw [if_pos h]
      constructor
      · rintro (⟨x, hx, e⟩ | q)
        · exact .inl ⟨x, List.mem_cons_of_mem _ hx, e⟩
        · exact .inr q
      · rintro (⟨x, hx, e⟩ | q)
        · rcases List.mem_cons.mp hx with rfl | hx
          · exact .inr (by rw [← e]; exact h)
          · exact .inl ⟨x, hx, e⟩
        · exact .inr q
    · rw [if_neg h, List.mem_append, List.mem_singleton]
      constructor
      · rintro (⟨x, hx, e⟩ | q | q)
        · exact .inl ⟨x, List.mem_cons_of_mem _ hx, e⟩
        · exact .inr q
        · exact .inl ⟨d, List.mem_cons_self, q.symm⟩
      · rintro (⟨x, hx, e⟩ | q)
        · rcases List.mem_cons.mp hx with rfl | hx
          · exact .inr (.inr e.symm)
          · exact .inl ⟨x, hx, e⟩
        · exact .inr (.inl q)
theorem dcTF_mem {kf : D → List Int} {k : List Int} {ds : List D} : k ∈ dcTF kf ds ↔ ∃ d ∈ ds, kf d = k := by
  unfold dcTF
  rw [dcT_mem]
  simp
theorem ev_dcT (kf : D → List Int) (h : EvL I ρ s ds) (hd : ∀ d ∈ ds, ∃ ρ1, gd d (inE ρ vs) = some ρ1 ∧ EvB C ρ1 s true ∧ (∃ y, Ev A ρ1 s y ∧ asTI y = some (kf d)) ∧ ∃ z, Ev B ρ1 s z) (hl : ds.length ≤ sizeLine) : Ev (xDt I gd C A B vs) ρ s (.dtp (dcTF kf ds)) := ⟨fun Q X q => h.to _ _ (by
  refine coT_ev (fun d a => if kf d ∈ a then a else a ++ [kf d]) (fun r acc => acc.length + r.length ≤ sizeLine ∧ ∀ d ∈ r, d ∈ ds) ?_ ds [] ⟨by simpa using hl, fun _ z => z⟩ q
  rintro d r acc ⟨l, m⟩
  obtain ⟨ρ1, e, c, ⟨y, ey, ky⟩, z, ev⟩ := hd d (m d List.mem_cons_self)
  rw [List.length_cons] at l
  refine ⟨⟨?_, fun x hx => m x (List.mem_cons_of_mem _ hx)⟩, ρ1, e, c, fun Q' q' => ey.to _ _ (ev.to _ _ (ck_opt ky ⟨by omega, q'⟩))⟩
  split
  · omega
  · rw [List.length_append, List.length_cons, List.length_nil]; omega)⟩
/-! ### sorted({..}) with two clauses -/
theorem fold_app {α β : Type} (f : α → List β) : ∀ (l : List α) (acc : List β), l.foldl (fun a d => a ++ f d) acc = acc ++ l.flatMap f
  | [], acc => by simp
  | x :: l, acc => by rw [List.foldl_cons, fold_app f l, List.flatMap_cons, List.append_assoc]
theorem flat_len {α β : Type} (f : α → List β) (n : Nat) : ∀ (l : List α), (∀ x ∈ l, (f x).length ≤ n) → (l.flatMap f).length ≤ n * l.length
  | [], _ => by simp
  | x :: l, h => by
    rw [List.flatMap_cons, List.length_append, List.length_cons, Nat.mul_add, Nat.mul_one]
    have := h x List.mem_cons_self
    have := flat_len f n l fun y hy => h y (List.mem_cons_of_mem _ hy)
    omega
theorem st_in {I1 : TL S} {gd1 : GD} {C1 : TB S} {vs1 : List Nat} {ds1 : List D} {acc : List Int} {QD : List Int → S → Prop} (p : D → Bool) (f : D → Int) (h : EvL I1 ρ s ds1) (hd : ∀ d ∈ ds1, ∃ ρ2, gd1 d (wipeE ρ vs1) = some ρ2 ∧ EvB C1 ρ2 s (p d) ∧ (p d = true → Ev A ρ2 s (dI (f d)))) (hl : acc.length + ds1.length ≤ 1000)
    (q : QD (acc ++ (ds1.filter p).map f) s) : stIn I1 gd1 C1 vs1 (stAdd A) ρ s acc QD := h.to _ _ (by
  refine coT_evp p (fun d a => a ++ [f d]) (fun r acc => acc.length + r.length ≤ 1000 ∧ ∀ d ∈ r, d ∈ ds1) ?_ ds1 acc ⟨hl, fun _ z => z⟩ ?_
  · rintro d r acc ⟨l, m⟩
    obtain ⟨ρ2, e, c, ev⟩ := hd d (m d List.mem_cons_self)
    rw [List.length_cons] at l
    refine ⟨⟨?_, fun x hx => m x (List.mem_cons_of_mem _ hx)⟩, ρ2, e, c, fun hp Q' q' => (ev hp).to _ _ ⟨by omega, q'⟩⟩
    split
    · rw [List.length_append, List.length_cons, List.length_nil]; omega
    · omega
  · have e : (ds1.filter p).foldl (fun a d => a ++ [f d]) acc = acc ++ (ds1.filter p).map f := by
      rw [fold_app (fun d => [f d])]
      congr 1
      induction ds1.filter p with
      | nil => rfl
      | cons x l ih => rw [List.flatMap_cons, List.map_cons, ih]; rfl
    rw [e]
    exact q)
theorem ev_ss2 {step : Stepper S (List Int)} (fn : D → List Int) (h : EvL I ρ s ds) (hd : ∀ d ∈ ds, (fn d).length ≤ 2 ∧ ∃ ρ1, gd d (inE ρ vs) = some ρ1 ∧ EvB C ρ1 s true ∧ ∀ acc (Q' : List Int → S → Prop), acc.length ≤ 60 → Q' (acc ++ fn d) s → step ρ1 s acc Q') (hl : ds.length ≤ 30) : Ev (xSs (Acc := Unit) I gd C step vs) ρ s (.lst ((sortI (ds.flatMap fn)).map dI)) := ⟨fun Q X q => h.to _ _ (by
  refine coT_ev (fun d a => a ++ fn d) (fun r acc => acc.length + 2 * r.length ≤ 60 ∧ ∀ d ∈ r, d ∈ ds) ?_ ds [] ⟨by simp; omega, fun _ z => z⟩ ?_
  · rintro d r acc ⟨l, m⟩
    obtain ⟨lf, ρ1, e, c, st⟩ := hd d (m d List.mem_cons_self)
    rw [List.length_cons] at l
    exact ⟨⟨by rw [List.length_append]; omega, fun x hx => m x (List.mem_cons_of_mem _ hx)⟩, ρ1, e, c, fun Q' q' => st acc Q' (by omega) q'⟩
  · rw [fold_app fn, List.nil_append]
    refine ⟨?_, q⟩
    have := flat_len fn 2 ds fun x hx => (hd x hx).1
    omega)⟩
end
end L2.DL
/-! Facts of pairs and ints as data -/
namespace L2.DL
open L2 L2.My NdefX PySem PySem.Spec PyProof.Rows
noncomputable def fnOf {ι : Type} (arg : ι → List D) (val : ι → Except Exn D) : Fn := fun ds => open Classical in if h : ∃ i, arg i = ds then some (val h.choose) else none
theorem fnOf_at {ι : Type} {arg : ι → List D} {val : ι → Except Exn D} (h : ∀ i j, arg i = arg j → val i = val j) (i : ι) : fnOf arg val (arg i) = some (val i) := by
  have ex : ∃ j, arg j = arg i := ⟨i, rfl⟩
  unfold fnOf
  rw [dif_pos ex]
  exact congrArg some (h _ _ ex.choose_spec)
theorem fnOf_of {ι : Type} {arg : ι → List D} {val : ι → Except Exn D} {ds : List D} {r : Except Exn D} (e : fnOf arg val ds = some r) : ∃ i, arg i = ds ∧ r = val i := by
  unfold fnOf at e
  split at e
  · rename_i h
    cases e
    exact ⟨_, h.choose_spec, rfl⟩
  · cases e
theorem le_line {n : Nat} (h : n ≤ 1000) : n ≤ sizeLine := by have := sizeLine_eq; omega
theorem lt_line {n : Nat} (h : n ≤ 1000) : n < sizeLine := by have := sizeLine_eq; omega
abbrev Pr := Int × Int
abbrev lP (ps : List Pr) : D := .lst (ps.map dP)
abbrev lI (ns : List Int) : D := .lst (ns.map dI)
abbrev tI (ns : List Int) : D := .tup (ns.map dI)
theorem dP_inj {p q : Pr} (h : dP p = dP q) : p = q := by
  simp only [dP, D.tup.injEq, List.cons.injEq, D.v.injEq, V.int.injEq, and_true] at h
  exact Prod.ext h.1 h.2
theorem mapP_inj : ∀ {ps qs : List Pr}, ps.map dP = qs.map dP → ps = qs
  | [], [], _ => rfl
  | [], _ :: _, h => by cases h
  | _ :: _, [], h => by cases h
  | p :: ps, q :: qs, h => by
    rw [List.map_cons, List.map_cons] at h
    obtain ⟨h1, h2⟩ := List.cons.inj h
    rw [dP_inj h1, mapP_inj h2]
theorem mapI_inj : ∀ {ps qs : List Int}, ps.map dI = qs.map dI → ps = qs
  | [], [], _ => rfl
  | [], _ :: _, h => by cases h
  | _ :: _, [], h => by cases h
  | p :: ps, q :: qs, h => by
    rw [List.map_cons, List.map_cons] at h
    obtain ⟨h1, h2⟩ := List.cons.inj h
    cases h1
    rw [mapI_inj h2]
theorem ix_0 {p : Pr} : ixD (dP p) (dI 0) = some (dI p.1) := rfl
theorem ix_1 {p : Pr} : ixD (dP p) (dI 1) = some (dI p.2) := rfl
/-! ### plain data -/
abbrev pyP (p : Pr) : PyData := .tuple [.int p.1, .int p.2]
theorem py_P {p : Pr} : toPy (dP p) = some (pyP p) := rfl
theorem py_Ps : ∀ (ps : List Pr), toPyAll (ps.map dP) = some (ps.map pyP)
  | [] => rfl
  | p :: r => by rw [List.map_cons, toPyAll, py_P, py_Ps r]; rfl
theorem py_Is : ∀ (ns : List Int), toPyAll (ns.map dI) = some (ns.map PyData.int)
  | [] => rfl
  | p :: r => by rw [List.map_cons, toPyAll, py_Is r]; rfl
theorem eqv_P {p q : Pr} : PyData.eqv (pyP q) (pyP p) = decide (p = q) := by
  simp only [pyP, PyData.eqv, PyData.eqvAll, Bool.and_true]
  rw [Bool.eq_iff_iff]
  simp only [Bool.and_eq_true, beq_iff_eq, decide_eq_true_eq]
  constructor
  · rintro ⟨a, b⟩; exact Prod.ext a.symm b.symm
  · rintro rfl; exact ⟨rfl, rfl⟩
theorem any_P {p : Pr} : ∀ {ps : List Pr}, ((ps.map pyP).any fun z => PyData.eqv z (pyP p)) = decide (p ∈ ps)
  | [] => by simp
  | q :: r => by rw [List.map_cons, List.any_cons, any_P (ps := r), eqv_P]; simp [List.mem_cons]
theorem any_I {n : Int} : ∀ {ns : List Int}, ((ns.map PyData.int).any fun z => PyData.eqv z (.int n)) = decide (n ∈ ns)
  | [] => by simp
  | q :: r => by
    have e : PyData.eqv (.int q) (.int n) = decide (n = q) := by
      rw [PyData.eqv, Bool.eq_iff_iff, beq_iff_eq, decide_eq_true_eq]
      exact eq_comm
    rw [List.map_cons, List.any_cons, any_I (ns := r), e]
    simp only [List.mem_cons, Bool.decide_or]
theorem in_P {b : Bool} {p : Pr} {ps : List Pr} : inX b (dP p) (lP ps) = some (dB (b == decide (p ∈ ps))) := by
  show inD b (dP p) (lP ps) = _
  have d2 : (pyP p).depth ≤ 60 := by simp [pyP, PyData.depth, PyData.depthAll]
  unfold inD
  rw [py_P]
  simp only [asSeq, py_Ps]
  rw [if_pos (Nat.le_trans (Nat.min_le_right _ _) d2), any_P]
theorem in_I {b : Bool} {n : Int} {ns : List Int} : inX b (dI n) (lI ns) = some (dB (b == decide (n ∈ ns))) := by
  show inD b (dI n) (lI ns) = _
  have d2 : (PyData.int n).depth ≤ 60 := by simp [PyData.depth]
  unfold inD
  simp only [toPy, asSeq, py_Is]
  rw [if_pos (Nat.le_trans (Nat.min_le_right _ _) d2), any_I]
theorem in_tI {b : Bool} {n : Int} {ns : List Int} : inX b (dI n) (tI ns) = some (dB (b == decide (n ∈ ns))) := by
  show inD b (dI n) (tI ns) = _
  have d2 : (PyData.int n).depth ≤ 60 := by simp [PyData.depth]
  unfold inD
  simp only [toPy, asSeq, py_Is]
  rw [if_pos (Nat.le_trans (Nat.min_le_right _ _) d2), any_I]
theorem in_pair {b : Bool} {n : Int} {p : Pr} : inX b (dI n) (dP p) = some (dB (b == decide (n = p.1 ∨ n = p.2))) := by
  have := in_tI (b := b) (n := n) (ns := [p.1, p.2])
  simp only [List.mem_cons, List.not_mem_nil, or_false] at this
  exact this
theorem in_dK {b : Bool} {n : Int} {kf : D → Key} {vf : D → D} {ds : List D} : inX b (dI n) (.dct (dcKF kf vf ds)) = some (dB (b == ds.any fun d => decide (kf d = .inl n))) := by
  unfold inX
  simp only [asKey, Option.map_some, dcKF_any]
theorem in_dct {b : Bool} {n : Int} {kvs : List (Key × D)} : inX b (dI n) (.dct kvs) = some (dB (b == kvs.any fun kv => decide (kv.1 = .inl n))) := rfl
theorem in_dT {b : Bool} {p : Pr} {ks : List (List Int)} : inX b (dP p) (.dtp ks) = some (dB (b == decide ([p.1, p.2] ∈ ks))) := rfl
theorem eq_P0 {b : Bool} {ps : List Pr} : eqD b (lP ps) (.lst []) = some (dB (b == ps.isEmpty)) := by
  unfold eqD
  simp only [toPy, py_Ps, toPyAll, Option.map_some]
  have : (PyData.list ([] : List PyData)).depth ≤ 60 := by simp [PyData.depth, PyData.depthAll]
  rw [if_pos (Nat.le_trans (Nat.min_le_right _ _) this)]
  cases ps <;> simp [PyData.eqv, PyData.eqvAll]
theorem eq_I0 {b : Bool} {ns : List Int} : eqD b (lI ns) (.lst []) = some (dB (b == ns.isEmpty)) := by
  unfold eqD
  simp only [toPy, py_Is, toPyAll, Option.map_some]
  have : (PyData.list ([] : List PyData)).depth ≤ 60 := by simp [PyData.depth, PyData.depthAll]
  rw [if_pos (Nat.le_trans (Nat.min_le_right _ _) this)]
  cases ns <;> simp [PyData.eqv, PyData.eqvAll]
/-- a filter over lists that are coded -/
theorem filt_map {α : Type} (f : α → D) (p : D → Bool) (q : α → Bool) (h : ∀ x, p (f x) = q x) : ∀ (l : List α), (l.map f).filter p = (l.filter q).map f
  | [] => rfl
  | x :: l => by
    rw [List.map_cons, List.filter_cons, List.filter_cons, h, filt_map f p q h l]
    split <;> rfl
section
variable {S : Type} {A : TX S} {C : TB S} {ρ : Env} {s : S} {d e : D} {a b : Bool} {L : TL S} {ds es : List D}
theorem ev_eq (h : Ev A ρ s d) (q : d = e) : Ev A ρ s e := q ▸ h
theorem evl_eq (h : EvL L ρ s ds) (q : ds = es) : EvL L ρ s es := q ▸ h
theorem evb_eq (h : EvB C ρ s a) (q : a = b) : EvB C ρ s b := q ▸ h
theorem ev_dct0 : Ev (xC (.dct []) : TX S) ρ s (.dct []) := ev_c
theorem ev_nott (h : Ev A ρ s (dB false)) : Ev (xNot A) ρ s (dB true) := ev_not h
theorem ev_notf (h : Ev A ρ s (dB true)) : Ev (xNot A) ρ s (dB false) := ev_not h
end
section
variable {S : Type} {Γ : Fr S} {K : W.Frag} {E : XK} {t : TS} {T : TP S}
theorem ls_end (h : LnS Γ K E t T) : LnS Γ K E t (pSeq T pNext) := fun ok st P Dn q kn kb kc kr kx => h ok st P Dn q kn kb kc kr kx
end
end L2.DL
namespace L2.K58
open L2 L2.My L2.DL NdefX PySem PySem.Spec PyProof.Rows
def top (i : Nat) : Stmt := PySem.Challenge.pw_latelands_k58_whole_cover_papers_and_set.main.body.getD i (.Pass ⟨0, 0, 0, 0⟩)
local macro_rules | `(tactic| walk_at "tru0") => `(tactic| first
  | rfl
  | with_reducible assumption
  | decide)
local macro_rules | `(tactic| walk_at "tru") => `(tactic| first
  | rfl
  | with_reducible assumption
  | decide
  | (simp; done))
local macro_rules | `(tactic| walk_at "val") => `(tactic| first
  | with_reducible assumption
  | with_reducible exact cmpD_i
  | with_reducible exact eqD_i
  | with_reducible exact eqD_s
  | with_reducible exact eqD_b
  | with_reducible exact eqD_n
  | with_reducible exact eqD_in
  | with_reducible exact eqD_ni
  | with_reducible exact eqD_sn
  | with_reducible exact eqD_ns
  | with_reducible exact ix_0
  | with_reducible exact ix_1
  | with_reducible exact in_P
  | with_reducible exact in_pair
  | with_reducible exact in_I
  | with_reducible exact in_tI
  | with_reducible exact in_dT
  | with_reducible exact in_dct
  | with_reducible exact eq_P0
  | with_reducible exact eq_I0
  | with_reducible exact cmpD_s
  | with_reducible exact lenD_l
  | with_reducible exact lenD_t
  | rfl)
local macro_rules | `(tactic| walk_at "len") => `(tactic| ((refine le_line ?_); (simp only [List.length_cons, List.length_nil, List.length_append]); (first | done | decide | omega)))
local macro_rules | `(tactic| walk_at "ev") => `(tactic| first
  | with_reducible exact ev_c
  | ((with_reducible apply ev_vd); rfl)
  | ((with_reducible apply ev_vb); rfl)
  | ((with_reducible apply ev_vs); rfl)
  | ((with_reducible apply ev_vo); rfl)
  | ((with_reducible apply ev_op); walk_at "ev"; walk_at "ev"; walk_at "val")
  | ((with_reducible apply ev_un); walk_at "ev"; walk_at "val")
  | with_reducible exact ev_nil
  | ((with_reducible apply ev_cons); walk_at "ev"; walk_at "ev")
  | ((with_reducible apply ev_tup); walk_at "ev"; walk_at "len")
  | ((with_reducible apply ev_lst); walk_at "ev"; walk_at "len")
  | ((with_reducible apply ev_not); walk_at "ev")
  | ((with_reducible apply ev_andR); walk_at "ev"; walk_at "and")
  | ((with_reducible apply ev_orR); walk_at "ev"; walk_at "and")
  | ((with_reducible apply ev_ifR); walk_at "ev"; walk_at "ite"; walk_at "ev")
  | ((with_reducible apply evb_test); walk_at "ev")
  | ((with_reducible apply evb_not); walk_at "ev")
  | with_reducible exact evb_yes
  | ((with_reducible apply evb_andR); walk_at "ev"; walk_at "and")
  | ((with_reducible apply evb_orR); walk_at "ev"; walk_at "and")
  | ((with_reducible apply ev_chain); walk_at "ev"; walk_at "ev"; walk_at "ev"; walk_at "val"; walk_at "val")
  | ((with_reducible apply ev_call); walk_at "ev"; walk_at "val")
  | ((with_reducible apply ev_mk); walk_at "ev"; walk_at "val")
  | ((with_reducible apply ev_fld); walk_at "ev"; walk_at "att"; walk_at "val")
  | ((with_reducible apply ev_sl); walk_at "ev"; walk_at "ev"; walk_at "ev"; walk_at "val")
  | ((with_reducible apply ev_sw1); walk_at "ev")
  | ((with_reducible apply ev_sw2); walk_at "ev")
  | ((with_reducible apply evl_seq); walk_at "ev"; rfl)
  | with_reducible exact evo_none
  | ((with_reducible apply evo_some); walk_at "ev"))
local macro_rules | `(tactic| walk_at "att") => `(tactic| first
  | with_reducible assumption
  | apply_assumption)
local macro_rules | `(tactic| walk_at "and") => `(tactic| first
  | ((with_reducible apply AndR.t); (focus (walk_at "tru0")); walk_at "ev")
  | ((with_reducible apply AndR.f); walk_at "tru0")
  | ((with_reducible apply AndR.b); intro _; walk_at "ev")
  | ((with_reducible apply OrR.t); walk_at "tru0")
  | ((with_reducible apply OrR.f); (focus (walk_at "tru0")); walk_at "ev")
  | ((with_reducible apply OrR.b); intro _; walk_at "ev")
  | ((with_reducible apply BAndR.t); (focus (walk_at "tru0")); walk_at "ev")
  | ((with_reducible apply BAndR.f); walk_at "tru0")
  | ((with_reducible apply BAndR.b); intro _; walk_at "ev")
  | ((with_reducible apply BOrR.t); walk_at "tru0")
  | ((with_reducible apply BOrR.f); (focus (walk_at "tru0")); walk_at "ev")
  | ((with_reducible apply BOrR.b); intro _; walk_at "ev"))
local macro_rules | `(tactic| walk_at "ite") => `(tactic| first
  | ((with_reducible refine ite_t ?_ ?_); (focus (walk_at "tru0")))
  | ((with_reducible refine ite_f ?_ ?_); (focus (walk_at "tru0")))
  | ((with_reducible refine ite_t ?_ ?_); (focus (walk_at "tru")))
  | ((with_reducible refine ite_f ?_ ?_); (focus (walk_at "tru"))))
local macro_rules | `(tactic| walk_at "st") => `(tactic| first
  | with_reducible refine sq_assoc ?_
  | with_reducible refine sq_next ?_
  | ((with_reducible apply sq_set); (walk_at "ev"))
  | ((with_reducible apply sq_ret); (walk_at "ev"))
  | ((with_reducible apply sq_own); (walk_at "ev"); rfl)
  | ((with_reducible apply sq_drop); (walk_at "ev"))
  | ((with_reducible apply sq_ifR); (walk_at "ev"); (walk_at "ite"))
  | ((with_reducible apply sq_par); (walk_at "ev"))
  | ((with_reducible apply sq_app); rfl; (walk_at "ev"); (walk_at "len"))
  | ((with_reducible apply sq_asg); (walk_at "ev"); rfl)
  | with_reducible refine sq_nx ?_)
local macro_rules | `(tactic| walk_at "run") => `(tactic| repeat walk_at "st")
local macro_rules | `(tactic| walk_at "ck") => `(tactic| first
  | with_reducible refine ck_cons ?_
  | with_reducible refine ck_op ?_
  | with_reducible refine ck_nil ?_
  | with_reducible refine ck_lst ?_
  | with_reducible refine ck_tup ?_
  | with_reducible refine ck_un ?_)
local macro_rules | `(tactic| walk_at "pure") => `(tactic| ((with_reducible refine' ck_ev ?hh ?_); (case hh => walk_at "ev")))
local macro_rules | `(tactic| walk_at "dr") => `(tactic| ((with_reducible refine' ck_draw ?h1 ?h2 ?h3 ?h4 ?_); (case h1 => walk_at "ev"); (case h2 => first | decide | omega); (case h3 => decide); (case h4 => omega)))
section
variable {P : Program} {w : World} {K : W.Frag} {mg : Str → Option Value} {base : Heap}
/-! ### are_integers -/
abbrev s_are_integers : Stmt := top 1
theorem sc_are_integers : FnScope ["value", "each"] ["value"] (defScope s_are_integers) := ⟨rfl, rfl, rfl, by decide +kernel, rfl, by decide +kernel, by decide +kernel⟩
noncomputable def aiF : Fn := fnOf (fun ns : { l : List Int // l.length ≤ 100 } => [tI ns.1]) fun _ => .ok (dB true)
theorem ai_at {ns : List Int} (h : ns.length ≤ 100) : aiF [tI ns] = some (.ok (dB true)) := fnOf_at (arg := fun ns : { l : List Int // l.length ≤ 100 } => [tI ns.1]) (fun _ _ _ => rfl) ⟨ns, h⟩
theorem all_true : ∀ {l : List Bool}, (∀ b ∈ l, b = true) → allD (.lst (l.map dB)) = some (dB true) := fun {l} h => by
  show (asBs (l.map dB)).map _ = _
  have e : asBs (l.map dB) = some l := by
    clear h
    induction l with
    | nil => rfl
    | cons b r ih => rw [List.map_cons, asBs, ih]; rfl
  rw [e, Option.map_some]
  congr 2
  exact List.all_eq_true.mpr h
theorem ok_are_integers {f : Addr} {fd : FuncData} (F : Fun K "are_integers" "are_integers" s_are_integers f fd) (m_all : mg "all" = none) (m_isinstance : mg "isinstance" = none) (m_bool : mg "bool" = none) (m_int : mg "int" = none) (m_tuple : mg "tuple" = none) :
    FnG P w K mg base (L2.CX P w) 1 f fd ["value"] (spF K [.b] aiF) := by
  refine fn_dataR F sc_are_integers rfl rfl ?_
  rintro cdv A outer s H E hr hq
  have hu := hr.units
  refine ⟨_, (pss_one (ps_ret (pe_and (pe_callB call_isA (by rfl) m_isinstance (by decide +kernel) (pa_cons (pv 0) (pa_cons (pe_bty "tuple" rfl m_tuple (by decide +kernel)) pa_nil))) (pe_one (pe_callB (cr_all rfl) (by rfl) m_all (by decide +kernel) (pa_cons (pe_lc (own := [("each", 1)]) (g := gName 1) (tt := tYes) rfl sc_are_integers.nd (pi_seq (pv 0)) (blkOk_by (N := ["value", "each"]) (sc := defScope (top 1)) (by decide +kernel)) (fun _ _ _ _ _ => (pg_name (i := 1) sc_are_integers.nd rfl (Or.inl rfl))) (fun _ _ _ _ _ => pts_nil) (fun _ _ _ _ _ => (pe_and (pe_callB (show CallR _ (.builtin "isinstance") (rIsA K) from call_isA) (by rfl) m_isinstance (by decide +kernel) (pa_cons (pv 1) (pa_cons (pe_bty "int" rfl m_int (by decide +kernel)) pa_nil))) (pe_one (pe_not (pe_callB (show CallR _ (.builtin "isinstance") (rIsA K) from call_isA) (by rfl) m_isinstance (by decide +kernel) (pa_cons (pv 1) (pa_cons (pe_bty "bool" rfl m_bool (by decide +kernel)) pa_nil)))))))) pa_nil)))))), fun S Γ => ⟨_, (ls_end (ls_ret (ln_andM (mo := .s) (by decide) (Ln.lend (ln_cb2 ln_varb (Ln.lend ln_c) p2_isi)) (ln_cb1 (Ln.lend (Ln.weak (ln_lc rfl (li_seqb ln_varb) lg_name lt_yes (ln_andM (mo := .s) (by decide) (Ln.lend (ln_cb2 ln_varb (Ln.lend ln_c) p2_isi)) (ln_not (Ln.lend (ln_cb2 ln_varb (Ln.lend ln_c) p2_isi))))))) p1_all)))), ?_⟩⟩
  intro ds r s e
  obtain ⟨⟨ns, hl⟩, rfl, rfl⟩ := fnOf_of e
  have e1 : isiD (tI ns) (.v (.ty "tuple")) = some (dB true) := rfl
  have e2 : ∀ n : Int, isiD (dI n) (.v (.ty "int")) = some (dB true) := fun n => rfl
  have e3 : ∀ n : Int, isiD (dI n) (.v (.ty "bool")) = some (dB false) := fun n => rfl
  with_reducible apply sq_ret
  · with_reducible apply ev_andR
    · walk_at "ev"
    · with_reducible apply AndR.t
      · rfl
      · with_reducible apply ev_un
        · with_reducible apply ev_lc (fun _ => true) (fun _ => dB true)
          · walk_at "ev"
          · intro d hd
            obtain ⟨n, hn, rfl⟩ := List.mem_map.mp hd
            have e4 := e2 n
            have e5 := e3 n
            refine ⟨_, rfl, evb_yes, fun _ => ?_⟩
            with_reducible apply ev_andR
            · walk_at "ev"
            · with_reducible apply AndR.t
              · rfl
              · with_reducible apply ev_nott
                walk_at "ev"
          · rw [List.length_map]
            exact le_line (Nat.le_trans hl (by decide))
        · have : (((ns.map dI).filter fun _ => true).map fun _ => dB true) = ((ns.map fun _ => true).map dB) := by
            rw [List.filter_eq_self.mpr (fun _ _ => rfl), List.map_map, List.map_map]
            rfl
          rw [this]
          exact all_true (fun b hb => by obtain ⟨_, _, rfl⟩ := List.mem_map.mp hb; rfl)
  · exact ⟨rfl, rfl⟩
/-! ### without, _law_left -/
def wo (ps : List Pr) (ns : List Int) : List Pr := ps.filter fun p => decide (p.1 ∉ ns) && decide (p.2 ∉ ns)
structure WoA where
  ps : List Pr
  b : Bool
  ns : List Int
  lp : ps.length ≤ 100
  ln : ns.length ≤ 100
theorem lP_inj {ps qs : List Pr} (h : lP ps = lP qs) : ps = qs := by
  rw [D.lst.injEq] at h
  exact mapP_inj h
def sI : Bool → List Int → D
  | true, ns => tI ns
  | false, ns => lI ns
theorem sI_inj : ∀ {b c : Bool} {ps qs : List Int}, sI b ps = sI c qs → ps = qs
  | true, true, ps, qs, h => by
    have h : tI ps = tI qs := h
    rw [D.tup.injEq] at h
    exact mapI_inj h
  | false, false, ps, qs, h => by
    have h : lI ps = lI qs := h
    rw [D.lst.injEq] at h
    exact mapI_inj h
  | true, false, ps, qs, h => by
    have h : tI ps = lI qs := h
    cases h
  | false, true, ps, qs, h => by
    have h : lI ps = tI qs := h
    cases h
theorem sI_it : ∀ {b : Bool} {ns : List Int}, asIt (sI b ns) = some (ns.map dI)
  | true, _ => rfl
  | false, _ => rfl
theorem in_sI : ∀ {b c : Bool} {n : Int} {ns : List Int}, inX b (dI n) (sI c ns) = some (dB (b == decide (n ∈ ns)))
  | _, true, _, _ => in_tI
  | _, false, _, _ => in_I
noncomputable def woF : Fn := fnOf (fun x : WoA => [lP x.ps, sI x.b x.ns]) fun x => .ok (lP (wo x.ps x.ns))
theorem wo_at {ps : List Pr} {b : Bool} {ns : List Int} (lp : ps.length ≤ 100) (ln : ns.length ≤ 100) : woF [lP ps, sI b ns] = some (.ok (lP (wo ps ns))) :=
  fnOf_at (arg := fun x : WoA => [lP x.ps, sI x.b x.ns]) (val := fun x => .ok (lP (wo x.ps x.ns))) (fun x y h => by
    obtain ⟨h1, h2⟩ := List.cons.inj h
    rw [lP_inj h1, sI_inj (List.cons.inj h2).1]) ⟨ps, b, ns, lp, ln⟩
theorem wo_filt (ps : List Pr) (p : D → Bool) (ns : List Int) (h : ∀ x : Pr, p (dP x) = (decide (x.1 ∉ ns) && decide (x.2 ∉ ns))) : (((ps.map dP).filter p).map id) = (wo ps ns).map dP := by
  rw [List.map_id, filt_map dP p _ h]
  rfl
def outP (ns : List Int) : D → Bool
  | .tup [.v (.int i), .v (.int j)] => decide (i ∉ ns) && decide (j ∉ ns)
  | _ => false
abbrev s_without : Stmt := top 3
theorem sc_without : FnScope ["pairs", "numbers", "barred", "number", "pair"] ["pairs", "numbers"] (defScope s_without) := ⟨rfl, rfl, rfl, by decide +kernel, rfl, by decide +kernel, by decide +kernel⟩
theorem ok_without {f : Addr} {fd : FuncData} (F : Fun K "without" "without" s_without f fd) :
    FnG P w K mg base (L2.CX P w) 1 f fd ["pairs", "numbers"] (spF K [.b, .b] woF) := by
  refine fn_dataR F sc_without rfl rfl ?_
  rintro cdv A outer s H E hr hq
  have hu := hr.units
  refine ⟨_, (pss_cons (ps_set (i := 2) sc_without.nd rfl (Or.inr rfl) (pe_dcK (own := [("number", 3)]) (g := gName 3) (tt := tYes) rfl sc_without.nd (pi_seq (pv 1)) (blkOk_by (N := ["pairs", "numbers", "barred", "number", "pair"]) (sc := defScope (top 3)) (by decide +kernel)) (fun _ _ _ _ _ => (pg_name (i := 3) sc_without.nd rfl (Or.inl rfl))) (fun _ _ _ _ _ => pts_nil) (fun _ _ _ _ _ => (pv 3)) (fun _ _ _ _ _ => pe_bl)))
    (pss_one (ps_ret (pe_lc (own := [("pair", 4)]) (g := gName 4) (tt := _) rfl sc_without.nd (pi_seq (pv 0)) (blkOk_by (N := ["pairs", "numbers", "barred", "number", "pair"]) (sc := defScope (top 3)) (by decide +kernel)) (fun _ _ _ _ _ => (pg_name (i := 4) sc_without.nd rfl (Or.inl rfl))) (fun _ _ _ _ _ => (pts_one (PW.pt (pw_and (pt_cmpR (show OpR _ (compareOp .NotIn) (rInX K false) from (op_notInX hu)) (pe_ix (show IxR _ (rIx K) from ix_seq) (pv 4) pe_int (fun _ _ => rfl)) (pv 2) (by rfl)) (pw_and1 (pt_cmpR (show OpR _ (compareOp .NotIn) (rInX K false) from (op_notInX hu)) (pe_ix (show IxR _ (rIx K) from ix_seq) (pv 4) pe_int (fun _ _ => rfl)) (pv 2) (by rfl))))))) (fun _ _ _ _ _ => (pv 4)))))), fun S Γ => ⟨_, (ls_seq (ls_set (Ln.weak (ln_dcK rfl (li_seqb ln_varb) (fun _ => lg_name) lt_yes ln_varb ln_c))) (ls_end (ls_ret (Ln.weak (ln_lc rfl (li_seqb ln_varb) lg_name ((lt_and (lt_test (Ln.lend (ln_op (Ln.lend (ln_op ln_varb (Ln.lend ln_c) p2_ix)) ln_varb p2_inX))) (lt_test (Ln.lend (ln_op (Ln.lend (ln_op ln_varb (Ln.lend ln_c) p2_ix)) ln_varb p2_inX))))) ln_var))))), ?_⟩⟩
  intro ds r s e
  obtain ⟨⟨ps, b, ns, lp, ln⟩, rfl, rfl⟩ := fnOf_of e
  have hI : ∀ n : Int, inX false (dI n) (.dct (dcKF (fun d => (asKey d).getD (.inl 0)) (fun _ => dB true) (ns.map dI))) = some (dB (decide (n ∉ ns))) := fun n => by
    rw [in_dK]
    congr 2
    rw [List.any_map, Bool.eq_iff_iff]
    simp only [asKey, Function.comp_apply, Option.getD_some, beq_iff_eq, decide_eq_true_eq, Bool.false_eq, ← Bool.not_eq_true, List.any_eq_true, Sum.inl.injEq]
    constructor
    · intro h z; exact h ⟨n, z, rfl⟩
    · rintro h ⟨m, hm, rfl⟩; exact h hm
  with_reducible apply sq_set
  · with_reducible apply ev_dcK (fun d => (asKey d).getD (.inl 0)) (fun _ => dB true)
    · with_reducible apply evl_seq
      · walk_at "ev"
      · exact sI_it
    · intro d hd
      obtain ⟨n, hn, rfl⟩ := List.mem_map.mp hd
      exact ⟨_, rfl, evb_yes, ⟨dI n, (by walk_at "ev"), rfl⟩, (by walk_at "ev")⟩
    · rw [List.length_map]; exact le_line (Nat.le_trans ln (by decide))
  with_reducible apply sq_ret
  · with_reducible apply ev_eq
    · with_reducible apply ev_lc (outP ns) id
      · walk_at "ev"
      · intro d hd
        obtain ⟨p, hp, rfl⟩ := List.mem_map.mp hd
        have h1 := hI p.1
        have h2 := hI p.2
        refine ⟨_, rfl, ?_, fun _ => ?_⟩
        · with_reducible apply evb_eq (b := outP ns (dP p))
          · walk_at "ev"
          · rfl
        · walk_at "ev"
      · rw [List.length_map]; exact le_line (Nat.le_trans lp (by decide))
    · exact congrArg D.lst (wo_filt ps (outP ns) ns fun _ => rfl)
  · exact ⟨rfl, rfl⟩
abbrev s_left : Stmt := top 13
theorem sc_left : FnScope ["_law_some", "_law_gone", "_law_pair"] ["_law_some", "_law_gone"] (defScope s_left) := ⟨rfl, rfl, rfl, by decide +kernel, rfl, by decide +kernel, by decide +kernel⟩
theorem ok_left {f : Addr} {fd : FuncData} (F : Fun K "_law_left" "_law_left" s_left f fd) :
    FnG P w K mg base (L2.CX P w) 1 f fd ["_law_some", "_law_gone"] (spF K [.b, .b] woF) := by
  refine fn_dataR F sc_left rfl rfl ?_
  rintro cdv A outer s H E hr hq
  have hu := hr.units
  refine ⟨_, (pss_one (ps_ret (pe_lc (own := [("_law_pair", 2)]) (g := gName 2) (tt := _) rfl sc_left.nd (pi_seq (pv 0)) (blkOk_by (N := ["_law_some", "_law_gone", "_law_pair"]) (sc := defScope (top 13)) (by decide +kernel)) (fun _ _ _ _ _ => (pg_name (i := 2) sc_left.nd rfl (Or.inl rfl))) (fun _ _ _ _ _ => (pts_one (PW.pt (pw_and (pt_cmpR (show OpR _ (compareOp .NotIn) (rInX K false) from (op_notInX hu)) (pe_ix (show IxR _ (rIx K) from ix_seq) (pv 2) pe_int (fun _ _ => rfl)) (pv 1) (by rfl)) (pw_and1 (pt_cmpR (show OpR _ (compareOp .NotIn) (rInX K false) from (op_notInX hu)) (pe_ix (show IxR _ (rIx K) from ix_seq) (pv 2) pe_int (fun _ _ => rfl)) (pv 1) (by rfl))))))) (fun _ _ _ _ _ => (pv 2))))), fun S Γ => ⟨_, (ls_end (ls_ret (Ln.weak (ln_lc rfl (li_seqb ln_varb) lg_name ((lt_and (lt_test (Ln.lend (ln_op (Ln.lend (ln_op ln_varb (Ln.lend ln_c) p2_ix)) ln_varb p2_inX))) (lt_test (Ln.lend (ln_op (Ln.lend (ln_op ln_varb (Ln.lend ln_c) p2_ix)) ln_varb p2_inX))))) ln_var)))), ?_⟩⟩
  intro ds r s e
  obtain ⟨⟨ps, b, ns, lp, ln⟩, rfl, rfl⟩ := fnOf_of e
  have hI : ∀ n : Int, inX false (dI n) (sI b ns) = some (dB (decide (n ∉ ns))) := fun n => by
    rw [in_sI]
    congr 2
    rw [Bool.eq_iff_iff]
    simp only [beq_iff_eq, Bool.false_eq, decide_eq_true_eq, decide_eq_false_iff_not]
  with_reducible apply sq_ret
  · with_reducible apply ev_eq
    · with_reducible apply ev_lc (outP ns) id
      · walk_at "ev"
      · intro d hd
        obtain ⟨p, hp, rfl⟩ := List.mem_map.mp hd
        have h1 := hI p.1
        have h2 := hI p.2
        refine ⟨_, rfl, ?_, fun _ => ?_⟩
        · with_reducible apply evb_eq (b := outP ns (dP p))
          · walk_at "ev"
          · rfl
        · walk_at "ev"
      · rw [List.length_map]; exact le_line (Nat.le_trans lp (by decide))
    · exact congrArg D.lst (wo_filt ps (outP ns) ns fun _ => rfl)
  · exact ⟨rfl, rfl⟩
/-! ### partners_of, _law_mates -/
def partsP (n : Int) (p : Pr) : List Int := [p.1, p.2].filter fun o => decide (n = p.1 ∨ n = p.2) && decide (o ≠ n)
def partI (ps : List Pr) (n : Int) : List Int := sortI (ps.flatMap (partsP n))
def mateI (ps : List Pr) (n : Int) : List Int := sortI ((ps.filter fun p => decide (n = p.1 ∨ n = p.2)).map fun p => p.1 + p.2 - n)
structure PaA where
  ps : List Pr
  n : Int
  lp : ps.length ≤ 30
noncomputable def paF : Fn := fnOf (fun x : PaA => [lP x.ps, dI x.n]) fun x => .ok (tI (partI x.ps x.n))
theorem pa_inj {x y : PaA} (h : [lP x.ps, dI x.n] = [lP y.ps, dI y.n]) : x.ps = y.ps ∧ x.n = y.n := by
  obtain ⟨h1, h2⟩ := List.cons.inj h
  have h3 := (List.cons.inj h2).1
  rw [D.v.injEq, V.int.injEq] at h3
  exact ⟨lP_inj h1, h3⟩
theorem pa_at {ps : List Pr} {n : Int} (lp : ps.length ≤ 30) : paF [lP ps, dI n] = some (.ok (tI (partI ps n))) :=
  fnOf_at (arg := fun x : PaA => [lP x.ps, dI x.n]) (val := fun x => .ok (tI (partI x.ps x.n))) (fun x y h => by rw [(pa_inj h).1, (pa_inj h).2]) ⟨ps, n, lp⟩
noncomputable def maF : Fn := fnOf (fun x : PaA => [lP x.ps, dI x.n]) fun x => .ok (lI (mateI x.ps x.n))
theorem ma_at {ps : List Pr} {n : Int} (lp : ps.length ≤ 30) : maF [lP ps, dI n] = some (.ok (lI (mateI ps n))) :=
  fnOf_at (arg := fun x : PaA => [lP x.ps, dI x.n]) (val := fun x => .ok (lI (mateI x.ps x.n))) (fun x y h => by rw [(pa_inj h).1, (pa_inj h).2]) ⟨ps, n, lp⟩
def toI : D → Int
  | .v (.int o) => o
  | _ => 0
def toP : D → Pr
  | .tup [.v (.int i), .v (.int j)] => (i, j)
  | _ => (0, 0)
abbrev s_partners_of : Stmt := top 4
theorem sc_partners_of : FnScope ["pairs", "number", "pair", "other"] ["pairs", "number"] (defScope s_partners_of) := ⟨rfl, rfl, rfl, by decide +kernel, rfl, by decide +kernel, by decide +kernel⟩
theorem ok_partners_of {f : Addr} {fd : FuncData} (F : Fun K "partners_of" "partners_of" s_partners_of f fd) (m_tuple : mg "tuple" = none) (m_sorted : mg "sorted" = none) :
    FnG P w K mg base (L2.CX P w) 1 f fd ["pairs", "number"] (spF K [.b, .b] paF) := by
  refine fn_dataR F sc_partners_of rfl rfl ?_
  rintro cdv A outer s H E hr hq
  have hu := hr.units
  refine ⟨_, (pss_one (ps_ret (pe_callTy call_tuple_of (by rfl) m_tuple (by decide +kernel) (pa_cons (pe_callB (cr_sortedSet rfl) (by rfl) m_sorted (by decide +kernel) (pa_cons (pe_set2 (own := [("pair", 2), ("other", 3)]) (vs1 := [3]) (g := gName 2) (tt := tYes) (g1 := gName 3) (tt1 := _) rfl sc_partners_of.nd (pi_seq (pv 0)) (blkOk_by (N := ["pairs", "number", "pair", "other"]) (sc := defScope (top 4)) (by decide +kernel)) (by decide) (fun _ _ _ _ _ => (pg_name (i := 2) sc_partners_of.nd rfl (Or.inl rfl))) (fun _ _ _ _ _ => pts_nil) (fun _ _ _ _ _ => (pv 3)) (fun _ _ _ _ _ => (show PI _ _ _ (iSeq K _) from (pi_seq (pv 2)))) (fun _ _ _ _ _ => (pg_name (i := 3) sc_partners_of.nd rfl (Or.inl rfl))) (fun _ _ _ _ _ => (pts_one (PW.pt (pw_and (pt_cmpR (show OpR _ (compareOp .In) (rInX K true) from (op_inX hu)) (pv 1) (pv 2) (by rfl)) (pw_and1 (pt_cmpR (show OpR _ (compareOp .NotEq) (rEqP K false) from (op_neP hu)) (pv 3) (pv 1) (nomark _)))))))) pa_nil)) pa_nil)))), fun S Γ => ⟨_, (ls_end (ls_ret (ln_cb1 (Ln.lend (Ln.weak (ln_ss2 rfl (li_seqb ln_varb) (fun _ => lg_name) lt_yes (la_in (AR := arS _) arS_mono rfl (lis_seq ln_var) (fun _ => lg_name) (lt_and (lt_test (Ln.lend (ln_op ln_varb ln_varb p2_inX))) (lt_test (Ln.lend (ln_op ln_varb ln_varb p2_eq)))) (la_add ln_varb))))) p1_tup))), ?_⟩⟩
  intro ds r s e
  obtain ⟨⟨ps, n, lp⟩, rfl, rfl⟩ := fnOf_of e
  with_reducible apply sq_ret
  · with_reducible apply ev_un
    · with_reducible apply ev_ss2 (fun d => partsP n (toP d))
      · walk_at "ev"
      · intro d hd
        obtain ⟨p, hp, rfl⟩ := List.mem_map.mp hd
        refine ⟨List.length_filter_le _ _, _, rfl, evb_yes, fun acc Q' la q => ?_⟩
        refine st_in (ds1 := [dI p.1, dI p.2]) (fun d => decide (n = p.1 ∨ n = p.2) && decide (toI d ≠ n)) toI ?_ ?_ ?_ ?_
        · walk_at "ev"
        · intro x hx
          obtain ⟨o, rfl⟩ : ∃ o, x = dI o := by
            rcases List.mem_cons.mp hx with h | h
            · exact ⟨_, h⟩
            · exact ⟨_, List.mem_singleton.mp h⟩
          refine ⟨_, rfl, ?_, fun _ => ?_⟩
          · with_reducible apply evb_eq
            · walk_at "ev"
            · show (true == decide (n = p.1 ∨ n = p.2) && (false == (o == n))) = (decide (n = p.1 ∨ n = p.2) && decide (o ≠ n))
              have h1 : ∀ b : Bool, (true == b) = b := by decide
              have h2 : (false == (o == n)) = decide (o ≠ n) := by
                by_cases h : o = n
                · subst h; simp
                · simp [h]
              rw [h1, h2]
          · walk_at "ev"
        · simp only [List.length_cons, List.length_nil]
          exact Nat.le_trans (Nat.add_le_add_right la 2) (by decide)
        · have e : ([dI p.1, dI p.2].filter fun d => decide (n = p.1 ∨ n = p.2) && decide (toI d ≠ n)).map toI = partsP n p := by
            have := filt_map dI (fun d => decide (n = p.1 ∨ n = p.2) && decide (toI d ≠ n)) (fun o => decide (n = p.1 ∨ n = p.2) && decide (o ≠ n)) (fun _ => rfl) [p.1, p.2]
            have this : ([dI p.1, dI p.2].filter fun d => decide (n = p.1 ∨ n = p.2) && decide (toI d ≠ n)) = _ := this
            rw [this, List.map_map]
            exact List.map_id _
          rw [e]
          exact q
      · rw [List.length_map]; exact lp
    · have e : (ps.map dP).flatMap (fun d => partsP n (toP d)) = ps.flatMap (partsP n) := by
        rw [List.flatMap_map]
        rfl
      rw [e]
      rfl
  · exact ⟨rfl, rfl⟩
theorem ssI_at {ns : List Int} (h : ns.length < 64) : ssI (lI ns) = some (lI (sortI ns)) := by
  unfold ssI
  simp only [asIs_map, Option.bind_some, h, if_true]
abbrev s_mates : Stmt := top 14
theorem sc_mates : FnScope ["_law_some", "_law_number", "_law_pair"] ["_law_some", "_law_number"] (defScope s_mates) := ⟨rfl, rfl, rfl, by decide +kernel, rfl, by decide +kernel, by decide +kernel⟩
theorem ok_mates {f : Addr} {fd : FuncData} (F : Fun K "_law_mates" "_law_mates" s_mates f fd) (m_set : mg "set" = none) (m_sorted : mg "sorted" = none) :
    FnG P w K mg base (L2.CX P w) 1 f fd ["_law_some", "_law_number"] (spF K [.b, .b] maF) := by
  refine fn_dataR F sc_mates rfl rfl ?_
  rintro cdv A outer s H E hr hq
  have hu := hr.units
  refine ⟨_, (pss_one (ps_ret (pe_callB (cr_sortedSet rfl) (by rfl) m_sorted (by decide +kernel) (pa_cons (pe_callTy (cr_setOfI rfl) (by rfl) m_set (by decide +kernel) (pa_cons (pe_lc (own := [("_law_pair", 2)]) (g := gName 2) (tt := _) rfl sc_mates.nd (pi_seq (pv 0)) (blkOk_by (N := ["_law_some", "_law_number", "_law_pair"]) (sc := defScope (top 14)) (by decide +kernel)) (fun _ _ _ _ _ => (pg_name (i := 2) sc_mates.nd rfl (Or.inl rfl))) (fun _ _ _ _ _ => (pts_one (pt_cmpR (show OpR _ (compareOp .In) (rInX K true) from (op_inX hu)) (pv 1) (pv 2) (by rfl)))) (fun _ _ _ _ _ => (pe_op op_sub (pe_op op_addD (pe_ix (show IxR _ (rIx K) from ix_seq) (pv 2) pe_int (fun _ _ => rfl)) (pe_ix (show IxR _ (rIx K) from ix_seq) (pv 2) pe_int (fun _ _ => rfl))) (pv 1)))) pa_nil)) pa_nil)))), fun S Γ => ⟨_, (ls_end (ls_ret (Ln.weak (ln_ssI (Ln.lend (Ln.weak (ln_lc rfl (li_seqb ln_varb) lg_name ((lt_test (Ln.lend (ln_op ln_varb ln_varb p2_inX)))) (ln_op (Ln.lend (ln_op (Ln.lend (ln_op ln_varb (Ln.lend ln_c) p2_ix)) (Ln.lend (ln_op ln_varb (Ln.lend ln_c) p2_ix)) p2_add)) ln_varb p2_rI0)))))))), ?_⟩⟩
  intro ds r s e
  obtain ⟨⟨ps, n, lp⟩, rfl, rfl⟩ := fnOf_of e
  with_reducible apply sq_ret
  · with_reducible apply ev_un
    · with_reducible apply ev_lc (fun d => decide (n = (toP d).1 ∨ n = (toP d).2)) (fun d => dI ((toP d).1 + (toP d).2 - n))
      · walk_at "ev"
      · intro d hd
        obtain ⟨p, hp, rfl⟩ := List.mem_map.mp hd
        refine ⟨_, rfl, ?_, fun _ => ?_⟩
        · with_reducible apply evb_eq
          · walk_at "ev"
          · show (true == decide (n = p.1 ∨ n = p.2)) = decide (n = p.1 ∨ n = p.2)
            cases decide (n = p.1 ∨ n = p.2) <;> rfl
        · walk_at "ev"
      · rw [List.length_map]; exact le_line (Nat.le_trans lp (by decide))
    · have e : (((ps.map dP).filter fun d => decide (n = (toP d).1 ∨ n = (toP d).2)).map fun d => dI ((toP d).1 + (toP d).2 - n)) = ((ps.filter fun p => decide (n = p.1 ∨ n = p.2)).map fun p => p.1 + p.2 - n).map dI := by
        rw [filt_map dP _ (fun p => decide (n = p.1 ∨ n = p.2)) (fun _ => rfl), List.map_map, List.map_map]
        rfl
      rw [e]
      refine ssI_at ?_
      rw [List.length_map]
      exact Nat.lt_of_le_of_lt (Nat.le_trans (List.length_filter_le _ _) lp) (by decide)
  · exact ⟨rfl, rfl⟩
end
end L2.K58
namespace L2.K58
open L2 L2.My L2.DL NdefX PySem PySem.Spec PyProof.Rows
local macro_rules | `(tactic| walk_at "tru0") => `(tactic| first
  | rfl
  | with_reducible assumption
  | decide)
local macro_rules | `(tactic| walk_at "tru") => `(tactic| first
  | rfl
  | with_reducible assumption
  | decide
  | (simp; done))
local macro_rules | `(tactic| walk_at "val") => `(tactic| first
  | with_reducible assumption
  | with_reducible exact cmpD_i
  | with_reducible exact eqD_i
  | with_reducible exact eqD_s
  | with_reducible exact eqD_b
  | with_reducible exact eqD_n
  | with_reducible exact eqD_in
  | with_reducible exact eqD_ni
  | with_reducible exact eqD_sn
  | with_reducible exact eqD_ns
  | with_reducible exact ix_0
  | with_reducible exact ix_1
  | with_reducible exact in_P
  | with_reducible exact in_pair
  | with_reducible exact in_I
  | with_reducible exact in_tI
  | with_reducible exact in_dT
  | with_reducible exact eq_P0
  | with_reducible exact eq_I0
  | with_reducible exact cmpD_s
  | with_reducible exact lenD_l
  | with_reducible exact lenD_t
  | rfl)
local macro_rules | `(tactic| walk_at "len") => `(tactic| ((refine le_line ?_); (simp only [List.length_cons, List.length_nil, List.length_append]); (first | done | decide | omega)))
local macro_rules | `(tactic| walk_at "ev") => `(tactic| first
  | with_reducible exact ev_c
  | ((with_reducible apply ev_vd); rfl)
  | ((with_reducible apply ev_vb); rfl)
  | ((with_reducible apply ev_vs); rfl)
  | ((with_reducible apply ev_vo); rfl)
  | ((with_reducible apply ev_op); walk_at "ev"; walk_at "ev"; walk_at "val")
  | ((with_reducible apply ev_un); walk_at "ev"; walk_at "val")
  | with_reducible exact ev_nil
  | ((with_reducible apply ev_cons); walk_at "ev"; walk_at "ev")
  | ((with_reducible apply ev_tup); walk_at "ev"; walk_at "len")
  | ((with_reducible apply ev_lst); walk_at "ev"; walk_at "len")
  | ((with_reducible apply ev_not); walk_at "ev")
  | ((with_reducible apply ev_andR); walk_at "ev"; walk_at "and")
  | ((with_reducible apply ev_orR); walk_at "ev"; walk_at "and")
  | ((with_reducible apply ev_ifR); walk_at "ev"; walk_at "ite"; walk_at "ev")
  | ((with_reducible apply evb_test); walk_at "ev")
  | ((with_reducible apply evb_not); walk_at "ev")
  | with_reducible exact evb_yes
  | ((with_reducible apply evb_andR); walk_at "ev"; walk_at "and")
  | ((with_reducible apply evb_orR); walk_at "ev"; walk_at "and")
  | ((with_reducible apply ev_chain); walk_at "ev"; walk_at "ev"; walk_at "ev"; walk_at "val"; walk_at "val")
  | ((with_reducible apply ev_call); walk_at "ev"; walk_at "val")
  | ((with_reducible apply ev_mk); walk_at "ev"; walk_at "val")
  | ((with_reducible apply ev_fld); walk_at "ev"; walk_at "att"; walk_at "val")
  | ((with_reducible apply ev_sl); walk_at "ev"; walk_at "ev"; walk_at "ev"; walk_at "val")
  | ((with_reducible apply ev_sw1); walk_at "ev")
  | ((with_reducible apply ev_sw2); walk_at "ev")
  | ((with_reducible apply evl_seq); walk_at "ev"; rfl)
  | with_reducible exact evo_none
  | ((with_reducible apply evo_some); walk_at "ev"))
local macro_rules | `(tactic| walk_at "att") => `(tactic| first
  | with_reducible assumption
  | apply_assumption)
local macro_rules | `(tactic| walk_at "and") => `(tactic| first
  | ((with_reducible apply AndR.t); (focus (walk_at "tru0")); walk_at "ev")
  | ((with_reducible apply AndR.f); walk_at "tru0")
  | ((with_reducible apply AndR.b); intro _; walk_at "ev")
  | ((with_reducible apply OrR.t); walk_at "tru0")
  | ((with_reducible apply OrR.f); (focus (walk_at "tru0")); walk_at "ev")
  | ((with_reducible apply OrR.b); intro _; walk_at "ev")
  | ((with_reducible apply BAndR.t); (focus (walk_at "tru0")); walk_at "ev")
  | ((with_reducible apply BAndR.f); walk_at "tru0")
  | ((with_reducible apply BAndR.b); intro _; walk_at "ev")
  | ((with_reducible apply BOrR.t); walk_at "tru0")
  | ((with_reducible apply BOrR.f); (focus (walk_at "tru0")); walk_at "ev")
  | ((with_reducible apply BOrR.b); intro _; walk_at "ev"))
local macro_rules | `(tactic| walk_at "ite") => `(tactic| first
  | ((with_reducible refine ite_t ?_ ?_); (focus (walk_at "tru0")))
  | ((with_reducible refine ite_f ?_ ?_); (focus (walk_at "tru0")))
  | ((with_reducible refine ite_t ?_ ?_); (focus (walk_at "tru")))
  | ((with_reducible refine ite_f ?_ ?_); (focus (walk_at "tru"))))
local macro_rules | `(tactic| walk_at "st") => `(tactic| first
  | with_reducible refine sq_assoc ?_
  | with_reducible refine sq_next ?_
  | ((with_reducible apply sq_set); (walk_at "ev"))
  | ((with_reducible apply sq_ret); (walk_at "ev"))
  | ((with_reducible apply sq_own); (walk_at "ev"); rfl)
  | ((with_reducible apply sq_drop); (walk_at "ev"))
  | ((with_reducible apply sq_ifR); (walk_at "ev"); (walk_at "ite"))
  | ((with_reducible apply sq_par); (walk_at "ev"))
  | ((with_reducible apply sq_app); rfl; (walk_at "ev"); (walk_at "len"))
  | ((with_reducible apply sq_asg); (walk_at "ev"); rfl)
  | with_reducible refine sq_nx ?_)
local macro_rules | `(tactic| walk_at "run") => `(tactic| repeat walk_at "st")
local macro_rules | `(tactic| walk_at "ck") => `(tactic| first
  | with_reducible refine ck_cons ?_
  | with_reducible refine ck_op ?_
  | with_reducible refine ck_nil ?_
  | with_reducible refine ck_lst ?_
  | with_reducible refine ck_tup ?_
  | with_reducible refine ck_un ?_)
local macro_rules | `(tactic| walk_at "pure") => `(tactic| ((with_reducible refine' ck_ev ?hh ?_); (case hh => walk_at "ev")))
local macro_rules | `(tactic| walk_at "dr") => `(tactic| ((with_reducible refine' ck_draw ?h1 ?h2 ?h3 ?h4 ?_); (case h1 => walk_at "ev"); (case h2 => first | decide | omega); (case h3 => decide); (case h4 => omega)))
section
variable {P : Program} {w : World} {K : W.Frag} {mg : Str → Option Value} {base : Heap}
abbrev tP (ps : List Pr) : D := .tup (ps.map dP)
/-! ### are_apart -/
def apB (ps : List Pr) : List Pr → List Int → Bool
  | [], _ => true
  | p :: r, tk => decide (p ∈ ps) && decide (p.1 ∉ tk) && decide (p.2 ∉ tk) && apB ps r (p.2 :: p.1 :: tk)
structure ApA where
  ps : List Pr
  vs : List Pr
  lp : ps.length ≤ 100
  lv : vs.length ≤ 100
noncomputable def apF : Fn := fnOf (fun x : ApA => [lP x.ps, tP x.vs]) fun x => .ok (dB (apB x.ps x.vs []))
theorem tP_inj {ps qs : List Pr} (h : tP ps = tP qs) : ps = qs := by
  rw [D.tup.injEq] at h
  exact mapP_inj h
theorem ap_at {ps vs : List Pr} (lp : ps.length ≤ 100) (lv : vs.length ≤ 100) : apF [lP ps, tP vs] = some (.ok (dB (apB ps vs []))) :=
  fnOf_at (arg := fun x : ApA => [lP x.ps, tP x.vs]) (val := fun x => .ok (dB (apB x.ps x.vs []))) (fun x y h => by
    obtain ⟨h1, h2⟩ := List.cons.inj h
    rw [lP_inj h1, tP_inj (List.cons.inj h2).1]) ⟨ps, vs, lp, lv⟩
def kfP (d : D) : List Int := [(toP d).1, (toP d).2]
theorem in_known {b : Bool} {p : Pr} {ps : List Pr} : inX b (dP p) (.dtp (dcTF kfP (ps.map dP))) = some (dB (b == decide (p ∈ ps))) := by
  rw [in_dT]
  congr 3
  rw [decide_eq_decide, dcTF_mem]
  constructor
  · rintro ⟨d, hd, e⟩
    obtain ⟨q, hq, rfl⟩ := List.mem_map.mp hd
    have e : [q.1, q.2] = [p.1, p.2] := e
    obtain ⟨h1, h2⟩ := List.cons.inj e
    have : q = p := Prod.ext h1 (List.cons.inj h2).1
    rw [← this]; exact hq
  · intro h
    exact ⟨dP p, List.mem_map_of_mem h, rfl⟩
theorem putX_dct {ρ : DL.Env} {i : Nat} {kvs : List (Key × D)} {n : Int} {d : D} (h : ρ[i]? = some (Slot.own (.dct kvs))) (l : kvs.length < sizeLine) : putX ρ i (dI n) d = some (.dct (putDk kvs (.inl n) d)) := by
  unfold putX
  rw [h]
  simp only [asKey, Option.bind_some, l, if_true]
abbrev s_are_apart : Stmt := top 8
theorem sc_are_apart : FnScope ["pairs", "value", "known", "taken", "pair"] ["pairs", "value"] (defScope s_are_apart) := ⟨rfl, rfl, rfl, by decide +kernel, rfl, by decide +kernel, by decide +kernel⟩
theorem ok_are_apart {f : Addr} {fd : FuncData} (F : Fun K "are_apart" "are_apart" s_are_apart f fd) (m_isinstance : mg "isinstance" = none) (m_tuple : mg "tuple" = none) (c_are_integers : CalG P w K mg base (L2.CX P w) 1 "are_integers" (spF K [.b] aiF)) :
    FnG P w K mg base (L2.CX P w) 2 f fd ["pairs", "value"] (spF K [.b, .b] apF) := by
  refine fn_dataR F sc_are_apart rfl rfl ?_
  rintro cdv A outer s H E hr hq
  have hu := hr.units
  have hp := @passX (cxOf (L2.CX P w) P w K mg base ["pairs", "value", "known", "taken", "pair"] "are_apart" (defScope s_are_apart) f cdv A outer s H E) E (takes_of rfl rfl rfl rfl)
  refine ⟨_, (pss_cons (ps_if (pt_not (pt_val (pe_callB call_isA (by rfl) m_isinstance (by decide +kernel) (pa_cons (pv 1) (pa_cons (pe_bty "tuple" rfl m_tuple (by decide +kernel)) pa_nil))))) (pss_one (ps_ret pe_bl)) pss_nil)
    (pss_cons (ps_setDcT (i := 2) (own := [("pair", 4)]) (g := gName 4) (tt := tYes) (Nat.lt_of_le_of_lt (Nat.le_add_right _ _) hu) rfl sc_are_apart.nd rfl rfl (sw_trueD rfl rfl rfl rfl) (pi_seq (pv 0)) (blkOk_by (N := ["pairs", "value", "known", "taken", "pair"]) (sc := defScope (top 8)) (by decide +kernel)) (fun _ _ _ _ _ => (pg_name (i := 4) sc_are_apart.nd rfl (Or.inl rfl))) (fun _ _ _ _ _ => pts_nil) (fun _ _ _ _ _ => (pv 4)) (fun _ _ _ _ _ => pe_bl))
    (pss_cons (ps_set (i := 3) sc_are_apart.nd rfl (Or.inl rfl) pe_dnewK)
    (pss_cons (ps_for PassesOwn.leaving rfl (pi_seq (pv 1)) (pg_name (i := 4) sc_are_apart.nd rfl (Or.inl rfl)) (pss_cons (ps_if (PW.pt (pw_or (pt_not (pt_val (pe_g c_are_integers hr (by decide) hq hp rfl (pa_cons (pv 4) pa_nil)))) (pw_or (pt_cmpR (op_notInX hu) (pv 4) (pv 2) (by rfl)) (pw_or (pt_cmpR (op_inX hu) (pe_ix ix_seq (pv 4) pe_int (fun _ _ => rfl)) (pv 3) (by rfl)) (pw_or1 (pt_cmpR (op_inX hu) (pe_ix ix_seq (pv 4) pe_int (fun _ _ => rfl)) (pv 3) (by rfl))))))) (pss_one (ps_ret pe_bl)) pss_nil)
    (pss_cons (ps_asg pe_bl (pg_sub (pv 3) (pe_ix ix_seq (pv 4) pe_int (fun _ _ => rfl)) (set_any (Nat.lt_of_le_of_lt (Nat.add_le_add_left (Nat.le_of_ble_eq_true rfl : 1 ≤ 64) _) hu))))
    (pss_one (ps_asg pe_bl (pg_sub (pv 3) (pe_ix ix_seq (pv 4) pe_int (fun _ _ => rfl)) (set_any (Nat.lt_of_le_of_lt (Nat.add_le_add_left (Nat.le_of_ble_eq_true rfl : 1 ≤ 64) _) hu))))))))
    (pss_one (ps_ret pe_bl)))))), fun S Γ => ⟨_, (ls_seq (ls_if (lt_not (lt_val (Ln.lend (ln_cb2 ln_varb (Ln.lend ln_c) p2_isi)))) (ls_end (ls_ret ln_c)) ls_next) (ls_seq (ls_set (ln_dcT rfl (li_seqb ln_varb) (fun _ => lg_name) lt_yes ln_var ln_c)) (ls_seq (ls_own (by decide) ln_dct0) (ls_seq (ls_for li_seqp lg_name (ls_seq (ls_if (lt_or (lt_not (lt_val (Ln.lend (ln_call rfl (ln_cons rfl ln_varb ln_nil))))) (lt_or (lt_test (Ln.lend (ln_op ln_varb ln_varb p2_inX))) (lt_or (lt_test (Ln.lend (ln_op (Ln.lend (ln_op ln_varb (Ln.lend ln_c) p2_ix)) ln_varb p2_inX))) (lt_test (Ln.lend (ln_op (Ln.lend (ln_op ln_varb (Ln.lend ln_c) p2_ix)) ln_varb p2_inX)))))) (ls_end (ls_ret ln_c)) ls_next) (ls_seq (ls_setX ln_c (Ln.lend (ln_op ln_varb (Ln.lend ln_c) p2_ix))) (ls_end (ls_setX ln_c (Ln.lend (ln_op ln_varb (Ln.lend ln_c) p2_ix))))))) (ls_end (ls_ret ln_c)))))), ?_⟩⟩
  intro ds r s e
  obtain ⟨⟨ps, vs, lp, lv⟩, rfl, rfl⟩ := fnOf_of e
  have e1 : isiD (tP vs) (.v (.ty "tuple")) = some (dB true) := rfl
  walk_at "st"
  with_reducible refine sq_next ?_
  with_reducible apply sq_set
  · with_reducible apply ev_dcT kfP
    · walk_at "ev"
    · intro d hd
      obtain ⟨p, hp, rfl⟩ := List.mem_map.mp hd
      exact ⟨_, rfl, evb_yes, ⟨dP p, (by walk_at "ev"), rfl⟩, dB true, (by walk_at "ev")⟩
    · rw [List.length_map]; exact le_line (Nat.le_trans lp (by decide))
  with_reducible apply sq_own
  · exact ev_dct0
  · rfl
  with_reducible refine sq_for (fun ds ρ s' => s' = s ∧ ∃ (kvs : List (Key × D)) (rest : List Pr) (tk : List Int), ρ = [.bor (lP ps), .bor (tP vs), .d (.dtp (dcTF kfP (ps.map dP))), .own (.dct kvs), .no] ∧ ds = rest.map dP ∧ (∀ n : Int, (kvs.any fun kv => decide (kv.1 = Sum.inl n)) = decide (n ∈ tk)) ∧ kvs.length + 2 * rest.length ≤ 200 ∧ apB ps vs [] = apB ps rest tk) (ds := vs.map dP) ?_ ⟨rfl, [], vs, [], rfl, rfl, fun n => by simp, by rw [List.length_nil, Nat.zero_add]; exact Nat.mul_le_mul_left 2 lv, rfl⟩ ?_ ?_
  · with_reducible apply evl_seqb
    · rfl
    · rfl
  · rintro ρ s' ⟨rfl, kvs, rest, tk, rfl, h1, h2, h3, h4⟩
    cases rest with
    | cons => cases h1
    | nil =>
      walk_at "st"
      exact ⟨by show Except.ok (dB (apB ps vs [])) = _; rw [h4]; rfl, rfl⟩
  · rintro d r Fr Bk hF hB ρ s' ⟨rfl, kvs, rest, tk, rfl, h1, h2, h3, h4⟩
    cases rest with
    | nil => cases h1
    | cons p rest =>
      rw [List.map_cons] at h1
      obtain ⟨rfl, rfl⟩ := List.cons.inj h1
      refine ⟨_, rfl, ?_⟩
      have hai : aiF [dP p] = some (.ok (dB true)) := ai_at (ns := [p.1, p.2]) (Nat.le_of_ble_eq_true rfl)
      have k1 : inX false (dP p) (.dtp (dcTF kfP (ps.map dP))) = some (dB (false == decide (p ∈ ps))) := in_known
      have k2 : inX true (dI p.1) (.dct kvs) = some (dB (true == decide (p.1 ∈ tk))) := by rw [in_dct, h2]
      have k3 : inX true (dI p.2) (.dct kvs) = some (dB (true == decide (p.2 ∈ tk))) := by rw [in_dct, h2]
      rw [List.length_cons] at h3
      have stop : apB ps (p :: rest) tk = false → Except.ok (dB (apB ps vs [])) = (Except.ok (dB false) : Except Exn D) := fun h => by rw [h4, h]
      by_cases a1 : p ∈ ps
      · rw [decide_eq_true a1] at k1
        have k1 : inX false (dP p) (.dtp (dcTF kfP (ps.map dP))) = some (dB false) := k1
        by_cases a2 : p.1 ∈ tk
        · rw [decide_eq_true a2] at k2
          have k2 : inX true (dI p.1) (Cell.toD (.dct kvs)) = some (dB true) := k2
          walk_at "run"
          exact ⟨stop (by simp [apB, a2]), rfl⟩
        · rw [decide_eq_false a2] at k2
          have k2 : inX true (dI p.1) (Cell.toD (.dct kvs)) = some (dB false) := k2
          by_cases a3 : p.2 ∈ tk
          · rw [decide_eq_true a3] at k3
            have k3 : inX true (dI p.2) (Cell.toD (.dct kvs)) = some (dB true) := k3
            walk_at "run"
            exact ⟨stop (by simp [apB, a3]), rfl⟩
          · rw [decide_eq_false a3] at k3
            have k3 : inX true (dI p.2) (Cell.toD (.dct kvs)) = some (dB false) := k3
            walk_at "run"
            with_reducible apply sq_setX
            · rfl
            · walk_at "ev"
            · walk_at "ev"
            · exact putX_dct rfl (lt_line (by omega))
            with_reducible apply sq_setX
            · rfl
            · walk_at "ev"
            · walk_at "ev"
            · exact putX_dct rfl (lt_line (Nat.le_trans (putDk_len _ _ _) (by omega)))
            with_reducible refine sq_nx ?_
            refine ⟨rfl, hF _ _ ⟨rfl, _, rest, p.2 :: p.1 :: tk, rfl, rfl, fun n => ?_, Nat.le_trans (Nat.add_le_add_right (Nat.le_trans (putDk_len _ _ _) (Nat.add_le_add_right (putDk_len _ _ _) 1)) _) (by omega), by rw [h4]; simp [apB, a1, a2, a3]⟩⟩
            rw [putDk_any, putDk_any, h2, Bool.eq_iff_iff]
            simp only [Bool.or_eq_true, decide_eq_true_eq, List.mem_cons, Sum.inl.injEq]
            rw [eq_comm (a := p.2), eq_comm (a := p.1)]
      · rw [decide_eq_false a1] at k1
        have k1 : inX false (dP p) (.dtp (dcTF kfP (ps.map dP))) = some (dB true) := k1
        walk_at "run"
        exact ⟨stop (by simp [apB, a1]), rfl⟩
end
end L2.K58
namespace L2.K58
open L2 L2.My L2.DL NdefX PySem PySem.Spec PyProof.Rows
local macro_rules | `(tactic| walk_at "tru0") => `(tactic| first
  | rfl
  | with_reducible assumption
  | decide)
local macro_rules | `(tactic| walk_at "tru") => `(tactic| first
  | rfl
  | with_reducible assumption
  | decide
  | (simp; done))
local macro_rules | `(tactic| walk_at "val") => `(tactic| first
  | with_reducible assumption
  | with_reducible exact cmpD_i
  | with_reducible exact eqD_i
  | with_reducible exact eqD_s
  | with_reducible exact eqD_b
  | with_reducible exact eqD_n
  | with_reducible exact eqD_in
  | with_reducible exact eqD_ni
  | with_reducible exact eqD_sn
  | with_reducible exact eqD_ns
  | with_reducible exact ix_0
  | with_reducible exact ix_1
  | with_reducible exact in_P
  | with_reducible exact in_pair
  | with_reducible exact in_I
  | with_reducible exact in_tI
  | with_reducible exact in_dT
  | with_reducible exact eq_P0
  | with_reducible exact eq_I0
  | with_reducible exact cmpD_s
  | with_reducible exact lenD_l
  | with_reducible exact lenD_t
  | rfl)
local macro_rules | `(tactic| walk_at "len") => `(tactic| ((refine le_line ?_); (simp only [List.length_cons, List.length_nil, List.length_append]); (first | done | decide | omega)))
local macro_rules | `(tactic| walk_at "ev") => `(tactic| first
  | with_reducible exact ev_c
  | ((with_reducible apply ev_vd); rfl)
  | ((with_reducible apply ev_vb); rfl)
  | ((with_reducible apply ev_vs); rfl)
  | ((with_reducible apply ev_vo); rfl)
  | ((with_reducible apply ev_op); walk_at "ev"; walk_at "ev"; walk_at "val")
  | ((with_reducible apply ev_un); walk_at "ev"; walk_at "val")
  | with_reducible exact ev_nil
  | ((with_reducible apply ev_cons); walk_at "ev"; walk_at "ev")
  | ((with_reducible apply ev_tup); walk_at "ev"; walk_at "len")
  | ((with_reducible apply ev_lst); walk_at "ev"; walk_at "len")
  | ((with_reducible apply ev_not); walk_at "ev")
  | ((with_reducible apply ev_andR); walk_at "ev"; walk_at "and")
  | ((with_reducible apply ev_orR); walk_at "ev"; walk_at "and")
  | ((with_reducible apply ev_ifR); walk_at "ev"; walk_at "ite"; walk_at "ev")
  | ((with_reducible apply evb_test); walk_at "ev")
  | ((with_reducible apply evb_not); walk_at "ev")
  | with_reducible exact evb_yes
  | ((with_reducible apply evb_andR); walk_at "ev"; walk_at "and")
  | ((with_reducible apply evb_orR); walk_at "ev"; walk_at "and")
  | ((with_reducible apply ev_chain); walk_at "ev"; walk_at "ev"; walk_at "ev"; walk_at "val"; walk_at "val")
  | ((with_reducible apply ev_call); walk_at "ev"; walk_at "val")
  | ((with_reducible apply ev_mk); walk_at "ev"; walk_at "val")
  | ((with_reducible apply ev_fld); walk_at "ev"; walk_at "att"; walk_at "val")
  | ((with_reducible apply ev_sl); walk_at "ev"; walk_at "ev"; walk_at "ev"; walk_at "val")
  | ((with_reducible apply ev_sw1); walk_at "ev")
  | ((with_reducible apply ev_sw2); walk_at "ev")
  | ((with_reducible apply evl_seq); walk_at "ev"; rfl)
  | with_reducible exact evo_none
  | ((with_reducible apply evo_some); walk_at "ev"))
local macro_rules | `(tactic| walk_at "att") => `(tactic| first
  | with_reducible assumption
  | apply_assumption)
local macro_rules | `(tactic| walk_at "and") => `(tactic| first
  | ((with_reducible apply AndR.t); (focus (walk_at "tru0")); walk_at "ev")
  | ((with_reducible apply AndR.f); walk_at "tru0")
  | ((with_reducible apply AndR.b); intro _; walk_at "ev")
  | ((with_reducible apply OrR.t); walk_at "tru0")
  | ((with_reducible apply OrR.f); (focus (walk_at "tru0")); walk_at "ev")
  | ((with_reducible apply OrR.b); intro _; walk_at "ev")
  | ((with_reducible apply BAndR.t); (focus (walk_at "tru0")); walk_at "ev")
  | ((with_reducible apply BAndR.f); walk_at "tru0")
  | ((with_reducible apply BAndR.b); intro _; walk_at "ev")
  | ((with_reducible apply BOrR.t); walk_at "tru0")
  | ((with_reducible apply BOrR.f); (focus (walk_at "tru0")); walk_at "ev")
  | ((with_reducible apply BOrR.b); intro _; walk_at "ev"))
local macro_rules | `(tactic| walk_at "ite") => `(tactic| first
  | ((with_reducible refine ite_t ?_ ?_); (focus (walk_at "tru0")))
  | ((with_reducible refine ite_f ?_ ?_); (focus (walk_at "tru0")))
  | ((with_reducible refine ite_t ?_ ?_); (focus (walk_at "tru")))
  | ((with_reducible refine ite_f ?_ ?_); (focus (walk_at "tru"))))
local macro_rules | `(tactic| walk_at "st") => `(tactic| first
  | with_reducible refine sq_assoc ?_
  | with_reducible refine sq_next ?_
  | ((with_reducible apply sq_set); (walk_at "ev"))
  | ((with_reducible apply sq_ret); (walk_at "ev"))
  | ((with_reducible apply sq_own); (walk_at "ev"); rfl)
  | ((with_reducible apply sq_drop); (walk_at "ev"))
  | ((with_reducible apply sq_ifR); (walk_at "ev"); (walk_at "ite"))
  | ((with_reducible apply sq_par); (walk_at "ev"))
  | ((with_reducible apply sq_app); rfl; (walk_at "ev"); (walk_at "len"))
  | ((with_reducible apply sq_asg); (walk_at "ev"); rfl)
  | with_reducible refine sq_nx ?_)
local macro_rules | `(tactic| walk_at "run") => `(tactic| repeat walk_at "st")
local macro_rules | `(tactic| walk_at "ck") => `(tactic| first
  | with_reducible refine ck_cons ?_
  | with_reducible refine ck_op ?_
  | with_reducible refine ck_nil ?_
  | with_reducible refine ck_lst ?_
  | with_reducible refine ck_tup ?_
  | with_reducible refine ck_un ?_)
local macro_rules | `(tactic| walk_at "pure") => `(tactic| ((with_reducible refine' ck_ev ?hh ?_); (case hh => walk_at "ev")))
local macro_rules | `(tactic| walk_at "dr") => `(tactic| ((with_reducible refine' ck_draw ?h1 ?h2 ?h3 ?h4 ?_); (case h1 => walk_at "ev"); (case h2 => first | decide | omega); (case h3 => decide); (case h4 => omega)))
section
variable {P : Program} {w : World} {K : W.Frag} {mg : Str → Option Value} {base : Heap}
/-! ### papers -/
inductive Pap where
  | none
  | pairs (vs : List Pr)
  | case (n : Int) (t s : Pap)
def Pap.d : Pap → D
  | .none => dN
  | .pairs vs => .tup [dS "pairs", tP vs]
  | .case n t s => .tup [dS "case", dI n, t.d, s.d]
def Pap.sz : Pap → Nat
  | .case _ t s => 1 + t.sz + s.sz
  | _ => 1
def Pap.ok : Pap → Prop
  | .none => True
  | .pairs vs => vs.length ≤ 100
  | .case _ t s => t.ok ∧ s.ok
theorem Pap.inj : ∀ {p q : Pap}, p.d = q.d → p = q
  | .none, .none, _ => rfl
  | .none, .pairs _, h => by unfold Pap.d at h; cases h
  | .none, .case _ _ _, h => by unfold Pap.d at h; cases h
  | .pairs _, .none, h => by unfold Pap.d at h; cases h
  | .pairs _, .pairs _, h => by
    unfold Pap.d at h
    rw [D.tup.injEq] at h
    rw [tP_inj (List.cons.inj (List.cons.inj h).2).1]
  | .pairs _, .case _ _ _, h => by
    unfold Pap.d at h
    rw [D.tup.injEq] at h
    have := congrArg List.length h
    simp at this
  | .case _ _ _, .none, h => by unfold Pap.d at h; cases h
  | .case _ _ _, .pairs _, h => by
    unfold Pap.d at h
    rw [D.tup.injEq] at h
    have := congrArg List.length h
    simp at this
  | .case n t s, .case n' t' s', h => by
    unfold Pap.d at h
    rw [D.tup.injEq] at h
    obtain ⟨h1, h2⟩ := List.cons.inj (List.cons.inj h).2
    obtain ⟨h3, h4⟩ := List.cons.inj h2
    have h5 := (List.cons.inj h4).1
    rw [D.v.injEq, V.int.injEq] at h1
    rw [h1, Pap.inj h3, Pap.inj h5]
structure It3 where
  ps : List Pr
  m : Int
  pap : Pap
abbrev It3.d (x : It3) : D := .tup [lP x.ps, dI x.m, x.pap.d]
def parts (ps : List Pr) (m : Int) : Pap → Option (List It3)
  | .none => if m < 0 then some [] else none
  | .pairs vs => if apB ps vs [] = true ∧ m < vs.length then some [] else none
  | .case n t s => if (n, n) ∈ ps then none else if partI ps n = [] then none else some [⟨wo ps [n], m - 1, t⟩, ⟨wo ps (partI ps n), m - (partI ps n).length, s⟩]
def partsD : Option (List It3) → D
  | none => dN
  | some l => .lst (l.map It3.d)
structure PtA where
  x : It3
  lp : x.ps.length ≤ 30
  ok : x.pap.ok
noncomputable def ptF : Fn := fnOf (fun a : PtA => [lP a.x.ps, dI a.x.m, a.x.pap.d]) fun a => .ok (partsD (parts a.x.ps a.x.m a.x.pap))
theorem it_inj {x y : It3} (h : [lP x.ps, dI x.m, x.pap.d] = [lP y.ps, dI y.m, y.pap.d]) : x = y := by
  obtain ⟨h1, h2⟩ := List.cons.inj h
  obtain ⟨h3, h4⟩ := List.cons.inj h2
  have h5 := (List.cons.inj h4).1
  rw [D.v.injEq, V.int.injEq] at h3
  cases x
  cases y
  simp only at h1 h3 h5
  rw [lP_inj h1, h3, Pap.inj h5]
theorem pt_at {ps : List Pr} {m : Int} {pap : Pap} (lp : ps.length ≤ 30) (ok : pap.ok) : ptF [lP ps, dI m, pap.d] = some (.ok (partsD (parts ps m pap))) :=
  fnOf_at (arg := fun a : PtA => [lP a.x.ps, dI a.x.m, a.x.pap.d]) (val := fun a => .ok (partsD (parts a.x.ps a.x.m a.x.pap))) (fun x y h => by rw [it_inj h]) ⟨⟨ps, m, pap⟩, lp, ok⟩
abbrev s_parts_of_cover : Stmt := top 7
theorem sc_parts_of_cover : FnScope ["pairs", "most", "paper", "_", "number", "taken", "spared", "partners"] ["pairs", "most", "paper"] (defScope s_parts_of_cover) := ⟨rfl, rfl, rfl, by decide +kernel, rfl, by decide +kernel, by decide +kernel⟩
theorem part_len (ps : List Pr) (n : Int) : (partI ps n).length ≤ 2 * ps.length := by
  unfold partI
  have h2 : (ps.flatMap (partsP n)).length ≤ 2 * ps.length := flat_len _ 2 ps fun x _ => List.length_filter_le _ _
  have h3 : ∀ l : List Int, (sortI l).length ≤ l.length := fun l => by
    induction l with
    | nil => exact Nat.le_refl _
    | cons x r ih =>
      have ins : ∀ l : List Int, (insK id x l).length ≤ l.length + 1 := fun l => by
        induction l with
        | nil => exact Nat.le_refl _
        | cons y r ih =>
          unfold insK
          split
          · exact Nat.le_refl _
          · split
            · exact Nat.le_succ _
            · rw [List.length_cons, List.length_cons]; omega
      show (insK id x (sortK id r)).length ≤ _
      have := ins (sortK id r)
      rw [List.length_cons]
      have ih : (sortK id r).length ≤ r.length := ih
      omega
  exact Nat.le_trans (h3 _) h2
theorem ok_parts_of_cover {f : Addr} {fd : FuncData} (F : Fun K "parts_of_cover" "parts_of_cover" s_parts_of_cover f fd) (m_isinstance : mg "isinstance" = none) (m_tuple : mg "tuple" = none) (m_len : mg "len" = none)
    (c_are_apart : CalG P w K mg base (L2.CX P w) 2 "are_apart" (spF K [.b, .b] apF)) (c_are_integers : CalG P w K mg base (L2.CX P w) 1 "are_integers" (spF K [.b] aiF)) (c_partners_of : CalG P w K mg base (L2.CX P w) 1 "partners_of" (spF K [.b, .b] paF)) (c_without : CalG P w K mg base (L2.CX P w) 1 "without" (spF K [.b, .b] woF)) :
    FnG P w K mg base (L2.CX P w) 3 f fd ["pairs", "most", "paper"] (spF K [.b, .b, .s] ptF) := by
  refine fn_dataR F sc_parts_of_cover rfl rfl ?_
  rintro cdv A outer s H E hr hq
  have hu := hr.units
  have hp := @passX (cxOf (L2.CX P w) P w K mg base ["pairs", "most", "paper", "_", "number", "taken", "spared", "partners"] "parts_of_cover" (defScope s_parts_of_cover) f cdv A outer s H E) E (takes_of rfl rfl rfl rfl)
  refine ⟨_, (pss_cons (ps_if (pt_cmpR op_isD (pv 2) pe_non (nomark _)) (pss_one (ps_ret (pe_ifExp (pt_cmpR op_ltD (pv 1) pe_int (nomark _)) (pe_lst pa_nil) pe_non))) pss_nil)
    (pss_cons (ps_if (PW.pt (pw_or (pt_not (pt_val (pe_callB call_isA (by rfl) m_isinstance (by decide +kernel) (pa_cons (pv 2) (pa_cons (pe_bty "tuple" rfl m_tuple (by decide +kernel)) pa_nil))))) (pw_or1 (pt_cmpR op_ltD (pe_callB c_lenD (by rfl) m_len PySem.boot_len (pa_cons (pv 2) pa_nil)) pe_int (nomark _))))) (pss_one (ps_ret pe_non)) pss_nil)
    (pss_cons (ps_if (pt_cmpR (op_eqP hu) (pe_ix ix_seq (pv 2) pe_int (fun _ _ => rfl)) pe_str (nomark _)) (pss_one (ps_ret (pe_ifExp (PW.pt (pw_and (pt_cmpR (op_eqP hu) (pe_callB c_lenD (by rfl) m_len PySem.boot_len (pa_cons (pv 2) pa_nil)) pe_int (nomark _)) (pw_and (pt_val (pe_g c_are_apart hr (by decide) hq hp rfl (pa_cons (pv 0) (pa_cons (pe_ix ix_seq (pv 2) pe_int (fun _ _ => rfl)) pa_nil)))) (pw_and1 (pt_cmpR op_gtD (pe_callB c_lenD (by rfl) m_len PySem.boot_len (pa_cons (pe_ix ix_seq (pv 2) pe_int (fun _ _ => rfl)) pa_nil)) (pv 1) (nomark _)))))) (pe_lst pa_nil) pe_non))) pss_nil)
    (pss_cons (ps_if (PW.pt (pw_or (pt_cmpR (op_neP hu) (pe_ix ix_seq (pv 2) pe_int (fun _ _ => rfl)) pe_str (nomark _)) (pw_or1 (pt_cmpR (op_neP hu) (pe_callB c_lenD (by rfl) m_len PySem.boot_len (pa_cons (pv 2) pa_nil)) pe_int (nomark _))))) (pss_one (ps_ret pe_non)) pss_nil)
    (pss_cons (ps_asg (pv 2) (pg_tup rfl (pgs_cons (pg_name (i := 3) sc_parts_of_cover.nd rfl (Or.inl rfl)) (pgs_cons (pg_name (i := 4) sc_parts_of_cover.nd rfl (Or.inl rfl)) (pgs_cons (pg_name (i := 5) sc_parts_of_cover.nd rfl (Or.inl rfl)) (pgs_cons (pg_name (i := 6) sc_parts_of_cover.nd rfl (Or.inl rfl)) pgs_nil))))))
    (pss_cons (ps_if (PW.pt (pw_or (pt_not (pt_val (pe_g c_are_integers hr (by decide) hq hp rfl (pa_cons (pe_tup (pa_cons (pv 4) pa_nil)) pa_nil)))) (pw_or1 (pt_cmpR (op_inX hu) (pe_tup (pa_cons (pv 4) (pa_cons (pv 4) pa_nil))) (pv 0) (by rfl))))) (pss_one (ps_ret pe_non)) pss_nil)
    (pss_cons (ps_set (i := 7) sc_parts_of_cover.nd rfl (Or.inl rfl) (pe_g c_partners_of hr (by decide) hq hp rfl (pa_cons (pv 0) (pa_cons (pv 4) pa_nil))))
    (pss_cons (ps_if (pt_cmpR (op_eqP hu) (pe_callB c_lenD (by rfl) m_len PySem.boot_len (pa_cons (pv 7) pa_nil)) pe_int (nomark _)) (pss_one (ps_ret pe_non)) pss_nil)
    (pss_one (ps_ret (pe_lst (pa_cons (pe_tup (pa_cons (pe_g c_without hr (by decide) hq hp rfl (pa_cons (pv 0) (pa_cons (pe_tup (pa_cons (pv 4) pa_nil)) pa_nil))) (pa_cons (pe_op op_sub (pv 1) pe_int) (pa_cons (pv 5) pa_nil)))) (pa_cons (pe_tup (pa_cons (pe_g c_without hr (by decide) hq hp rfl (pa_cons (pv 0) (pa_cons (pv 7) pa_nil))) (pa_cons (pe_op op_sub (pv 1) (pe_callB c_lenD (by rfl) m_len PySem.boot_len (pa_cons (pv 7) pa_nil))) (pa_cons (pv 6) pa_nil)))) pa_nil))))))))))))), fun S Γ => ⟨_, (ls_seq (ls_if (lt_test (Ln.lend (ln_op ln_varb (Ln.lend ln_c) p2_is))) (ls_end (ls_ret (ln_if (lt_test (Ln.lend (ln_op ln_varb (Ln.lend ln_c) p2_cmp))) (Ln.weak (ln_lst rfl ln_nil)) ln_c))) ls_next) (ls_seq (ls_if (lt_or (lt_not (lt_val (Ln.lend (ln_cb2 ln_varb (Ln.lend ln_c) p2_isi)))) (lt_test (Ln.lend (ln_op (Ln.lend (ln_cb1 ln_varb p1_len)) (Ln.lend ln_c) p2_cmp)))) (ls_end (ls_ret ln_c)) ls_next) (ls_seq (ls_if (lt_test (Ln.lend (ln_op (Ln.lend (ln_op ln_varb (Ln.lend ln_c) p2_ix)) (Ln.lend ln_c) p2_eq))) (ls_end (ls_ret (ln_if (lt_and (lt_test (Ln.lend (ln_op (Ln.lend (ln_cb1 ln_varb p1_len)) (Ln.lend ln_c) p2_eq))) (lt_and (lt_val (Ln.lend (ln_call rfl (ln_cons rfl ln_varb (ln_cons rfl (Ln.lend (ln_op ln_varb (Ln.lend ln_c) p2_ix)) ln_nil))))) (lt_test (Ln.lend (ln_op (Ln.lend (ln_cb1 (Ln.lend (ln_op ln_varb (Ln.lend ln_c) p2_ix)) p1_len)) ln_varb p2_cmp))))) (Ln.weak (ln_lst rfl ln_nil)) ln_c))) ls_next) (ls_seq (ls_if (lt_or (lt_test (Ln.lend (ln_op (Ln.lend (ln_op ln_varb (Ln.lend ln_c) p2_ix)) (Ln.lend ln_c) p2_eq))) (lt_test (Ln.lend (ln_op (Ln.lend (ln_cb1 ln_varb p1_len)) (Ln.lend ln_c) p2_eq)))) (ls_end (ls_ret ln_c)) ls_next) (ls_seq (ls_asg ln_var (lg_tup (lg_cons lg_name (lg_cons lg_name (lg_cons lg_name (lg_cons lg_name lg_nil)))))) (ls_seq (ls_if (lt_or (lt_not (lt_val (Ln.lend (ln_call rfl (ln_cons rfl (Ln.lend (ln_tup rfl (ln_cons rfl ln_var ln_nil))) ln_nil))))) (lt_test (Ln.lend (ln_op (Ln.lend (ln_tup rfl (ln_cons rfl ln_var (ln_cons rfl ln_var ln_nil)))) ln_varb p2_inX)))) (ls_end (ls_ret ln_c)) ls_next) (ls_seq (ls_set (ln_call rfl (ln_cons rfl ln_varb (ln_cons rfl ln_varb ln_nil)))) (ls_seq (ls_if (lt_test (Ln.lend (ln_op (Ln.lend (ln_cb1 ln_varb p1_len)) (Ln.lend ln_c) p2_eq))) (ls_end (ls_ret ln_c)) ls_next) (ls_end (ls_ret (Ln.weak (ln_lst rfl (ln_cons rfl (ln_tup rfl (ln_cons rfl (ln_call rfl (ln_cons rfl ln_varb (ln_cons rfl (Ln.lend (ln_tup rfl (ln_cons rfl ln_var ln_nil))) ln_nil))) (ln_cons rfl (ln_op ln_varb (Ln.lend ln_c) p2_rI0) (ln_cons rfl ln_var ln_nil)))) (ln_cons rfl (ln_tup rfl (ln_cons rfl (ln_call rfl (ln_cons rfl ln_varb (ln_cons rfl ln_varb ln_nil))) (ln_cons rfl (ln_op ln_varb (Ln.lend (ln_cb1 ln_varb p1_len)) p2_rI0) (ln_cons rfl ln_var ln_nil)))) ln_nil)))))))))))))), ?_⟩⟩
  intro ds r s e
  obtain ⟨⟨⟨ps, m, pap⟩, lp, ok⟩, rfl, rfl⟩ := fnOf_of e
  have lp : ps.length ≤ 30 := lp
  have it1 : ∀ xs : List D, isiD (.tup xs) (.v (.ty "tuple")) = some (dB true) := fun _ => rfl
  cases pap with
  | none =>
    show DL.Run _ (envD [.b, .b, .s] _ [lP ps, dI m, dN]) s (postF s (.ok (partsD (parts ps m .none))))
    by_cases h : m < 0
    · have h1 : decide (m < 0) = true := decide_eq_true h
      walk_at "run"
      exact ⟨by simp only [parts, h, if_true]; rfl, rfl⟩
    · have h1 : decide (m < 0) = false := decide_eq_false h
      walk_at "run"
      exact ⟨by simp only [parts, h, if_false]; rfl, rfl⟩
  | pairs vs =>
    have lv : vs.length ≤ 100 := ok
    show DL.Run _ (envD [.b, .b, .s] _ [lP ps, dI m, .tup [dS "pairs", tP vs]]) s (postF s (.ok (partsD (parts ps m (.pairs vs)))))
    have a1 := ap_at (ps := ps) (vs := vs) (Nat.le_trans lp (by decide)) lv
    have i1 := it1 [dS "pairs", tP vs]
    by_cases h : apB ps vs [] = true
    · rw [h] at a1
      have l1 : lenD (tP vs) = some (dI vs.length) := by rw [lenD_t, List.length_map]
      by_cases h2 : m < vs.length
      · have h3 : decide (m < (vs.length : Int)) = true := decide_eq_true h2
        walk_at "run"
        exact ⟨by simp only [parts, h, h2, true_and, if_true]; rfl, rfl⟩
      · have h3 : decide (m < (vs.length : Int)) = false := decide_eq_false h2
        walk_at "run"
        exact ⟨by simp only [parts, h, h2, and_false, if_false]; rfl, rfl⟩
    · have h : apB ps vs [] = false := by simpa using h
      rw [h] at a1
      walk_at "run"
      exact ⟨by simp only [parts, h, Bool.false_eq_true, false_and, if_false]; rfl, rfl⟩
  | case n t sp =>
    show DL.Run _ (envD [.b, .b, .s] _ [lP ps, dI m, .tup [dS "case", dI n, t.d, sp.d]]) s (postF s (.ok (partsD (parts ps m (.case n t sp)))))
    have i1 := it1 [dS "case", dI n, t.d, sp.d]
    have a1 : aiF [.tup [dI n]] = some (.ok (dB true)) := ai_at (ns := [n]) (Nat.le_of_ble_eq_true rfl)
    have k1 : inX true (.tup [dI n, dI n]) (lP ps) = some (dB (true == decide ((n, n) ∈ ps))) := in_P (p := (n, n))
    have p1 := pa_at (n := n) lp
    have w1 : woF [lP ps, .tup [dI n]] = some (.ok (lP (wo ps [n]))) := wo_at (b := true) (ns := [n]) (Nat.le_trans lp (by decide)) (Nat.le_of_ble_eq_true rfl)
    have w2 : woF [lP ps, tI (partI ps n)] = some (.ok (lP (wo ps (partI ps n)))) := wo_at (b := true) (Nat.le_trans lp (by decide)) (by have := part_len ps n; omega)
    have l1 : lenD (tI (partI ps n)) = some (dI (partI ps n).length) := by rw [lenD_t, List.length_map]
    by_cases h : (n, n) ∈ ps
    · rw [decide_eq_true h] at k1
      have k1 : inX true (.tup [dI n, dI n]) (lP ps) = some (dB true) := k1
      walk_at "run"
      exact ⟨by simp only [parts, h, if_true]; rfl, rfl⟩
    · rw [decide_eq_false h] at k1
      have k1 : inX true (.tup [dI n, dI n]) (lP ps) = some (dB false) := k1
      by_cases h2 : partI ps n = []
      · have h3 : (true == (((partI ps n).length : Int) == (0 : Int))) = true := by rw [h2]; rfl
        walk_at "run"
        exact ⟨by simp only [parts, h, h2, if_false, if_true]; rfl, rfl⟩
      · have h3 : (true == (((partI ps n).length : Int) == (0 : Int))) = false := by
          have : (partI ps n).length ≠ 0 := fun q => h2 (List.length_eq_zero_iff.mp q)
          have : ((partI ps n).length : Int) ≠ 0 := by omega
          simp [h2]
        walk_at "run"
        exact ⟨by simp only [parts, h, h2, if_false]; rfl, rfl⟩
/-! ### shows_cover -/
def chk (ps : List Pr) (m : Int) : Pap → Bool
  | .none => decide (m < 0)
  | .pairs vs => apB ps vs [] && decide (m < vs.length)
  | .case n t s => !decide ((n, n) ∈ ps) && !(partI ps n).isEmpty && chk (wo ps [n]) (m - 1) t && chk (wo ps (partI ps n)) (m - (partI ps n).length) s
def chkI (x : It3) : Bool := chk x.ps x.m x.pap
theorem chk_parts {ps : List Pr} {m : Int} {pap : Pap} : chk ps m pap = match parts ps m pap with
    | none => false
    | some l => l.all chkI := by
  cases pap with
  | none =>
    by_cases h : m < 0 <;> simp [chk, parts, h]
  | pairs vs =>
    by_cases h : apB ps vs [] = true
    · by_cases h2 : m < vs.length <;> simp [chk, parts, h, h2]
    · simp [chk, parts, h]
  | case n t s =>
    by_cases h : (n, n) ∈ ps
    · simp [chk, parts, h]
    · by_cases h2 : partI ps n = []
      · simp [chk, parts, h2]
      · have h3 : (partI ps n).isEmpty = false := by
          cases q : partI ps n with
          | nil => exact absurd q h2
          | cons => rfl
        simp [chk, parts, h, h2, h3, chkI]
theorem parts_ok {ps : List Pr} {m : Int} {pap : Pap} {l : List It3} (lp : ps.length ≤ 30) (ok : pap.ok) (h : parts ps m pap = some l) : (∀ x ∈ l, x.ps.length ≤ 30 ∧ x.pap.ok) ∧ (l.map fun x => x.pap.sz).sum < pap.sz := by
  cases pap with
  | none =>
    simp only [parts] at h
    split at h
    · cases h; exact ⟨fun x hx => (nomatch hx), Nat.zero_lt_one⟩
    · cases h
  | pairs vs =>
    simp only [parts] at h
    split at h
    · cases h; exact ⟨fun x hx => (nomatch hx), Nat.zero_lt_one⟩
    · cases h
  | case n t s =>
    simp only [parts] at h
    split at h
    · cases h
    · split at h
      · cases h
      · cases h
        refine ⟨fun x hx => ?_, ?_⟩
        · rcases List.mem_cons.mp hx with rfl | hx
          · exact ⟨Nat.le_trans (List.length_filter_le _ _) lp, ok.1⟩
          · rw [List.mem_singleton.mp hx]
            exact ⟨Nat.le_trans (List.length_filter_le _ _) lp, ok.2⟩
        · simp only [List.map_cons, List.map_nil, List.sum_cons, List.sum_nil, Pap.sz]
          omega
theorem Pap.sz_pos : ∀ p : Pap, 1 ≤ p.sz
  | .none => Nat.le_refl _
  | .pairs _ => Nat.le_refl _
  | .case _ t s => by show 1 ≤ 1 + t.sz + s.sz; omega
theorem len_sz : ∀ l : List It3, l.length ≤ (l.map fun x => x.pap.sz).sum
  | [] => Nat.le_refl _
  | x :: l => by
    rw [List.length_cons, List.map_cons, List.sum_cons]
    have := len_sz l
    have := x.pap.sz_pos
    omega
structure ShA where
  x : It3
  lp : x.ps.length ≤ 30
  ok : x.pap.ok
  sz : x.pap.sz ≤ 900
noncomputable def shF : Fn := fnOf (fun a : ShA => [lP a.x.ps, dI a.x.m, a.x.pap.d]) fun a => .ok (dB (chkI a.x))
theorem sh_at {ps : List Pr} {m : Int} {pap : Pap} (lp : ps.length ≤ 30) (ok : pap.ok) (sz : pap.sz ≤ 900) : shF [lP ps, dI m, pap.d] = some (.ok (dB (chk ps m pap))) :=
  fnOf_at (arg := fun a : ShA => [lP a.x.ps, dI a.x.m, a.x.pap.d]) (val := fun a => .ok (dB (chkI a.x))) (fun x y h => by rw [it_inj h]) ⟨⟨ps, m, pap⟩, lp, ok, sz⟩
theorem map_last : ∀ {l : List It3} {x : It3}, ((l ++ [x]).map It3.d).getLast? = some x.d ∧ ((l ++ [x]).map It3.d).dropLast = l.map It3.d := fun {l x} => by
  rw [List.map_append]
  exact ⟨by simp, by simp⟩
abbrev s_shows_cover : Stmt := top 6
theorem sc_shows_cover : FnScope ["pairs", "c", "paper", "left", "some", "most", "part", "parts"] ["pairs", "c", "paper"] (defScope s_shows_cover) := ⟨rfl, rfl, rfl, by decide +kernel, rfl, by decide +kernel, by decide +kernel⟩
theorem ok_shows_cover {f : Addr} {fd : FuncData} (F : Fun K "shows_cover" "shows_cover" s_shows_cover f fd) (m_list : mg "list" = none) (m_len : mg "len" = none) (c_parts_of_cover : CalG P w K mg base (L2.CX P w) 3 "parts_of_cover" (spF K [.b, .b, .s] ptF)) :
    FnG P w K mg base (L2.CX P w) 4 f fd ["pairs", "c", "paper"] (spF K [.b, .s, .s] shF) := by
  refine fn_dataR F sc_shows_cover rfl rfl ?_
  rintro cdv A outer s H E hr hq
  have hu := hr.units
  have hp := @passX (cxOf (L2.CX P w) P w K mg base ["pairs", "c", "paper", "left", "some", "most", "part", "parts"] "shows_cover" (defScope s_shows_cover) f cdv A outer s H E) E (takes_of rfl rfl rfl rfl)
  refine ⟨_, (pss_cons (ps_set (i := 3) sc_shows_cover.nd rfl (Or.inl rfl) (pe_lst (pa_cons (pe_tup (pa_cons (pe_callTy c_list (by rfl) m_list (by decide +kernel) (pa_cons (pv 0) pa_nil)) (pa_cons (pv 1) (pa_cons (pv 2) pa_nil)))) pa_nil)))
    (pss_cons (ps_while PassesOwn.leaving (pt_cmpR op_gtD (pe_callB c_lenD (by rfl) m_len PySem.boot_len (pa_cons (pv 3) pa_nil)) pe_int (nomark _)) (pss_cons (ps_asg (pe_bm0 PySem.F.plainAttrs_list PySem.F.slot_list_pop PySem.F.type_list_pop mt_pop (pv 3)) (pg_tup rfl (pgs_cons (pg_name (i := 4) sc_shows_cover.nd rfl (Or.inl rfl)) (pgs_cons (pg_name (i := 5) sc_shows_cover.nd rfl (Or.inl rfl)) (pgs_cons (pg_name (i := 6) sc_shows_cover.nd rfl (Or.inl rfl)) pgs_nil)))))
    (pss_cons (ps_set (i := 7) sc_shows_cover.nd rfl (Or.inl rfl) (pe_g c_parts_of_cover hr (by decide) hq hp rfl (pa_cons (pv 4) (pa_cons (pv 5) (pa_cons (pv 6) pa_nil)))))
    (pss_cons (ps_if (pt_cmpR op_isD (pv 7) pe_non (nomark _)) (pss_one (ps_ret pe_bl)) pss_nil)
    (pss_one (ps_expr (pe_bm PySem.F.plainAttrs_list PySem.F.slot_list_extend PySem.F.type_list_extend mt_extend (pv 3) (pa_cons (pv 7) pa_nil))))))))
    (pss_one (ps_ret pe_bl)))), fun S Γ => ⟨_, (ls_seq (ls_own (by decide) (ln_lst rfl (ln_cons rfl (ln_tup rfl (ln_cons rfl (Ln.weak (ln_cb1 ln_varb p1_list)) (ln_cons rfl ln_var (ln_cons rfl ln_var ln_nil)))) ln_nil))) (ls_seq (ls_while (lt_test (Ln.lend (ln_op (Ln.lend (ln_cb1 ln_varb p1_len)) (Ln.lend ln_c) p2_cmp))) (ls_seq (ls_pop (lg_tup (lg_cons lg_name (lg_cons lg_name (lg_cons lg_name lg_nil))))) (ls_seq (ls_set (ln_call rfl (ln_cons rfl ln_varb (ln_cons rfl ln_varb (ln_cons rfl ln_var ln_nil))))) (ls_seq (ls_if (lt_test (Ln.lend (ln_op ln_varb (Ln.lend ln_c) p2_is))) (ls_end (ls_ret ln_c)) ls_next) (ls_end (ls_extend ln_var)))))) (ls_end (ls_ret ln_c)))), ?_⟩⟩
  intro ds r s e
  obtain ⟨⟨⟨ps, m, pap⟩, lp, ok, sz⟩, rfl, rfl⟩ := fnOf_of e
  have lp : ps.length ≤ 30 := lp
  have li : listD (lP ps) = some (lP ps) := rfl
  show DL.Run _ (envD [.b, .s, .s] _ [lP ps, dI m, pap.d]) s (postF s (.ok (dB (chk ps m pap))))
  walk_at "run"
  with_reducible refine sq_while (fun k ρ s' => s' = s ∧ ∃ L : List It3, ρ = [.bor (lP ps), .d (dI m), .d pap.d, .own (.lst (L.map It3.d)), .no, .no, .no, .no] ∧ (∀ x ∈ L, x.ps.length ≤ 30 ∧ x.pap.ok) ∧ (L.map fun x => x.pap.sz).sum = k ∧ k ≤ 900 ∧ chk ps m pap = L.all chkI) ⟨pap.sz, rfl, [⟨ps, m, pap⟩], rfl, ?_, ?_, sz, ?_⟩ ?_
  · intro x hx
    rw [List.mem_singleton.mp hx]
    exact ⟨lp, ok⟩
  · simp
  · simp [chkI]
  · rintro k ρ s' Bk hB ⟨rfl, L, rfl, hL, hk, k9, hc⟩
    rcases List.eq_nil_or_concat L with rfl | ⟨L, x, rfl⟩
    · refine ⟨false, ?_, fun z => (nomatch z), fun _ => ?_⟩
      · with_reducible apply evb_eq
        · walk_at "ev"
        · rfl
      · walk_at "run"
        exact ⟨by rw [hc]; rfl, rfl⟩
    · rw [List.concat_eq_append] at *
      refine ⟨true, ?_, fun _ => ?_, fun z => (nomatch z)⟩
      · with_reducible apply evb_eq
        · walk_at "ev"
        · exact decide_eq_true (by
            show (0 : Int) < (((L ++ [x]).map It3.d).length : Int)
            rw [List.length_map, List.length_append, List.length_singleton]
            omega)
      · obtain ⟨lx, ox⟩ := hL x (List.mem_append_right _ (List.mem_singleton.mpr rfl))
        have hL' : ∀ y ∈ L, y.ps.length ≤ 30 ∧ y.pap.ok := fun y hy => hL y (List.mem_append_left _ hy)
        rw [List.map_append, List.sum_append, List.map_cons, List.map_nil, List.sum_cons, List.sum_nil] at hk
        rw [List.all_append, List.all_cons, List.all_nil, Bool.and_true] at hc
        have cx : chkI x = _ := chk_parts (ps := x.ps) (m := x.m) (pap := x.pap)
        have a1 := pt_at (m := x.m) lx ox
        with_reducible apply sq_pop
        · rfl
        · exact map_last.1
        · rfl
        rw [map_last.2]
        cases hp : parts x.ps x.m x.pap with
        | none =>
          rw [hp] at a1 cx
          have a1 : ptF [lP x.ps, dI x.m, x.pap.d] = some (.ok dN) := a1
          walk_at "run"
          exact ⟨by rw [hc, cx, Bool.and_false], rfl⟩
        | some l =>
          rw [hp] at a1 cx
          have a1 : ptF [lP x.ps, dI x.m, x.pap.d] = some (.ok (.lst (l.map It3.d))) := a1
          obtain ⟨hl, hs⟩ := parts_ok lx ox hp
          have ln := len_sz (L ++ l)
          rw [List.map_append, List.sum_append, List.length_append] at ln
          walk_at "run"
          with_reducible apply sq_ext
          · rfl
          · walk_at "ev"
          · rw [List.length_map, List.length_map]
            exact le_line (by omega)
          walk_at "run"
          refine ⟨rfl, _, ?_, rfl, L ++ l, ?_, fun y hy => (List.mem_append.mp hy).elim (hL' y) (hl y), rfl, ?_, ?_⟩
          · rw [List.map_append, List.sum_append]; omega
          · have e : (L ++ l).map It3.d = L.map It3.d ++ l.map It3.d := List.map_append
            rw [e]
            rfl
          · rw [List.map_append, List.sum_append]; omega
          · rw [hc, cx, List.all_append]
end
end L2.K58
namespace L2.K58
open L2 L2.My L2.DL NdefX PySem PySem.Spec PyProof.Rows
/-! ### covers -/
def Cov (T : List Int) (ps : List Pr) : Prop := ∀ p ∈ ps, p.1 ∈ T ∨ p.2 ∈ T
theorem nodup_le : ∀ (l D : List Int), l.Nodup → (∀ x ∈ l, x ∈ D) → l.length ≤ D.length
  | [], _, _, _ => Nat.zero_le _
  | x :: l, D, nd, h => by
    obtain ⟨nx, nl⟩ := List.nodup_cons.mp nd
    have hx := h x List.mem_cons_self
    have ih := nodup_le l (D.erase x) nl fun y hy => (List.mem_erase_of_ne fun e => nx (by rw [← e]; exact hy)).mpr (h y (List.mem_cons_of_mem _ hy))
    rw [List.length_erase_of_mem hx] at ih
    have : 0 < D.length := List.length_pos_of_mem hx
    rw [List.length_cons]
    omega
theorem asc_nodup {l : List Int} (h : Asc id l) : l.Nodup := h.imp fun {a b} (q : a < b) e => by omega
theorem mem_wo {ps : List Pr} {ns : List Int} {p : Pr} : p ∈ wo ps ns ↔ p ∈ ps ∧ p.1 ∉ ns ∧ p.2 ∉ ns := by
  unfold wo
  rw [List.mem_filter]
  simp
theorem mem_part {ps : List Pr} {n o : Int} : o ∈ partI ps n ↔ ∃ p ∈ ps, (n = p.1 ∨ n = p.2) ∧ (o = p.1 ∨ o = p.2) ∧ o ≠ n := by
  unfold partI
  rw [sortI_mem, List.mem_flatMap]
  constructor
  · rintro ⟨p, hp, ho⟩
    unfold partsP at ho
    rw [List.mem_filter] at ho
    simp only [List.mem_cons, List.not_mem_nil, or_false, Bool.and_eq_true, decide_eq_true_eq] at ho
    exact ⟨p, hp, ho.2.1, ho.1, ho.2.2⟩
  · rintro ⟨p, hp, h1, h2, h3⟩
    refine ⟨p, hp, ?_⟩
    unfold partsP
    rw [List.mem_filter]
    simp only [List.mem_cons, List.not_mem_nil, or_false, Bool.and_eq_true, decide_eq_true_eq]
    exact ⟨h2, h1, h3⟩
theorem part_nodup (ps : List Pr) (n : Int) : (partI ps n).Nodup := asc_nodup (sortK_asc _)
theorem mem_mate {ps : List Pr} {n o : Int} : o ∈ mateI ps n ↔ ∃ p ∈ ps, (n = p.1 ∨ n = p.2) ∧ o = p.1 + p.2 - n := by
  unfold mateI
  rw [sortI_mem, List.mem_map]
  constructor
  · rintro ⟨p, hp, rfl⟩
    rw [List.mem_filter, decide_eq_true_eq] at hp
    exact ⟨p, hp.1, hp.2, rfl⟩
  · rintro ⟨p, hp, h, rfl⟩
    exact ⟨p, List.mem_filter.mpr ⟨hp, decide_eq_true h⟩, rfl⟩
theorem mate_part {ps : List Pr} {n : Int} (h : (n, n) ∉ ps) : mateI ps n = partI ps n := by
  refine asc_eq (κ := id) (sortK_asc _) (sortK_asc _) fun o => ?_
  show o ∈ mateI ps n ↔ o ∈ partI ps n
  rw [mem_mate, mem_part]
  have ne : ∀ p ∈ ps, p.1 = n → p.2 = n → False := fun p hp e1 e2 => h (by rw [show (n, n) = p from Prod.ext e1.symm e2.symm]; exact hp)
  constructor
  · rintro ⟨p, hp, h1, h2⟩
    refine ⟨p, hp, h1, ?_, fun e => ?_⟩
    · rcases h1 with e | e <;> omega
    · rcases h1 with e1 | e1
      · exact ne p hp e1.symm (by omega)
      · exact ne p hp (by omega) e1.symm
  · rintro ⟨p, hp, h1, h2, h3⟩
    refine ⟨p, hp, h1, ?_⟩
    rcases h1 with e | e <;> rcases h2 with e2 | e2 <;> omega
/-! ### what is accepted is so -/
theorem ap_sound {ps : List Pr} {T : List Int} (nd : T.Nodup) (hT : Cov T ps) : ∀ {vs : List Pr} {tk : List Int}, apB ps vs tk = true → vs.length ≤ (T.filter fun x => decide (x ∉ tk)).length
  | [], _, _ => Nat.zero_le _
  | p :: r, tk, h => by
    unfold apB at h
    simp only [Bool.and_eq_true, decide_eq_true_eq] at h
    obtain ⟨⟨⟨h1, h2⟩, h3⟩, h4⟩ := h
    have ih := ap_sound nd hT h4
    obtain ⟨x, hx, hp, hk⟩ : ∃ x, x ∈ T ∧ (x = p.1 ∨ x = p.2) ∧ x ∉ tk := by
      rcases hT p h1 with q | q
      · exact ⟨_, q, .inl rfl, h2⟩
      · exact ⟨_, q, .inr rfl, h3⟩
    have := nodup_le (x :: T.filter fun y => decide (y ∉ p.2 :: p.1 :: tk)) (T.filter fun y => decide (y ∉ tk)) (List.nodup_cons.mpr ⟨fun z => by
      have z := (List.mem_filter.mp z).2
      simp only [decide_eq_true_eq, List.mem_cons, not_or] at z
      exact hp.elim z.2.1 z.1, nd.filter _⟩) fun y hy => by
      rcases List.mem_cons.mp hy with rfl | hy
      · exact List.mem_filter.mpr ⟨hx, decide_eq_true hk⟩
      · obtain ⟨a, b⟩ := List.mem_filter.mp hy
        simp only [decide_eq_true_eq, List.mem_cons, not_or] at b
        exact List.mem_filter.mpr ⟨a, decide_eq_true b.2.2⟩
    rw [List.length_cons] at this ⊢
    omega
theorem chk_sound : ∀ {pap : Pap} {ps : List Pr} {m : Int} {T : List Int}, T.Nodup → Cov T ps → chk ps m pap = true → m < T.length
  | .none, ps, m, T, _, _, h => by
    have : m < 0 := of_decide_eq_true h
    omega
  | .pairs vs, ps, m, T, nd, hT, h => by
    unfold chk at h
    simp only [Bool.and_eq_true, decide_eq_true_eq] at h
    have h1 := ap_sound nd hT h.1
    have h2 : (T.filter fun x => decide (x ∉ ([] : List Int))).length ≤ T.length := List.length_filter_le _ _
    omega
  | .case n t s, ps, m, T, nd, hT, h => by
    unfold chk at h
    simp only [Bool.and_eq_true, Bool.not_eq_true', decide_eq_false_iff_not] at h
    obtain ⟨⟨⟨h1, h2⟩, h3⟩, h4⟩ := h
    by_cases hn : n ∈ T
    · have c : Cov (T.erase n) (wo ps [n]) := fun p hp => by
        obtain ⟨a, b, c⟩ := mem_wo.mp hp
        simp only [List.mem_singleton] at b c
        exact (hT p a).imp (fun z => (List.mem_erase_of_ne b).mpr z) fun z => (List.mem_erase_of_ne c).mpr z
      have := chk_sound (nd.erase n) c h3
      rw [List.length_erase_of_mem hn] at this
      have : 0 < T.length := List.length_pos_of_mem hn
      omega
    · have sub : ∀ o ∈ partI ps n, o ∈ T := fun o ho => by
        obtain ⟨p, hp, h5, h6, h7⟩ := mem_part.mp ho
        rcases hT p hp with q | q
        · rcases h6 with e | e
          · rw [e]; exact q
          · rcases h5 with e5 | e5
            · exact absurd (by rw [e5]; exact q) hn
            · exact absurd (by omega) h7
        · rcases h6 with e | e
          · rcases h5 with e5 | e5
            · exact absurd (by omega) h7
            · exact absurd (by rw [e5]; exact q) hn
          · rw [e]; exact q
      have c : Cov (T.filter fun x => decide (x ∉ partI ps n)) (wo ps (partI ps n)) := fun p hp => by
        obtain ⟨a, b, c⟩ := mem_wo.mp hp
        exact (hT p a).imp (fun z => List.mem_filter.mpr ⟨z, decide_eq_true b⟩) fun z => List.mem_filter.mpr ⟨z, decide_eq_true c⟩
      have h5 := chk_sound (nd.filter _) c h4
      have h6 := nodup_le (partI ps n ++ T.filter fun x => decide (x ∉ partI ps n)) T (List.nodup_append.mpr ⟨part_nodup ps n, nd.filter _, fun a ha b hb e => by
        have := (List.mem_filter.mp hb).2
        simp only [decide_eq_true_eq] at this
        exact this (by rw [← e]; exact ha)⟩) fun y hy => by
        rcases List.mem_append.mp hy with hy | hy
        · exact sub y hy
        · exact (List.mem_filter.mp hy).1
      rw [List.length_append] at h6
      omega
/-! ### what does not matter -/
def SameP (ps qs : List Pr) : Prop := ∀ p, p ∈ ps ↔ p ∈ qs
theorem same_wo {ps qs : List Pr} {ns : List Int} (h : SameP ps qs) : SameP (wo ps ns) (wo qs ns) := fun p => by rw [mem_wo, mem_wo, h p]
theorem same_part {ps qs : List Pr} {n : Int} (h : SameP ps qs) : partI ps n = partI qs n := by
  refine asc_eq (κ := id) (sortK_asc _) (sortK_asc _) fun o => ?_
  show o ∈ partI ps n ↔ o ∈ partI qs n
  rw [mem_part, mem_part]
  constructor
  · rintro ⟨p, hp, r⟩; exact ⟨p, (h p).mp hp, r⟩
  · rintro ⟨p, hp, r⟩; exact ⟨p, (h p).mpr hp, r⟩
theorem same_ap {ps qs : List Pr} (h : SameP ps qs) : ∀ {vs : List Pr} {tk : List Int}, apB ps vs tk = apB qs vs tk
  | [], _ => rfl
  | p :: r, tk => by
    unfold apB
    rw [same_ap h (vs := r), decide_eq_decide.mpr (h p)]
theorem same_chk : ∀ {pap : Pap} {ps qs : List Pr} {m : Int}, SameP ps qs → chk ps m pap = chk qs m pap
  | .none, _, _, _, _ => rfl
  | .pairs vs, _, _, _, h => by unfold chk; rw [same_ap h]
  | .case n t s, ps, qs, m, h => by
    unfold chk
    rw [same_part h, same_chk (same_wo h) (pap := t), same_chk (same_wo h) (pap := s), decide_eq_decide.mpr (h (n, n))]
theorem chk_less : ∀ {pap : Pap} {ps : List Pr} {m k : Int}, k ≤ m → chk ps m pap = true → chk ps k pap = true
  | .none, _, m, k, l, h => by
    have : m < 0 := of_decide_eq_true h
    exact decide_eq_true (by omega)
  | .pairs vs, _, m, k, l, h => by
    unfold chk at h ⊢
    simp only [Bool.and_eq_true, decide_eq_true_eq] at h ⊢
    exact ⟨h.1, by omega⟩
  | .case n t s, ps, m, k, l, h => by
    unfold chk at h ⊢
    simp only [Bool.and_eq_true] at h ⊢
    exact ⟨⟨h.1.1, chk_less (by omega) h.1.2⟩, chk_less (by omega) h.2⟩
end L2.K58
namespace L2.K58
open L2 L2.My L2.DL NdefX PySem PySem.Spec PyProof.Rows
def rng7 : List Int := [0, 1, 2, 3, 4, 5, 6]
def Small (ps : List Pr) : Prop := ∀ p ∈ ps, p.1 ∈ rng7 ∧ p.2 ∈ rng7
theorem in7 {n : Int} : n ∈ rng7 ↔ 0 ≤ n ∧ n ≤ 6 := by
  unfold rng7
  simp only [List.mem_cons, List.not_mem_nil, or_false]
  omega
theorem small_P {p : Pr} (h : p.1 ∈ rng7 ∧ p.2 ∈ rng7) : smallP p = true := by
  have h1 := in7.mp h.1
  have h2 := in7.mp h.2
  simp only [smallP, Bool.and_eq_true, decide_eq_true_eq]
  omega
theorem small_wo {ps : List Pr} {ns : List Int} (h : Small ps) : Small (wo ps ns) := fun p hp => h p (mem_wo.mp hp).1
def loopsP (ps : List Pr) : List Pr := sortK kp (ps.filter fun p => decide (p.1 = p.2))
theorem mem_loops {ps : List Pr} (h : Small ps) {p : Pr} : p ∈ loopsP ps ↔ p ∈ ps ∧ p.1 = p.2 := by
  unfold loopsP
  rw [sortK_mem fun x hx y hy e => kp_inj (small_P (h x (List.mem_filter.mp hx).1)) (small_P (h y (List.mem_filter.mp hy).1)) e, List.mem_filter, decide_eq_true_eq]
theorem loops_nodup {ps : List Pr} (h : Small ps) : ((loopsP ps).map (·.1)).Nodup := by
  have a : Asc kp (loopsP ps) := sortK_asc _
  refine List.pairwise_map.mpr (a.imp_of_mem fun {x y} hx hy q e => ?_)
  have ex := ((mem_loops h).mp hx).2
  have ey := ((mem_loops h).mp hy).2
  have q : x.1 * 64 + x.2 < y.1 * 64 + y.2 := q
  omega
theorem ap_loops {ps : List Pr} : ∀ {vs : List Pr} {tk : List Int}, (∀ p ∈ vs, p ∈ ps ∧ p.1 = p.2) → (vs.map (·.1)).Nodup → (∀ p ∈ vs, p.1 ∉ tk) → apB ps vs tk = true
  | [], _, _, _, _ => rfl
  | p :: r, tk, h, nd, hk => by
    rw [List.map_cons] at nd
    obtain ⟨n1, n2⟩ := List.nodup_cons.mp nd
    obtain ⟨h1, h2⟩ := h p List.mem_cons_self
    have hp := hk p List.mem_cons_self
    unfold apB
    simp only [Bool.and_eq_true, decide_eq_true_eq]
    refine ⟨⟨⟨h1, hp⟩, h2 ▸ hp⟩, ap_loops (fun q hq => h q (List.mem_cons_of_mem _ hq)) n2 fun q hq => ?_⟩
    have e : q.1 ≠ p.1 := fun e => n1 (by rw [← e]; exact List.mem_map_of_mem hq)
    simp only [List.mem_cons, not_or]
    exact ⟨h2 ▸ e, e, hk q (List.mem_cons_of_mem _ hq)⟩
def numsS (ps : List Pr) : List Int := rng7.filter fun n => decide ((n, n) ∉ loopsP ps) && decide (mateI ps n ≠ [])
def sureF : Nat → List Pr → Int → Pap
  | 0, _, _ => .none
  | k + 1, ps, m => if m < 0 then .none else match numsS ps with
    | [] => .pairs (loopsP ps)
    | n :: _ => .case n (sureF k (wo ps [n]) (m - 1)) (sureF k (wo ps (mateI ps n)) (m - (mateI ps n).length))
theorem wo_lt {ps : List Pr} {ns : List Int} {p : Pr} (hp : p ∈ ps) (h : p.1 ∈ ns ∨ p.2 ∈ ns) : (wo ps ns).length < ps.length := by
  unfold wo
  refine List.length_filter_lt_length_iff_exists.mpr ⟨p, hp, ?_⟩
  simp only [Bool.and_eq_true, decide_eq_true_eq, not_and, Classical.not_not]
  intro q
  exact h.resolve_left q
/-- a number that is chosen -/
theorem chosen {ps : List Pr} {n : Int} (hs : Small ps) (h : n ∈ numsS ps) : (n, n) ∉ ps ∧ mateI ps n = partI ps n ∧ partI ps n ≠ [] ∧ (wo ps [n]).length < ps.length ∧ (wo ps (partI ps n)).length < ps.length := by
  unfold numsS at h
  rw [List.mem_filter] at h
  simp only [Bool.and_eq_true, decide_eq_true_eq] at h
  obtain ⟨_, h1, h2⟩ := h
  have h3 : (n, n) ∉ ps := fun q => h1 ((mem_loops hs).mpr ⟨q, rfl⟩)
  have h4 := mate_part h3
  rw [h4] at h2
  obtain ⟨o, ho⟩ := List.exists_mem_of_ne_nil _ h2
  obtain ⟨p, hp, a, b, c⟩ := mem_part.mp ho
  refine ⟨h3, h4, h2, wo_lt hp ?_, wo_lt hp ?_⟩
  · simp only [List.mem_singleton]
    exact a.imp Eq.symm Eq.symm
  · rcases b with e | e
    · exact .inl (by rw [← e]; exact ho)
    · exact .inr (by rw [← e]; exact ho)
theorem sure_ok : ∀ (k : Nat) {ps : List Pr} {m : Int}, ps.length < k → Small ps → (∀ T : List Int, T.Nodup → Cov T ps → m < T.length) → chk ps m (sureF k ps m) = true
  | 0, _, _, h, _, _ => absurd h (Nat.not_lt_zero _)
  | k + 1, ps, m, hk, hs, hT => by
    unfold sureF
    by_cases hm : m < 0
    · rw [if_pos hm]
      exact decide_eq_true hm
    · rw [if_neg hm]
      split
      · rename_i e
        have cov : Cov ((loopsP ps).map (·.1)) ps := fun p hp => by
          have h1 : p.1 ∉ numsS ps := by rw [e]; simp
          have h2 : mateI ps p.1 ≠ [] := fun z => by
            have : p.2 ∈ mateI ps p.1 := mem_mate.mpr ⟨p, hp, .inl rfl, by omega⟩
            rw [z] at this
            cases this
          have h3 : (p.1, p.1) ∈ loopsP ps := Classical.byContradiction fun z => h1 (by
            unfold numsS
            exact List.mem_filter.mpr ⟨(hs p hp).1, by simp only [Bool.and_eq_true, decide_eq_true_eq]; exact ⟨z, h2⟩⟩)
          exact .inl (List.mem_map.mpr ⟨_, h3, rfl⟩)
        have h1 := hT _ (loops_nodup hs) cov
        rw [List.length_map] at h1
        unfold chk
        simp only [Bool.and_eq_true, decide_eq_true_eq]
        exact ⟨ap_loops (fun p hp => (mem_loops hs).mp hp) (loops_nodup hs) fun _ _ => by simp, h1⟩
      · rename_i n r e
        have hn : n ∈ numsS ps := by rw [e]; exact List.mem_cons_self
        obtain ⟨h1, h2, h3, h4, h5⟩ := chosen hs hn
        rw [h2]
        unfold chk
        simp only [Bool.and_eq_true, Bool.not_eq_true', decide_eq_false_iff_not]
        refine ⟨⟨⟨h1, ?_⟩, sure_ok k (by omega) (small_wo hs) fun T nd hC => ?_⟩, sure_ok k (by omega) (small_wo hs) fun T nd hC => ?_⟩
        · cases q : partI ps n with
          | nil => exact absurd q h3
          | cons => rfl
        · by_cases hn : n ∈ T
          · have := hT T nd fun p hp => by
              by_cases a : p.1 = n
              · exact .inl (a ▸ hn)
              · by_cases b : p.2 = n
                · exact .inr (b ▸ hn)
                · exact hC p (mem_wo.mpr ⟨hp, by simpa using a, by simpa using b⟩)
            omega
          · have := hT (n :: T) (List.nodup_cons.mpr ⟨hn, nd⟩) fun p hp => by
              by_cases a : p.1 = n
              · exact .inl (a ▸ List.mem_cons_self)
              · by_cases b : p.2 = n
                · exact .inr (b ▸ List.mem_cons_self)
                · exact (hC p (mem_wo.mpr ⟨hp, by simpa using a, by simpa using b⟩)).imp (List.mem_cons_of_mem _) (List.mem_cons_of_mem _)
            rw [List.length_cons] at this
            omega
        · have := hT (partI ps n ++ T.filter fun x => decide (x ∉ partI ps n)) (List.nodup_append.mpr ⟨part_nodup ps n, nd.filter _, fun a ha b hb e => by
            have := (List.mem_filter.mp hb).2
            simp only [decide_eq_true_eq] at this
            exact this (by rw [← e]; exact ha)⟩) fun p hp => by
            by_cases a : p.1 ∈ partI ps n
            · exact .inl (List.mem_append_left _ a)
            · by_cases b : p.2 ∈ partI ps n
              · exact .inr (List.mem_append_left _ b)
              · exact (hC p (mem_wo.mpr ⟨hp, a, b⟩)).imp (fun z => List.mem_append_right _ (List.mem_filter.mpr ⟨z, decide_eq_true a⟩)) fun z => List.mem_append_right _ (List.mem_filter.mpr ⟨z, decide_eq_true b⟩)
          rw [List.length_append] at this
          have := List.length_filter_le (fun x => decide (x ∉ partI ps n)) T
          omega
/-! ### the fewest -/
def takenM (k : Nat) : List Int := rng7.filter fun i => decide (k / 2 ^ i.toNat % 2 = 1)
def fewT (ps : List Pr) (b : Nat) (k : Nat) : Nat := if (takenM k).length < b ∧ wo ps (takenM k) = [] then (takenM k).length else b
def fewF (ps : List Pr) : Nat := (List.range 128).foldl (fewT ps) 7
def b2n : Bool → Nat
  | true => 1
  | false => 0
theorem bits7 : ∀ a b c d e f g : Bool, takenM (b2n a + 2 * b2n b + 4 * b2n c + 8 * b2n d + 16 * b2n e + 32 * b2n f + 64 * b2n g) =
    ((bif a then [0] else []) ++ (bif b then [1] else []) ++ (bif c then [2] else []) ++ (bif d then [3] else []) ++ (bif e then [4] else []) ++ (bif f then [5] else []) ++ (bif g then [6] else []) : List Int) := by decide +kernel
theorem cons_bif {x : Int} {p : Int → Bool} {l : List Int} : (x :: l).filter p = (bif p x then [x] else []) ++ l.filter p := by
  rw [List.filter_cons]
  cases p x <;> rfl
theorem all_taken (p : Int → Bool) : ∃ k, k < 128 ∧ takenM k = rng7.filter p := by
  refine ⟨b2n (p 0) + 2 * b2n (p 1) + 4 * b2n (p 2) + 8 * b2n (p 3) + 16 * b2n (p 4) + 32 * b2n (p 5) + 64 * b2n (p 6), ?_, ?_⟩
  · have h : ∀ b, b2n b ≤ 1 := fun b => by cases b <;> decide
    have := h (p 0)
    have := h (p 1)
    have := h (p 2)
    have := h (p 3)
    have := h (p 4)
    have := h (p 5)
    have := h (p 6)
    omega
  · rw [bits7]
    unfold rng7
    simp only [cons_bif, List.filter_nil, List.append_nil, List.append_assoc]
theorem few_fold (ps : List Pr) : ∀ (l : List Nat) (b : Nat), (l.foldl (fewT ps) b = b ∨ ∃ k ∈ l, wo ps (takenM k) = [] ∧ l.foldl (fewT ps) b = (takenM k).length) ∧ l.foldl (fewT ps) b ≤ b ∧ ∀ k ∈ l, wo ps (takenM k) = [] → l.foldl (fewT ps) b ≤ (takenM k).length
  | [], b => ⟨.inl rfl, Nat.le_refl _, fun _ z => by cases z⟩
  | x :: l, b => by
    rw [List.foldl_cons]
    obtain ⟨h1, h2, h3⟩ := few_fold ps l (fewT ps b x)
    have le : fewT ps b x ≤ b := by
      unfold fewT
      split
      · rename_i h; exact Nat.le_of_lt h.1
      · exact Nat.le_refl _
    refine ⟨?_, Nat.le_trans h2 le, fun k hk hw => ?_⟩
    · rcases h1 with h1 | ⟨k, hk, hw, e⟩
      · by_cases h : (takenM x).length < b ∧ wo ps (takenM x) = []
        · exact .inr ⟨x, List.mem_cons_self, h.2, by rw [h1]; unfold fewT; rw [if_pos h]⟩
        · exact .inl (by rw [h1]; unfold fewT; rw [if_neg h])
      · exact .inr ⟨k, List.mem_cons_of_mem _ hk, hw, e⟩
    · rcases List.mem_cons.mp hk with rfl | hk
      · refine Nat.le_trans h2 ?_
        unfold fewT
        split
        · exact Nat.le_refl _
        · rename_i h
          exact Nat.le_of_not_lt fun z => h ⟨z, hw⟩
      · exact h3 k hk hw
theorem taken_nodup (k : Nat) : (takenM k).Nodup := List.Pairwise.filter _ (by unfold rng7; decide)
theorem few_le {ps : List Pr} (hs : Small ps) {T : List Int} (nd : T.Nodup) (hT : Cov T ps) : fewF ps ≤ T.length := by
  obtain ⟨k, hk, e⟩ := all_taken fun i => decide (i ∈ T)
  have h := (few_fold ps (List.range 128) 7).2.2 k (List.mem_range.mpr hk) (by
    rw [e]
    refine List.filter_eq_nil_iff.mpr fun p hp => ?_
    simp only [Bool.and_eq_true, decide_eq_true_eq, List.mem_filter, not_and, Classical.not_not]
    intro z
    exact fun y => y (hs p hp).2 ((hT p hp).resolve_left fun q => z (hs p hp).1 q))
  refine Nat.le_trans h ?_
  exact nodup_le _ _ (taken_nodup k) fun x hx => by
    rw [e] at hx
    exact of_decide_eq_true (List.mem_filter.mp hx).2
theorem few_ex {ps : List Pr} (hs : Small ps) : ∃ T : List Int, T.Nodup ∧ Cov T ps ∧ T.length = fewF ps := by
  rcases (few_fold ps (List.range 128) 7).1 with h | ⟨k, _, hw, e⟩
  · exact ⟨rng7, by unfold rng7; decide, fun p hp => .inl (hs p hp).1, h.symm⟩
  · refine ⟨takenM k, taken_nodup k, fun p hp => ?_, e.symm⟩
    refine Classical.byContradiction fun z => ?_
    have : p ∈ wo ps (takenM k) := mem_wo.mpr ⟨hp, fun q => z (.inl q), fun q => z (.inr q)⟩
    rw [hw] at this
    cases this
theorem few_7 (ps : List Pr) : fewF ps ≤ 7 := (few_fold ps (List.range 128) 7).2.1
end L2.K58
namespace L2.K58
open L2 L2.My PySem PySem.Spec PyProof.Rows
local macro_rules | `(tactic| walk_at "s1") => `(tactic| first
  | with_reducible refine g_seq ?_
  | with_reducible refine g_asg ?_
  | with_reducible refine g_name ?_
  | with_reducible refine g_op ?_
  | ((with_reducible show tVar _ _ _ _); refine g_var rfl ?_)
  | with_reducible refine g_c ?_
  | with_reducible refine g_cons ?_
  | with_reducible refine g_nil ?_
  | with_reducible refine g_cb ?_
  | with_reducible refine g_tests ?_
  | with_reducible refine g_bl ?_
  | with_reducible refine g_tB ?_
  | with_reducible refine g_and ?_
  | with_reducible refine g_or ?_
  | with_reducible refine g_not ?_
  | with_reducible refine g_ifs ?_
  | with_reducible refine g_sub ?_
  | with_reducible refine g_ret ?_
  | with_reducible refine g_retN ?_
  | with_reducible refine g_drop ?_
  | with_reducible refine g_next ?_
  | with_reducible refine g_par ?_
  | with_reducible refine g_two ?_
  | with_reducible refine g_lst ?_
  | with_reducible refine g_tup ?_
  | with_reducible refine g_un ?_
  | with_reducible refine addU_i ?_
  | with_reducible refine rI0_i ?_)
local macro_rules | `(tactic| walk_at "go") => `(tactic| repeat walk_at "s1")
local macro_rules | `(tactic| walk_at "s1") => `(tactic| first
  | ((with_reducible show tOp _ _ _ _ _ _); with_reducible refine g_op ?_)
  | with_reducible refine g_int ?_
  | with_reducible refine g_sl ?_
  | with_reducible refine g_nopart ?_
  | with_reducible refine g_part ?_
  | with_reducible refine g_i ?_
  | with_reducible refine g_bm ?_
  | with_reducible refine g_pair ?_
  | with_reducible refine g_pair0 ?_
  | with_reducible refine g_call ?_
  | with_reducible refine g_intb ?_
  | with_reducible refine g_abs ?_)
local macro_rules | `(tactic| walk_at "look") => `(tactic| first
  | exact upd_same
  | with_reducible assumption
  | (refine same_upd ?_ _ _ ?_; assumption; walk_at "look"))
local macro_rules | `(tactic| walk_at "cat") => `(tactic| (refine' addU_l ?e1 ?e2 ?z ?_; (case e1 => walk_at "look"); (case e2 => walk_at "look"); (case z => exact Nat.le_of_ble_eq_true rfl)))
local macro_rules | `(tactic| walk_at "same") => `(tactic| first
  | exact Same.refl _
  | with_reducible assumption
  | (refine Same.trans ?_ (same_upd ?_); rotate_left; assumption; walk_at "same"))
theorem mixed_small {m a : Int} (m0 : 0 ≤ m) (m1 : m < 2147483629) (a0 : 0 ≤ a) (a1 : a < 100000) : 0 ≤ m * (2 * a + 41) ∧ m * (2 * a + 41) < 429580477461493 := by
  constructor
  · exact Int.mul_nonneg m0 (by omega)
  · have h := Int.mul_le_mul (show m ≤ 2147483628 by omega) (show 2 * a + 41 ≤ 200039 by omega) (by omega) (by omega)
    omega
theorem sq_small {a : Int} (a0 : 0 ≤ a) (a1 : a < 100000) : 0 ≤ 52021 * a * a ∧ 52021 * a * a < 520199595852022 := by
  constructor
  · exact Int.mul_nonneg (by omega) a0
  · have h := Int.mul_le_mul (show 52021 * a ≤ 5202047979 by omega) (show a ≤ 99999 by omega) a0 (by omega)
    omega

section
variable {P : Program} {w : World} {K : W.Frag} {mg : Str → Option Value} {base : Heap}
abbrev sDraw : Stmt := top 11
theorem scDraw : FnScope ["_law_pen_here", "_law_many", "_law_digit", "_law_at", "_law_cell", "_law_great", "_law_mixed"] ["_law_pen_here", "_law_many"] (defScope sDraw) := ⟨rfl, rfl, rfl, by decide +kernel, rfl, by decide +kernel, by decide +kernel⟩
theorem ok_draw {f : Addr} {fd : FuncData} (F : Fun K "_law_draw" "_law_draw" sDraw f fd) (m_int : mg "int" = none) (m_len : mg "len" = none) (m_abs : mg "abs" = none) : FnG P w K mg base CX0 1 f fd ["_law_pen_here", "_law_many"] spDraw := by
  refine body_g0 F scDraw ?_ ?_
  · rintro vs H Q E ⟨p, q, ns, at', big, many, rfl, _⟩
    rfl
  rintro cdv A outer s H vs Q E hr hq ⟨p, q, ns, at', big, many, rfl, m0, m1, pen, a2, z⟩
  have hu := hr.units
  refine ⟨_, (pss_cons (ps_if (pt_cmpR op_gt (pe_ix ix_seq (pv 0) pe_int (fun _ _ => rfl)) pe_int (nomark _)) (pss_cons (ps_set (i := 2) scDraw.nd rfl (Or.inl rfl) (pe_op op_mod (pe_callTy c_int (by rfl) m_int (by decide +kernel) (pa_cons (pe_ix ix_seq (pv 0) pe_int (fun _ _ => rfl)) pa_nil)) (pv 1)))
    (pss_cons (ps_asg (pe_op op_fdivW (pe_ix ix_seq (pv 0) pe_int (fun _ _ => rfl)) (pv 1)) (pg_sub (pv 0) pe_int set_list))
    (pss_one (ps_ret (pv 2))))) pss_nil)
    (pss_cons (ps_set (i := 3) scDraw.nd rfl (Or.inl rfl) (pe_ix ix_seq (pv 0) pe_int (fun _ _ => rfl)))
    (pss_cons (ps_asg (pe_op op_addU (pv 3) pe_int) (pg_sub (pv 0) pe_int set_list))
    (pss_cons (ps_set (i := 4) scDraw.nd rfl (Or.inl rfl) (pe_op op_addU (pe_op op_mulU pe_int (pv 3)) pe_int))
    (C8.pss_cut (ps_if (pt_cmpR (op_neU hu) (pe_ix ix_seq (pv 0) pe_int (fun _ _ => rfl)) (pe_lst pa_nil) (nomark _)) (pss_one (ps_set (i := 4) scDraw.nd rfl (Or.inl rfl) (pe_ix ix_seq (pe_ix ix_seq (pv 0) pe_int (fun _ _ => rfl)) (pe_op op_mod (pe_callTy c_int (by rfl) m_int (by decide +kernel) (pa_cons (pv 3) pa_nil)) (pe_callB c_len (by rfl) m_len PySem.boot_len (pa_cons (pe_ix ix_seq (pv 0) pe_int (fun _ _ => rfl)) pa_nil))) (fun _ _ => rfl)))) pss_nil)
    (C8.pss_cut (ps_if (PW.pt (pw_and (pt_cmpR op_lt (pv 3) (pe_callB c_len (by rfl) m_len PySem.boot_len (pa_cons (pe_ix ix_seq (pv 0) pe_int (fun _ _ => rfl)) pa_nil)) (nomark _)) (pw_and1 (pt_cmpR op_ge (pe_callB c_abs (by rfl) m_abs (by decide +kernel) (pa_cons (pv 4) pa_nil)) (pe_op op_pow pe_int pe_int) (nomark _))))) (pss_cons (ps_set (i := 5) scDraw.nd rfl (Or.inl rfl) (pe_op op_addU (pe_op op_mulU pe_int (pe_op op_sub (pe_callB c_abs (by rfl) m_abs (by decide +kernel) (pa_cons (pv 4) pa_nil)) (pe_op op_pow pe_int pe_int))) (pe_callTy c_int (by rfl) m_int (by decide +kernel) (pa_cons (pe_cmpR op_lt (pv 4) pe_int (nomark _)) pa_nil))))
    (pss_cons (ps_asg (pe_op op_fdivW (pv 5) (pv 1)) (pg_sub (pv 0) pe_int set_list))
    (pss_one (ps_ret (pe_op op_mod (pe_callTy c_int (by rfl) m_int (by decide +kernel) (pa_cons (pv 5) pa_nil)) (pv 1)))))) pss_nil)
    (pss_cons (ps_set (i := 6) scDraw.nd rfl (Or.inl rfl) (pe_op op_mod (pe_callTy c_int (by rfl) m_int (by decide +kernel) (pa_cons (pe_op op_pow (pe_op op_addU (pe_op op_addU (pe_op op_mod (pe_callTy c_int (by rfl) m_int (by decide +kernel) (pa_cons (pv 4) pa_nil)) pe_int) (pe_op op_mulU pe_int (pv 3))) pe_int) pe_int) pa_nil)) pe_int))
    (pss_cons (ps_set (i := 6) scDraw.nd rfl (Or.inl rfl) (pe_op op_mod (pe_callTy c_int (by rfl) m_int (by decide +kernel) (pa_cons (pe_op op_pow (pe_op op_addU (pe_op op_addU (pe_op op_mulU (pv 6) (pe_op op_addU (pe_op op_mulU pe_int (pv 3)) pe_int)) (pe_op op_mulU (pe_op op_mulU pe_int (pv 3)) (pv 3))) pe_int) pe_int) pa_nil)) pe_int))
    (pss_one (ps_ret (pe_op op_mod (pe_callTy c_int (by rfl) m_int (by decide +kernel) (pa_cons (pe_op op_fdivW (pv 6) pe_int) pa_nil)) (pv 1)))))))))))), ?_⟩
  have e2 : SqL K H p [.ref q, .int at', .int big] := .inl (.inl pen.pen)
  have a0 := pen.a0
  have hW : CDivW 1 many := wide_div m0 m1 (by decide) (by decide)
  walk_at "go"
  refine ix_l e2 rfl ?_
  walk_at "go"
  refine ite2 (fun c => ?_) (fun c => ?_)
  · have c' : 0 < big := of_decide_eq_true c
    walk_at "go"
    refine ix_l e2 rfl ?_
    walk_at "go"
    refine rI_i m0 ?_
    walk_at "go"
    refine ix_l e2 rfl ?_
    walk_at "go"
    refine rI_i hW ?_
    walk_at "go"
    refine setL pen.pen rfl ?_
    walk_at "go"
    exact z _ _ _ _ (Int.emod_nonneg _ (by omega)) (Int.emod_lt_of_pos _ m0) (Int.le_refl _) (by omega) (Int.ediv_nonneg pen.b0 (by omega)) but_upd upd_same
  walk_at "go"
  refine ix_l e2 rfl ?_
  walk_at "go"
  refine setL (j := 1) pen.pen rfl ?_
  walk_at "go"
  have npq : q ≠ p := fun e => by
    have h1 := pen.cells
    rw [e, pen.pen] at h1
    have h2 := Option.some.inj h1
    injection h2 with h3
    cases ns with
    | nil => cases h3
    | cons n r => cases h3
  have e3 : upd H p (.lst ([V.ref q, .int at', .int big].set 1 (.int (at' + 1)))) p = some (.lst [.ref q, .int (at' + 1), .int big]) := upd_same
  have e4 : upd H p (.lst ([V.ref q, .int at', .int big].set 1 (.int (at' + 1)))) q = some (.lst (ns.map V.int)) := by rw [upd_ne npq]; exact pen.cells
  have b1 : But H (upd H p (.lst ([V.ref q, .int at', .int big].set 1 (.int (at' + 1))))) p := but_upd
  generalize upd H p (.lst ([V.ref q, .int at', .int big].set 1 (.int (at' + 1)))) = H1 at *
  refine mulU_i (.inl (by omega)) ?_
  walk_at "go"
  refine g_cut (fun σ' H' => ∃ cell : Int, σ' = [some (.ref p), some (.int many), none, some (.int at'), some (.int cell), none, none] ∧ H' p = some (.lst [.ref q, .int (at' + 1), .int big]) ∧ H' q = some (.lst (ns.map V.int)) ∧ But H H' p) ?_ ?_
  · walk_at "go"
    refine ix_l (.inl (.inl e3)) rfl ?_
    walk_at "go"
    refine g_small (by decide) fun l nl => ?_
    have s1 := same_upd (o := .lst []) nl
    refine eqU_ints (ns := ns) (ms := []) (.inl (.inl (s1 _ _ e4))) (.inl (.inl upd_same)) ?_
    walk_at "go"
    refine ite2 (fun c => ?_) (fun c => ?_)
    · have c' : ns ≠ [] := by
        intro e
        rw [e] at c
        exact absurd c (by decide)
      have pos : 0 < (ns.map V.int).length := by
        rw [List.length_map]
        exact List.length_pos_iff.mpr c'
      walk_at "go"
      refine ix_l (.inl (.inl (s1 _ _ e3))) rfl ?_
      walk_at "go"
      refine ix_l (.inl (.inl (s1 _ _ e3))) rfl ?_
      walk_at "go"
      refine g_len (.inl (.inl (s1 _ _ e4))) ?_
      walk_at "go"
      refine rI_i (show (0 : Int) < _ by omega) ?_
      have l0 := Int.emod_nonneg at' (show ((ns.map V.int).length : Int) ≠ 0 by omega)
      have l1 := Int.emod_lt_of_pos at' (show 0 < ((ns.map V.int).length : Int) by omega)
      have len : (ns.map V.int).length = ns.length := List.length_map _
      obtain ⟨n, hn⟩ : ∃ n, atI (ns.map V.int) (at' % ((ns.map V.int).length : Int)) = some (.int n) := by
        have lt : (at' % ((ns.map V.int).length : Int)).toNat < ns.length := by omega
        refine ⟨ns[(at' % ((ns.map V.int).length : Int)).toNat], ?_⟩
        have e := atI_nat (xs := ns.map V.int) (j := (at' % ((ns.map V.int).length : Int)).toNat) (v := .int ns[(at' % ((ns.map V.int).length : Int)).toNat]) (by rw [List.getElem?_map, List.getElem?_eq_getElem lt] <;> rfl)
        rw [Int.toNat_of_nonneg l0] at e
        exact e
      refine ix_l (.inl (.inl (s1 _ _ e4))) hn ?_
      walk_at "go"
      exact ⟨n, rfl, s1 _ _ e3, s1 _ _ e4, b1.same s1⟩
    · walk_at "go"
      exact ⟨_, rfl, s1 _ _ e3, s1 _ _ e4, b1.same s1⟩
  rintro σ' H' ⟨cell, rfl, f3, f4, b2⟩
  refine g_cut (fun σ' H2 => σ' = [some (.ref p), some (.int many), none, some (.int at'), some (.int cell), none, none] ∧ H2 = H') ?_ ?_
  walk_at "go"
  refine ix_l (.inl (.inl f3)) rfl ?_
  walk_at "go"
  refine g_len (.inl (.inl f4)) ?_
  walk_at "go"
  have abs0 : 0 ≤ (if cell < 0 then -cell else cell) := by split <;> omega
  refine ite2 (fun c1 => ?_) (fun c1 => ?_)
  · walk_at "go"
    refine rI_i ⟨by decide, by decide, by decide⟩ ?_
    walk_at "go"
    refine ite2 (fun c2 => ?_) (fun c2 => ?_)
    · have c3 : (10 : Int) ^ (Int.toNat 18) ≤ (if cell < 0 then -cell else cell) := of_decide_eq_true c2
      walk_at "go"
      refine rI_i ⟨by decide, by decide, by decide⟩ ?_
      walk_at "go"
      refine mulU_i (.inl (by omega)) ?_
      walk_at "go"
      refine rI_i hW ?_
      walk_at "go"
      refine setL (j := 2) f3 rfl ?_
      walk_at "go"
      refine rI_i m0 ?_
      walk_at "go"
      refine z _ _ _ _ (Int.emod_nonneg _ (by omega)) (Int.emod_lt_of_pos _ m0) (show at' ≤ at' + 1 by omega) (Int.le_refl _) (Int.ediv_nonneg ?_ (by omega)) b2.upd upd_same
      split <;> omega
    · walk_at "go"
      exact ⟨rfl, rfl⟩
  · walk_at "go"
    refine iteF ?_
    walk_at "go"
    exact ⟨rfl, rfl⟩
  rintro σ' H2 ⟨rfl, rfl⟩
  walk_at "go"
  refine rI_i (show (0 : Int) < 2147483549 by decide) ?_
  walk_at "go"
  refine mulU_i (.inl (by omega)) ?_
  walk_at "go"
  have r0 := Int.emod_nonneg cell (show (2147483549 : Int) ≠ 0 by decide)
  have r1 := Int.emod_lt_of_pos cell (show (0 : Int) < 2147483549 by decide)
  refine rI_i ⟨by decide, by decide, by omega⟩ ?_
  walk_at "go"
  refine rI_i (show (0 : Int) < 2147483629 by decide) ?_
  walk_at "go"
  refine mulU_i (.inl (by omega)) ?_
  walk_at "go"
  generalize hm : (cell % 2147483549 + 47041 * at' + 29) ^ (Int.toNat 5) % 2147483629 = m
  have g0 : 0 ≤ m := by rw [← hm]; exact Int.emod_nonneg _ (by decide)
  have g1 : m < 2147483629 := by rw [← hm]; exact Int.emod_lt_of_pos _ (by decide)
  have p1 := mixed_small g0 g1 a0 a2
  have p2 := sq_small a0 a2
  refine mulU_i (.inl (by omega)) ?_
  walk_at "go"
  refine mulU_i (.inl (by omega)) ?_
  walk_at "go"
  refine mulU_i (.inl (by omega)) ?_
  walk_at "go"
  refine rI_i ⟨by decide, by decide, by omega⟩ ?_
  walk_at "go"
  refine rI_i (show (0 : Int) < 2147483579 by decide) ?_
  walk_at "go"
  refine rI_i (wide_div (b := 6) (by decide) (by decide) (by decide) (by decide)) ?_
  walk_at "go"
  refine rI_i m0 ?_
  walk_at "go"
  exact z _ _ _ _ (Int.emod_nonneg _ (by omega)) (Int.emod_lt_of_pos _ m0) (show at' ≤ at' + 1 by omega) (Int.le_refl _) pen.b0 b2 f3
abbrev sPen : Stmt := top 10
theorem scPen : FnScope ["_law_script"] ["_law_script"] (defScope sPen) := ⟨rfl, rfl, rfl, by decide +kernel, rfl, by decide +kernel, by decide +kernel⟩
theorem ok_pen {f : Addr} {fd : FuncData} (F : Fun K "_law_pen" "_law_pen" sPen f fd) (m_list : mg "list" = none) : FnG P w K mg base CX0 1 f fd ["_law_script"] (spPen K) := by
  refine body_g0 F scPen ?_ ?_
  · rintro vs H Q E ⟨a, ns, rfl, _⟩
    rfl
  rintro cdv A outer s H vs Q E hr hq ⟨a, ns, rfl, hl, z⟩
  refine ⟨_, (pss_one (ps_ret (pe_lst (pa_cons (pe_callTy c_list (by rfl) m_list (by decide +kernel) (pa_cons (pe_slice sl_list (pv 0) po_none (po_some pe_int)) pa_nil)) (pa_cons pe_int (pa_cons pe_int pa_nil)))))), ?_⟩
  walk_at "go"
  refine slL hl fun p1 n1 => ?_
  obtain ⟨ms, em⟩ := cut_ints ns none (some 63)
  rw [em]
  walk_at "go"
  refine g_list (.inl (.inl upd_same)) fun q n2 => ?_
  walk_at "go"
  refine g_small (show 3 ≤ 1000 by decide) fun p n3 => ?_
  walk_at "go"
  have s1 := same_upd (o := .lst (ms.map V.int)) n1
  have s2 := s1.trans (same_upd (o := .lst (ms.map V.int)) n2)
  have s3 := s2.trans (same_upd (o := .lst [V.ref q, .int 0, .int 0]) n3)
  refine z p q ms _ s3 (s2.free n3) ⟨upd_same, ?_, by decide, by decide, by decide⟩
  rw [upd_ne (ne_of_none upd_same n3), upd_same]
end
end L2.K58
namespace L2.K58
open L2 L2.My L2.DL NdefX PySem PySem.Spec PyProof.Rows
local macro_rules | `(tactic| walk_at "tru0") => `(tactic| first
  | rfl
  | with_reducible assumption
  | decide)
local macro_rules | `(tactic| walk_at "tru") => `(tactic| first
  | rfl
  | with_reducible assumption
  | decide
  | (simp; done))
local macro_rules | `(tactic| walk_at "val") => `(tactic| first
  | with_reducible assumption
  | with_reducible exact cmpD_i
  | with_reducible exact eqD_i
  | with_reducible exact eqD_s
  | with_reducible exact eqD_b
  | with_reducible exact eqD_n
  | with_reducible exact eqD_in
  | with_reducible exact eqD_ni
  | with_reducible exact eqD_sn
  | with_reducible exact eqD_ns
  | with_reducible exact ix_0
  | with_reducible exact ix_1
  | with_reducible exact in_P
  | with_reducible exact in_pair
  | with_reducible exact in_I
  | with_reducible exact in_tI
  | with_reducible exact in_dT
  | with_reducible exact eq_P0
  | with_reducible exact eq_I0
  | with_reducible exact cmpD_s
  | with_reducible exact lenD_l
  | with_reducible exact lenD_t
  | rfl)
local macro_rules | `(tactic| walk_at "len") => `(tactic| ((refine le_line ?_); (simp only [List.length_cons, List.length_nil, List.length_append]); (first | done | decide | omega)))
local macro_rules | `(tactic| walk_at "ev") => `(tactic| first
  | with_reducible exact ev_c
  | ((with_reducible apply ev_vd); rfl)
  | ((with_reducible apply ev_vb); rfl)
  | ((with_reducible apply ev_vs); rfl)
  | ((with_reducible apply ev_vo); rfl)
  | ((with_reducible apply ev_op); walk_at "ev"; walk_at "ev"; walk_at "val")
  | ((with_reducible apply ev_un); walk_at "ev"; walk_at "val")
  | with_reducible exact ev_nil
  | ((with_reducible apply ev_cons); walk_at "ev"; walk_at "ev")
  | ((with_reducible apply ev_tup); walk_at "ev"; walk_at "len")
  | ((with_reducible apply ev_lst); walk_at "ev"; walk_at "len")
  | ((with_reducible apply ev_not); walk_at "ev")
  | ((with_reducible apply ev_andR); walk_at "ev"; walk_at "and")
  | ((with_reducible apply ev_orR); walk_at "ev"; walk_at "and")
  | ((with_reducible apply ev_ifR); walk_at "ev"; walk_at "ite"; walk_at "ev")
  | ((with_reducible apply evb_test); walk_at "ev")
  | ((with_reducible apply evb_not); walk_at "ev")
  | with_reducible exact evb_yes
  | ((with_reducible apply evb_andR); walk_at "ev"; walk_at "and")
  | ((with_reducible apply evb_orR); walk_at "ev"; walk_at "and")
  | ((with_reducible apply ev_chain); walk_at "ev"; walk_at "ev"; walk_at "ev"; walk_at "val"; walk_at "val")
  | ((with_reducible apply ev_call); walk_at "ev"; walk_at "val")
  | ((with_reducible apply ev_mk); walk_at "ev"; walk_at "val")
  | ((with_reducible apply ev_fld); walk_at "ev"; walk_at "att"; walk_at "val")
  | ((with_reducible apply ev_sl); walk_at "ev"; walk_at "ev"; walk_at "ev"; walk_at "val")
  | ((with_reducible apply ev_sw1); walk_at "ev")
  | ((with_reducible apply ev_sw2); walk_at "ev")
  | ((with_reducible apply evl_seq); walk_at "ev"; rfl)
  | with_reducible exact evo_none
  | ((with_reducible apply evo_some); walk_at "ev"))
local macro_rules | `(tactic| walk_at "att") => `(tactic| first
  | with_reducible assumption
  | apply_assumption)
local macro_rules | `(tactic| walk_at "and") => `(tactic| first
  | ((with_reducible apply AndR.t); (focus (walk_at "tru0")); walk_at "ev")
  | ((with_reducible apply AndR.f); walk_at "tru0")
  | ((with_reducible apply AndR.b); intro _; walk_at "ev")
  | ((with_reducible apply OrR.t); walk_at "tru0")
  | ((with_reducible apply OrR.f); (focus (walk_at "tru0")); walk_at "ev")
  | ((with_reducible apply OrR.b); intro _; walk_at "ev")
  | ((with_reducible apply BAndR.t); (focus (walk_at "tru0")); walk_at "ev")
  | ((with_reducible apply BAndR.f); walk_at "tru0")
  | ((with_reducible apply BAndR.b); intro _; walk_at "ev")
  | ((with_reducible apply BOrR.t); walk_at "tru0")
  | ((with_reducible apply BOrR.f); (focus (walk_at "tru0")); walk_at "ev")
  | ((with_reducible apply BOrR.b); intro _; walk_at "ev"))
local macro_rules | `(tactic| walk_at "ite") => `(tactic| first
  | ((with_reducible refine ite_t ?_ ?_); (focus (walk_at "tru0")))
  | ((with_reducible refine ite_f ?_ ?_); (focus (walk_at "tru0")))
  | ((with_reducible refine ite_t ?_ ?_); (focus (walk_at "tru")))
  | ((with_reducible refine ite_f ?_ ?_); (focus (walk_at "tru"))))
local macro_rules | `(tactic| walk_at "st") => `(tactic| first
  | with_reducible refine sq_assoc ?_
  | with_reducible refine sq_next ?_
  | ((with_reducible apply sq_set); (walk_at "ev"))
  | ((with_reducible apply sq_ret); (walk_at "ev"))
  | ((with_reducible apply sq_own); (walk_at "ev"); rfl)
  | ((with_reducible apply sq_drop); (walk_at "ev"))
  | ((with_reducible apply sq_ifR); (walk_at "ev"); (walk_at "ite"))
  | ((with_reducible apply sq_par); (walk_at "ev"))
  | ((with_reducible apply sq_app); rfl; (walk_at "ev"); (walk_at "len"))
  | ((with_reducible apply sq_asg); (walk_at "ev"); rfl)
  | with_reducible refine sq_nx ?_)
local macro_rules | `(tactic| walk_at "run") => `(tactic| repeat walk_at "st")
local macro_rules | `(tactic| walk_at "ck") => `(tactic| first
  | with_reducible refine ck_cons ?_
  | with_reducible refine ck_op ?_
  | with_reducible refine ck_nil ?_
  | with_reducible refine ck_lst ?_
  | with_reducible refine ck_tup ?_
  | with_reducible refine ck_un ?_)
local macro_rules | `(tactic| walk_at "pure") => `(tactic| ((with_reducible refine' ck_ev ?hh ?_); (case hh => walk_at "ev")))
local macro_rules | `(tactic| walk_at "dr") => `(tactic| ((with_reducible refine' ck_draw ?h1 ?h2 ?h3 ?h4 ?_); (case h1 => walk_at "ev"); (case h2 => first | decide | omega); (case h3 => decide); (case h4 => omega)))
section
variable {P : Program} {w : World} {K : W.Frag} {mg : Str → Option Value} {base : Heap}
/-! ### _law_fewest -/
structure FwA where
  ps : List Pr
  lp : ps.length ≤ 30
noncomputable def fwF : Fn := fnOf (fun x : FwA => [lP x.ps]) fun x => .ok (dI (fewF x.ps))
theorem fw_at {ps : List Pr} (lp : ps.length ≤ 30) : fwF [lP ps] = some (.ok (dI (fewF ps))) :=
  fnOf_at (arg := fun x : FwA => [lP x.ps]) (val := fun x => .ok (dI (fewF x.ps))) (fun x y h => by rw [lP_inj (List.cons.inj h).1]) ⟨ps, lp⟩
abbrev pows : D := .lst [dI 1, dI 2, dI 4, dI 8, dI 16, dI 32, dI 64]
theorem dv_at {i j : Int} (h : divB i j = true) : ii (fun i j => if divB i j = true then some (dI (i / j)) else none) (dI i) (dI j) = some (dI (i / j)) := by
  show (if divB i j = true then some (dI (i / j)) else none) = _
  rw [if_pos h]
theorem md_at {i j : Int} (h : modB i j = true) : ii (fun i j => if modB i j = true then some (dI (i % j)) else none) (dI i) (dI j) = some (dI (i % j)) := by
  show (if modB i j = true then some (dI (i % j)) else none) = _
  rw [if_pos h]
def inM (k : Nat) : D → Bool
  | .v (.int i) => decide (k / 2 ^ i.toNat % 2 = 1)
  | _ => false
theorem taken_D (k : Nat) : (((rngD 0 7).filter (inM k)).map id) = (takenM k).map dI := by
  rw [List.map_id]
  have e : rngD 0 7 = rng7.map dI := rfl
  rw [e, filt_map dI (inM k) (fun i => decide (k / 2 ^ i.toNat % 2 = 1)) (fun _ => rfl)]
  rfl
theorem taken_len (k : Nat) : (takenM k).length ≤ 7 := List.length_filter_le _ _
abbrev s_fewest : Stmt := top 17
theorem sc_fewest : FnScope ["_law_some", "_law_best", "_law_mark", "_law_taken", "_law_one"] ["_law_some"] (defScope s_fewest) := ⟨rfl, rfl, rfl, by decide +kernel, rfl, by decide +kernel, by decide +kernel⟩
theorem ok_fewest {f : Addr} {fd : FuncData} (F : Fun K "_law_fewest" "_law_fewest" s_fewest f fd) (m_range : mg "range" = none) (m_int : mg "int" = none) (m_len : mg "len" = none) (c__law_left : CalG P w K mg base (L2.CX P w) 1 "_law_left" (spF K [.b, .b] woF)) :
    FnG P w K mg base (L2.CX P w) 2 f fd ["_law_some"] (spF K [.b] fwF) := by
  refine fn_dataR F sc_fewest rfl rfl ?_
  rintro cdv A outer s H E hr hq
  have hu := hr.units
  have hp := @passX (cxOf (L2.CX P w) P w K mg base ["_law_some", "_law_best", "_law_mark", "_law_taken", "_law_one"] "_law_fewest" (defScope s_fewest) f cdv A outer s H E) E (takes_of rfl rfl rfl rfl)
  refine ⟨_, (pss_cons (ps_set (i := 1) sc_fewest.nd rfl (Or.inl rfl) pe_int)
    (pss_cons (ps_for PassesOwn.leaving rfl (pi_range1 rfl m_range (pa_cons pe_int pa_nil)) (pg_name (i := 2) sc_fewest.nd rfl (Or.inr rfl)) (pss_cons (ps_setLc (i := 3) (own := [("_law_one", 4)]) (g := gName 4) (tt := _) rfl sc_fewest.nd rfl rfl (sw_true rfl rfl rfl rfl) (pi_range1 rfl m_range (pa_cons pe_int pa_nil)) (blkOk_by (N := ["_law_some", "_law_best", "_law_mark", "_law_taken", "_law_one"]) (sc := defScope (top 17)) (by decide +kernel)) (fun _ _ _ _ _ => (pg_name (i := 4) sc_fewest.nd rfl (Or.inl rfl))) (fun _ _ _ _ _ => (pts_one (pt_cmpR (show OpR _ (compareOp .Eq) (rEqP K true) from (op_eqP hu)) (pe_op op_mod (pe_callTy c_int (by rfl) m_int (by decide +kernel) (pa_cons (pe_op op_fdivW (pv 2) (pe_ix (show IxR _ (rIx K) from ix_seq) (pe_lst (pa_cons pe_int (pa_cons pe_int (pa_cons pe_int (pa_cons pe_int (pa_cons pe_int (pa_cons pe_int (pa_cons pe_int pa_nil)))))))) (pv 4) (fun _ _ => rfl))) pa_nil)) pe_int) pe_int (nomark _)))) (fun _ _ _ _ _ => (pv 4)))
    (pss_one (ps_if (PW.pt (pw_and (pt_cmpR op_ltD (pe_callB c_lenD (by rfl) m_len PySem.boot_len (pa_cons (pv 3) pa_nil)) (pv 1) (nomark _)) (pw_and1 (pt_cmpR (op_eqP hu) (pe_g c__law_left hr (by decide) hq hp rfl (pa_cons (pv 0) (pa_cons (pv 3) pa_nil))) (pe_lst pa_nil) (nomark _))))) (pss_one (ps_set (i := 1) sc_fewest.nd rfl (Or.inl rfl) (pe_callB c_lenD (by rfl) m_len PySem.boot_len (pa_cons (pv 3) pa_nil)))) pss_nil))))
    (pss_one (ps_ret (pv 1))))), fun S Γ => ⟨_, (ls_seq (ls_set ln_c) (ls_seq (ls_for (li_rng1 (Ln.lend ln_c)) lg_name (ls_seq (ls_set (Ln.weak (ln_lc rfl (li_rng1 (Ln.lend ln_c)) lg_name ((lt_test (Ln.lend (ln_op (Ln.lend (ln_op (Ln.lend (ln_cb1 (Ln.lend (ln_op ln_varb (Ln.lend (ln_op (Ln.lend (Ln.weak (ln_lst rfl (ln_cons rfl ln_c (ln_cons rfl ln_c (ln_cons rfl ln_c (ln_cons rfl ln_c (ln_cons rfl ln_c (ln_cons rfl ln_c (ln_cons rfl ln_c ln_nil)))))))))) ln_varb p2_ix)) p2_div)) p1_int)) (Ln.lend ln_c) p2_mod)) (Ln.lend ln_c) p2_eq)))) ln_var))) (ls_end (ls_if (lt_and (lt_test (Ln.lend (ln_op (Ln.lend (ln_cb1 ln_varb p1_len)) ln_varb p2_cmp))) (lt_test (Ln.lend (ln_op (Ln.lend (ln_call rfl (ln_cons rfl ln_varb (ln_cons rfl ln_varb ln_nil)))) (Ln.lend (Ln.weak (ln_lst rfl ln_nil))) p2_eq)))) (ls_end (ls_set (ln_cb1 ln_varb p1_len))) ls_next)))) (ls_end (ls_ret ln_var)))), ?_⟩⟩
  intro ds r s e
  obtain ⟨⟨ps, lp⟩, rfl, rfl⟩ := fnOf_of e
  have lp : ps.length ≤ 30 := lp
  show DL.Run _ (envD [.b] _ [lP ps]) s (postF s (.ok (dI (fewF ps))))
  walk_at "run"
  with_reducible refine sq_for (fun ds ρ s' => s' = s ∧ ∃ (l : List Nat) (b : Nat), ρ = [.bor (lP ps), .d (dI b), .no, .no, .no] ∧ ds = l.map (fun k : Nat => dI (0 + (k : Int))) ∧ fewF ps = l.foldl (fewT ps) b) (evl_rng1 ev_c (by decide)) ⟨rfl, List.range 128, 7, rfl, rfl, rfl⟩ ?_ ?_
  · rintro ρ s' ⟨rfl, l, b, rfl, h1, h2⟩
    cases l with
    | cons => cases h1
    | nil =>
      walk_at "run"
      exact ⟨by rw [h2]; rfl, rfl⟩
  · rintro d r Fr Bk hF hB ρ s' ⟨rfl, l, b, rfl, h1, h2⟩
    cases l with
    | nil => cases h1
    | cons k l =>
      rw [List.map_cons] at h1
      obtain ⟨rfl, rfl⟩ := List.cons.inj h1
      rw [Int.zero_add] at *
      refine ⟨_, rfl, ?_⟩
      with_reducible apply sq_set
      · with_reducible apply ev_eq
        · with_reducible apply ev_lc (inM k) id
          · exact evl_rng1 ev_c (by decide)
          · intro d hd
            have hd : d = dI 0 ∨ d = dI 1 ∨ d = dI 2 ∨ d = dI 3 ∨ d = dI 4 ∨ d = dI 5 ∨ d = dI 6 := by
              have hd : d ∈ rng7.map dI := hd
              simpa [rng7] using hd
            have bit : ∀ x : Nat, (true == (((k : Int) / (x : Int)) % 2 == 1)) = decide (k / x % 2 = 1) := fun x => by
              rw [Bool.eq_iff_iff]
              simp only [beq_iff_eq, Bool.true_eq, decide_eq_true_eq]
              constructor
              · intro h; exact_mod_cast h
              · intro h; exact_mod_cast h
            rcases hd with rfl | rfl | rfl | rfl | rfl | rfl | rfl
            · have d1 := dv_at (i := (k : Int)) (j := 1) rfl
              have d2 := md_at (i := (k : Int) / 1) (j := 2) rfl
              exact ⟨_, rfl, by (with_reducible apply evb_eq); (walk_at "ev"); exact bit 1, fun _ => by walk_at "ev"⟩
            · have d1 := dv_at (i := (k : Int)) (j := 2) rfl
              have d2 := md_at (i := (k : Int) / 2) (j := 2) rfl
              exact ⟨_, rfl, by (with_reducible apply evb_eq); (walk_at "ev"); exact bit 2, fun _ => by walk_at "ev"⟩
            · have d1 := dv_at (i := (k : Int)) (j := 4) rfl
              have d2 := md_at (i := (k : Int) / 4) (j := 2) rfl
              exact ⟨_, rfl, by (with_reducible apply evb_eq); (walk_at "ev"); exact bit 4, fun _ => by walk_at "ev"⟩
            · have d1 := dv_at (i := (k : Int)) (j := 8) rfl
              have d2 := md_at (i := (k : Int) / 8) (j := 2) rfl
              exact ⟨_, rfl, by (with_reducible apply evb_eq); (walk_at "ev"); exact bit 8, fun _ => by walk_at "ev"⟩
            · have d1 := dv_at (i := (k : Int)) (j := 16) rfl
              have d2 := md_at (i := (k : Int) / 16) (j := 2) rfl
              exact ⟨_, rfl, by (with_reducible apply evb_eq); (walk_at "ev"); exact bit 16, fun _ => by walk_at "ev"⟩
            · have d1 := dv_at (i := (k : Int)) (j := 32) rfl
              have d2 := md_at (i := (k : Int) / 32) (j := 2) rfl
              exact ⟨_, rfl, by (with_reducible apply evb_eq); (walk_at "ev"); exact bit 32, fun _ => by walk_at "ev"⟩
            · have d1 := dv_at (i := (k : Int)) (j := 64) rfl
              have d2 := md_at (i := (k : Int) / 64) (j := 2) rfl
              exact ⟨_, rfl, by (with_reducible apply evb_eq); (walk_at "ev"); exact bit 64, fun _ => by walk_at "ev"⟩
          · exact le_line (Nat.le_of_ble_eq_true rfl)
        · exact congrArg D.lst (taken_D k)
      · have l1 : lenD (.lst ((takenM k).map dI)) = some (dI ((takenM k).length : Nat)) := by rw [lenD_l, List.length_map]
        have w1 : woF [lP ps, .lst ((takenM k).map dI)] = some (.ok (lP (wo ps (takenM k)))) := wo_at (b := false) (Nat.le_trans lp (by decide)) (Nat.le_trans (taken_len k) (by decide))
        have q0 := eq_P0 (b := true) (ps := wo ps (takenM k))
        by_cases a1 : (takenM k).length < b
        · have a1' : decide (((takenM k).length : Int) < (b : Int)) = true := decide_eq_true (by omega)
          by_cases a2 : wo ps (takenM k) = []
          · have q1 : eqD true (lP (wo ps (takenM k))) (.lst []) = some (dB true) := by rw [q0, a2]; rfl
            clear q0
            walk_at "run"
            exact ⟨rfl, hF _ _ ⟨rfl, l, (takenM k).length, rfl, rfl, by rw [h2, List.foldl_cons]; unfold fewT; rw [if_pos ⟨a1, a2⟩]⟩⟩
          · have q1 : eqD true (lP (wo ps (takenM k))) (.lst []) = some (dB false) := by
              rw [q0]
              cases q : wo ps (takenM k) with
              | nil => exact absurd q a2
              | cons => rfl
            clear q0
            walk_at "run"
            exact ⟨rfl, hF _ _ ⟨rfl, l, b, rfl, rfl, by rw [h2, List.foldl_cons]; unfold fewT; rw [if_neg fun z => a2 z.2]⟩⟩
        · have a1' : decide (((takenM k).length : Int) < (b : Int)) = false := decide_eq_false (by omega)
          walk_at "run"
          exact ⟨rfl, hF _ _ ⟨rfl, l, b, rfl, rfl, by rw [h2, List.foldl_cons]; unfold fewT; rw [if_neg fun z => a1 z.1]⟩⟩
end
end L2.K58
namespace L2.K58
open L2 L2.My L2.DL NdefX PySem PySem.Spec PyProof.Rows
local macro_rules | `(tactic| walk_at "tru0") => `(tactic| first
  | rfl
  | with_reducible assumption
  | decide)
local macro_rules | `(tactic| walk_at "tru") => `(tactic| first
  | rfl
  | with_reducible assumption
  | decide
  | (simp; done))
local macro_rules | `(tactic| walk_at "val") => `(tactic| first
  | with_reducible assumption
  | with_reducible exact cmpD_i
  | with_reducible exact eqD_i
  | with_reducible exact eqD_s
  | with_reducible exact eqD_b
  | with_reducible exact eqD_n
  | with_reducible exact eqD_in
  | with_reducible exact eqD_ni
  | with_reducible exact eqD_sn
  | with_reducible exact eqD_ns
  | with_reducible exact ix_0
  | with_reducible exact ix_1
  | with_reducible exact in_P
  | with_reducible exact in_pair
  | with_reducible exact in_I
  | with_reducible exact in_tI
  | with_reducible exact in_dT
  | with_reducible exact eq_P0
  | with_reducible exact eq_I0
  | with_reducible exact cmpD_s
  | with_reducible exact lenD_l
  | with_reducible exact lenD_t
  | rfl)
local macro_rules | `(tactic| walk_at "len") => `(tactic| ((refine le_line ?_); (simp only [List.length_cons, List.length_nil, List.length_append]); (first | done | decide | omega)))
local macro_rules | `(tactic| walk_at "ev") => `(tactic| first
  | with_reducible exact ev_c
  | ((with_reducible apply ev_vd); rfl)
  | ((with_reducible apply ev_vb); rfl)
  | ((with_reducible apply ev_vs); rfl)
  | ((with_reducible apply ev_vo); rfl)
  | ((with_reducible apply ev_op); walk_at "ev"; walk_at "ev"; walk_at "val")
  | ((with_reducible apply ev_un); walk_at "ev"; walk_at "val")
  | with_reducible exact ev_nil
  | ((with_reducible apply ev_cons); walk_at "ev"; walk_at "ev")
  | ((with_reducible apply ev_tup); walk_at "ev"; walk_at "len")
  | ((with_reducible apply ev_lst); walk_at "ev"; walk_at "len")
  | ((with_reducible apply ev_not); walk_at "ev")
  | ((with_reducible apply ev_andR); walk_at "ev"; walk_at "and")
  | ((with_reducible apply ev_orR); walk_at "ev"; walk_at "and")
  | ((with_reducible apply ev_ifR); walk_at "ev"; walk_at "ite"; walk_at "ev")
  | ((with_reducible apply evb_test); walk_at "ev")
  | ((with_reducible apply evb_not); walk_at "ev")
  | with_reducible exact evb_yes
  | ((with_reducible apply evb_andR); walk_at "ev"; walk_at "and")
  | ((with_reducible apply evb_orR); walk_at "ev"; walk_at "and")
  | ((with_reducible apply ev_chain); walk_at "ev"; walk_at "ev"; walk_at "ev"; walk_at "val"; walk_at "val")
  | ((with_reducible apply ev_call); walk_at "ev"; walk_at "val")
  | ((with_reducible apply ev_mk); walk_at "ev"; walk_at "val")
  | ((with_reducible apply ev_fld); walk_at "ev"; walk_at "att"; walk_at "val")
  | ((with_reducible apply ev_sl); walk_at "ev"; walk_at "ev"; walk_at "ev"; walk_at "val")
  | ((with_reducible apply ev_sw1); walk_at "ev")
  | ((with_reducible apply ev_sw2); walk_at "ev")
  | ((with_reducible apply evl_seq); walk_at "ev"; rfl)
  | with_reducible exact evo_none
  | ((with_reducible apply evo_some); walk_at "ev"))
local macro_rules | `(tactic| walk_at "att") => `(tactic| first
  | with_reducible assumption
  | apply_assumption)
local macro_rules | `(tactic| walk_at "and") => `(tactic| first
  | ((with_reducible apply AndR.t); (focus (walk_at "tru0")); walk_at "ev")
  | ((with_reducible apply AndR.f); walk_at "tru0")
  | ((with_reducible apply AndR.b); intro _; walk_at "ev")
  | ((with_reducible apply OrR.t); walk_at "tru0")
  | ((with_reducible apply OrR.f); (focus (walk_at "tru0")); walk_at "ev")
  | ((with_reducible apply OrR.b); intro _; walk_at "ev")
  | ((with_reducible apply BAndR.t); (focus (walk_at "tru0")); walk_at "ev")
  | ((with_reducible apply BAndR.f); walk_at "tru0")
  | ((with_reducible apply BAndR.b); intro _; walk_at "ev")
  | ((with_reducible apply BOrR.t); walk_at "tru0")
  | ((with_reducible apply BOrR.f); (focus (walk_at "tru0")); walk_at "ev")
  | ((with_reducible apply BOrR.b); intro _; walk_at "ev"))
local macro_rules | `(tactic| walk_at "ite") => `(tactic| first
  | ((with_reducible refine ite_t ?_ ?_); (focus (walk_at "tru0")))
  | ((with_reducible refine ite_f ?_ ?_); (focus (walk_at "tru0")))
  | ((with_reducible refine ite_t ?_ ?_); (focus (walk_at "tru")))
  | ((with_reducible refine ite_f ?_ ?_); (focus (walk_at "tru"))))
local macro_rules | `(tactic| walk_at "st") => `(tactic| first
  | with_reducible refine sq_assoc ?_
  | with_reducible refine sq_next ?_
  | ((with_reducible apply sq_set); (walk_at "ev"))
  | ((with_reducible apply sq_ret); (walk_at "ev"))
  | ((with_reducible apply sq_own); (walk_at "ev"); rfl)
  | ((with_reducible apply sq_drop); (walk_at "ev"))
  | ((with_reducible apply sq_ifR); (walk_at "ev"); (walk_at "ite"))
  | ((with_reducible apply sq_par); (walk_at "ev"))
  | ((with_reducible apply sq_app); rfl; (walk_at "ev"); (walk_at "len"))
  | ((with_reducible apply sq_asg); (walk_at "ev"); rfl)
  | with_reducible refine sq_nx ?_)
local macro_rules | `(tactic| walk_at "run") => `(tactic| repeat walk_at "st")
local macro_rules | `(tactic| walk_at "ck") => `(tactic| first
  | with_reducible refine ck_cons ?_
  | with_reducible refine ck_op ?_
  | with_reducible refine ck_nil ?_
  | with_reducible refine ck_lst ?_
  | with_reducible refine ck_tup ?_
  | with_reducible refine ck_un ?_)
local macro_rules | `(tactic| walk_at "pure") => `(tactic| ((with_reducible refine' ck_ev ?hh ?_); (case hh => walk_at "ev")))
local macro_rules | `(tactic| walk_at "dr") => `(tactic| ((with_reducible refine' ck_draw ?h1 ?h2 ?h3 ?h4 ?_); (case h1 => walk_at "ev"); (case h2 => first | decide | omega); (case h3 => decide); (case h4 => omega)))
section
variable {P : Program} {w : World} {K : W.Frag} {mg : Str → Option Value} {base : Heap}
/-! ### _law_sure -/
structure SuA (k : Nat) where
  ps : List Pr
  m : Int
  lp : ps.length ≤ 30
  sm : Small ps
  lt : ps.length < k
noncomputable def suF (k : Nat) : Fn := fnOf (fun x : SuA k => [lP x.ps, dI x.m]) fun x => .ok (sureF k x.ps x.m).d
theorem su_at {k : Nat} {ps : List Pr} {m : Int} (lp : ps.length ≤ 30) (sm : Small ps) (lt : ps.length < k) : suF k [lP ps, dI m] = some (.ok (sureF k ps m).d) :=
  fnOf_at (arg := fun x : SuA k => [lP x.ps, dI x.m]) (val := fun x => .ok (sureF k x.ps x.m).d) (fun x y h => by
    obtain ⟨h1, h2⟩ := List.cons.inj h
    have h3 := (List.cons.inj h2).1
    rw [D.v.injEq, V.int.injEq] at h3
    rw [lP_inj h1, h3]) ⟨ps, m, lp, sm, lt⟩
theorem ssP_at {ps : List Pr} (l : ps.length < 64) (h : ps.all smallP = true) : ssP (lP ps) = some (lP (sortK kp ps)) := by
  unfold ssP
  simp only [asPs_map, Option.bind_some, l, h, and_self, if_true]
def inS (ps : List Pr) : D → Bool
  | .v (.int n) => decide ((n, n) ∉ loopsP ps) && decide (mateI ps n ≠ [])
  | _ => false
theorem nums_D (ps : List Pr) : (((rngD 0 7).filter (inS ps)).map id) = (numsS ps).map dI := by
  rw [List.map_id]
  have e : rngD 0 7 = rng7.map dI := rfl
  rw [e, filt_map dI (inS ps) (fun n => decide ((n, n) ∉ loopsP ps) && decide (mateI ps n ≠ [])) (fun _ => rfl)]
  rfl
theorem empty_ne {l : List Int} : (false == l.isEmpty) = decide (l ≠ []) := by cases l <;> rfl
abbrev s_sure : Stmt := top 18
theorem sc_sure : FnScope ["_law_some", "_law_most", "_law_loops", "_law_numbers", "_law_mates_here", "_law_taken", "_law_one", "_law_pair"] ["_law_some", "_law_most"] (defScope s_sure) := ⟨rfl, rfl, rfl, by decide +kernel, rfl, by decide +kernel, by decide +kernel⟩
theorem ok_sure (k : Nat) {v : Nat} (hv : v = k + 2) {f : Addr} {fd : FuncData} (F : Fun K "_law_sure" "_law_sure" s_sure f fd) (m_set : mg "set" = none) (m_sorted : mg "sorted" = none) (m_range : mg "range" = none) (m_tuple : mg "tuple" = none) (m_len : mg "len" = none)
    (c__law_mates : CalG P w K mg base (L2.CX P w) 1 "_law_mates" (spF K [.b, .b] maF)) (c__law_left : CalG P w K mg base (L2.CX P w) 1 "_law_left" (spF K [.b, .b] woF)) (c__law_sure : CalG P w K mg base (L2.CX P w) v "_law_sure" (spF K [.b, .b] (suF k))) :
    FnG P w K mg base (L2.CX P w) (v + 1) f fd ["_law_some", "_law_most"] (spF K [.b, .b] (suF (k + 1))) := by
  subst hv
  refine fn_dataR F sc_sure rfl rfl ?_
  rintro cdv A outer s H E hr hq
  have hu := hr.units
  have hp := @passX (cxOf (L2.CX P w) P w K mg base ["_law_some", "_law_most", "_law_loops", "_law_numbers", "_law_mates_here", "_law_taken", "_law_one", "_law_pair"] "_law_sure" (defScope s_sure) f cdv A outer s H E) E (takes_of rfl rfl rfl rfl)
  refine ⟨_, (pss_cons (ps_if (pt_cmpR op_ltD (pv 1) pe_int (nomark _)) (pss_one (ps_ret pe_non)) pss_nil)
    (pss_cons (ps_set (i := 2) sc_sure.nd rfl (Or.inr rfl) (pe_callB (cr_sortedT rfl) (by rfl) m_sorted (by decide +kernel) (pa_cons (pe_callTy (cr_setOfT rfl hu) (by rfl) m_set (by decide +kernel) (pa_cons (pe_lc (own := [("_law_pair", 7)]) (g := gName 7) (tt := _) rfl sc_sure.nd (pi_seq (pv 0)) (blkOk_by (N := ["_law_some", "_law_most", "_law_loops", "_law_numbers", "_law_mates_here", "_law_taken", "_law_one", "_law_pair"]) (sc := defScope (top 18)) (by decide +kernel)) (fun _ _ _ _ _ => (pg_name (i := 7) sc_sure.nd rfl (Or.inl rfl))) (fun _ _ _ _ _ => (pts_one (pt_cmpR (show OpR _ (compareOp .Eq) (rEqP K true) from (op_eqP hu)) (pe_ix (show IxR _ (rIx K) from ix_seq) (pv 7) pe_int (fun _ _ => rfl)) (pe_ix (show IxR _ (rIx K) from ix_seq) (pv 7) pe_int (fun _ _ => rfl)) (nomark _)))) (fun _ _ _ _ _ => (pv 7))) pa_nil)) pa_nil)))
    (pss_cons (ps_setLc (i := 3) (own := [("_law_one", 6)]) (g := gName 6) (tt := _) rfl sc_sure.nd rfl rfl (sw_true rfl rfl rfl rfl) (pi_range1 rfl m_range (pa_cons pe_int pa_nil)) (blkOk_by (N := ["_law_some", "_law_most", "_law_loops", "_law_numbers", "_law_mates_here", "_law_taken", "_law_one", "_law_pair"]) (sc := defScope (top 18)) (by decide +kernel)) (fun _ _ _ _ _ => (pg_name (i := 6) sc_sure.nd rfl (Or.inl rfl))) (fun _ _ _ _ _ => (pts_one (PW.pt (pw_and (pt_cmpR (show OpR _ (compareOp .NotIn) (rInX K false) from (op_notInX hu)) (pe_tup (pa_cons (pv 6) (pa_cons (pv 6) pa_nil))) (pv 2) (by rfl)) (pw_and1 (pt_cmpR (show OpR _ (compareOp .NotEq) (rEqP K false) from (op_neP hu)) (pe_g c__law_mates hr (by first | decide | omega) hq passF rfl (pa_cons (pv 0) (pa_cons (pv 6) pa_nil))) (pe_lst pa_nil) (nomark _))))))) (fun _ _ _ _ _ => (pv 6)))
    (pss_cons (ps_if (pt_cmpR (op_eqP hu) (pv 3) (pe_lst pa_nil) (nomark _)) (pss_one (ps_ret (pe_tup (pa_cons pe_str (pa_cons (pe_callTy call_tuple_of (by rfl) m_tuple (by decide +kernel) (pa_cons (pv 2) pa_nil)) pa_nil))))) pss_nil)
    (pss_cons (ps_set (i := 4) sc_sure.nd rfl (Or.inl rfl) (pe_g c__law_mates hr (by first | decide | omega) hq hp rfl (pa_cons (pv 0) (pa_cons (pe_ix ix_seq (pv 3) pe_int (fun _ _ => rfl)) pa_nil))))
    (pss_cons (ps_set (i := 5) sc_sure.nd rfl (Or.inl rfl) (pe_g c__law_sure hr (by first | decide | omega) hq hp rfl (pa_cons (pe_g c__law_left hr (by first | decide | omega) hq hp rfl (pa_cons (pv 0) (pa_cons (pe_slice sl_D (pv 3) po_none (po_some pe_int)) pa_nil))) (pa_cons (pe_op op_sub (pv 1) pe_int) pa_nil))))
    (pss_one (ps_ret (pe_tup (pa_cons pe_str (pa_cons (pe_ix ix_seq (pv 3) pe_int (fun _ _ => rfl)) (pa_cons (pv 5) (pa_cons (pe_g c__law_sure hr (by first | decide | omega) hq hp rfl (pa_cons (pe_g c__law_left hr (by first | decide | omega) hq hp rfl (pa_cons (pv 0) (pa_cons (pv 4) pa_nil))) (pa_cons (pe_op op_sub (pv 1) (pe_callB c_lenD (by rfl) m_len PySem.boot_len (pa_cons (pv 4) pa_nil))) pa_nil))) pa_nil))))))))))))), fun S Γ => ⟨_, (ls_seq (ls_if (lt_test (Ln.lend (ln_op ln_varb (Ln.lend ln_c) p2_cmp))) (ls_end (ls_ret ln_c)) ls_next) (ls_seq (ls_set (Ln.weak (ln_ssP (Ln.lend (Ln.weak (ln_lc rfl (li_seqb ln_varb) lg_name ((lt_test (Ln.lend (ln_op (Ln.lend (ln_op ln_varb (Ln.lend ln_c) p2_ix)) (Ln.lend (ln_op ln_varb (Ln.lend ln_c) p2_ix)) p2_eq)))) ln_var)))))) (ls_seq (ls_set (Ln.weak (ln_lc rfl (li_rng1 (Ln.lend ln_c)) lg_name ((lt_and (lt_test (Ln.lend (ln_op (Ln.lend (ln_tup rfl (ln_cons rfl ln_var (ln_cons rfl ln_var ln_nil)))) ln_varb p2_inX))) (lt_test (Ln.lend (ln_op (Ln.lend (ln_call rfl (ln_cons rfl ln_varb (ln_cons rfl ln_varb ln_nil)))) (Ln.lend (Ln.weak (ln_lst rfl ln_nil))) p2_eq))))) ln_var))) (ls_seq (ls_if (lt_test (Ln.lend (ln_op ln_varb (Ln.lend (Ln.weak (ln_lst rfl ln_nil))) p2_eq))) (ls_end (ls_ret (ln_tup rfl (ln_cons rfl ln_c (ln_cons rfl (ln_cb1 ln_varb p1_tup) ln_nil))))) ls_next) (ls_seq (ls_set (ln_call rfl (ln_cons rfl ln_varb (ln_cons rfl (Ln.lend (ln_op ln_varb (Ln.lend ln_c) p2_ix)) ln_nil)))) (ls_seq (ls_set (ln_call rfl (ln_cons rfl (Ln.lend (ln_call rfl (ln_cons rfl ln_varb (ln_cons rfl (Ln.lend (ln_sl (f := slD) ln_varb lo_none (lo_some (Ln.lend ln_c)) p3_sl)) ln_nil)))) (ln_cons rfl (Ln.lend (ln_op ln_varb (Ln.lend ln_c) p2_rI0)) ln_nil)))) (ls_end (ls_ret (ln_tup rfl (ln_cons rfl ln_c (ln_cons rfl (ln_op ln_varb (Ln.lend ln_c) p2_ix) (ln_cons rfl ln_var (ln_cons rfl (ln_call rfl (ln_cons rfl (Ln.lend (ln_call rfl (ln_cons rfl ln_varb (ln_cons rfl ln_varb ln_nil)))) (ln_cons rfl (Ln.lend (ln_op ln_varb (Ln.lend (ln_cb1 ln_varb p1_len)) p2_rI0)) ln_nil))) ln_nil))))))))))))), ?_⟩⟩
  intro ds r s e
  obtain ⟨⟨ps, m, lp, sm, lt⟩, rfl, rfl⟩ := fnOf_of e
  have lp : ps.length ≤ 30 := lp
  have sm : Small ps := sm
  have lt : ps.length < k + 1 := lt
  show DL.Run _ (envD [.b, .b] _ [lP ps, dI m]) s (postF s (.ok (sureF (k + 1) ps m).d))
  by_cases hm : m < 0
  · have h1 : decide (m < 0) = true := decide_eq_true hm
    walk_at "run"
    exact ⟨by unfold sureF; rw [if_pos hm]; rfl, rfl⟩
  · have h1 : decide (m < 0) = false := decide_eq_false hm
    walk_at "st"
    with_reducible refine sq_next ?_
    with_reducible apply sq_set
    · with_reducible apply ev_un
      · with_reducible apply ev_lc (fun d => decide ((toP d).1 = (toP d).2)) id
        · walk_at "ev"
        · intro d hd
          obtain ⟨p, hp, rfl⟩ := List.mem_map.mp hd
          refine ⟨_, rfl, ?_, fun _ => by walk_at "ev"⟩
          with_reducible apply evb_eq
          · walk_at "ev"
          · show (true == (p.1 == p.2)) = decide (p.1 = p.2)
            rw [Bool.eq_iff_iff]
            simp
        · rw [List.length_map]; exact le_line (Nat.le_trans lp (by decide))
      · have e : (((ps.map dP).filter fun d => decide ((toP d).1 = (toP d).2)).map id) = (ps.filter fun p => decide (p.1 = p.2)).map dP := by
          rw [List.map_id, filt_map dP _ (fun p => decide (p.1 = p.2)) (fun _ => rfl)]
        rw [e]
        exact ssP_at (Nat.lt_of_le_of_lt (Nat.le_trans (List.length_filter_le _ _) lp) (by decide)) (List.all_eq_true.mpr fun p hp => small_P (sm p (List.mem_filter.mp hp).1))
    with_reducible apply sq_set
    · with_reducible apply ev_eq
      · with_reducible apply ev_lc (inS ps) id
        · exact evl_rng1 ev_c (by decide)
        · intro d hd
          have hd : d ∈ rng7.map dI := hd
          obtain ⟨n, hn, rfl⟩ := List.mem_map.mp hd
          have k1 : inX false (.tup [dI n, dI n]) (.lst ((sortK kp (ps.filter fun p => decide (p.1 = p.2))).map dP)) = some (dB (decide ((n, n) ∉ loopsP ps))) := by
            have := in_P (b := false) (p := (n, n)) (ps := loopsP ps)
            refine this.trans ?_
            congr 2
            rw [Bool.eq_iff_iff]
            simp only [beq_iff_eq, Bool.false_eq, decide_eq_true_eq, decide_eq_false_iff_not]
          have k2 := ma_at (n := n) lp
          have k3 : eqD false (lI (mateI ps n)) (.lst []) = some (dB (decide (mateI ps n ≠ []))) := by rw [eq_I0, empty_ne]
          refine ⟨_, rfl, ?_, fun _ => by walk_at "ev"⟩
          with_reducible apply evb_eq
          · walk_at "ev"
          · rfl
        · exact le_line (Nat.le_of_ble_eq_true rfl)
      · exact congrArg D.lst (nums_D ps)
    have q0 := eq_I0 (b := true) (ns := numsS ps)
    cases hns : numsS ps with
    | nil =>
      rw [hns] at q0
      have q1 : eqD true (.lst (([] : List Int).map dI)) (.lst []) = some (dB true) := q0
      clear q0
      have t1 : tupD (.lst ((loopsP ps).map dP)) = some (tP (loopsP ps)) := rfl
      walk_at "run"
      exact ⟨by unfold sureF; rw [if_neg hm, hns]; rfl, rfl⟩
    | cons n t =>
      rw [hns] at q0
      have q1 : eqD true (.lst ((n :: t).map dI)) (.lst []) = some (dB false) := q0
      clear q0
      have hn : n ∈ numsS ps := by rw [hns]; exact List.mem_cons_self
      obtain ⟨h1, h2, h3, h4, h5⟩ := chosen sm hn
      have x1 : ixD (.lst ((n :: t).map dI)) (dI 0) = some (dI n) := by
        show atI _ _ = _
        unfold atI ixN
        simp
      have x2 : slD (.lst ((n :: t).map dI)) none (some 1) = some (.lst [dI n]) := by
        show some (D.lst (cutL _ none (some 1))) = _
        simp [cutL, List.map_cons, HT.sIx]
      have k2 := ma_at (n := n) lp
      have w1 : woF [lP ps, .lst [dI n]] = some (.ok (lP (wo ps [n]))) := wo_at (b := false) (ns := [n]) (Nat.le_trans lp (by decide)) (Nat.le_of_ble_eq_true rfl)
      have w2 : woF [lP ps, lI (mateI ps n)] = some (.ok (lP (wo ps (mateI ps n)))) := wo_at (b := false) (Nat.le_trans lp (by decide)) (by rw [h2]; have := part_len ps n; omega)
      have s1 := su_at (k := k) (m := m - 1) (Nat.le_trans (Nat.le_of_lt h4) lp) (small_wo sm) (by omega)
      have s2 : suF k [lP (wo ps (mateI ps n)), dI (m - ((mateI ps n).length : Int))] = some (.ok (sureF k (wo ps (mateI ps n)) (m - ((mateI ps n).length : Int))).d) := su_at (Nat.le_trans (List.length_filter_le _ _) lp) (small_wo sm) (by rw [h2]; omega)
      have l1 : lenD (lI (mateI ps n)) = some (dI ((mateI ps n).length : Int)) := by rw [lenD_l, List.length_map]
      walk_at "run"
      have e : sureF (k + 1) ps m = .case n (sureF k (wo ps [n]) (m - 1)) (sureF k (wo ps (mateI ps n)) (m - (mateI ps n).length)) := by rw [sureF, if_neg hm, hns]
      exact ⟨by rw [e]; rfl, rfl⟩
/-- no depth at all: nothing is promised -/
theorem sure_none {f : Addr} {fd : FuncData} {ps : List Str} {l : Nat} : FnG P w K mg base (L2.CX P w) l f fd ps (spF K [.b, .b] (suF 0)) := by
  have no : ∀ {vs H Q E}, spF K [.b, .b] (suF 0) vs H Q E → False := by
    rintro vs H Q E ⟨S, Γ, M, s, ds, _, _, _, _, q⟩
    obtain ⟨y, e, _⟩ := opt_ex q
    obtain ⟨x, _, _⟩ := fnOf_of e
    exact Nat.not_lt_zero _ x.lt
  exact ⟨fun vs H Q E h => (no h).elim, fun A outer s H args us vs Q E _ _ _ _ _ h => (no h).elim⟩
end
end L2.K58
namespace L2.K58
open L2 L2.My L2.DL NdefX PySem PySem.Spec PyProof.Rows
local macro_rules | `(tactic| walk_at "tru0") => `(tactic| first
  | rfl
  | with_reducible assumption
  | decide)
local macro_rules | `(tactic| walk_at "tru") => `(tactic| first
  | rfl
  | with_reducible assumption
  | decide
  | (simp; done))
local macro_rules | `(tactic| walk_at "val") => `(tactic| first
  | with_reducible assumption
  | with_reducible exact cmpD_i
  | with_reducible exact eqD_i
  | with_reducible exact eqD_s
  | with_reducible exact eqD_b
  | with_reducible exact eqD_n
  | with_reducible exact eqD_in
  | with_reducible exact eqD_ni
  | with_reducible exact eqD_sn
  | with_reducible exact eqD_ns
  | with_reducible exact ix_0
  | with_reducible exact ix_1
  | with_reducible exact in_P
  | with_reducible exact in_pair
  | with_reducible exact in_I
  | with_reducible exact in_tI
  | with_reducible exact in_dT
  | with_reducible exact eq_P0
  | with_reducible exact eq_I0
  | with_reducible exact cmpD_s
  | with_reducible exact lenD_l
  | with_reducible exact lenD_t
  | rfl)
local macro_rules | `(tactic| walk_at "len") => `(tactic| ((refine le_line ?_); (simp only [List.length_cons, List.length_nil, List.length_append, List.length_map]); (first | done | decide | omega)))
local macro_rules | `(tactic| walk_at "ev") => `(tactic| first
  | with_reducible exact ev_c
  | ((with_reducible apply ev_vd); rfl)
  | ((with_reducible apply ev_vb); rfl)
  | ((with_reducible apply ev_vs); rfl)
  | ((with_reducible apply ev_vo); rfl)
  | ((with_reducible apply ev_op); walk_at "ev"; walk_at "ev"; walk_at "val")
  | ((with_reducible apply ev_un); walk_at "ev"; walk_at "val")
  | with_reducible exact ev_nil
  | ((with_reducible apply ev_cons); walk_at "ev"; walk_at "ev")
  | ((with_reducible apply ev_tup); walk_at "ev"; walk_at "len")
  | ((with_reducible apply ev_lst); walk_at "ev"; walk_at "len")
  | ((with_reducible apply ev_not); walk_at "ev")
  | ((with_reducible apply ev_andR); walk_at "ev"; walk_at "and")
  | ((with_reducible apply ev_orR); walk_at "ev"; walk_at "and")
  | ((with_reducible apply ev_ifR); walk_at "ev"; walk_at "ite"; walk_at "ev")
  | ((with_reducible apply evb_test); walk_at "ev")
  | ((with_reducible apply evb_not); walk_at "ev")
  | with_reducible exact evb_yes
  | ((with_reducible apply evb_andR); walk_at "ev"; walk_at "and")
  | ((with_reducible apply evb_orR); walk_at "ev"; walk_at "and")
  | ((with_reducible apply ev_chain); walk_at "ev"; walk_at "ev"; walk_at "ev"; walk_at "val"; walk_at "val")
  | ((with_reducible apply ev_call); walk_at "ev"; walk_at "val")
  | ((with_reducible apply ev_mk); walk_at "ev"; walk_at "val")
  | ((with_reducible apply ev_fld); walk_at "ev"; walk_at "att"; walk_at "val")
  | ((with_reducible apply ev_sl); walk_at "ev"; walk_at "ev"; walk_at "ev"; walk_at "val")
  | ((with_reducible apply ev_sw1); walk_at "ev")
  | ((with_reducible apply ev_sw2); walk_at "ev")
  | ((with_reducible apply evl_seq); walk_at "ev"; rfl)
  | with_reducible exact evo_none
  | ((with_reducible apply evo_some); walk_at "ev"))
local macro_rules | `(tactic| walk_at "att") => `(tactic| first
  | with_reducible assumption
  | apply_assumption)
local macro_rules | `(tactic| walk_at "and") => `(tactic| first
  | ((with_reducible apply AndR.t); (focus (walk_at "tru0")); walk_at "ev")
  | ((with_reducible apply AndR.f); walk_at "tru0")
  | ((with_reducible apply AndR.b); intro _; walk_at "ev")
  | ((with_reducible apply OrR.t); walk_at "tru0")
  | ((with_reducible apply OrR.f); (focus (walk_at "tru0")); walk_at "ev")
  | ((with_reducible apply OrR.b); intro _; walk_at "ev")
  | ((with_reducible apply BAndR.t); (focus (walk_at "tru0")); walk_at "ev")
  | ((with_reducible apply BAndR.f); walk_at "tru0")
  | ((with_reducible apply BAndR.b); intro _; walk_at "ev")
  | ((with_reducible apply BOrR.t); walk_at "tru0")
  | ((with_reducible apply BOrR.f); (focus (walk_at "tru0")); walk_at "ev")
  | ((with_reducible apply BOrR.b); intro _; walk_at "ev"))
local macro_rules | `(tactic| walk_at "ite") => `(tactic| first
  | ((with_reducible refine ite_t ?_ ?_); (focus (walk_at "tru0")))
  | ((with_reducible refine ite_f ?_ ?_); (focus (walk_at "tru0")))
  | ((with_reducible refine ite_t ?_ ?_); (focus (walk_at "tru")))
  | ((with_reducible refine ite_f ?_ ?_); (focus (walk_at "tru"))))
local macro_rules | `(tactic| walk_at "st") => `(tactic| first
  | with_reducible refine sq_assoc ?_
  | with_reducible refine sq_next ?_
  | ((with_reducible apply sq_set); (walk_at "ev"))
  | ((with_reducible apply sq_ret); (walk_at "ev"))
  | ((with_reducible apply sq_own); (walk_at "ev"); rfl)
  | ((with_reducible apply sq_drop); (walk_at "ev"))
  | ((with_reducible apply sq_ifR); (walk_at "ev"); (walk_at "ite"))
  | ((with_reducible apply sq_par); (walk_at "ev"))
  | ((with_reducible apply sq_app); rfl; (walk_at "ev"); (walk_at "len"))
  | ((with_reducible apply sq_asg); (walk_at "ev"); rfl)
  | with_reducible refine sq_nx ?_)
local macro_rules | `(tactic| walk_at "run") => `(tactic| repeat walk_at "st")
local macro_rules | `(tactic| walk_at "ck") => `(tactic| first
  | with_reducible refine ck_cons ?_
  | with_reducible refine ck_op ?_
  | with_reducible refine ck_nil ?_
  | with_reducible refine ck_lst ?_
  | with_reducible refine ck_tup ?_
  | with_reducible refine ck_un ?_)
local macro_rules | `(tactic| walk_at "pure") => `(tactic| ((with_reducible refine' ck_ev ?hh ?_); (case hh => walk_at "ev")))
local macro_rules | `(tactic| walk_at "dr") => `(tactic| ((with_reducible refine' ck_draw ?h1 ?h2 ?h3 ?h4 ?_); (case h1 => walk_at "ev"); (case h2 => first | decide | omega); (case h3 => decide); (case h4 => omega)))
section
variable {P : Program} {w : World} {K : W.Frag} {mg : Str → Option Value} {base : Heap}
theorem ck_rng1 {S : Type} {A : TX S} {ρ : DL.Env} {s : S} {QL : List D → S → Prop} {X : DL.Exn → S → Prop} (h : A ρ s (fun d s1 => match d with
  | .v (.int j) => DL.inR j = true ∧ QL (rngD 0 j) s1
  | _ => False) X) : xRng1 A ρ s QL X := h
/-! ### _law_pairs -/
theorem mn_at {i j : Int} : min2D (dI i) (dI j) = some (dI (if j < i then j else i)) := rfl
theorem mx_at {i j : Int} : max2D (dI i) (dI j) = some (dI (if j > i then j else i)) := rfl
abbrev s_pairs : Stmt := top 12
theorem sc_pairs : FnScope ["_law_pen_here", "_law_found", "_law_lap", "_law_one", "_law_other"] ["_law_pen_here"] (defScope s_pairs) := ⟨rfl, rfl, rfl, by decide +kernel, rfl, by decide +kernel, by decide +kernel⟩
theorem ok_pairs {f : Addr} {fd : FuncData} (F : Fun K "_law_pairs" "_law_pairs" s_pairs f fd) (m_range : mg "range" = none) (m_max : mg "max" = none) (m_min : mg "min" = none) (c__law_draw : CalG P w K mg base (L2.CX P w) 1 "_law_draw" spDraw) :
    FnG P w K mg base (L2.CX P w) 2 f fd ["_law_pen_here"] (spP K [] (fun _ => True) (fun _ => 19) (fun _ d => ∃ ps : List Pr, d = lP ps ∧ ps.length ≤ 9 ∧ Small ps)) := by
  refine fn_penR F sc_pairs rfl rfl ?_
  rintro cdv A outer s H E hr hq
  have hu := hr.units
  have hp := @passX (cxOf (L2.CX P w) P w K mg base ["_law_pen_here", "_law_found", "_law_lap", "_law_one", "_law_other"] "_law_pairs" (defScope s_pairs) f cdv A outer s H E) E (takes_of rfl rfl rfl rfl)
  refine ⟨_, (pss_cons (ps_set (i := 1) sc_pairs.nd rfl (Or.inl rfl) (pe_lst pa_nil))
    (pss_cons (ps_for PassesOwn.leaving rfl (pi_range1 rfl m_range (pa_cons (pe_g c__law_draw hr (by first | decide | omega) hq hp rfl (pa_cons (pv 0) (pa_cons pe_int pa_nil))) pa_nil)) (pg_name (i := 2) sc_pairs.nd rfl (Or.inl rfl)) (pss_cons (ps_par (i := 3) (j := 4) rfl sc_pairs.nd rfl rfl (by decide) rfl rfl (pa_cons (pe_g c__law_draw hr (by first | decide | omega) hq hp rfl (pa_cons (pv 0) (pa_cons pe_int pa_nil))) (pa_cons (pe_g c__law_draw hr (by first | decide | omega) hq hp rfl (pa_cons (pv 0) (pa_cons pe_int pa_nil))) pa_nil)) rfl)
    (pss_one (ps_expr (pe_bm PySem.F.plainAttrs_list PySem.F.slot_list_append PySem.F.type_list_append mt_append (pv 1) (pa_cons (pe_tup (pa_cons (pe_callB (call_min2 rfl) (by rfl) m_min (by decide +kernel) (pa_cons (pv 3) (pa_cons (pv 4) pa_nil))) (pa_cons (pe_callB (call_max2 rfl) (by rfl) m_max (by decide +kernel) (pa_cons (pv 3) (pa_cons (pv 4) pa_nil))) pa_nil))) pa_nil))))))
    (pss_one (ps_ret (pv 1))))), fun p q ns => ⟨_, (ls_seq (ls_own (by decide) (ln_lst rfl ln_nil)) (ls_seq (ls_for (li_rng1 (Ln.lend (ln_draw (ln_cons rfl ln_varb (ln_cons rfl (Ln.lend ln_c) ln_nil))))) lg_name (ls_seq (ls_par (ln_cons rfl (ln_draw (ln_cons rfl ln_varb (ln_cons rfl (Ln.lend ln_c) ln_nil))) (ln_cons rfl (ln_draw (ln_cons rfl ln_varb (ln_cons rfl (Ln.lend ln_c) ln_nil))) ln_nil))) (ls_end (ls_append (ln_tup rfl (ln_cons rfl (ln_cb2 ln_varb ln_varb p2_min2) (ln_cons rfl (ln_cb2 ln_varb ln_varb p2_max2) ln_nil))))))) (ls_end (ls_ret ln_var)))), ?_⟩⟩
  intro ds n0 hl _ hn
  cases ds with
  | cons d r => cases hl
  | nil =>
    have hn : n0 + 19 ≤ 100000 := hn
    show DL.Run _ [.bor (.v (.ref p)), .no, .no, .no, .no] n0 _
    walk_at "run"
    with_reducible refine sq_fork ?_
    with_reducible refine ck_rng1 ?_
    walk_at "dr"
    intro d n1 d0 d1 l1 l2
    show DL.inR d = true ∧ _
    refine ⟨by simp [DL.inR]; omega, ?_⟩
    refine forT_by (fun ds ρ n => ∃ ps : List Pr, ρ = [.bor (.v (.ref p)), .own (.lst (ps.map dP)), .no, .no, .no] ∧ ps.length + ds.length ≤ 9 ∧ Small ps ∧ n0 ≤ n ∧ n ≤ n0 + 1 + 2 * ps.length) ?_ ?_ _ _ _ ⟨[], rfl, ?_, fun _ z => (nomatch z), l1, l2⟩
    · rintro ρ n ⟨ps, rfl, h1, h2, h3, h4⟩
      walk_at "run"
      have h1 : ps.length + 0 ≤ 9 := h1
      exact ⟨h3, by show n ≤ n0 + 19; omega, ps, rfl, by omega, h2⟩
    · rintro x r Fr Bk hF hB ρ n ⟨ps, rfl, h1, h2, h3, h4⟩
      rw [List.length_cons] at h1
      refine ⟨_, rfl, ?_⟩
      with_reducible refine sq_park ?_
      walk_at "ck"
      walk_at "dr"
      intro a n2 a0 a1 k1 k2
      walk_at "ck"
      walk_at "dr"
      intro b n3 b0 b1 k3 k4
      walk_at "ck"
      with_reducible refine Run.go ?_
      have e1 := mn_at (i := a) (j := b)
      have e2 := mx_at (i := a) (j := b)
      walk_at "run"
      refine ⟨rfl, hF _ _ ⟨ps ++ [(if b < a then b else a, if b > a then b else a)], ?_, by rw [List.length_append, List.length_singleton]; omega, fun q hq => ?_, by omega, by rw [List.length_append, List.length_singleton]; omega⟩⟩
      · rw [List.map_append]
        rfl
      · rcases List.mem_append.mp hq with hq | hq
        · exact h2 q hq
        · rw [List.mem_singleton.mp hq]
          constructor
          · show (if b < a then b else a) ∈ rng7
            rw [in7]
            split <;> omega
          · show (if b > a then b else a) ∈ rng7
            rw [in7]
            split <;> omega
    · simp only [rngD, List.length_map, List.length_range, List.length_nil]
      omega
end
end L2.K58
namespace L2.K58
open L2 L2.My L2.DL NdefX PySem PySem.Spec PyProof.Rows
local macro_rules | `(tactic| walk_at "tru0") => `(tactic| first
  | rfl
  | with_reducible assumption
  | decide)
local macro_rules | `(tactic| walk_at "tru") => `(tactic| first
  | rfl
  | with_reducible assumption
  | decide
  | (simp; done))
local macro_rules | `(tactic| walk_at "val") => `(tactic| first
  | with_reducible assumption
  | with_reducible exact cmpD_i
  | with_reducible exact eqD_i
  | with_reducible exact eqD_s
  | with_reducible exact eqD_b
  | with_reducible exact eqD_n
  | with_reducible exact eqD_in
  | with_reducible exact eqD_ni
  | with_reducible exact eqD_sn
  | with_reducible exact eqD_ns
  | with_reducible exact ix_0
  | with_reducible exact ix_1
  | with_reducible exact in_P
  | with_reducible exact in_pair
  | with_reducible exact in_I
  | with_reducible exact in_tI
  | with_reducible exact in_dT
  | with_reducible exact eq_P0
  | with_reducible exact eq_I0
  | with_reducible exact cmpD_s
  | with_reducible exact lenD_l
  | with_reducible exact lenD_t
  | rfl)
local macro_rules | `(tactic| walk_at "len") => `(tactic| ((refine le_line ?_); (simp only [List.length_cons, List.length_nil, List.length_append, List.length_map]); (first | done | decide | omega)))
local macro_rules | `(tactic| walk_at "ev") => `(tactic| first
  | with_reducible exact ev_c
  | ((with_reducible apply ev_vd); rfl)
  | ((with_reducible apply ev_vb); rfl)
  | ((with_reducible apply ev_vs); rfl)
  | ((with_reducible apply ev_vo); rfl)
  | ((with_reducible apply ev_op); walk_at "ev"; walk_at "ev"; walk_at "val")
  | ((with_reducible apply ev_un); walk_at "ev"; walk_at "val")
  | with_reducible exact ev_nil
  | ((with_reducible apply ev_cons); walk_at "ev"; walk_at "ev")
  | ((with_reducible apply ev_tup); walk_at "ev"; walk_at "len")
  | ((with_reducible apply ev_lst); walk_at "ev"; walk_at "len")
  | ((with_reducible apply ev_not); walk_at "ev")
  | ((with_reducible apply ev_andR); walk_at "ev"; walk_at "and")
  | ((with_reducible apply ev_orR); walk_at "ev"; walk_at "and")
  | ((with_reducible apply ev_ifR); walk_at "ev"; walk_at "ite"; walk_at "ev")
  | ((with_reducible apply evb_test); walk_at "ev")
  | ((with_reducible apply evb_not); walk_at "ev")
  | with_reducible exact evb_yes
  | ((with_reducible apply evb_andR); walk_at "ev"; walk_at "and")
  | ((with_reducible apply evb_orR); walk_at "ev"; walk_at "and")
  | ((with_reducible apply ev_chain); walk_at "ev"; walk_at "ev"; walk_at "ev"; walk_at "val"; walk_at "val")
  | ((with_reducible apply ev_call); walk_at "ev"; walk_at "val")
  | ((with_reducible apply ev_mk); walk_at "ev"; walk_at "val")
  | ((with_reducible apply ev_fld); walk_at "ev"; walk_at "att"; walk_at "val")
  | ((with_reducible apply ev_sl); walk_at "ev"; walk_at "ev"; walk_at "ev"; walk_at "val")
  | ((with_reducible apply ev_sw1); walk_at "ev")
  | ((with_reducible apply ev_sw2); walk_at "ev")
  | ((with_reducible apply evl_seq); walk_at "ev"; rfl)
  | with_reducible exact evo_none
  | ((with_reducible apply evo_some); walk_at "ev"))
local macro_rules | `(tactic| walk_at "att") => `(tactic| first
  | with_reducible assumption
  | apply_assumption)
local macro_rules | `(tactic| walk_at "and") => `(tactic| first
  | ((with_reducible apply AndR.t); (focus (walk_at "tru0")); walk_at "ev")
  | ((with_reducible apply AndR.f); walk_at "tru0")
  | ((with_reducible apply AndR.b); intro _; walk_at "ev")
  | ((with_reducible apply OrR.t); walk_at "tru0")
  | ((with_reducible apply OrR.f); (focus (walk_at "tru0")); walk_at "ev")
  | ((with_reducible apply OrR.b); intro _; walk_at "ev")
  | ((with_reducible apply BAndR.t); (focus (walk_at "tru0")); walk_at "ev")
  | ((with_reducible apply BAndR.f); walk_at "tru0")
  | ((with_reducible apply BAndR.b); intro _; walk_at "ev")
  | ((with_reducible apply BOrR.t); walk_at "tru0")
  | ((with_reducible apply BOrR.f); (focus (walk_at "tru0")); walk_at "ev")
  | ((with_reducible apply BOrR.b); intro _; walk_at "ev"))
local macro_rules | `(tactic| walk_at "ite") => `(tactic| first
  | ((with_reducible refine ite_t ?_ ?_); (focus (walk_at "tru0")))
  | ((with_reducible refine ite_f ?_ ?_); (focus (walk_at "tru0")))
  | ((with_reducible refine ite_t ?_ ?_); (focus (walk_at "tru")))
  | ((with_reducible refine ite_f ?_ ?_); (focus (walk_at "tru"))))
local macro_rules | `(tactic| walk_at "st") => `(tactic| first
  | with_reducible refine sq_assoc ?_
  | with_reducible refine sq_next ?_
  | ((with_reducible apply sq_set); (walk_at "ev"))
  | ((with_reducible apply sq_ret); (walk_at "ev"))
  | ((with_reducible apply sq_own); (walk_at "ev"); rfl)
  | ((with_reducible apply sq_drop); (walk_at "ev"))
  | ((with_reducible apply sq_ifR); (walk_at "ev"); (walk_at "ite"))
  | ((with_reducible apply sq_par); (walk_at "ev"))
  | ((with_reducible apply sq_app); rfl; (walk_at "ev"); (walk_at "len"))
  | ((with_reducible apply sq_asg); (walk_at "ev"); rfl)
  | with_reducible refine sq_nx ?_)
local macro_rules | `(tactic| walk_at "run") => `(tactic| repeat walk_at "st")
local macro_rules | `(tactic| walk_at "ck") => `(tactic| first
  | with_reducible refine ck_cons ?_
  | with_reducible refine ck_op ?_
  | with_reducible refine ck_nil ?_
  | with_reducible refine ck_lst ?_
  | with_reducible refine ck_tup ?_
  | with_reducible refine ck_un ?_)
local macro_rules | `(tactic| walk_at "pure") => `(tactic| ((with_reducible refine' ck_ev ?hh ?_); (case hh => walk_at "ev")))
local macro_rules | `(tactic| walk_at "dr") => `(tactic| ((with_reducible refine' ck_draw ?h1 ?h2 ?h3 ?h4 ?_); (case h1 => walk_at "ev"); (case h2 => first | decide | omega); (case h3 => decide); (case h4 => omega)))
section
variable {P : Program} {w : World} {K : W.Frag} {mg : Str → Option Value} {base : Heap}
/-! ### _law_apart -/
theorem erase_map {α β : Type} (f : α → β) : ∀ (l : List α) (i : Nat), (l.map f).eraseIdx i = (l.eraseIdx i).map f
  | [], i => by simp
  | x :: l, 0 => by simp
  | x :: l, i + 1 => by simp [erase_map f l i]
def apPre (ds : List D) : Prop := ∃ ps : List Pr, ds = [lP ps] ∧ ps.length ≤ 9
def apPost (d : D) : Prop := ∃ vs : List Pr, d = tP vs ∧ vs.length ≤ 9
abbrev s_apart : Stmt := top 15
theorem sc_apart : FnScope ["_law_pen_here", "_law_some", "_law_found", "_law_spare", "_law_pair", "_law_one"] ["_law_pen_here", "_law_some"] (defScope s_apart) := ⟨rfl, rfl, rfl, by decide +kernel, rfl, by decide +kernel, by decide +kernel⟩
theorem ok_apart {f : Addr} {fd : FuncData} (F : Fun K "_law_apart" "_law_apart" s_apart f fd) (m_list : mg "list" = none) (m_len : mg "len" = none) (m_tuple : mg "tuple" = none) (c__law_draw : CalG P w K mg base (L2.CX P w) 1 "_law_draw" spDraw) :
    FnG P w K mg base (L2.CX P w) 2 f fd ["_law_pen_here", "_law_some"] (spP K [.b] apPre (fun _ => 9) (fun _ d => apPost d)) := by
  refine fn_penR F sc_apart rfl rfl ?_
  rintro cdv A outer s H E hr hq
  have hu := hr.units
  have hp := @passX (cxOf (L2.CX P w) P w K mg base ["_law_pen_here", "_law_some", "_law_found", "_law_spare", "_law_pair", "_law_one"] "_law_apart" (defScope s_apart) f cdv A outer s H E) E (takes_of rfl rfl rfl rfl)
  refine ⟨_, (pss_cons (ps_par (i := 2) (j := 3) rfl sc_apart.nd rfl rfl (by decide) rfl rfl (pa_cons (pe_lst pa_nil) (pa_cons (pe_callTy c_list (by rfl) m_list (by decide +kernel) (pa_cons (pv 1) pa_nil)) pa_nil)) rfl)
    (pss_cons (ps_while PassesOwn.leaving (pt_cmpR (op_neP hu) (pv 3) (pe_lst pa_nil) (nomark _)) (pss_cons (ps_set (i := 4) sc_apart.nd rfl (Or.inr rfl) (pe_bm PySem.F.plainAttrs_list PySem.F.slot_list_pop PySem.F.type_list_pop mt_popAt (pv 3) (pa_cons (pe_g c__law_draw hr (by first | decide | omega) hq hp rfl (pa_cons (pv 0) (pa_cons (pe_callB c_lenD (by rfl) m_len PySem.boot_len (pa_cons (pv 3) pa_nil)) pa_nil))) pa_nil)))
    (pss_one (ps_if (pt_cmpR (op_eqP hu) (pe_lc (own := [("_law_one", 5)]) (g := gName 5) (tt := _) rfl sc_apart.nd (pi_seq (pv 2)) (blkOk_by (N := ["_law_pen_here", "_law_some", "_law_found", "_law_spare", "_law_pair", "_law_one"]) (sc := defScope (top 15)) (by decide +kernel)) (fun _ _ _ _ _ => (pg_name (i := 5) sc_apart.nd rfl (Or.inl rfl))) (fun _ _ _ _ _ => (pts_one (PW.pt (pw_or (pt_cmpR (show OpR _ (compareOp .In) (rInX K true) from (op_inX hu)) (pe_ix (show IxR _ (rIx K) from ix_seq) (pv 5) pe_int (fun _ _ => rfl)) (pv 4) (by rfl)) (pw_or1 (pt_cmpR (show OpR _ (compareOp .In) (rInX K true) from (op_inX hu)) (pe_ix (show IxR _ (rIx K) from ix_seq) (pv 5) pe_int (fun _ _ => rfl)) (pv 4) (by rfl))))))) (fun _ _ _ _ _ => (pv 5))) (pe_lst pa_nil) (nomark _)) (pss_one (ps_expr (pe_bm PySem.F.plainAttrs_list PySem.F.slot_list_append PySem.F.type_list_append mt_append (pv 2) (pa_cons (pv 4) pa_nil)))) pss_nil))))
    (pss_one (ps_ret (pe_callTy call_tuple_of (by rfl) m_tuple (by decide +kernel) (pa_cons (pv 2) pa_nil)))))), fun p q ns => ⟨_, (ls_seq (ls_parFF (by decide) (by decide) (ln_lst rfl ln_nil) (ln_cb1 ln_varb p1_list)) (ls_seq (ls_while (lt_test (Ln.lend (ln_op ln_varb (Ln.lend (Ln.weak (ln_lst rfl ln_nil))) p2_eq))) (ls_seq (ls_popAt lg_name (Ln.lend (ln_draw (ln_cons rfl ln_varb (ln_cons rfl (Ln.lend (ln_cb1 ln_varb p1_len)) ln_nil))))) (ls_end (ls_if (lt_test (Ln.lend (ln_op (Ln.lend (Ln.weak (ln_lc rfl (li_seqb ln_varb) lg_name ((lt_or (lt_test (Ln.lend (ln_op (Ln.lend (ln_op ln_varb (Ln.lend ln_c) p2_ix)) ln_varb p2_inX))) (lt_test (Ln.lend (ln_op (Ln.lend (ln_op ln_varb (Ln.lend ln_c) p2_ix)) ln_varb p2_inX))))) ln_var))) (Ln.lend (Ln.weak (ln_lst rfl ln_nil))) p2_eq))) (ls_end (ls_append ln_var)) ls_next)))) (ls_end (ls_ret (ln_cb1 ln_varb p1_tup))))), ?_⟩⟩
  rintro ds n0 hl ⟨ps, rfl, lp⟩ hn
  have hn : n0 + 9 ≤ 100000 := hn
  show DL.Run _ [.bor (.v (.ref p)), .bor (lP ps), .no, .no, .no, .no] n0 _
  have li : listD (lP ps) = some (lP ps) := rfl
  with_reducible apply sq_parFF
  · walk_at "ev"
  · walk_at "ev"
  · rfl
  · rfl
  with_reducible refine sq_while (fun k ρ n => ∃ vs sp : List Pr, ρ = [.bor (.v (.ref p)), .bor (lP ps), .own (.lst (vs.map dP)), .own (.lst (sp.map dP)), .no, .no] ∧ sp.length = k ∧ vs.length + sp.length ≤ 9 ∧ n0 ≤ n ∧ n + sp.length ≤ n0 + 9) ⟨ps.length, [], ps, rfl, rfl, by rw [List.length_nil]; omega, Nat.le_refl _, by omega⟩ ?_
  rintro k ρ n Bk hB ⟨vs, sp, rfl, hk, h1, h2, h3⟩
  have q0 : eqD false (Cell.toD (.lst (sp.map dP))) (.lst []) = some (dB (false == sp.isEmpty)) := eq_P0
  refine ⟨!sp.isEmpty, ?_, fun hb => ?_, fun hb => ?_⟩
  · with_reducible apply evb_eq
    · walk_at "ev"
    · cases sp <;> rfl
  · have pos : 0 < sp.length := by
      cases sp with
      | nil => cases hb
      | cons => exact Nat.succ_pos _
    clear q0
    have l1 : lenD (Cell.toD (.lst (sp.map dP))) = some (dI (sp.length : Int)) := by
      show lenD (.lst (sp.map dP)) = _
      rw [lenD_l, List.length_map]
    with_reducible refine sq_popAtk (xs := sp.map dP) rfl ?_
    with_reducible refine' ck_draw ?h1 ?h2 ?h3 ?h4 ?_
    case h1 => walk_at "ev"
    case h2 => omega
    case h3 => exact Nat.lt_of_le_of_lt (show ((sp.length : Int)).natAbs ≤ 9 by omega) (by decide)
    case h4 => omega
    intro d n2 d0 d1 k1 k2
    have lt : d.toNat < sp.length := by omega
    have eg : (sp.map dP)[d.toNat]? = some (dP sp[d.toNat]) := by rw [List.getElem?_map, List.getElem?_eq_getElem lt]; rfl
    refine ck_opt rfl (ck_opt rfl ⟨d0, by omega, ck_opt eg (ck_opt rfl ?_)⟩)
    rw [erase_map]
    have le : (sp.eraseIdx d.toNat).length = sp.length - 1 := List.length_eraseIdx_of_lt lt
    generalize sp[d.toNat] = q
    generalize sp.eraseIdx d.toNat = sp2 at le
    with_reducible refine Run.go ?_
    have cnt : ∀ x : Pr, inX true (dI x.1) (dP q) = some (dB (true == decide (x.1 = q.1 ∨ x.1 = q.2))) ∧ inX true (dI x.2) (dP q) = some (dB (true == decide (x.2 = q.1 ∨ x.2 = q.2))) := fun x => ⟨in_pair, in_pair⟩
    have mt : ∀ d : D, d ∈ vs.map dP → ∃ x : Pr, d = dP x := fun d hd => let ⟨x, _, e⟩ := List.mem_map.mp hd; ⟨x, e.symm⟩
    have fl : (((vs.map dP).filter fun d => (true == decide ((toP d).1 = q.1 ∨ (toP d).1 = q.2)) || (true == decide ((toP d).2 = q.1 ∨ (toP d).2 = q.2))).map id) = (vs.filter fun x => (true == decide (x.1 = q.1 ∨ x.1 = q.2)) || (true == decide (x.2 = q.1 ∨ x.2 = q.2))).map dP := by
      rw [List.map_id, filt_map dP _ (fun x => (true == decide (x.1 = q.1 ∨ x.1 = q.2)) || (true == decide (x.2 = q.1 ∨ x.2 = q.2))) (fun _ => rfl)]
    have lv : (vs.map dP).length ≤ sizeLine := by rw [List.length_map]; exact le_line (by omega)
    generalize (vs.filter fun x => (true == decide (x.1 = q.1 ∨ x.1 = q.2)) || (true == decide (x.2 = q.1 ∨ x.2 = q.2))) = ws at fl
    have q1 := eq_P0 (b := true) (ps := ws)
    with_reducible apply sq_ifR
    · with_reducible apply evb_test
      with_reducible apply ev_op
      · with_reducible apply ev_eq
        · with_reducible apply ev_lc (fun d => (true == decide ((toP d).1 = q.1 ∨ (toP d).1 = q.2)) || (true == decide ((toP d).2 = q.1 ∨ (toP d).2 = q.2))) id
          · walk_at "ev"
          · intro d hd
            obtain ⟨x, rfl⟩ := mt d hd
            obtain ⟨c1, c2⟩ := cnt x
            refine ⟨_, rfl, ?_, fun _ => by walk_at "ev"⟩
            with_reducible apply evb_eq
            · walk_at "ev"
            · rfl
          · exact lv
        · exact congrArg D.lst fl
      · walk_at "ev"
      · exact q1
    · by_cases hw : ws = []
      · have b1 : (true == ws.isEmpty) = true := by rw [hw]; rfl
        with_reducible refine ite_t b1 ?_
        walk_at "run"
        refine ⟨rfl, sp2.length, by omega, vs ++ [q], sp2, ?_, rfl, by rw [List.length_append, List.length_singleton]; omega, by omega, by omega⟩
        rw [List.map_append]
        rfl
      · have b1 : (true == ws.isEmpty) = false := by
          cases ws with
          | nil => exact absurd rfl hw
          | cons => rfl
        with_reducible refine ite_f b1 ?_
        walk_at "run"
        exact ⟨rfl, sp2.length, by omega, vs, sp2, rfl, rfl, by omega, by omega, by omega⟩
  · have e : sp = [] := by
      cases sp with
      | nil => rfl
      | cons => cases hb
    have t1 : tupD (.lst (vs.map dP)) = some (tP vs) := rfl
    walk_at "run"
    exact ⟨h2, by show n ≤ n0 + 9; omega, vs, rfl, by omega⟩
end
end L2.K58
namespace L2.K58
open L2 L2.My L2.DL NdefX PySem PySem.Spec PyProof.Rows
local macro_rules | `(tactic| walk_at "tru0") => `(tactic| first
  | rfl
  | with_reducible assumption
  | decide)
local macro_rules | `(tactic| walk_at "tru") => `(tactic| first
  | rfl
  | with_reducible assumption
  | decide
  | (simp; done))
local macro_rules | `(tactic| walk_at "val") => `(tactic| first
  | with_reducible assumption
  | with_reducible exact cmpD_i
  | with_reducible exact eqD_i
  | with_reducible exact eqD_s
  | with_reducible exact eqD_b
  | with_reducible exact eqD_n
  | with_reducible exact eqD_in
  | with_reducible exact eqD_ni
  | with_reducible exact eqD_sn
  | with_reducible exact eqD_ns
  | with_reducible exact ix_0
  | with_reducible exact ix_1
  | with_reducible exact in_P
  | with_reducible exact in_pair
  | with_reducible exact in_I
  | with_reducible exact in_tI
  | with_reducible exact in_dT
  | with_reducible exact eq_P0
  | with_reducible exact eq_I0
  | with_reducible exact cmpD_s
  | with_reducible exact lenD_l
  | with_reducible exact lenD_t
  | rfl)
local macro_rules | `(tactic| walk_at "len") => `(tactic| ((refine le_line ?_); (simp only [List.length_cons, List.length_nil, List.length_append, List.length_map]); (first | done | decide | omega)))
local macro_rules | `(tactic| walk_at "ev") => `(tactic| first
  | with_reducible exact ev_c
  | ((with_reducible apply ev_vd); rfl)
  | ((with_reducible apply ev_vb); rfl)
  | ((with_reducible apply ev_vs); rfl)
  | ((with_reducible apply ev_vo); rfl)
  | ((with_reducible apply ev_op); walk_at "ev"; walk_at "ev"; walk_at "val")
  | ((with_reducible apply ev_un); walk_at "ev"; walk_at "val")
  | with_reducible exact ev_nil
  | ((with_reducible apply ev_cons); walk_at "ev"; walk_at "ev")
  | ((with_reducible apply ev_tup); walk_at "ev"; walk_at "len")
  | ((with_reducible apply ev_lst); walk_at "ev"; walk_at "len")
  | ((with_reducible apply ev_not); walk_at "ev")
  | ((with_reducible apply ev_andR); walk_at "ev"; walk_at "and")
  | ((with_reducible apply ev_orR); walk_at "ev"; walk_at "and")
  | ((with_reducible apply ev_ifR); walk_at "ev"; walk_at "ite"; walk_at "ev")
  | ((with_reducible apply evb_test); walk_at "ev")
  | ((with_reducible apply evb_not); walk_at "ev")
  | with_reducible exact evb_yes
  | ((with_reducible apply evb_andR); walk_at "ev"; walk_at "and")
  | ((with_reducible apply evb_orR); walk_at "ev"; walk_at "and")
  | ((with_reducible apply ev_chain); walk_at "ev"; walk_at "ev"; walk_at "ev"; walk_at "val"; walk_at "val")
  | ((with_reducible apply ev_call); walk_at "ev"; walk_at "val")
  | ((with_reducible apply ev_mk); walk_at "ev"; walk_at "val")
  | ((with_reducible apply ev_fld); walk_at "ev"; walk_at "att"; walk_at "val")
  | ((with_reducible apply ev_sl); walk_at "ev"; walk_at "ev"; walk_at "ev"; walk_at "val")
  | ((with_reducible apply ev_sw1); walk_at "ev")
  | ((with_reducible apply ev_sw2); walk_at "ev")
  | ((with_reducible apply evl_seq); walk_at "ev"; rfl)
  | with_reducible exact evo_none
  | ((with_reducible apply evo_some); walk_at "ev"))
local macro_rules | `(tactic| walk_at "att") => `(tactic| first
  | with_reducible assumption
  | apply_assumption)
local macro_rules | `(tactic| walk_at "and") => `(tactic| first
  | ((with_reducible apply AndR.t); (focus (walk_at "tru0")); walk_at "ev")
  | ((with_reducible apply AndR.f); walk_at "tru0")
  | ((with_reducible apply AndR.b); intro _; walk_at "ev")
  | ((with_reducible apply OrR.t); walk_at "tru0")
  | ((with_reducible apply OrR.f); (focus (walk_at "tru0")); walk_at "ev")
  | ((with_reducible apply OrR.b); intro _; walk_at "ev")
  | ((with_reducible apply BAndR.t); (focus (walk_at "tru0")); walk_at "ev")
  | ((with_reducible apply BAndR.f); walk_at "tru0")
  | ((with_reducible apply BAndR.b); intro _; walk_at "ev")
  | ((with_reducible apply BOrR.t); walk_at "tru0")
  | ((with_reducible apply BOrR.f); (focus (walk_at "tru0")); walk_at "ev")
  | ((with_reducible apply BOrR.b); intro _; walk_at "ev"))
local macro_rules | `(tactic| walk_at "ite") => `(tactic| first
  | ((with_reducible refine ite_t ?_ ?_); (focus (walk_at "tru0")))
  | ((with_reducible refine ite_f ?_ ?_); (focus (walk_at "tru0")))
  | ((with_reducible refine ite_t ?_ ?_); (focus (walk_at "tru")))
  | ((with_reducible refine ite_f ?_ ?_); (focus (walk_at "tru"))))
local macro_rules | `(tactic| walk_at "st") => `(tactic| first
  | with_reducible refine sq_assoc ?_
  | with_reducible refine sq_next ?_
  | ((with_reducible apply sq_set); (walk_at "ev"))
  | ((with_reducible apply sq_ret); (walk_at "ev"))
  | ((with_reducible apply sq_own); (walk_at "ev"); rfl)
  | ((with_reducible apply sq_drop); (walk_at "ev"))
  | ((with_reducible apply sq_ifR); (walk_at "ev"); (walk_at "ite"))
  | ((with_reducible apply sq_par); (walk_at "ev"))
  | ((with_reducible apply sq_app); rfl; (walk_at "ev"); (walk_at "len"))
  | ((with_reducible apply sq_asg); (walk_at "ev"); rfl)
  | with_reducible refine sq_nx ?_)
local macro_rules | `(tactic| walk_at "run") => `(tactic| repeat walk_at "st")
local macro_rules | `(tactic| walk_at "ck") => `(tactic| first
  | with_reducible refine ck_cons ?_
  | with_reducible refine ck_op ?_
  | with_reducible refine ck_nil ?_
  | with_reducible refine ck_lst ?_
  | with_reducible refine ck_tup ?_
  | with_reducible refine ck_un ?_)
local macro_rules | `(tactic| walk_at "pure") => `(tactic| ((with_reducible refine' ck_ev ?hh ?_); (case hh => walk_at "ev")))
local macro_rules | `(tactic| walk_at "dr") => `(tactic| ((with_reducible refine' ck_draw ?h1 ?h2 ?h3 ?h4 ?_); (case h1 => walk_at "ev"); (case h2 => first | decide | omega); (case h3 => decide); (case h4 => omega)))
section
variable {S : Type} {c c' : TB S} {ρ : DL.Env} {s : S} {QB : Bool → S → Prop} {X : DL.Exn → S → Prop}
theorem ck_band_t (h : EvB c ρ s true) (k : c' ρ s QB X) : bAnd c c' ρ s QB X := h.to _ _ (by rw [if_pos rfl]; exact k)
theorem ck_band_f (h : EvB c ρ s false) (k : QB false s) : bAnd c c' ρ s QB X := h.to _ _ (by rw [if_neg (by decide)]; exact k)
theorem ck_bor_t (h : EvB c ρ s true) (k : QB true s) : bOr c c' ρ s QB X := h.to _ _ (by rw [if_pos rfl]; exact k)
theorem ck_bor_f (h : EvB c ρ s false) (k : c' ρ s QB X) : bOr c c' ρ s QB X := h.to _ _ (by rw [if_neg (by decide)]; exact k)
theorem ck_if_t {p q : Prop} {b : Bool} (h : b = true) (k : p) : if b = true then p else q := by rw [if_pos h]; exact k
theorem ck_if_f {p q : Prop} {b : Bool} (h : b = false) (k : q) : if b = true then p else q := by rw [if_neg (by rw [h]; decide)]; exact k
end
section
variable {P : Program} {w : World} {K : W.Frag} {mg : Str → Option Value} {base : Heap}
/-! ### _law_grown -/
def gE (m : Int) : Nat := 1 + (m + 1).toNat
def gK (m : Int) : Nat := 12 * (2 ^ gE m - 1)
theorem gE_low {m : Int} (h : m < 0) : gE m = 1 := by unfold gE; omega
theorem gE_up {m : Int} (h : 0 ≤ m) : gE m = gE (m - 1) + 1 := by unfold gE; omega
theorem gE_le {m k : Int} (h : m ≤ k) : gE m ≤ gE k := by unfold gE; omega
theorem pow_pos2 (n : Nat) : 1 ≤ 2 ^ n := Nat.one_le_two_pow
theorem gK_up {m : Int} (h : 0 ≤ m) {c : Int} (hc : 1 ≤ c) : 12 + gK (m - 1) + gK (m - c) ≤ gK m ∧ 1 + (2 ^ gE (m - 1) - 1) + (2 ^ gE (m - c) - 1) ≤ 2 ^ gE m - 1 := by
  have e := gE_up h
  have l := gE_le (show m - c ≤ m - 1 by omega)
  have p := Nat.pow_le_pow_right (show 0 < 2 by decide) l
  have a := pow_pos2 (gE (m - 1))
  have b := pow_pos2 (gE (m - c))
  unfold gK
  rw [e, Nat.pow_succ]
  omega
theorem gK_low (m : Int) : 12 ≤ gK m ∧ 1 ≤ 2 ^ gE m - 1 := by
  have l : 2 ^ 1 ≤ 2 ^ gE m := Nat.pow_le_pow_right (by decide) (by unfold gE; omega)
  unfold gK
  omega
def grPre (k : Nat) (ds : List D) : Prop := ∃ (ps : List Pr) (m : Int), ds = [lP ps, dI m] ∧ ps.length ≤ 9 ∧ Small ps ∧ ps.length < k
def grK (ds : List D) : Nat := match ds with
  | [_, .v (.int m)] => gK m
  | _ => 0
def grPost (ds : List D) (d : D) : Prop := ∃ pap : Pap, d = pap.d ∧ pap.ok ∧ match ds with
  | [_, .v (.int m)] => pap.sz ≤ 2 ^ gE m - 1
  | _ => True
def inG (ps : List Pr) : D → Bool
  | .v (.int n) => decide (n ∉ mateI ps n) && decide (mateI ps n ≠ [])
  | _ => false
def numsG (ps : List Pr) : List Int := rng7.filter fun n => decide (n ∉ mateI ps n) && decide (mateI ps n ≠ [])
theorem numsG_D (ps : List Pr) : (((rngD 0 7).filter (inG ps)).map id) = (numsG ps).map dI := by
  rw [List.map_id]
  have e : rngD 0 7 = rng7.map dI := rfl
  rw [e, filt_map dI (inG ps) (fun n => decide (n ∉ mateI ps n) && decide (mateI ps n ≠ [])) (fun _ => rfl)]
  rfl
theorem grown_lt {ps : List Pr} {n : Int} (h : n ∈ numsG ps) : (wo ps [n]).length < ps.length ∧ (wo ps (mateI ps n)).length < ps.length ∧ 1 ≤ (mateI ps n).length ∧ (mateI ps n).length ≤ ps.length := by
  have h := (List.mem_filter.mp h).2
  simp only [Bool.and_eq_true, decide_eq_true_eq] at h
  obtain ⟨o, ho⟩ := List.exists_mem_of_ne_nil _ h.2
  obtain ⟨p, hp, a, e⟩ := mem_mate.mp ho
  refine ⟨wo_lt hp ?_, wo_lt hp ?_, List.length_pos_of_mem ho, ?_⟩
  · simp only [List.mem_singleton]
    exact a.imp Eq.symm Eq.symm
  · rcases a with a | a
    · exact .inr (by rw [show p.2 = o by omega]; exact ho)
    · exact .inl (by rw [show p.1 = o by omega]; exact ho)
  · have h1 := nodup_le (mateI ps n) ((ps.filter fun p => decide (n = p.1 ∨ n = p.2)).map fun p => p.1 + p.2 - n) (asc_nodup (sortK_asc _)) fun x hx => by unfold mateI at hx; exact sortI_mem.mp hx
    rw [List.length_map] at h1
    exact Nat.le_trans h1 (List.length_filter_le _ _)
abbrev s_grown : Stmt := top 16
theorem sc_grown : FnScope ["_law_pen_here", "_law_some", "_law_most", "_law_apart_so", "_law_numbers", "_law_number", "_law_mates_here", "_law_taken", "_law_one"] ["_law_pen_here", "_law_some", "_law_most"] (defScope s_grown) := ⟨rfl, rfl, rfl, by decide +kernel, rfl, by decide +kernel, by decide +kernel⟩
theorem ok_grown (k : Nat) {v : Nat} (hv : v = k + 3) {f : Addr} {fd : FuncData} (F : Fun K "_law_grown" "_law_grown" s_grown f fd) (m_range : mg "range" = none) (m_len : mg "len" = none) (c__law_draw : CalG P w K mg base (L2.CX P w) 1 "_law_draw" spDraw)
    (c__law_apart : CalG P w K mg base (L2.CX P w) 2 "_law_apart" (spP K [.b] apPre (fun _ => 9) (fun _ d => apPost d))) (c__law_mates : CalG P w K mg base (L2.CX P w) 1 "_law_mates" (spF K [.b, .b] maF)) (c__law_left : CalG P w K mg base (L2.CX P w) 1 "_law_left" (spF K [.b, .b] woF))
    (c__law_grown : CalG P w K mg base (L2.CX P w) v "_law_grown" (spP K [.b, .b] (grPre k) grK grPost)) :
    FnG P w K mg base (L2.CX P w) (v + 1) f fd ["_law_pen_here", "_law_some", "_law_most"] (spP K [.b, .b] (grPre (k + 1)) grK grPost) := by
  subst hv
  refine fn_penR F sc_grown rfl rfl ?_
  rintro cdv A outer s H E hr hq
  have hu := hr.units
  have hp := @passX (cxOf (L2.CX P w) P w K mg base ["_law_pen_here", "_law_some", "_law_most", "_law_apart_so", "_law_numbers", "_law_number", "_law_mates_here", "_law_taken", "_law_one"] "_law_grown" (defScope s_grown) f cdv A outer s H E) E (takes_of rfl rfl rfl rfl)
  refine ⟨_, (pss_cons (ps_set (i := 3) sc_grown.nd rfl (Or.inl rfl) (pe_g c__law_apart hr (by first | decide | omega) hq hp rfl (pa_cons (pv 0) (pa_cons (pv 1) pa_nil))))
    (pss_cons (ps_if (PW.pt (pw_and (pt_cmpR op_ltD (pv 2) pe_int (nomark _)) (pw_and1 (pt_cmpR op_gtD (pe_g c__law_draw hr (by first | decide | omega) hq hp rfl (pa_cons (pv 0) (pa_cons pe_int pa_nil))) pe_int (nomark _))))) (pss_one (ps_ret pe_non)) pss_nil)
    (pss_cons (ps_setLc (i := 4) (own := [("_law_one", 8)]) (g := gName 8) (tt := _) rfl sc_grown.nd rfl rfl (sw_true rfl rfl rfl rfl) (pi_range1 rfl m_range (pa_cons pe_int pa_nil)) (blkOk_by (N := ["_law_pen_here", "_law_some", "_law_most", "_law_apart_so", "_law_numbers", "_law_number", "_law_mates_here", "_law_taken", "_law_one"]) (sc := defScope (top 16)) (by decide +kernel)) (fun _ _ _ _ _ => (pg_name (i := 8) sc_grown.nd rfl (Or.inl rfl))) (fun _ _ _ _ _ => (pts_one (PW.pt (pw_and (pt_cmpR (show OpR _ (compareOp .NotIn) (rInX K false) from (op_notInX hu)) (pv 8) (pe_g c__law_mates hr (by first | decide | omega) hq passF rfl (pa_cons (pv 1) (pa_cons (pv 8) pa_nil))) (by rfl)) (pw_and1 (pt_cmpR (show OpR _ (compareOp .NotEq) (rEqP K false) from (op_neP hu)) (pe_g c__law_mates hr (by first | decide | omega) hq passF rfl (pa_cons (pv 1) (pa_cons (pv 8) pa_nil))) (pe_lst pa_nil) (nomark _))))))) (fun _ _ _ _ _ => (pv 8)))
    (pss_cons (ps_if (PW.pt (pw_or (pt_cmpR (op_eqP hu) (pv 4) (pe_lst pa_nil) (nomark _)) (pw_or (pt_cmpR op_ltD (pv 2) pe_int (nomark _)) (pw_or1 (PW.pt (pw_and (pt_cmpR op_gtD (pe_callB c_lenD (by rfl) m_len PySem.boot_len (pa_cons (pv 3) pa_nil)) (pv 2) (nomark _)) (pw_and1 (pt_cmpR op_gtD (pe_g c__law_draw hr (by first | decide | omega) hq hp rfl (pa_cons (pv 0) (pa_cons pe_int pa_nil))) pe_int (nomark _))))))))) (pss_one (ps_ret (pe_tup (pa_cons pe_str (pa_cons (pv 3) pa_nil))))) pss_nil)
    (pss_cons (ps_set (i := 5) sc_grown.nd rfl (Or.inl rfl) (pe_ix ix_seq (pv 4) (pe_g c__law_draw hr (by first | decide | omega) hq hp rfl (pa_cons (pv 0) (pa_cons (pe_callB c_lenD (by rfl) m_len PySem.boot_len (pa_cons (pv 4) pa_nil)) pa_nil))) (fun _ _ => rfl)))
    (pss_cons (ps_set (i := 6) sc_grown.nd rfl (Or.inl rfl) (pe_g c__law_mates hr (by first | decide | omega) hq hp rfl (pa_cons (pv 1) (pa_cons (pv 5) pa_nil))))
    (pss_cons (ps_set (i := 7) sc_grown.nd rfl (Or.inl rfl) (pe_g c__law_grown hr (by first | decide | omega) hq hp rfl (pa_cons (pv 0) (pa_cons (pe_g c__law_left hr (by first | decide | omega) hq hp rfl (pa_cons (pv 1) (pa_cons (pe_lst (pa_cons (pv 5) pa_nil)) pa_nil))) (pa_cons (pe_op op_sub (pv 2) pe_int) pa_nil)))))
    (pss_one (ps_ret (pe_tup (pa_cons pe_str (pa_cons (pv 5) (pa_cons (pv 7) (pa_cons (pe_g c__law_grown hr (by first | decide | omega) hq hp rfl (pa_cons (pv 0) (pa_cons (pe_g c__law_left hr (by first | decide | omega) hq hp rfl (pa_cons (pv 1) (pa_cons (pv 6) pa_nil))) (pa_cons (pe_op op_sub (pv 2) (pe_callB c_lenD (by rfl) m_len PySem.boot_len (pa_cons (pv 6) pa_nil))) pa_nil)))) pa_nil)))))))))))))), fun p q ns => ⟨_, (ls_seq (ls_set (ln_pen rfl (ln_cons rfl ln_varb (ln_cons rfl ln_varb ln_nil)))) (ls_seq (ls_if (lt_and (lt_test (Ln.lend (ln_op ln_varb (Ln.lend ln_c) p2_cmp))) (lt_test (Ln.lend (ln_op (Ln.lend (ln_draw (ln_cons rfl ln_varb (ln_cons rfl (Ln.lend ln_c) ln_nil)))) (Ln.lend ln_c) p2_cmp)))) (ls_end (ls_ret ln_c)) ls_next) (ls_seq (ls_set (Ln.weak (ln_lc rfl (li_rng1 (Ln.lend ln_c)) lg_name ((lt_and (lt_test (Ln.lend (ln_op ln_varb (Ln.lend (ln_call rfl (ln_cons rfl ln_varb (ln_cons rfl ln_varb ln_nil)))) p2_inX))) (lt_test (Ln.lend (ln_op (Ln.lend (ln_call rfl (ln_cons rfl ln_varb (ln_cons rfl ln_varb ln_nil)))) (Ln.lend (Ln.weak (ln_lst rfl ln_nil))) p2_eq))))) ln_var))) (ls_seq (ls_if (lt_or (lt_test (Ln.lend (ln_op ln_varb (Ln.lend (Ln.weak (ln_lst rfl ln_nil))) p2_eq))) (lt_or (lt_test (Ln.lend (ln_op ln_varb (Ln.lend ln_c) p2_cmp))) (lt_and (lt_test (Ln.lend (ln_op (Ln.lend (ln_cb1 ln_varb p1_len)) ln_varb p2_cmp))) (lt_test (Ln.lend (ln_op (Ln.lend (ln_draw (ln_cons rfl ln_varb (ln_cons rfl (Ln.lend ln_c) ln_nil)))) (Ln.lend ln_c) p2_cmp)))))) (ls_end (ls_ret (ln_tup rfl (ln_cons rfl ln_c (ln_cons rfl ln_var ln_nil))))) ls_next) (ls_seq (ls_set (ln_op ln_varb (Ln.lend (ln_draw (ln_cons rfl ln_varb (ln_cons rfl (Ln.lend (ln_cb1 ln_varb p1_len)) ln_nil)))) p2_ix)) (ls_seq (ls_set (ln_call rfl (ln_cons rfl ln_varb (ln_cons rfl ln_varb ln_nil)))) (ls_seq (ls_set (ln_pen rfl (ln_cons rfl ln_varb (ln_cons rfl (Ln.lend (ln_call rfl (ln_cons rfl ln_varb (ln_cons rfl (Ln.lend (Ln.weak (ln_lst rfl (ln_cons rfl ln_var ln_nil)))) ln_nil)))) (ln_cons rfl (Ln.lend (ln_op ln_varb (Ln.lend ln_c) p2_rI0)) ln_nil))))) (ls_end (ls_ret (ln_tup rfl (ln_cons rfl ln_c (ln_cons rfl ln_var (ln_cons rfl ln_var (ln_cons rfl (ln_pen rfl (ln_cons rfl ln_varb (ln_cons rfl (Ln.lend (ln_call rfl (ln_cons rfl ln_varb (ln_cons rfl ln_varb ln_nil)))) (ln_cons rfl (Ln.lend (ln_op ln_varb (Ln.lend (ln_cb1 ln_varb p1_len)) p2_rI0)) ln_nil)))) ln_nil)))))))))))))), ?_⟩⟩
  rintro ds n0 hl ⟨ps, m, rfl, lp, sm, lt⟩ hn
  have hn : n0 + gK m ≤ 100000 := hn
  obtain ⟨g12, g1⟩ := gK_low m
  show DL.Run _ [.bor (.v (.ref p)), .bor (lP ps), .bor (dI m), .no, .no, .no, .no, .no, .no] n0 _
  with_reducible refine sq_setk ?_
  with_reducible refine' ck_pen (ds := [lP ps]) ?h1 ?h2 ?h3 ?_
  case h1 => walk_at "ev"
  case h2 => (show n0 + 9 ≤ 100000); omega
  case h3 => exact ⟨ps, rfl, lp⟩
  rintro d0 n1 l1 l2 ⟨vs, rfl, lv⟩
  replace l2 : n1 ≤ n0 + 9 := l2
  with_reducible refine Run.go ?_
  have ev1 : ∀ d ∈ rngD 0 7, ∃ n : Int, d = dI n := fun d hd => by
    have hd : d ∈ rng7.map dI := hd
    obtain ⟨n, _, e⟩ := List.mem_map.mp hd
    exact ⟨n, e.symm⟩
  have k1 : ∀ n : Int, inX false (dI n) (lI (mateI ps n)) = some (dB (decide (n ∉ mateI ps n))) := fun n => by
    rw [in_I]
    congr 2
    rw [Bool.eq_iff_iff]
    simp only [beq_iff_eq, Bool.false_eq, decide_eq_true_eq, decide_eq_false_iff_not]
  have k2 : ∀ n : Int, maF [lP ps, dI n] = some (.ok (lI (mateI ps n))) := fun n => ma_at (Nat.le_trans lp (by decide))
  have k3 : ∀ n : Int, eqD false (lI (mateI ps n)) (.lst []) = some (dB (decide (mateI ps n ≠ []))) := fun n => by rw [eq_I0, empty_ne]
  have lv1 : lenD (tP vs) = some (dI (vs.length : Int)) := by rw [lenD_t, List.length_map]
  have q0 := eq_I0 (b := true) (ns := numsG ps)
  have pO : Pap.ok (.pairs vs) := Nat.le_trans lv (by decide)
  by_cases hm : m < 0
  · have h1 : decide (m < 0) = true := decide_eq_true hm
    with_reducible refine sq_ifk ?_
    refine ck_band_t ?_ ?_
    · with_reducible apply evb_eq
      · walk_at "ev"
      · exact h1
    with_reducible refine ck_test ?_
    with_reducible refine ck_op ?_
    walk_at "dr"
    intro d n2 d0 d1 j1 j2
    walk_at "pure"
    refine ck_opt rfl (ck_opt rfl ?_)
    by_cases hd : d > 0
    · refine ck_if_t (decide_eq_true hd) ?_
      with_reducible refine Run.go ?_
      walk_at "run"
      exact ⟨by omega, by show n2 ≤ n0 + gK m; omega, .none, rfl, trivial, g1⟩
    · refine ck_if_f (decide_eq_false hd) ?_
      with_reducible refine Run.go ?_
      with_reducible refine sq_next ?_
      with_reducible apply sq_set
      · with_reducible apply ev_eq
        · with_reducible apply ev_lc (inG ps) id
          · exact evl_rng1 ev_c (by decide)
          · intro d hd
            obtain ⟨n, rfl⟩ := ev1 d hd
            have k1 := k1 n
            have k2 := k2 n
            have k3 := k3 n
            refine ⟨_, rfl, ?_, fun _ => by walk_at "ev"⟩
            with_reducible apply evb_eq
            · walk_at "ev"
            · rfl
          · exact le_line (Nat.le_of_ble_eq_true rfl)
        · exact congrArg D.lst (numsG_D ps)
      by_cases hg : numsG ps = []
      · have q1 : eqD true (.lst ((numsG ps).map dI)) (.lst []) = some (dB true) := by rw [hg] at q0 ⊢; exact q0
        clear q0
        walk_at "run"
        exact ⟨by omega, by show n2 ≤ n0 + gK m; omega, .pairs vs, rfl, pO, g1⟩
      · have q1 : eqD true (.lst ((numsG ps).map dI)) (.lst []) = some (dB false) := by
          refine q0.trans ?_
          cases e : numsG ps with
          | nil => exact absurd e hg
          | cons => rfl
        clear q0
        with_reducible refine sq_ifk ?_
        refine ck_bor_f ?_ (ck_bor_t ?_ (ck_if_t rfl ?_))
        · walk_at "ev"
        · with_reducible apply evb_eq
          · walk_at "ev"
          · exact h1
        with_reducible refine Run.go ?_
        walk_at "run"
        exact ⟨by omega, by show n2 ≤ n0 + gK m; omega, .pairs vs, rfl, pO, g1⟩
  · have h1 : decide (m < 0) = false := decide_eq_false hm
    with_reducible refine sq_ifk ?_
    refine ck_band_f ?_ (ck_if_f rfl ?_)
    · with_reducible apply evb_eq
      · walk_at "ev"
      · exact h1
    with_reducible refine Run.go ?_
    with_reducible refine sq_next ?_
    with_reducible apply sq_set
    · with_reducible apply ev_eq
      · with_reducible apply ev_lc (inG ps) id
        · exact evl_rng1 ev_c (by decide)
        · intro d hd
          obtain ⟨n, rfl⟩ := ev1 d hd
          have k1 := k1 n
          have k2 := k2 n
          have k3 := k3 n
          refine ⟨_, rfl, ?_, fun _ => by walk_at "ev"⟩
          with_reducible apply evb_eq
          · walk_at "ev"
          · rfl
        · exact le_line (Nat.le_of_ble_eq_true rfl)
      · exact congrArg D.lst (numsG_D ps)
    by_cases hg : numsG ps = []
    · have q1 : eqD true (.lst ((numsG ps).map dI)) (.lst []) = some (dB true) := by rw [hg] at q0 ⊢; exact q0
      clear q0
      with_reducible refine sq_ifk ?_
      refine ck_bor_t ?_ (ck_if_t rfl ?_)
      · walk_at "ev"
      with_reducible refine Run.go ?_
      walk_at "run"
      exact ⟨by omega, by show n1 ≤ n0 + gK m; omega, .pairs vs, rfl, pO, g1⟩
    · have q1 : eqD true (.lst ((numsG ps).map dI)) (.lst []) = some (dB false) := by
        refine q0.trans ?_
        cases e : numsG ps with
        | nil => exact absurd e hg
        | cons => rfl
      clear q0
      have npos : 0 < (numsG ps).length := List.length_pos_iff.mpr hg
      have n7 : (numsG ps).length ≤ 7 := List.length_filter_le _ _
      have ln : lenD (.lst ((numsG ps).map dI)) = some (dI ((numsG ps).length : Int)) := by rw [lenD_l, List.length_map]
      have pick : ∀ d : Int, 0 ≤ d → d < ((numsG ps).length : Int) → ∃ n, n ∈ numsG ps ∧ ixD (.lst ((numsG ps).map dI)) (dI d) = some (dI n) := fun d d0 d1 => by
        have lt : d.toNat < (numsG ps).length := by omega
        refine ⟨(numsG ps)[d.toNat], List.getElem_mem lt, ?_⟩
        show atI _ d = _
        have e := atI_nat (xs := (numsG ps).map dI) (j := d.toNat) (v := dI (numsG ps)[d.toNat]) (by rw [List.getElem?_map, List.getElem?_eq_getElem lt]; rfl)
        rw [Int.toNat_of_nonneg d0] at e
        exact e
      with_reducible refine sq_ifk ?_
      refine ck_bor_f ?_ (ck_bor_f ?_ ?_)
      · walk_at "ev"
      · with_reducible apply evb_eq
        · walk_at "ev"
        · exact h1
      by_cases hv : (vs.length : Int) > m
      · refine ck_band_t ?_ ?_
        · with_reducible apply evb_eq
          · walk_at "ev"
          · exact decide_eq_true hv
        with_reducible refine ck_test ?_
        with_reducible refine ck_op ?_
        walk_at "dr"
        intro d n2 d0 d1 j1 j2
        walk_at "pure"
        refine ck_opt rfl (ck_opt rfl ?_)
        by_cases hd : d > 0
        · refine ck_if_t (decide_eq_true hd) ?_
          with_reducible refine Run.go ?_
          walk_at "run"
          exact ⟨by omega, by show n2 ≤ n0 + gK m; omega, .pairs vs, rfl, pO, g1⟩
        · refine ck_if_f (decide_eq_false hd) ?_
          with_reducible refine Run.go ?_
          with_reducible refine sq_next ?_
          with_reducible refine sq_setk ?_
          with_reducible refine ck_op ?_
          walk_at "pure"
          with_reducible refine' ck_draw ?h1 ?h2 ?h3 ?h4 ?_
          case h1 => walk_at "ev"
          case h2 => omega
          case h3 => exact Nat.lt_of_le_of_lt (show ((numsG ps).length : Int).natAbs ≤ 7 by omega) (by decide)
          case h4 => omega
          intro x n3 x0 x1 y1 y2
          obtain ⟨n, hn, ex⟩ := pick x x0 x1
          refine ck_opt ex ?_
          with_reducible refine Run.go ?_
          have k2 := k2 n
          obtain ⟨t1, t2, t3, t4⟩ := grown_lt hn
          have w1 : woF [lP ps, .lst [dI n]] = some (.ok (lP (wo ps [n]))) := wo_at (b := false) (ns := [n]) (Nat.le_trans lp (by decide)) (Nat.le_of_ble_eq_true rfl)
          have w2 : woF [lP ps, lI (mateI ps n)] = some (.ok (lP (wo ps (mateI ps n)))) := wo_at (b := false) (Nat.le_trans lp (by decide)) (by omega)
          have l1 : lenD (lI (mateI ps n)) = some (dI ((mateI ps n).length : Int)) := by rw [lenD_l, List.length_map]
          obtain ⟨gu1, gu2⟩ := gK_up (m := m) (by omega) (c := ((mateI ps n).length : Int)) (by omega)
          with_reducible apply sq_set
          · walk_at "ev"
          with_reducible refine sq_setk ?_
          with_reducible refine' ck_pen (ds := [lP (wo ps [n]), dI (m - 1)]) ?h1 ?h2 ?h3 ?_
          case h1 => walk_at "ev"
          case h2 => (show n3 + gK (m - 1) ≤ 100000); omega
          case h3 => exact ⟨_, _, rfl, by omega, small_wo sm, by omega⟩
          rintro e1 n4 y3 y4 ⟨pt, rfl, okt, szt⟩
          replace y4 : n4 ≤ n3 + gK (m - 1) := y4
          replace szt : pt.sz ≤ 2 ^ gE (m - 1) - 1 := szt
          with_reducible refine Run.go ?_
          with_reducible refine sq_retk ?_
          with_reducible refine ck_tup ?_
          with_reducible refine ck_cons ?_
          walk_at "pure"
          with_reducible refine ck_cons ?_
          walk_at "pure"
          with_reducible refine ck_cons ?_
          walk_at "pure"
          with_reducible refine ck_cons ?_
          with_reducible refine' ck_pen (ds := [lP (wo ps (mateI ps n)), dI (m - ((mateI ps n).length : Int))]) ?h1 ?h2 ?h3 ?_
          case h1 => walk_at "ev"
          case h2 => (show n4 + gK (m - ((mateI ps n).length : Int)) ≤ 100000); omega
          case h3 => exact ⟨_, _, rfl, by omega, small_wo sm, by omega⟩
          rintro e2 n5 y5 y6 ⟨pt2, rfl, okt2, szt2⟩
          replace y6 : n5 ≤ n4 + gK (m - ((mateI ps n).length : Int)) := y6
          replace szt2 : pt2.sz ≤ 2 ^ gE (m - ((mateI ps n).length : Int)) - 1 := szt2
          with_reducible refine ck_nil ?_
          refine ⟨le_line (Nat.le_of_ble_eq_true rfl), by omega, by show n5 ≤ n0 + gK m; omega, .case n pt pt2, rfl, ⟨okt, okt2⟩, ?_⟩
          show 1 + pt.sz + pt2.sz ≤ 2 ^ gE m - 1
          omega
      · refine ck_band_f ?_ (ck_if_f rfl ?_)
        · with_reducible apply evb_eq
          · walk_at "ev"
          · exact decide_eq_false hv
        with_reducible refine Run.go ?_
        with_reducible refine sq_next ?_
        with_reducible refine sq_setk ?_
        with_reducible refine ck_op ?_
        walk_at "pure"
        with_reducible refine' ck_draw ?h1 ?h2 ?h3 ?h4 ?_
        case h1 => walk_at "ev"
        case h2 => omega
        case h3 => exact Nat.lt_of_le_of_lt (show ((numsG ps).length : Int).natAbs ≤ 7 by omega) (by decide)
        case h4 => omega
        intro x n3 x0 x1 y1 y2
        obtain ⟨n, hn, ex⟩ := pick x x0 x1
        refine ck_opt ex ?_
        with_reducible refine Run.go ?_
        have k2 := k2 n
        obtain ⟨t1, t2, t3, t4⟩ := grown_lt hn
        have w1 : woF [lP ps, .lst [dI n]] = some (.ok (lP (wo ps [n]))) := wo_at (b := false) (ns := [n]) (Nat.le_trans lp (by decide)) (Nat.le_of_ble_eq_true rfl)
        have w2 : woF [lP ps, lI (mateI ps n)] = some (.ok (lP (wo ps (mateI ps n)))) := wo_at (b := false) (Nat.le_trans lp (by decide)) (by omega)
        have l1 : lenD (lI (mateI ps n)) = some (dI ((mateI ps n).length : Int)) := by rw [lenD_l, List.length_map]
        obtain ⟨gu1, gu2⟩ := gK_up (m := m) (by omega) (c := ((mateI ps n).length : Int)) (by omega)
        with_reducible apply sq_set
        · walk_at "ev"
        with_reducible refine sq_setk ?_
        with_reducible refine' ck_pen (ds := [lP (wo ps [n]), dI (m - 1)]) ?h1 ?h2 ?h3 ?_
        case h1 => walk_at "ev"
        case h2 => (show n3 + gK (m - 1) ≤ 100000); omega
        case h3 => exact ⟨_, _, rfl, by omega, small_wo sm, by omega⟩
        rintro e1 n4 y3 y4 ⟨pt, rfl, okt, szt⟩
        replace y4 : n4 ≤ n3 + gK (m - 1) := y4
        replace szt : pt.sz ≤ 2 ^ gE (m - 1) - 1 := szt
        with_reducible refine Run.go ?_
        with_reducible refine sq_retk ?_
        with_reducible refine ck_tup ?_
        with_reducible refine ck_cons ?_
        walk_at "pure"
        with_reducible refine ck_cons ?_
        walk_at "pure"
        with_reducible refine ck_cons ?_
        walk_at "pure"
        with_reducible refine ck_cons ?_
        with_reducible refine' ck_pen (ds := [lP (wo ps (mateI ps n)), dI (m - ((mateI ps n).length : Int))]) ?h1 ?h2 ?h3 ?_
        case h1 => walk_at "ev"
        case h2 => (show n4 + gK (m - ((mateI ps n).length : Int)) ≤ 100000); omega
        case h3 => exact ⟨_, _, rfl, by omega, small_wo sm, by omega⟩
        rintro e2 n5 y5 y6 ⟨pt2, rfl, okt2, szt2⟩
        replace y6 : n5 ≤ n4 + gK (m - ((mateI ps n).length : Int)) := y6
        replace szt2 : pt2.sz ≤ 2 ^ gE (m - ((mateI ps n).length : Int)) - 1 := szt2
        with_reducible refine ck_nil ?_
        refine ⟨le_line (Nat.le_of_ble_eq_true rfl), by omega, by show n5 ≤ n0 + gK m; omega, .case n pt pt2, rfl, ⟨okt, okt2⟩, ?_⟩
        show 1 + pt.sz + pt2.sz ≤ 2 ^ gE m - 1
        omega
end
end L2.K58
namespace L2.K58
open L2 L2.My L2.DL NdefX PySem PySem.Spec PyProof.Rows
local macro_rules | `(tactic| walk_at "tru0") => `(tactic| first
  | rfl
  | with_reducible assumption
  | decide)
local macro_rules | `(tactic| walk_at "tru") => `(tactic| first
  | rfl
  | with_reducible assumption
  | decide
  | (simp; done))
local macro_rules | `(tactic| walk_at "val") => `(tactic| first
  | with_reducible assumption
  | with_reducible exact cmpD_i
  | with_reducible exact eqD_i
  | with_reducible exact eqD_s
  | with_reducible exact eqD_b
  | with_reducible exact eqD_n
  | with_reducible exact eqD_in
  | with_reducible exact eqD_ni
  | with_reducible exact eqD_sn
  | with_reducible exact eqD_ns
  | with_reducible exact ix_0
  | with_reducible exact ix_1
  | with_reducible exact in_P
  | with_reducible exact in_pair
  | with_reducible exact in_I
  | with_reducible exact in_tI
  | with_reducible exact in_dT
  | with_reducible exact eq_P0
  | with_reducible exact eq_I0
  | with_reducible exact cmpD_s
  | with_reducible exact lenD_l
  | with_reducible exact lenD_t
  | rfl)
local macro_rules | `(tactic| walk_at "len") => `(tactic| ((refine le_line ?_); (simp only [List.length_cons, List.length_nil, List.length_append, List.length_map]); (first | done | decide | omega)))
local macro_rules | `(tactic| walk_at "ev") => `(tactic| first
  | with_reducible exact ev_c
  | ((with_reducible apply ev_vd); rfl)
  | ((with_reducible apply ev_vb); rfl)
  | ((with_reducible apply ev_vs); rfl)
  | ((with_reducible apply ev_vo); rfl)
  | ((with_reducible apply ev_op); walk_at "ev"; walk_at "ev"; walk_at "val")
  | ((with_reducible apply ev_un); walk_at "ev"; walk_at "val")
  | with_reducible exact ev_nil
  | ((with_reducible apply ev_cons); walk_at "ev"; walk_at "ev")
  | ((with_reducible apply ev_tup); walk_at "ev"; walk_at "len")
  | ((with_reducible apply ev_lst); walk_at "ev"; walk_at "len")
  | ((with_reducible apply ev_not); walk_at "ev")
  | ((with_reducible apply ev_andR); walk_at "ev"; walk_at "and")
  | ((with_reducible apply ev_orR); walk_at "ev"; walk_at "and")
  | ((with_reducible apply ev_ifR); walk_at "ev"; walk_at "ite"; walk_at "ev")
  | ((with_reducible apply evb_test); walk_at "ev")
  | ((with_reducible apply evb_not); walk_at "ev")
  | with_reducible exact evb_yes
  | ((with_reducible apply evb_andR); walk_at "ev"; walk_at "and")
  | ((with_reducible apply evb_orR); walk_at "ev"; walk_at "and")
  | ((with_reducible apply ev_chain); walk_at "ev"; walk_at "ev"; walk_at "ev"; walk_at "val"; walk_at "val")
  | ((with_reducible apply ev_call); walk_at "ev"; walk_at "val")
  | ((with_reducible apply ev_mk); walk_at "ev"; walk_at "val")
  | ((with_reducible apply ev_fld); walk_at "ev"; walk_at "att"; walk_at "val")
  | ((with_reducible apply ev_sl); walk_at "ev"; walk_at "ev"; walk_at "ev"; walk_at "val")
  | ((with_reducible apply ev_sw1); walk_at "ev")
  | ((with_reducible apply ev_sw2); walk_at "ev")
  | ((with_reducible apply evl_seq); walk_at "ev"; rfl)
  | with_reducible exact evo_none
  | ((with_reducible apply evo_some); walk_at "ev"))
local macro_rules | `(tactic| walk_at "att") => `(tactic| first
  | with_reducible assumption
  | apply_assumption)
local macro_rules | `(tactic| walk_at "and") => `(tactic| first
  | ((with_reducible apply AndR.t); (focus (walk_at "tru0")); walk_at "ev")
  | ((with_reducible apply AndR.f); walk_at "tru0")
  | ((with_reducible apply AndR.b); intro _; walk_at "ev")
  | ((with_reducible apply OrR.t); walk_at "tru0")
  | ((with_reducible apply OrR.f); (focus (walk_at "tru0")); walk_at "ev")
  | ((with_reducible apply OrR.b); intro _; walk_at "ev")
  | ((with_reducible apply BAndR.t); (focus (walk_at "tru0")); walk_at "ev")
  | ((with_reducible apply BAndR.f); walk_at "tru0")
  | ((with_reducible apply BAndR.b); intro _; walk_at "ev")
  | ((with_reducible apply BOrR.t); walk_at "tru0")
  | ((with_reducible apply BOrR.f); (focus (walk_at "tru0")); walk_at "ev")
  | ((with_reducible apply BOrR.b); intro _; walk_at "ev"))
local macro_rules | `(tactic| walk_at "ite") => `(tactic| first
  | ((with_reducible refine ite_t ?_ ?_); (focus (walk_at "tru0")))
  | ((with_reducible refine ite_f ?_ ?_); (focus (walk_at "tru0")))
  | ((with_reducible refine ite_t ?_ ?_); (focus (walk_at "tru")))
  | ((with_reducible refine ite_f ?_ ?_); (focus (walk_at "tru"))))
local macro_rules | `(tactic| walk_at "st") => `(tactic| first
  | with_reducible refine sq_assoc ?_
  | with_reducible refine sq_next ?_
  | ((with_reducible apply sq_set); (walk_at "ev"))
  | ((with_reducible apply sq_ret); (walk_at "ev"))
  | ((with_reducible apply sq_own); (walk_at "ev"); rfl)
  | ((with_reducible apply sq_drop); (walk_at "ev"))
  | ((with_reducible apply sq_ifR); (walk_at "ev"); (walk_at "ite"))
  | ((with_reducible apply sq_par); (walk_at "ev"))
  | ((with_reducible apply sq_app); rfl; (walk_at "ev"); (walk_at "len"))
  | ((with_reducible apply sq_asg); (walk_at "ev"); rfl)
  | with_reducible refine sq_nx ?_)
local macro_rules | `(tactic| walk_at "run") => `(tactic| repeat walk_at "st")
local macro_rules | `(tactic| walk_at "ck") => `(tactic| first
  | with_reducible refine ck_cons ?_
  | with_reducible refine ck_op ?_
  | with_reducible refine ck_nil ?_
  | with_reducible refine ck_lst ?_
  | with_reducible refine ck_tup ?_
  | with_reducible refine ck_un ?_)
local macro_rules | `(tactic| walk_at "pure") => `(tactic| ((with_reducible refine' ck_ev ?hh ?_); (case hh => walk_at "ev")))
local macro_rules | `(tactic| walk_at "dr") => `(tactic| ((with_reducible refine' ck_draw ?h1 ?h2 ?h3 ?h4 ?_); (case h1 => walk_at "ev"); (case h2 => first | decide | omega); (case h3 => decide); (case h4 => omega)))
theorem sortK_len {α : Type} {κ : α → Int} : ∀ l : List α, (sortK κ l).length ≤ l.length
  | [] => Nat.le_refl _
  | x :: r => by
    have ins : ∀ l : List α, (insK κ x l).length ≤ l.length + 1 := fun l => by
      induction l with
      | nil => exact Nat.le_refl _
      | cons y r ih =>
        unfold insK
        split
        · exact Nat.le_refl _
        · split
          · exact Nat.le_succ _
          · rw [List.length_cons, List.length_cons]; omega
    have := sortK_len (κ := κ) r
    have := ins (sortK κ r)
    show (insK κ x (sortK κ r)).length ≤ r.length + 1
    omega
def negD : D → Option D
  | .v (.int i) => some (dI (-i))
  | _ => none
theorem p1_neg {K : W.Frag} : P1 K .s (rU fun i => .int (-i)) negD := by
  intro g m H v d c Q hm r e k
  unfold negD at e
  split at e
  · cases e
    exact ⟨_, RBo.sc r, k _ H (Same.refl _) (.v _)⟩
  · cases e
theorem sure_size : ∀ (k : Nat) {ps : List Pr} {m : Int}, ps.length ≤ 30 → Small ps → (sureF k ps m).ok ∧ (sureF k ps m).sz ≤ 2 ^ gE m - 1
  | 0, _, m, _, _ => ⟨trivial, (gK_low m).2⟩
  | k + 1, ps, m, lp, sm => by
    unfold sureF
    by_cases hm : m < 0
    · rw [if_pos hm]
      exact ⟨trivial, (gK_low m).2⟩
    · rw [if_neg hm]
      split
      · exact ⟨Nat.le_trans (sortK_len _) (Nat.le_trans (List.length_filter_le _ _) (Nat.le_trans lp (by decide))), (gK_low m).2⟩
      · rename_i n r e
        obtain ⟨h1, h2, h3, h4, h5⟩ := chosen sm (show n ∈ numsS ps by rw [e]; exact List.mem_cons_self)
        have pos : 1 ≤ (mateI ps n).length := by rw [h2]; exact List.length_pos_iff.mpr h3
        obtain ⟨a1, a2⟩ := sure_size k (ps := wo ps [n]) (m := m - 1) (Nat.le_trans (List.length_filter_le _ _) lp) (small_wo sm)
        obtain ⟨b1, b2⟩ := sure_size k (ps := wo ps (mateI ps n)) (m := m - (mateI ps n).length) (Nat.le_trans (List.length_filter_le _ _) lp) (small_wo sm)
        have := (gK_up (m := m) (by omega) (c := ((mateI ps n).length : Int)) (by omega)).2
        refine ⟨⟨a1, b1⟩, ?_⟩
        show 1 + (sureF k (wo ps [n]) (m - 1)).sz + (sureF k (wo ps (mateI ps n)) (m - (mateI ps n).length)).sz ≤ _
        omega
theorem gE_6 {m : Int} (h : m ≤ 6) : 2 ^ gE m - 1 ≤ 255 ∧ gK m ≤ 3060 := by
  have l : 2 ^ gE m ≤ 2 ^ 8 := Nat.pow_le_pow_right (by decide) (by unfold gE; omega)
  unfold gK
  omega
section
variable {S : Type} {c c' : TB S} {ρ : DL.Env} {s : S} {QB : Bool → S → Prop} {X : DL.Exn → S → Prop}
theorem ck_band (h : c ρ s (fun b s1 => if b = true then c' ρ s1 QB X else QB false s1) X) : bAnd c c' ρ s QB X := h
end
section
variable {P : Program} {w : World} {K : W.Frag} {mg : Str → Option Value} {base : Heap}
abbrev s_law : Stmt := top 19
theorem sc_law : FnScope ["_law_script", "_law_pen_here", "_law_turn", "_law_some", "_law_best", "_law_lap", "_law_most", "_law_sure_here", "_law_lower"] ["_law_script"] (defScope s_law) := ⟨rfl, rfl, rfl, by decide +kernel, rfl, by decide +kernel, by decide +kernel⟩
theorem ok_law {f : Addr} {fd : FuncData} (F : Fun K "law" "law" s_law f fd) (m_range : mg "range" = none) (c__law_pen : CalG P w K mg base (L2.CX P w) 1 "_law_pen" (spPen K)) (c__law_draw : CalG P w K mg base (L2.CX P w) 1 "_law_draw" spDraw)
    (c__law_pairs : CalG P w K mg base (L2.CX P w) 2 "_law_pairs" (spP K [] (fun _ => True) (fun _ => 19) (fun _ d => ∃ ps : List Pr, d = lP ps ∧ ps.length ≤ 9 ∧ Small ps))) (c__law_fewest : CalG P w K mg base (L2.CX P w) 2 "_law_fewest" (spF K [.b] fwF))
    (c_shows_cover : CalG P w K mg base (L2.CX P w) 4 "shows_cover" (spF K [.b, .s, .s] shF)) (c__law_grown : CalG P w K mg base (L2.CX P w) 13 "_law_grown" (spP K [.b, .b] (grPre 10) grK grPost)) (c__law_sure : CalG P w K mg base (L2.CX P w) 12 "_law_sure" (spF K [.b, .b] (suF 10))) :
    FnG P w K mg base CX0 14 f fd ["_law_script"] (spLaw K) := by
  refine fn_law F sc_law (by decide) rfl ?_
  rintro cdv A outer s H hr hq
  have hu := hr.units
  refine ⟨_, (ps_set (i := 1) sc_law.nd rfl (Or.inl rfl) (pe_g c__law_pen hr (by first | decide | omega) hq passF rfl (pa_cons (pv 0) pa_nil))), (pss_cons (ps_for PassesOwn.never rfl (pi_range1 rfl m_range (pa_cons pe_int pa_nil)) (pg_name (i := 2) sc_law.nd rfl (Or.inl rfl)) (pss_cons (ps_set (i := 3) sc_law.nd rfl (Or.inl rfl) (pe_g c__law_pairs hr (by first | decide | omega) hq passF rfl (pa_cons (pv 1) pa_nil)))
    (pss_cons (ps_set (i := 4) sc_law.nd rfl (Or.inl rfl) (pe_g c__law_fewest hr (by first | decide | omega) hq passF rfl (pa_cons (pv 3) pa_nil)))
    (pss_cons (ps_for PassesOwn.never rfl (pi_range1 rfl m_range (pa_cons pe_int pa_nil)) (pg_name (i := 5) sc_law.nd rfl (Or.inl rfl)) (pss_cons (ps_set (i := 6) sc_law.nd rfl (Or.inl rfl) (pe_op op_sub (pe_g c__law_draw hr (by first | decide | omega) hq passF rfl (pa_cons (pv 1) (pa_cons pe_int pa_nil))) pe_int))
    (pss_one (ps_if (PW.pt (pw_and (pt_val (pe_g c_shows_cover hr (by first | decide | omega) hq passF rfl (pa_cons (pv 3) (pa_cons (pv 6) (pa_cons (pe_g c__law_grown hr (by first | decide | omega) hq passF rfl (pa_cons (pv 1) (pa_cons (pv 3) (pa_cons (pv 6) pa_nil)))) pa_nil))))) (pw_and1 (pt_cmpR op_geD (pv 6) (pv 4) (nomark _))))) (pss_one (ps_ret pe_bl)) pss_nil))))
    (pss_cons (ps_set (i := 7) sc_law.nd rfl (Or.inl rfl) (pe_g c__law_sure hr (by first | decide | omega) hq passF rfl (pa_cons (pv 3) (pa_cons (pe_op op_sub (pv 4) pe_int) pa_nil))))
    (pss_cons (ps_if (PW.pt (pw_or (pt_cmpR op_isNotD (pe_g c_shows_cover hr (by first | decide | omega) hq passF rfl (pa_cons (pv 3) (pa_cons (pe_op op_sub (pv 4) pe_int) (pa_cons (pv 7) pa_nil)))) pe_bl (nomark _)) (pw_or1 (pt_cmpR op_isNotD (pe_g c_shows_cover hr (by first | decide | omega) hq passF rfl (pa_cons (pv 3) (pa_cons (pv 4) (pa_cons (pv 7) pa_nil)))) pe_bl (nomark _))))) (pss_one (ps_ret pe_bl)) pss_nil)
    (pss_cons (ps_if (pt_cmpR op_isNotD (pe_g c_shows_cover hr (by first | decide | omega) hq passF rfl (pa_cons (pe_op op_addD (pe_revL (pv 3)) (pv 3)) (pa_cons (pe_op op_sub (pv 4) pe_int) (pa_cons (pv 7) pa_nil)))) pe_bl (nomark _)) (pss_one (ps_ret pe_bl)) pss_nil)
    (pss_one (ps_for PassesOwn.never rfl (pi_seq (pe_tup (pa_cons (pe_op op_sub (pv 4) pe_int) (pa_cons (pe_un un_neg pe_int) (pa_cons (pe_un un_neg pe_int) pa_nil))))) (pg_name (i := 8) sc_law.nd rfl (Or.inl rfl)) (pss_one (ps_if (pt_cmpR op_isNotD (pe_g c_shows_cover hr (by first | decide | omega) hq passF rfl (pa_cons (pv 3) (pa_cons (pv 8) (pa_cons (pv 7) pa_nil)))) pe_bl (nomark _)) (pss_one (ps_ret pe_bl)) pss_nil)))))))))))
    (pss_one (ps_ret pe_bl))), fun p q ns => ⟨_, (ls_seq (ls_for (li_rng1 (Ln.lend ln_c)) lg_name (ls_seq (ls_set (ln_pen rfl (ln_cons rfl ln_varb ln_nil))) (ls_seq (ls_set (ln_call rfl (ln_cons rfl ln_varb ln_nil))) (ls_seq (ls_for (li_rng1 (Ln.lend ln_c)) lg_name (ls_seq (ls_set (ln_op (Ln.lend (ln_draw (ln_cons rfl ln_varb (ln_cons rfl (Ln.lend ln_c) ln_nil)))) (Ln.lend ln_c) p2_rI0)) (ls_end (ls_if (lt_and (lt_val (Ln.lend (ln_call rfl (ln_cons rfl ln_varb (ln_cons rfl ln_var (ln_cons rfl (ln_pen rfl (ln_cons rfl ln_varb (ln_cons rfl ln_varb (ln_cons rfl ln_varb ln_nil)))) ln_nil)))))) (lt_test (Ln.lend (ln_op ln_varb ln_varb p2_cmp)))) (ls_end (ls_ret ln_c)) ls_next)))) (ls_seq (ls_set (ln_call rfl (ln_cons rfl ln_varb (ln_cons rfl (Ln.lend (ln_op ln_varb (Ln.lend ln_c) p2_rI0)) ln_nil)))) (ls_seq (ls_if (lt_or (lt_test (Ln.lend (ln_op (Ln.lend (ln_call rfl (ln_cons rfl ln_varb (ln_cons rfl (ln_op ln_varb (Ln.lend ln_c) p2_rI0) (ln_cons rfl ln_var ln_nil))))) (Ln.lend ln_c) p2_is))) (lt_test (Ln.lend (ln_op (Ln.lend (ln_call rfl (ln_cons rfl ln_varb (ln_cons rfl ln_var (ln_cons rfl ln_var ln_nil))))) (Ln.lend ln_c) p2_is)))) (ls_end (ls_ret ln_c)) ls_next) (ls_seq (ls_if (lt_test (Ln.lend (ln_op (Ln.lend (ln_call rfl (ln_cons rfl (Ln.lend (ln_op (Ln.lend (Ln.weak (ln_revL ln_varb))) ln_varb p2_add)) (ln_cons rfl (ln_op ln_varb (Ln.lend ln_c) p2_rI0) (ln_cons rfl ln_var ln_nil))))) (Ln.lend ln_c) p2_is))) (ls_end (ls_ret ln_c)) ls_next) (ls_end (ls_for (li_seq (ln_tup rfl (ln_cons rfl (ln_op ln_varb (Ln.lend ln_c) p2_rI0) (ln_cons rfl (ln_un (Ln.lend ln_c) p1_neg) (ln_cons rfl (ln_un (Ln.lend ln_c) p1_neg) ln_nil))))) lg_name (ls_end (ls_if (lt_test (Ln.lend (ln_op (Ln.lend (ln_call rfl (ln_cons rfl ln_varb (ln_cons rfl ln_var (ln_cons rfl ln_var ln_nil))))) (Ln.lend ln_c) p2_is))) (ls_end (ls_ret ln_c)) ls_next))))))))))) (ls_end (ls_ret ln_c))), ?_⟩⟩
-- slots: 0:_law_script 1:_law_pen_here 2:_law_turn 3:_law_some 4:_law_best 5:_law_lap 6:_law_most 7:_law_sure_here 8:_law_lower; needs: c__law_pen m_range c__law_pairs c__law_fewest c__law_draw c_shows_cover c__law_grown c__law_sure
  show DL.Run _ [.no, .d (.v (.ref p)), .no, .no, .no, .no, .no, .no, .no] 0 postW
  with_reducible refine sq_for (fun ds ρ n => ρ = [.no, .d (.v (.ref p)), .no, .no, .no, .no, .no, .no, .no] ∧ ds.length ≤ 6 ∧ n ≤ 12263 * (6 - ds.length)) (evl_rng1 ev_c (by decide)) ⟨rfl, by simp [rngD], by simp [rngD]⟩ ?_ ?_
  · rintro ρ n ⟨rfl, _, _⟩
    walk_at "run"
    rfl
  · rintro dt rt Fr Bk hF hB ρ n ⟨rfl, hl, hn⟩
    rw [List.length_cons] at hl hn
    refine ⟨_, rfl, ?_⟩
    with_reducible refine sq_setk ?_
    with_reducible refine' ck_pen (ds := []) ?h1 ?h2 ?h3 ?_
    case h1 => walk_at "ev"
    case h2 => (show n + 19 ≤ 100000); omega
    case h3 => trivial
    rintro d n1 l1 l2 ⟨ps, rfl, lp, sm⟩
    replace l2 : n1 ≤ n + 19 := l2
    with_reducible refine Run.go ?_
    have lp30 : ps.length ≤ 30 := Nat.le_trans lp (by decide)
    have f1 := fw_at lp30
    have f7 := few_7 ps
    obtain ⟨T0, nd0, cov0, len0⟩ := few_ex sm
    have sound : ∀ {m : Int} {pap : Pap}, chk ps m pap = true → m < (fewF ps : Int) := fun h => by
      have := chk_sound nd0 cov0 h
      rw [len0] at this
      exact this
    with_reducible apply sq_set
    · walk_at "ev"
    with_reducible refine sq_for (fun ds ρ n => ρ = [.no, .d (.v (.ref p)), .d dt, .d (lP ps), .d (dI (fewF ps)), .no, .no, .no, .no] ∧ ds.length ≤ 4 ∧ n ≤ n1 + 3061 * (4 - ds.length)) (evl_rng1 ev_c (by decide)) ⟨rfl, by simp [rngD], by simp [rngD]⟩ ?_ ?_
    · rintro ρ n2 ⟨rfl, _, h2⟩
      replace h2 : n2 ≤ n1 + 12244 := h2
      have u1 := su_at (k := 10) (m := (fewF ps : Int) - 1) lp30 sm (by omega)
      obtain ⟨ok1, sz1⟩ := sure_size 10 (m := (fewF ps : Int) - 1) lp30 sm
      have sz1 := Nat.le_trans sz1 (gE_6 (m := (fewF ps : Int) - 1) (by omega)).1
      have cs : chk ps ((fewF ps : Int) - 1) (sureF 10 ps ((fewF ps : Int) - 1)) = true := sure_ok 10 (by omega) sm fun T nd hT => by
        have := few_le sm nd hT
        omega
      generalize sureF 10 ps ((fewF ps : Int) - 1) = pap at u1 ok1 sz1 cs
      have sz9 : pap.sz ≤ 900 := by omega
      have s1 : shF [lP ps, dI ((fewF ps : Int) - 1), pap.d] = some (.ok (dB true)) := by rw [sh_at lp30 ok1 sz9, cs]
      have s2 : shF [lP ps, dI (fewF ps : Int), pap.d] = some (.ok (dB false)) := by
        have : chk ps (fewF ps : Int) pap = false := by
          cases q : chk ps (fewF ps : Int) pap with
          | false => rfl
          | true => have := sound q; omega
        rw [sh_at lp30 ok1 sz9, this]
      have r1 : revD (lP ps) = some (.lst (ps.map dP).reverse) := rfl
      have a1 : addD (.lst (ps.map dP).reverse) (lP ps) = some (lP (ps.reverse ++ ps)) := by
        show (if (ps.map dP).reverse.length + (ps.map dP).length ≤ sizeLine then some (D.lst ((ps.map dP).reverse ++ ps.map dP)) else none) = _
        have e : (ps.map dP).reverse ++ ps.map dP = (ps.reverse ++ ps).map dP := by rw [List.map_append, List.map_reverse]
        rw [if_pos (le_line (by rw [List.length_reverse, List.length_map]; omega)), e]
      have s3 : shF [lP (ps.reverse ++ ps), dI ((fewF ps : Int) - 1), pap.d] = some (.ok (dB true)) := by
        have e : chk (ps.reverse ++ ps) ((fewF ps : Int) - 1) pap = true := by
          rw [← cs]
          refine (same_chk fun q => ?_).symm
          rw [List.mem_append, List.mem_reverse, or_self]
        rw [sh_at (by rw [List.length_append, List.length_reverse]; omega) ok1 sz9, e]
      have s4 : ∀ x : Int, x ≤ (fewF ps : Int) - 1 → shF [lP ps, dI x, pap.d] = some (.ok (dB true)) := fun x hx => by rw [sh_at lp30 ok1 sz9, chk_less hx cs]
      walk_at "run"
      with_reducible refine sq_for (fun ds ρ n => ρ = [.no, .d (.v (.ref p)), .d dt, .d (lP ps), .d (dI (fewF ps)), .no, .no, .d pap.d, .no] ∧ n = n2 ∧ ∀ d ∈ ds, ∃ x : Int, d = dI x ∧ x ≤ (fewF ps : Int) - 1) (ds := [dI ((fewF ps : Int) - 2), dI (-1), dI (-9)]) ?_ ⟨rfl, rfl, ?_⟩ ?_ ?_
      · walk_at "ev"
      · intro d hd
        simp only [List.mem_cons, List.not_mem_nil, or_false] at hd
        rcases hd with rfl | rfl | rfl
        · exact ⟨_, rfl, by omega⟩
        · exact ⟨_, rfl, by omega⟩
        · exact ⟨_, rfl, by omega⟩
      · rintro ρ n' ⟨rfl, rfl, _⟩
        walk_at "run"
        exact ⟨rfl, hF _ _ ⟨rfl, by omega, by omega⟩⟩
      · rintro d r Fr3 Bk3 hF3 hB3 ρ n' ⟨rfl, rfl, h3⟩
        obtain ⟨x, rfl, hx⟩ := h3 d List.mem_cons_self
        have s5 := s4 x hx
        refine ⟨_, rfl, ?_⟩
        walk_at "run"
        exact ⟨rfl, hF3 _ _ ⟨rfl, rfl, fun d hd => h3 d (List.mem_cons_of_mem _ hd)⟩⟩
    · rintro x r Fr2 Bk2 hF2 hB2 ρ n2 ⟨rfl, h1, h2⟩
      rw [List.length_cons] at h1 h2
      refine ⟨_, rfl, ?_⟩
      with_reducible refine sq_setk ?_
      with_reducible refine ck_op ?_
      walk_at "dr"
      intro d n3 d0 d1 k1 k2
      walk_at "pure"
      refine ck_opt rfl ?_
      obtain ⟨e255, e3060⟩ := gE_6 (m := d - 1) (by omega)
      with_reducible refine Run.go ?_
      with_reducible refine sq_ifk ?_
      with_reducible refine ck_band ?_
      with_reducible refine ck_test ?_
      with_reducible refine ck_call ?_
      with_reducible refine ck_cons ?_
      walk_at "pure"
      with_reducible refine ck_cons ?_
      walk_at "pure"
      with_reducible refine ck_cons ?_
      with_reducible refine' ck_pen (ds := [lP ps, dI (d - 1)]) ?h1 ?h2 ?h3 ?_
      case h1 => walk_at "ev"
      case h2 => (show n3 + gK (d - 1) ≤ 100000); omega
      case h3 => exact ⟨_, _, rfl, lp, sm, by omega⟩
      rintro e n4 k3 k4 ⟨pap, rfl, okp, szp⟩
      replace k4 : n4 ≤ n3 + gK (d - 1) := k4
      replace szp : pap.sz ≤ 2 ^ gE (d - 1) - 1 := szp
      with_reducible refine ck_nil ?_
      refine ck_opt (sh_at (m := d - 1) lp30 okp (by omega)) (ck_opt rfl ?_)
      have fin : n4 ≤ n1 + 3061 * (4 - r.length) := by omega
      by_cases hc : chk ps (d - 1) pap = true
      · have lt := sound hc
        refine ck_if_t hc ?_
        refine ck_evb (b := false) ?_ ?_
        · with_reducible apply evb_eq
          · walk_at "ev"
          · exact decide_eq_false (by omega)
        refine ck_if_f rfl ?_
        with_reducible refine Run.go ?_
        walk_at "run"
        exact ⟨rfl, hF2 _ _ ⟨rfl, by omega, fin⟩⟩
      · have hc : chk ps (d - 1) pap = false := by simpa using hc
        refine ck_if_f hc ?_
        refine ck_if_f rfl ?_
        with_reducible refine Run.go ?_
        walk_at "run"
        exact ⟨rfl, hF2 _ _ ⟨rfl, by omega, fin⟩⟩
end
end L2.K58
namespace L2.K58
open L2 L2.My L2.DL NdefX PySem PySem.Spec PyProof.Rows
/-- a def of the text as the top has written it -/
def DefAt (K : W.Frag) (x : Str) (st : Stmt) : Prop := ∃ (f : Addr) (oc kV doc pm cdv ct : Value) (od an : Option Addr) (osl : Array (Option Value)), W.nsIn K mainGlobals x = some (some (.ref f)) ∧ K.lookup f = some ⟨oc, od, .func (W.fnOf x x (defArgs st) (defBody st) (defScope st) .none kV doc pm an cdv ct), osl⟩ ∧ W.codeIn K cdv x = true ∧ W.keepIn K (.ref f) = true
theorem defat_mk {K : W.Frag} {x : Str} {st : Stmt} {f : Addr} {oc kV doc pm cdv ct : Value} {od an : Option Addr} {osl : Array (Option Value)} (a : W.nsIn K mainGlobals x = some (some (.ref f))) (l : K.lookup f = some ⟨oc, od, .func (W.fnOf x x (defArgs st) (defBody st) (defScope st) .none kV doc pm an cdv ct), osl⟩) (c : W.codeIn K cdv x = true) (k : W.keepIn K (.ref f) = true) : DefAt K x st :=
  ⟨f, oc, kV, doc, pm, cdv, ct, od, an, osl, a, l, c, k⟩
theorem grown_none {P : Program} {w : World} {K : W.Frag} {mg : Str → Option Value} {base : Heap} {f : Addr} {fd : FuncData} {ps : List Str} {l : Nat} : FnG P w K mg base (L2.CX P w) l f fd ps (spP K [.b, .b] (grPre 0) grK grPost) := by
  have no : ∀ {vs H Q E}, spP K [.b, .b] (grPre 0) grK grPost vs H Q E → False := by
    rintro vs H Q E ⟨p, q, ns, M, n, ds, _, _, _, _, _, ⟨_, _, _, _, _, lt⟩, _⟩
    exact Nat.not_lt_zero _ lt
  exact ⟨fun vs H Q E h => (no h).elim, fun A outer s H args us vs Q E _ _ _ _ _ h => (no h).elim⟩
theorem all_mk {l : W.OpenLaw} {w : World} {K : W.Frag} {h : Heap} {mg : Str → Option Value} {fa : Addr} (X : K.In h) (G : h.Ns mainGlobals mg) (hfa : mg "law" = some (.ref fa))
    (d_are_integers : DefAt K "are_integers" s_are_integers)
    (d_without : DefAt K "without" s_without)
    (d_partners_of : DefAt K "partners_of" s_partners_of)
    (d_shows_cover : DefAt K "shows_cover" s_shows_cover)
    (d_parts_of_cover : DefAt K "parts_of_cover" s_parts_of_cover)
    (d_are_apart : DefAt K "are_apart" s_are_apart)
    (d__law_pen : DefAt K "_law_pen" sPen)
    (d__law_draw : DefAt K "_law_draw" sDraw)
    (d__law_pairs : DefAt K "_law_pairs" s_pairs)
    (d__law_left : DefAt K "_law_left" s_left)
    (d__law_mates : DefAt K "_law_mates" s_mates)
    (d__law_apart : DefAt K "_law_apart" s_apart)
    (d__law_grown : DefAt K "_law_grown" s_grown)
    (d__law_fewest : DefAt K "_law_fewest" s_fewest)
    (d__law_sure : DefAt K "_law_sure" s_sure)
    (d_law : DefAt K "law" s_law)
    (z_all : W.nsIn K mainGlobals "all" = some none)
    (z_isinstance : W.nsIn K mainGlobals "isinstance" = some none)
    (z_bool : W.nsIn K mainGlobals "bool" = some none)
    (z_int : W.nsIn K mainGlobals "int" = some none)
    (z_tuple : W.nsIn K mainGlobals "tuple" = some none)
    (z_sorted : W.nsIn K mainGlobals "sorted" = some none)
    (z_list : W.nsIn K mainGlobals "list" = some none)
    (z_len : W.nsIn K mainGlobals "len" = some none)
    (z_range : W.nsIn K mainGlobals "range" = some none)
    (z_max : W.nsIn K mainGlobals "max" = some none)
    (z_min : W.nsIn K mainGlobals "min" = some none)
    (z_set : W.nsIn K mainGlobals "set" = some none)
    (z_abs : W.nsIn K mainGlobals "abs" = some none) :
    ∃ fd : FuncData, (∀ (s : Shared) (v : Value), BindsTo s fd ⟨[v], []⟩ [("_law_script", v)]) ∧ ∀ base : Heap, K.In base → base.Ns mainGlobals mg → (∃ m, base.Ns sysModules m) → FnG l.prog w K mg base CX0 14 fa fd ["_law_script"] (L2.DL.spLaw K) := by
  have m_all := W.mg_none_of X G z_all
  have m_isinstance := W.mg_none_of X G z_isinstance
  have m_bool := W.mg_none_of X G z_bool
  have m_int := W.mg_none_of X G z_int
  have m_tuple := W.mg_none_of X G z_tuple
  have m_sorted := W.mg_none_of X G z_sorted
  have m_list := W.mg_none_of X G z_list
  have m_len := W.mg_none_of X G z_len
  have m_range := W.mg_none_of X G z_range
  have m_max := W.mg_none_of X G z_max
  have m_min := W.mg_none_of X G z_min
  have m_set := W.mg_none_of X G z_set
  have m_abs := W.mg_none_of X G z_abs
  obtain ⟨fare_integers, ocare_integers, kVare_integers, dcare_integers, pmare_integers, cdare_integers, ctare_integers, odare_integers, anare_integers, slare_integers, aare_integers, lare_integers, care_integers, kare_integers⟩ := d_are_integers
  obtain ⟨fwithout, ocwithout, kVwithout, dcwithout, pmwithout, cdwithout, ctwithout, odwithout, anwithout, slwithout, awithout, lwithout, cwithout, kwithout⟩ := d_without
  obtain ⟨fpartners_of, ocpartners_of, kVpartners_of, dcpartners_of, pmpartners_of, cdpartners_of, ctpartners_of, odpartners_of, anpartners_of, slpartners_of, apartners_of, lpartners_of, cpartners_of, kpartners_of⟩ := d_partners_of
  obtain ⟨fshows_cover, ocshows_cover, kVshows_cover, dcshows_cover, pmshows_cover, cdshows_cover, ctshows_cover, odshows_cover, anshows_cover, slshows_cover, ashows_cover, lshows_cover, cshows_cover, kshows_cover⟩ := d_shows_cover
  obtain ⟨fparts_of_cover, ocparts_of_cover, kVparts_of_cover, dcparts_of_cover, pmparts_of_cover, cdparts_of_cover, ctparts_of_cover, odparts_of_cover, anparts_of_cover, slparts_of_cover, aparts_of_cover, lparts_of_cover, cparts_of_cover, kparts_of_cover⟩ := d_parts_of_cover
  obtain ⟨fare_apart, ocare_apart, kVare_apart, dcare_apart, pmare_apart, cdare_apart, ctare_apart, odare_apart, anare_apart, slare_apart, aare_apart, lare_apart, care_apart, kare_apart⟩ := d_are_apart
  obtain ⟨f_law_pen, oc_law_pen, kV_law_pen, dc_law_pen, pm_law_pen, cd_law_pen, ct_law_pen, od_law_pen, an_law_pen, sl_law_pen, a_law_pen, l_law_pen, c_law_pen, k_law_pen⟩ := d__law_pen
  obtain ⟨f_law_draw, oc_law_draw, kV_law_draw, dc_law_draw, pm_law_draw, cd_law_draw, ct_law_draw, od_law_draw, an_law_draw, sl_law_draw, a_law_draw, l_law_draw, c_law_draw, k_law_draw⟩ := d__law_draw
  obtain ⟨f_law_pairs, oc_law_pairs, kV_law_pairs, dc_law_pairs, pm_law_pairs, cd_law_pairs, ct_law_pairs, od_law_pairs, an_law_pairs, sl_law_pairs, a_law_pairs, l_law_pairs, c_law_pairs, k_law_pairs⟩ := d__law_pairs
  obtain ⟨f_law_left, oc_law_left, kV_law_left, dc_law_left, pm_law_left, cd_law_left, ct_law_left, od_law_left, an_law_left, sl_law_left, a_law_left, l_law_left, c_law_left, k_law_left⟩ := d__law_left
  obtain ⟨f_law_mates, oc_law_mates, kV_law_mates, dc_law_mates, pm_law_mates, cd_law_mates, ct_law_mates, od_law_mates, an_law_mates, sl_law_mates, a_law_mates, l_law_mates, c_law_mates, k_law_mates⟩ := d__law_mates
  obtain ⟨f_law_apart, oc_law_apart, kV_law_apart, dc_law_apart, pm_law_apart, cd_law_apart, ct_law_apart, od_law_apart, an_law_apart, sl_law_apart, a_law_apart, l_law_apart, c_law_apart, k_law_apart⟩ := d__law_apart
  obtain ⟨f_law_grown, oc_law_grown, kV_law_grown, dc_law_grown, pm_law_grown, cd_law_grown, ct_law_grown, od_law_grown, an_law_grown, sl_law_grown, a_law_grown, l_law_grown, c_law_grown, k_law_grown⟩ := d__law_grown
  obtain ⟨f_law_fewest, oc_law_fewest, kV_law_fewest, dc_law_fewest, pm_law_fewest, cd_law_fewest, ct_law_fewest, od_law_fewest, an_law_fewest, sl_law_fewest, a_law_fewest, l_law_fewest, c_law_fewest, k_law_fewest⟩ := d__law_fewest
  obtain ⟨f_law_sure, oc_law_sure, kV_law_sure, dc_law_sure, pm_law_sure, cd_law_sure, ct_law_sure, od_law_sure, an_law_sure, sl_law_sure, a_law_sure, l_law_sure, c_law_sure, k_law_sure⟩ := d__law_sure
  obtain ⟨flaw, oclaw, kVlaw, dclaw, pmlaw, cdlaw, ctlaw, odlaw, anlaw, sllaw, alaw, llaw, claw, klaw⟩ := d_law
  have e := hfa.symm.trans (W.mg_of X G alaw)
  cases e
  have Fare_integers := fun_mk (st := s_are_integers) lare_integers care_integers kare_integers
  have bare_integers := Fare_integers.binds (ps := ["value"]) fun _ _ _ _ _ _ us hl => match us, hl with | [_], _ => rfl
  have Fwithout := fun_mk (st := s_without) lwithout cwithout kwithout
  have bwithout := Fwithout.binds (ps := ["pairs", "numbers"]) fun _ _ _ _ _ _ us hl => match us, hl with | [_, _], _ => rfl
  have Fpartners_of := fun_mk (st := s_partners_of) lpartners_of cpartners_of kpartners_of
  have bpartners_of := Fpartners_of.binds (ps := ["pairs", "number"]) fun _ _ _ _ _ _ us hl => match us, hl with | [_, _], _ => rfl
  have Fshows_cover := fun_mk (st := s_shows_cover) lshows_cover cshows_cover kshows_cover
  have bshows_cover := Fshows_cover.binds (ps := ["pairs", "c", "paper"]) fun _ _ _ _ _ _ us hl => match us, hl with | [_, _, _], _ => rfl
  have Fparts_of_cover := fun_mk (st := s_parts_of_cover) lparts_of_cover cparts_of_cover kparts_of_cover
  have bparts_of_cover := Fparts_of_cover.binds (ps := ["pairs", "most", "paper"]) fun _ _ _ _ _ _ us hl => match us, hl with | [_, _, _], _ => rfl
  have Fare_apart := fun_mk (st := s_are_apart) lare_apart care_apart kare_apart
  have bare_apart := Fare_apart.binds (ps := ["pairs", "value"]) fun _ _ _ _ _ _ us hl => match us, hl with | [_, _], _ => rfl
  have F_law_pen := fun_mk (st := sPen) l_law_pen c_law_pen k_law_pen
  have b_law_pen := F_law_pen.binds (ps := ["_law_script"]) fun _ _ _ _ _ _ us hl => match us, hl with | [_], _ => rfl
  have F_law_draw := fun_mk (st := sDraw) l_law_draw c_law_draw k_law_draw
  have b_law_draw := F_law_draw.binds (ps := ["_law_pen_here", "_law_many"]) fun _ _ _ _ _ _ us hl => match us, hl with | [_, _], _ => rfl
  have F_law_pairs := fun_mk (st := s_pairs) l_law_pairs c_law_pairs k_law_pairs
  have b_law_pairs := F_law_pairs.binds (ps := ["_law_pen_here"]) fun _ _ _ _ _ _ us hl => match us, hl with | [_], _ => rfl
  have F_law_left := fun_mk (st := s_left) l_law_left c_law_left k_law_left
  have b_law_left := F_law_left.binds (ps := ["_law_some", "_law_gone"]) fun _ _ _ _ _ _ us hl => match us, hl with | [_, _], _ => rfl
  have F_law_mates := fun_mk (st := s_mates) l_law_mates c_law_mates k_law_mates
  have b_law_mates := F_law_mates.binds (ps := ["_law_some", "_law_number"]) fun _ _ _ _ _ _ us hl => match us, hl with | [_, _], _ => rfl
  have F_law_apart := fun_mk (st := s_apart) l_law_apart c_law_apart k_law_apart
  have b_law_apart := F_law_apart.binds (ps := ["_law_pen_here", "_law_some"]) fun _ _ _ _ _ _ us hl => match us, hl with | [_, _], _ => rfl
  have F_law_grown := fun_mk (st := s_grown) l_law_grown c_law_grown k_law_grown
  have b_law_grown := F_law_grown.binds (ps := ["_law_pen_here", "_law_some", "_law_most"]) fun _ _ _ _ _ _ us hl => match us, hl with | [_, _, _], _ => rfl
  have F_law_fewest := fun_mk (st := s_fewest) l_law_fewest c_law_fewest k_law_fewest
  have b_law_fewest := F_law_fewest.binds (ps := ["_law_some"]) fun _ _ _ _ _ _ us hl => match us, hl with | [_], _ => rfl
  have F_law_sure := fun_mk (st := s_sure) l_law_sure c_law_sure k_law_sure
  have b_law_sure := F_law_sure.binds (ps := ["_law_some", "_law_most"]) fun _ _ _ _ _ _ us hl => match us, hl with | [_, _], _ => rfl
  have Flaw := fun_mk (st := s_law) llaw claw klaw
  refine ⟨W.fnOf "law" "law" (defArgs s_law) (defBody s_law) (defScope s_law) .none kVlaw dclaw pmlaw anlaw cdlaw ctlaw, fun s v => .of_eq rfl, fun base _ _ hs => ?_⟩
  have Care_integers : CalG l.prog w K mg base (L2.CX l.prog w) 1 "are_integers" _ := ⟨fare_integers, _, _, ok_are_integers Fare_integers m_all m_isinstance m_bool m_int m_tuple, W.mg_of X G aare_integers, kare_integers, bare_integers⟩
  have Cwithout : CalG l.prog w K mg base (L2.CX l.prog w) 1 "without" _ := ⟨fwithout, _, _, ok_without Fwithout, W.mg_of X G awithout, kwithout, bwithout⟩
  have Cpartners_of : CalG l.prog w K mg base (L2.CX l.prog w) 1 "partners_of" _ := ⟨fpartners_of, _, _, ok_partners_of Fpartners_of m_tuple m_sorted, W.mg_of X G apartners_of, kpartners_of, bpartners_of⟩
  have Care_apart : CalG l.prog w K mg base (L2.CX l.prog w) 2 "are_apart" _ := ⟨fare_apart, _, _, ok_are_apart Fare_apart m_isinstance m_tuple Care_integers, W.mg_of X G aare_apart, kare_apart, bare_apart⟩
  have Cparts_of_cover : CalG l.prog w K mg base (L2.CX l.prog w) 3 "parts_of_cover" _ := ⟨fparts_of_cover, _, _, ok_parts_of_cover Fparts_of_cover m_isinstance m_tuple m_len Care_apart Care_integers Cpartners_of Cwithout, W.mg_of X G aparts_of_cover, kparts_of_cover, bparts_of_cover⟩
  have Cshows_cover : CalG l.prog w K mg base (L2.CX l.prog w) 4 "shows_cover" _ := ⟨fshows_cover, _, _, ok_shows_cover Fshows_cover m_list m_len Cparts_of_cover, W.mg_of X G ashows_cover, kshows_cover, bshows_cover⟩
  have C_law_pen : CalG l.prog w K mg base (L2.CX l.prog w) 1 "_law_pen" _ := ⟨f_law_pen, _, _, FnG.any (ok_pen F_law_pen m_list), W.mg_of X G a_law_pen, k_law_pen, b_law_pen⟩
  have C_law_draw : CalG l.prog w K mg base (L2.CX l.prog w) 1 "_law_draw" _ := ⟨f_law_draw, _, _, FnG.any (ok_draw F_law_draw m_int m_len m_abs), W.mg_of X G a_law_draw, k_law_draw, b_law_draw⟩
  have C_law_pairs : CalG l.prog w K mg base (L2.CX l.prog w) 2 "_law_pairs" _ := ⟨f_law_pairs, _, _, ok_pairs F_law_pairs m_range m_max m_min C_law_draw, W.mg_of X G a_law_pairs, k_law_pairs, b_law_pairs⟩
  have C_law_left : CalG l.prog w K mg base (L2.CX l.prog w) 1 "_law_left" _ := ⟨f_law_left, _, _, ok_left F_law_left, W.mg_of X G a_law_left, k_law_left, b_law_left⟩
  have C_law_mates : CalG l.prog w K mg base (L2.CX l.prog w) 1 "_law_mates" _ := ⟨f_law_mates, _, _, ok_mates F_law_mates m_set m_sorted, W.mg_of X G a_law_mates, k_law_mates, b_law_mates⟩
  have C_law_apart : CalG l.prog w K mg base (L2.CX l.prog w) 2 "_law_apart" _ := ⟨f_law_apart, _, _, ok_apart F_law_apart m_list m_len m_tuple C_law_draw, W.mg_of X G a_law_apart, k_law_apart, b_law_apart⟩
  have C_law_fewest : CalG l.prog w K mg base (L2.CX l.prog w) 2 "_law_fewest" _ := ⟨f_law_fewest, _, _, ok_fewest F_law_fewest m_range m_int m_len C_law_left, W.mg_of X G a_law_fewest, k_law_fewest, b_law_fewest⟩
  have S0 : CalG l.prog w K mg base (L2.CX l.prog w) 2 "_law_sure" _ := ⟨f_law_sure, _, _, sure_none, W.mg_of X G a_law_sure, k_law_sure, b_law_sure⟩
  have S1 : CalG l.prog w K mg base (L2.CX l.prog w) 3 "_law_sure" _ := ⟨f_law_sure, _, _, ok_sure 0 rfl F_law_sure m_set m_sorted m_range m_tuple m_len C_law_mates C_law_left S0, W.mg_of X G a_law_sure, k_law_sure, b_law_sure⟩
  have S2 : CalG l.prog w K mg base (L2.CX l.prog w) 4 "_law_sure" _ := ⟨f_law_sure, _, _, ok_sure 1 rfl F_law_sure m_set m_sorted m_range m_tuple m_len C_law_mates C_law_left S1, W.mg_of X G a_law_sure, k_law_sure, b_law_sure⟩
  have S3 : CalG l.prog w K mg base (L2.CX l.prog w) 5 "_law_sure" _ := ⟨f_law_sure, _, _, ok_sure 2 rfl F_law_sure m_set m_sorted m_range m_tuple m_len C_law_mates C_law_left S2, W.mg_of X G a_law_sure, k_law_sure, b_law_sure⟩
  have S4 : CalG l.prog w K mg base (L2.CX l.prog w) 6 "_law_sure" _ := ⟨f_law_sure, _, _, ok_sure 3 rfl F_law_sure m_set m_sorted m_range m_tuple m_len C_law_mates C_law_left S3, W.mg_of X G a_law_sure, k_law_sure, b_law_sure⟩
  have S5 : CalG l.prog w K mg base (L2.CX l.prog w) 7 "_law_sure" _ := ⟨f_law_sure, _, _, ok_sure 4 rfl F_law_sure m_set m_sorted m_range m_tuple m_len C_law_mates C_law_left S4, W.mg_of X G a_law_sure, k_law_sure, b_law_sure⟩
  have S6 : CalG l.prog w K mg base (L2.CX l.prog w) 8 "_law_sure" _ := ⟨f_law_sure, _, _, ok_sure 5 rfl F_law_sure m_set m_sorted m_range m_tuple m_len C_law_mates C_law_left S5, W.mg_of X G a_law_sure, k_law_sure, b_law_sure⟩
  have S7 : CalG l.prog w K mg base (L2.CX l.prog w) 9 "_law_sure" _ := ⟨f_law_sure, _, _, ok_sure 6 rfl F_law_sure m_set m_sorted m_range m_tuple m_len C_law_mates C_law_left S6, W.mg_of X G a_law_sure, k_law_sure, b_law_sure⟩
  have S8 : CalG l.prog w K mg base (L2.CX l.prog w) 10 "_law_sure" _ := ⟨f_law_sure, _, _, ok_sure 7 rfl F_law_sure m_set m_sorted m_range m_tuple m_len C_law_mates C_law_left S7, W.mg_of X G a_law_sure, k_law_sure, b_law_sure⟩
  have S9 : CalG l.prog w K mg base (L2.CX l.prog w) 11 "_law_sure" _ := ⟨f_law_sure, _, _, ok_sure 8 rfl F_law_sure m_set m_sorted m_range m_tuple m_len C_law_mates C_law_left S8, W.mg_of X G a_law_sure, k_law_sure, b_law_sure⟩
  have S10 : CalG l.prog w K mg base (L2.CX l.prog w) 12 "_law_sure" _ := ⟨f_law_sure, _, _, ok_sure 9 rfl F_law_sure m_set m_sorted m_range m_tuple m_len C_law_mates C_law_left S9, W.mg_of X G a_law_sure, k_law_sure, b_law_sure⟩
  have W0 : CalG l.prog w K mg base (L2.CX l.prog w) 3 "_law_grown" _ := ⟨f_law_grown, _, _, grown_none, W.mg_of X G a_law_grown, k_law_grown, b_law_grown⟩
  have W1 : CalG l.prog w K mg base (L2.CX l.prog w) 4 "_law_grown" _ := ⟨f_law_grown, _, _, ok_grown 0 rfl F_law_grown m_range m_len C_law_draw C_law_apart C_law_mates C_law_left W0, W.mg_of X G a_law_grown, k_law_grown, b_law_grown⟩
  have W2 : CalG l.prog w K mg base (L2.CX l.prog w) 5 "_law_grown" _ := ⟨f_law_grown, _, _, ok_grown 1 rfl F_law_grown m_range m_len C_law_draw C_law_apart C_law_mates C_law_left W1, W.mg_of X G a_law_grown, k_law_grown, b_law_grown⟩
  have W3 : CalG l.prog w K mg base (L2.CX l.prog w) 6 "_law_grown" _ := ⟨f_law_grown, _, _, ok_grown 2 rfl F_law_grown m_range m_len C_law_draw C_law_apart C_law_mates C_law_left W2, W.mg_of X G a_law_grown, k_law_grown, b_law_grown⟩
  have W4 : CalG l.prog w K mg base (L2.CX l.prog w) 7 "_law_grown" _ := ⟨f_law_grown, _, _, ok_grown 3 rfl F_law_grown m_range m_len C_law_draw C_law_apart C_law_mates C_law_left W3, W.mg_of X G a_law_grown, k_law_grown, b_law_grown⟩
  have W5 : CalG l.prog w K mg base (L2.CX l.prog w) 8 "_law_grown" _ := ⟨f_law_grown, _, _, ok_grown 4 rfl F_law_grown m_range m_len C_law_draw C_law_apart C_law_mates C_law_left W4, W.mg_of X G a_law_grown, k_law_grown, b_law_grown⟩
  have W6 : CalG l.prog w K mg base (L2.CX l.prog w) 9 "_law_grown" _ := ⟨f_law_grown, _, _, ok_grown 5 rfl F_law_grown m_range m_len C_law_draw C_law_apart C_law_mates C_law_left W5, W.mg_of X G a_law_grown, k_law_grown, b_law_grown⟩
  have W7 : CalG l.prog w K mg base (L2.CX l.prog w) 10 "_law_grown" _ := ⟨f_law_grown, _, _, ok_grown 6 rfl F_law_grown m_range m_len C_law_draw C_law_apart C_law_mates C_law_left W6, W.mg_of X G a_law_grown, k_law_grown, b_law_grown⟩
  have W8 : CalG l.prog w K mg base (L2.CX l.prog w) 11 "_law_grown" _ := ⟨f_law_grown, _, _, ok_grown 7 rfl F_law_grown m_range m_len C_law_draw C_law_apart C_law_mates C_law_left W7, W.mg_of X G a_law_grown, k_law_grown, b_law_grown⟩
  have W9 : CalG l.prog w K mg base (L2.CX l.prog w) 12 "_law_grown" _ := ⟨f_law_grown, _, _, ok_grown 8 rfl F_law_grown m_range m_len C_law_draw C_law_apart C_law_mates C_law_left W8, W.mg_of X G a_law_grown, k_law_grown, b_law_grown⟩
  have W10 : CalG l.prog w K mg base (L2.CX l.prog w) 13 "_law_grown" _ := ⟨f_law_grown, _, _, ok_grown 9 rfl F_law_grown m_range m_len C_law_draw C_law_apart C_law_mates C_law_left W9, W.mg_of X G a_law_grown, k_law_grown, b_law_grown⟩
  exact ok_law Flaw m_range C_law_pen C_law_draw C_law_pairs C_law_fewest Cshows_cover W10 S10
end L2.K58
open L2 L2.My PySem PySem.W PySem.Spec PyProof.Rows
set_option maxRecDepth 100000 in
set_option maxHeartbeats 0 in
theorem PySem.Challenge.cw_latelands_k58_whole_cover_papers_and_set_holds : PySem.Challenge.rw_latelands_k58_whole_cover_papers_and_set.Holds := by
  w_on; o_law; k_head; (case hw => w_witness2)
  k_fill
  refine L2.My.top_g (l := PySem.Challenge.rw_latelands_k58_whole_cover_papers_and_set) (n := 63) (k := 14) (x := "_law_script") (sp := L2.DL.spLaw) ?hi rfl (by decide) rfl ⟨rfl, by decide, by decide⟩ (fun w h Y => PySem.W.kIn_of Y) ?F (fun K H a ns hl hO hS => ⟨a, ns, rfl, hS, fun _ => rfl⟩)
  case hi => decide +kernel
  case F =>
    intro w mg fa h KX G hmg
    refine' L2.K58.all_mk KX G hmg ?d_are_integers ?d_without ?d_partners_of ?d_shows_cover ?d_parts_of_cover ?d_are_apart ?d__law_pen ?d__law_draw ?d__law_pairs ?d__law_left ?d__law_mates ?d__law_apart ?d__law_grown ?d__law_fewest ?d__law_sure ?d_law ?z_all ?z_isinstance ?z_bool ?z_int ?z_tuple ?z_sorted ?z_list ?z_len ?z_range ?z_max ?z_min ?z_set ?z_abs
    (case d_are_integers =>
      refine' L2.K58.defat_mk ?qare_integersa ?qare_integersl ?qare_integersc ?qare_integersk
      (case qare_integersa => k_is)
      (case qare_integersl => k_is)
      (case qare_integersc => k_is)
      (case qare_integersk => k_is))
    (case d_without =>
      refine' L2.K58.defat_mk ?qwithouta ?qwithoutl ?qwithoutc ?qwithoutk
      (case qwithouta => k_is)
      (case qwithoutl => k_is)
      (case qwithoutc => k_is)
      (case qwithoutk => k_is))
    (case d_partners_of =>
      refine' L2.K58.defat_mk ?qpartners_ofa ?qpartners_ofl ?qpartners_ofc ?qpartners_ofk
      (case qpartners_ofa => k_is)
      (case qpartners_ofl => k_is)
      (case qpartners_ofc => k_is)
      (case qpartners_ofk => k_is))
    (case d_shows_cover =>
      refine' L2.K58.defat_mk ?qshows_covera ?qshows_coverl ?qshows_coverc ?qshows_coverk
      (case qshows_covera => k_is)
      (case qshows_coverl => k_is)
      (case qshows_coverc => k_is)
      (case qshows_coverk => k_is))
    (case d_parts_of_cover =>
      refine' L2.K58.defat_mk ?qparts_of_covera ?qparts_of_coverl ?qparts_of_coverc ?qparts_of_coverk
      (case qparts_of_covera => k_is)
      (case qparts_of_coverl => k_is)
      (case qparts_of_coverc => k_is)
      (case qparts_of_coverk => k_is))
    (case d_are_apart =>
      refine' L2.K58.defat_mk ?qare_aparta ?qare_apartl ?qare_apartc ?qare_apartk
      (case qare_aparta => k_is)
      (case qare_apartl => k_is)
      (case qare_apartc => k_is)
      (case qare_apartk => k_is))
    (case d__law_pen =>
      refine' L2.K58.defat_mk ?q_law_pena ?q_law_penl ?q_law_penc ?q_law_penk
      (case q_law_pena => k_is)
      (case q_law_penl => k_is)
      (case q_law_penc => k_is)
      (case q_law_penk => k_is))
    (case d__law_draw =>
      refine' L2.K58.defat_mk ?q_law_drawa ?q_law_drawl ?q_law_drawc ?q_law_drawk
      (case q_law_drawa => k_is)
      (case q_law_drawl => k_is)
      (case q_law_drawc => k_is)
      (case q_law_drawk => k_is))
    (case d__law_pairs =>
      refine' L2.K58.defat_mk ?q_law_pairsa ?q_law_pairsl ?q_law_pairsc ?q_law_pairsk
      (case q_law_pairsa => k_is)
      (case q_law_pairsl => k_is)
      (case q_law_pairsc => k_is)
      (case q_law_pairsk => k_is))
    (case d__law_left =>
      refine' L2.K58.defat_mk ?q_law_lefta ?q_law_leftl ?q_law_leftc ?q_law_leftk
      (case q_law_lefta => k_is)
      (case q_law_leftl => k_is)
      (case q_law_leftc => k_is)
      (case q_law_leftk => k_is))
    (case d__law_mates =>
      refine' L2.K58.defat_mk ?q_law_matesa ?q_law_matesl ?q_law_matesc ?q_law_matesk
      (case q_law_matesa => k_is)
      (case q_law_matesl => k_is)
      (case q_law_matesc => k_is)
      (case q_law_matesk => k_is))
    (case d__law_apart =>
      refine' L2.K58.defat_mk ?q_law_aparta ?q_law_apartl ?q_law_apartc ?q_law_apartk
      (case q_law_aparta => k_is)
      (case q_law_apartl => k_is)
      (case q_law_apartc => k_is)
      (case q_law_apartk => k_is))
    (case d__law_grown =>
      refine' L2.K58.defat_mk ?q_law_growna ?q_law_grownl ?q_law_grownc ?q_law_grownk
      (case q_law_growna => k_is)
      (case q_law_grownl => k_is)
      (case q_law_grownc => k_is)
      (case q_law_grownk => k_is))
    (case d__law_fewest =>
      refine' L2.K58.defat_mk ?q_law_fewesta ?q_law_fewestl ?q_law_fewestc ?q_law_fewestk
      (case q_law_fewesta => k_is)
      (case q_law_fewestl => k_is)
      (case q_law_fewestc => k_is)
      (case q_law_fewestk => k_is))
    (case d__law_sure =>
      refine' L2.K58.defat_mk ?q_law_surea ?q_law_surel ?q_law_surec ?q_law_surek
      (case q_law_surea => k_is)
      (case q_law_surel => k_is)
      (case q_law_surec => k_is)
      (case q_law_surek => k_is))
    (case d_law =>
      refine' L2.K58.defat_mk ?qlawa ?qlawl ?qlawc ?qlawk
      (case qlawa => k_is)
      (case qlawl => k_is)
      (case qlawc => k_is)
      (case qlawk => k_is))
    (case z_all => k_is)
    (case z_isinstance => k_is)
    (case z_bool => k_is)
    (case z_int => k_is)
    (case z_tuple => k_is)
    (case z_sorted => k_is)
    (case z_list => k_is)
    (case z_len => k_is)
    (case z_range => k_is)
    (case z_max => k_is)
    (case z_min => k_is)
    (case z_set => k_is)
    (case z_abs => k_is)
