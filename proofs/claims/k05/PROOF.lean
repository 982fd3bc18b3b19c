import PyProof.Rows.All
import Wide.All
import OpenK.AllK
import Wide.FinOn
import HandS.ForMost
import HandS.Exc
import HandS.Wide
import PyProof.ReprRoads
import HandS.ExcInit
import KE.KExcInit
import KE.KExcIs
import HandS.Defaults
import HandS.IsInst
import HandS.Codes
import HandS.ExcValue
import HandS.ExcOwn
import HandS.FStr
import HandS.ClsMeth
import HandS.SlotsOwn
import HandS.Walk
import HandS.OwnEq
import OpenK.KOps
import PyProof.InstEq
import HandS.WordsExc
import KE.SortData
import KE.DataMinMax
import KE.DataAny
import KE.DataCmp
import KE.DataFind
import HandS.Text
import HandS.TupAny
import HandS.Deep
import HandS.TupLe
import HandS.More
import HandS.Nested
import KE.KSuper
import HandS.Style
import HandS.SetBool
import HandS.DictComp
import HandS.Strs
import HandS.SetKeys
import HandS.SetFor
import HandS.TupSets
import HandS.Small
import HandS.Zip
import HandS.Star
import KE.KeyNested
import PyProof.StrBlock2
import PyProof.EqKinds
import PyProof.NeKinds
import PyProof.ReprText
import HandS.Head0
import HandS.Head1
import HandS.Head2
import HandS.HeadEnd
import HandS.HeadHook1
import HandS.HeadHook2
import HandS.HeadHook3
import PySem.Challenge.RW_latelands_k05_operations_and_rows
set_option Elab.async false
set_option linter.all false
set_option maxRecDepth 100000
set_option maxHeartbeats 16000000
namespace L2.My
open PySem PySem.Spec PyProof.Rows
def Quiet (A : Around) : Prop := A.guards = some []
structure FnG (P : Program) (w : World) (K : W.Frag) (mg : Str → Option Value) (base : Heap) (CX : CXT) (k : Nat) (f : Addr) (fd : FuncData) (ps : List Str) (sp : Sp) : Prop where
  many : ∀ vs H Q E, sp vs H Q E → vs.length = ps.length
  runs : ∀ (A : Around) (outer : List Env) (s : Shared) (H : Hp) (args : Args) (us : List Value) (vs : List V) (Q : VK) (E : XK),
    Room k A → Quiet A → Env0 P w K mg base A outer s H → BindsTo s fd args (ps.zip us) → Vals vs us → sp vs H Q E →
      codeAny (model P w) A (.call (.ref f) args) (CR CX outer P w H s Q E) s
section
variable {P : Program} {w : World} {K : W.Frag} {mg : Str → Option Value} {base : Heap} {CX : CXT} {j k : Nat} {f : Addr} {fd : FuncData} {ps : List Str} {sp : Sp}
theorem FnG.of (F : FnOk P w K mg base CX k f fd ps sp) : FnG P w K mg base CX k f fd ps sp :=
  ⟨F.len, fun A outer s H args us vs Q E hr _ => F.run A outer s H args us vs Q E hr⟩
theorem FnG.up (F : FnG P w K mg base CX j f fd ps sp) (h : j ≤ k) : FnG P w K mg base CX k f fd ps sp :=
  ⟨F.many, fun A outer s H args us vs Q E hr => F.runs A outer s H args us vs Q E (hr.mono h)⟩
theorem FnG.weak {sp' : Sp} (F : FnG P w K mg base CX k f fd ps sp) (h : ∀ vs H Q E, sp' vs H Q E → sp vs H Q E) : FnG P w K mg base CX k f fd ps sp' :=
  ⟨fun vs H Q E q => F.many vs H Q E (h _ _ _ _ q), fun A outer s H args us vs Q E hr hq he hb hv hs => F.runs A outer s H args us vs Q E hr hq he hb hv (h _ _ _ _ hs)⟩
end
/-- a def of the module by its name, with its promise -/
structure CalG (P : Program) (w : World) (K : W.Frag) (mg : Str → Option Value) (base : Heap) (CX : CXT) (k : Nat) (x : Str) (sp : Sp) : Prop where
  ex : ∃ (f : Addr) (fd : FuncData) (ps : List Str), FnG P w K mg base CX k f fd ps sp ∧ mg x = some (.ref f) ∧ W.keepIn K (.ref f) = true ∧ Binds K fd ps []
section
variable {X : Cx} {CX : CXT} {j k : Nat} {f : Addr} {fd : FuncData} {ps : List Str} {sp : Sp} {E : XK} {x : Str} {p pos : Pos} {e : Expr} {es : List Expr} {t : TA}
theorem goes {pins : List (Addr × Obj)} {σ : St} {H : Hp} {s : Shared} {Q : VK} {us : List Value} {vs : List V} (F : FnG X.prog X.w X.K X.mg X.base CX k f fd ps sp) (hr : Room k X.A) (hq : Quiet X.A)
    (hb : Binds X.K fd ps []) (hx : Passes CX X E) (I : Inv X pins σ H s) (r : Vals vs us) (h : sp vs H Q E) :
    wpAny (model X.prog X.w) X.A (call (.ref f) us) (EP X pins σ Q) X.xe s := by
  have hl : (us ++ []).length = ps.length := by
    rw [List.append_nil, ← r.length]
    exact F.many vs H Q E h
  have b := hb s us I.kIn hl
  rw [List.append_nil] at b
  have main := F.runs X.A X.stack s H ⟨us, []⟩ us vs Q E hr hq I.env0 b r h
  refine wpAny_call (codeAny_mono main ?_)
  intro res s' z
  match res, z with
  | .error er, z => exact hx pins σ H s er s' I z
  | .ok (.ret u), z => exact I.after z
theorem pe_g (c : CalG X.prog X.w X.K X.mg X.base CX j x sp) (hr : Room k X.A) (hjk : j ≤ k) (hq : Quiet X.A) (hx : Passes CX X E) (hg : Gl X x) (ha : PA X (e :: es) t)
    (hdb : (x == ("__debug__" : Str)) = false := by decide) (he : starEach (e :: es) X.env = (false, eval e X.env) :: starEach es X.env := by rfl) (hpl : (backTo pos (starEach es X.env)).any (·.1) = false := by rfl) :
    PE X (.Call (.Name x p) (e :: es) [] pos) (tCall sp [] E t) := by
  obtain ⟨f, fd, ps, F, hm, hk, hb⟩ := c.ex
  constructor
  intro pins s σ H Q I h
  refine wpAny_Call_Name_kw (ld_glob I hg hm ?_ hdb)
  refine W.callWith_K (h₀ := X.base) I.ok.mod.kin hk (thn (ha.run pos pins s σ H _ I h) ?_) he hpl
  rintro us s1 ⟨vs, H1, I1, r, q⟩
  rw [List.append_nil] at q
  exact ⟨I1.kIn, goes (F.up hjk) hr hq hb hx I1 r q⟩
end
/-- a def of the text by its body -/
theorem body_g {CX : CXT} {P : Program} {w : World} {K : W.Frag} {mg : Str → Option Value} {base : Heap} {x qual : Str} {st : Stmt} {f : Addr} {fd : FuncData} {N ps : List Str} {k : Nat} {sp : Sp}
    (F : Fun K x qual st f fd) (S : FnScope N ps (defScope st)) (many : ∀ vs H Q E, sp vs H Q E → vs.length = ps.length)
    (hbody : ∀ (cdv : Value) (A : Around) (outer : List Env) (s : Shared) (H : Hp) (vs : List V) (Q : VK) (E : XK), Room k (A.deeper (envOfC qual (defScope st) s.heap.objs.size f cdv)) → Quiet (A.deeper (envOfC qual (defScope st) s.heap.objs.size f cdv)) → sp vs H Q E →
      ∃ t, PSs (cxOf CX P w K mg base N qual (defScope st) f cdv A outer s H E) (defBody st) t ∧ t { nx := fun _ H' => Q .non H', rt := Q } (start N vs) H) :
    FnG P w K mg base CX (k + 1) f fd ps sp := by
  obtain ⟨oc, od, kV, doc, pm, an, cdv, ct, osl, rfl, lk, hcd⟩ := F.ex
  refine ⟨many, ?_⟩
  intro A outer s H args us vs Q E hr hq e0 hb r hsp
  have hk0 : ∀ b o, base.get? b = some o → s.heap.get? b = some o := fun b o e => (e0.bs b o e).1
  have KX : K.In s.heap := e0.mod.kin.keeps hk0
  have lim : s.heap.NoLimit := e0.mod.nolimit.keeps hk0
  have hkind : ∀ y ∈ ps.zip us, (defScope st).names.lookup y.1 = some .local ∨ ((defScope st).names.lookup y.1 = some .cell ∧ ((cellsFrom (s.heap.objs.size + 1) (defScope st).names []).lookup y.1).isSome = true) := by
    rintro ⟨n, v⟩ hy
    cases S.par n (List.of_mem_zip hy).1 with
    | inl q => exact .inl q
    | inr q => exact .inr ⟨q, W.cellsFrom_some _ _ _ (.inl q)⟩
  refine codeAny_call_function hr.depth (KX _ _ lk) rfl S.co S.gen rfl (W.codeRec_of KX hcd) (hb _ _ _ _ (wpAny_newFunctionEnv_cells S.kind hkind ?_))
  rintro env rfl s1 x
  refine ⟨lim.keeps x.toInCall.keep, codeAny_func ?_⟩
  obtain ⟨t, ht, hq'⟩ := hbody cdv A outer s H vs Q E (hr.deeper _) hq hsp
  have I := inv_start (CX := CX) (E := E) S hr.hd e0 (many _ _ _ _ hsp) r x
  refine wpAny_mono (ht.run [] s1 (start N vs) H _ I hq') ?_ (fun e s' hs => hs)
  intro fl s' hs
  match fl, hs with
  | .ret u, ⟨v, σ', H', J, rv, q⟩ => exact (⟨v, H', J.os, J.bare, J.base, J.hok, rv, q⟩ : CE outer P w H s Q u s')
  | .next, ⟨σ', H', J, q⟩ => exact (⟨.non, H', J.os, J.bare, J.base, J.hok, rfl, q⟩ : CE outer P w H s Q .none s')
  | .brk, ⟨_, _, _, q⟩ => exact q.elim
  | .cont, ⟨_, _, _, q⟩ => exact q.elim
/-- the same where nothing is raised out of it -/
theorem body_g0 {P : Program} {w : World} {K : W.Frag} {mg : Str → Option Value} {base : Heap} {x qual : Str} {st : Stmt} {f : Addr} {fd : FuncData} {N ps : List Str} {k : Nat} {sp : Sp}
    (F : Fun K x qual st f fd) (S : FnScope N ps (defScope st)) (many : ∀ vs H Q E, sp vs H Q E → vs.length = ps.length)
    (hbody : ∀ (cdv : Value) (A : Around) (outer : List Env) (s : Shared) (H : Hp) (vs : List V) (Q : VK) (E : XK), Room k (A.deeper (envOfC qual (defScope st) s.heap.objs.size f cdv)) → Quiet (A.deeper (envOfC qual (defScope st) s.heap.objs.size f cdv)) → sp vs H Q E →
      ∃ t, PSs (cxOf CX0 P w K mg base N qual (defScope st) f cdv A outer s H E).nox (defBody st) t ∧ t { nx := fun _ H' => Q .non H', rt := Q } (start N vs) H) :
    FnG P w K mg base CX0 (k + 1) f fd ps sp :=
  body_g F S many fun cdv A outer s H vs Q E hr hq hsp =>
    let ⟨t, h, q⟩ := hbody cdv A outer s H vs Q E hr hq hsp
    ⟨t, h.nox, q⟩
end L2.My
namespace L2.My
open PySem PySem.Spec PyProof.Rows
theorem seen_as {P : Program} {w : World} {K : W.Frag} {mg mb : Str → Option Value} {k : Nat} {fa a : Addr} {fd : FuncData} {x : Str} {sp : Sp} {s1 : Shared} {vs : List Value} {H : Hp}
    (KX : K.In s1.heap) (hns : s1.heap.Ns mainGlobals mg) (hb : s1.heap.Ns builtinsNs mb) (hbb : ∀ x : Str, x ≠ "__name__" → mb x = bootBuiltins x) (hlim : s1.heap.NoLimit) (hg : s1.gens = #[])
    (ha : s1.heap.get? a = some { cls := .type "list", data := .seq vs.toArray }) (hr : Room k callerA)
    (hsys : ∃ m, s1.heap.Ns sysModules m) (F : ∀ base : Heap, K.In base → base.Ns mainGlobals mg → (∃ m, base.Ns sysModules m) → FnG P w K mg base CX0 k fa fd [x] sp) (hbind : ∀ (s : Shared) (u : Value), BindsTo s fd ⟨[u], []⟩ [(x, u)])
    (hO : Only H) (hok : HOk P w H s1.heap) (hA : ∀ b, H b ≠ none → b = a) (hK : H a ≠ none → K.lookup a = none) (q : sp [.ref a] H (fun v _ => v = .bl true) fun _ _ _ => False) :
    codeAny (model P w) callerA (.call (.ref fa) ⟨[.ref a], []⟩) (fun r s' => r = .ok (.ret (.bool true)) ∧ OldK s1.heap s'.heap ∧ s'.os = s1.os ∧ AllBare s'.gens) s1 := by
  -- a tracked place is the script's
  have only : ∀ {b : Addr} {u : HO}, H b = some u → b = a := by
    intro b u e
    exact hA b (by rw [e]; exact (fun z => by cases z))
  have laid : ∀ {b : Addr} {o : Obj}, s1.heap.get? b = some o → (b = a → False) → (hidT s1.heap H).get? b = some o := by
    intro b o e ne
    cases h : H b with
    | none => exact hidT_get e h
    | some u => exact (ne (only h)).elim
  have dict : ∀ {b : Addr} {m : Str → Option Value}, s1.heap.Ns b m → (hidT s1.heap H).Ns b m := by
    rintro b m ⟨o, es, ep, e, d, r⟩
    refine ⟨o, es, ep, laid e (fun z => ?_), d, r⟩
    rw [z, ha] at e
    have e' := Option.some.inj e
    rw [← e'] at d
    exact Data.noConfusion d
  have part : K.In (hidT s1.heap H) := by
    intro b o e
    cases h : H b with
    | none => exact hidT_get (KX b o e) h
    | some u =>
      obtain rfl := only h
      rw [hK (by rw [h]; exact (fun z => by cases z))] at e
      cases e
  have md : Mod K mg (hidT s1.heap H) := ⟨part, dict hns, ⟨mb, dict hb, hbb⟩, hlim.elim fun mc z => ⟨mc, dict z.1, z.2⟩⟩
  have env : Env0 P w K mg (hidT s1.heap H) callerA [] s1 H := ⟨rfl, md, fun b o => of_hidT, Nat.le_of_eq (hidT_size _ _), trivial, (fun b z => (nomatch z)), hok, .of_eq hg⟩
  have run := (F _ part (dict hns) (hsys.elim fun m z => ⟨m, dict z⟩)).runs callerA [] s1 H ⟨[.ref a], []⟩ [.ref a] [.ref a] _ _ hr rfl env (hbind s1 (.ref a)) (.cons rfl .nil) q
  refine codeAny_mono run ?_
  intro r s2 z
  match r, z with
  | .ok (.ret u), ⟨v, H2, os, bare, un, hok2, rv, ev⟩ =>
    have ev' : v = .bl true := ev
    subst ev'
    have eu : u = Value.bool true := rv
    subst eu
    refine ⟨rfl, OldK.of_keep (fun b o e => ?_), os, bare⟩
    cases h : H b with
    | none => exact un.keep b o e h (fun z => nomatch z) (fun z => nomatch z)
    | some u =>
      cases hO b with
      | inl y => rw [h] at y; cases y
      | inr y =>
        obtain ⟨ob, xs, y⟩ := y
        have e1 := (hok b _ y).1
        have e2 := (hok2 b _ (un.frzs b ob _ y)).1
        rw [e1] at e
        rw [← Option.some.inj e]
        exact e2
end L2.My
namespace L2.My
open PySem PySem.Spec PyProof.Rows
def keyD : Key → PyData
  | .inl i => .int i
  | .inr x => .str x
mutual
inductive Dq (K : W.Frag) (H : Hp) : V → PyData → Prop
  | non : Dq K H .non .none
  | bl (b : Bool) : Dq K H (.bl b) (.bool b)
  | int (i : Int) : Dq K H (.int i) (.int i)
  | str (x : Str) : Dq K H (.str x) (.str x)
  | lst {a : Addr} {xs : List V} {ds : List PyData} : SqL K H a xs → DqAll K H xs ds → Dq K H (.ref a) (.list ds)
  | tup {a : Addr} {xs : List V} {ds : List PyData} : SqT K H a xs → DqAll K H xs ds → Dq K H (.ref a) (.tuple ds)
  | dic {a : Addr} {kvs : List (Key × V)} {ds : List (PyData × PyData)} : H a = some (.dK kvs) → DqKv K H kvs ds → Dq K H (.ref a) (.dict ds)
inductive DqAll (K : W.Frag) (H : Hp) : List V → List PyData → Prop
  | nil : DqAll K H [] []
  | cons {v : V} {vs : List V} {d : PyData} {ds : List PyData} : Dq K H v d → DqAll K H vs ds → DqAll K H (v :: vs) (d :: ds)
inductive DqKv (K : W.Frag) (H : Hp) : List (Key × V) → List (PyData × PyData) → Prop
  | nil : DqKv K H [] []
  | cons {k : Key} {v : V} {r : List (Key × V)} {d : PyData} {ds : List (PyData × PyData)} : Dq K H v d → DqKv K H r ds → DqKv K H ((k, v) :: r) ((keyD k, d) :: ds)
end
section
variable {X : Cx} {pins : List (Addr × Obj)} {σ : St} {H : Hp} {s : Shared}
theorem apart_sys {m : Str → Option Value} {a : Addr} {o : Obj} {its : Array Value} {n : Nat} (hs : X.base.Ns sysModules m) (I : Inv X pins σ H s) (ho : s.heap.get? a = some o) (hd : o.data = .seq its n) : a ≠ sysModules := by
  obtain ⟨ob, es, ep, e, d, _⟩ := hs
  intro z
  have e2 := I.bk _ _ e
  rw [← z, ho] at e2
  rw [Option.some.inj e2, d] at hd
  cases hd
theorem key_reads {w : World} {prog : Program} {h : Heap} {k : Key} {v : Value} (e : (mixKind prog w).is k v = true) : Reads h v (keyD k) [] := by
  rcases keyIs_shape (show keyIs k v = true from e) with ⟨i, t, rfl, rfl⟩ | ⟨x, t, rfl, rfl⟩
  · exact .int i t
  · exact .str x t
/-- the keys of a dict read -/
theorem keys_read {prog : Program} {w : World} {h : Heap} : ∀ {es : List DictEntry} {kvs : List (Key × Value)}, Pairs (mixKind prog w) es kvs → ReadsAll h (es.map (·.key)) (kvs.map fun p => keyD p.1) []
  | _, _, .nil => .nil
  | _, _, .cons h1 _ h3 => ReadsAll.cons (as := []) (bs := []) (key_reads h1) (keys_read h3)
theorem vals_of {prog : Program} {w : World} : ∀ {es : List DictEntry} {kvs : List (Key × Value)}, Pairs (mixKind prog w) es kvs → es.map (·.val) = kvs.map (·.2)
  | _, _, .nil => rfl
  | _, _, .cons _ h2 h3 => by rw [List.map_cons, List.map_cons, h2, vals_of h3]
mutual
theorem Dq.reads {m : Str → Option Value} (hs : X.base.Ns sysModules m) (I : Inv X pins σ H s) : ∀ (d : PyData) (v : V) (u : Value), Dq X.K H v d → RelV v u → ∃ as, Reads s.heap u d as ∧ sysModules ∉ as
  | .none, _, _, h, r => by
    cases h; cases r
    exact ⟨_, .none, fun z => (nomatch z)⟩
  | .bool b, _, _, h, r => by
    cases h; cases r
    exact ⟨_, .bool b, fun z => (nomatch z)⟩
  | .int i, _, _, h, r => by
    cases h
    obtain ⟨t, rfl⟩ := r
    exact ⟨_, .int i t, fun z => (nomatch z)⟩
  | .str x, _, _, h, r => by
    cases h
    obtain ⟨t, rfl⟩ := r
    exact ⟨_, .str x t, fun z => (nomatch z)⟩
  | .list ds, _, _, h, r => by
    cases h with
    | lst hl ha =>
      cases r
      obtain ⟨its, rv, ⟨o, n, ho, hc, _, hd⟩, _⟩ := I.list hl
      obtain ⟨as, hr, no⟩ := Dq.readsAll hs I ds _ its ha rv
      refine ⟨_, Reads.list ho hc hd hr, fun z => ?_⟩
      rcases List.mem_cons.mp z with e | e
      · exact apart_sys hs I ho hd e.symm
      · exact no e
  | .tuple ds, _, _, h, r => by
    cases h with
    | tup ht ha =>
      cases r
      obtain ⟨its, rv, ⟨o, ho, hc, n, hd⟩, _⟩ := I.tuple ht
      obtain ⟨as, hr, no⟩ := Dq.readsAll hs I ds _ its ha rv
      exact ⟨_, Reads.tuple ho hc hd hr, no⟩
  | .dict ds, _, _, h, r => by
    cases h with
    | dic hd ha =>
      cases r
      obtain ⟨_, lo, vs, kv, o, es, ep, ho, hc, hdat, _, hp, _⟩ := I.hok _ _ hd
      obtain ⟨as, hr, no, ek⟩ := Dq.readsKv hs I ds _ vs ha kv
      refine ⟨_, Reads.dict (as := []) ho hc.1 hdat ?_ (by rw [vals_of hp]; exact hr), fun z => ?_⟩
      · rw [ek]
        exact keys_read hp
      · rcases List.mem_cons.mp (show sysModules ∈ _ :: as from z) with e | e
        · rw [← e] at lo
          exact absurd lo (by decide)
        · exact no e
theorem Dq.readsAll {m : Str → Option Value} (hs : X.base.Ns sysModules m) (I : Inv X pins σ H s) : ∀ (ds : List PyData) (vs : List V) (us : List Value), DqAll X.K H vs ds → Vals vs us → ∃ as, ReadsAll s.heap us ds as ∧ sysModules ∉ as
  | [], _, _, h, r => by
    cases h; cases r
    exact ⟨_, .nil, fun z => (nomatch z)⟩
  | d :: ds, _, _, h, r => by
    cases h with
    | cons h1 h2 =>
      cases r with
      | cons r1 r2 =>
        obtain ⟨as, q1, n1⟩ := Dq.reads hs I d _ _ h1 r1
        obtain ⟨bs, q2, n2⟩ := Dq.readsAll hs I ds _ _ h2 r2
        exact ⟨_, .cons q1 q2, fun z => (List.mem_append.mp z).elim n1 n2⟩
theorem Dq.readsKv {m : Str → Option Value} (hs : X.base.Ns sysModules m) (I : Inv X pins σ H s) : ∀ (ds : List (PyData × PyData)) (vs : List (Key × V)) (us : List (Key × Value)), DqKv X.K H vs ds → KV vs us →
    ∃ as, ReadsAll s.heap (us.map (·.2)) (ds.map (·.2)) as ∧ sysModules ∉ as ∧ ds.map (·.1) = us.map fun p => keyD p.1
  | [], _, _, h, r => by
    cases h; cases r
    exact ⟨_, .nil, fun z => (nomatch z), rfl⟩
  | (e, d) :: ds, _, _, h, r => by
    cases h with
    | cons h1 h2 =>
      cases r with
      | @cons _ q _ qs r1 r2 =>
        obtain ⟨as, q1, n1⟩ := Dq.reads hs I d _ _ h1 r1.2
        obtain ⟨bs, q2, n2, ek⟩ := Dq.readsKv hs I ds _ _ h2 r2
        have r11 := r1.1
        dsimp only at r11
        refine ⟨_, .cons q1 q2, fun z => (List.mem_append.mp z).elim n1 n2, ?_⟩
        rw [List.map_cons, List.map_cons, ek, ← r11]
end
end
section
variable {X : Cx} {m : Str → Option Value}
/-- repr(x) of a list, a tuple, a dict of data -/
def rRepr (K : W.Frag) : List V → Hp → VK → Prop := fun xs H Q => ∃ (a : Addr) (d : PyData), xs = [.ref a] ∧ Dq K H (.ref a) d ∧ d.showable = true ∧ d.depth ≤ 60 ∧ d.shown.length ≤ sizeLine ∧ Q (.str d.shown) H
theorem call_repr (hs : X.base.Ns sysModules m) (hq : Quiet X.A) (hu : X.A.units + 64 < cLine) : CallR X (.builtin "repr") (rRepr X.K) := by
  intro pins s σ H xs us Q I r h
  obtain ⟨a, d, rfl, hd, h1, h2, h3, q⟩ := h
  cases r with
  | cons r0 r1 =>
    cases r1
    obtain rfl := r0
    obtain ⟨as, hr, no⟩ := Dq.reads hs I d _ _ hd rfl
    refine repr_of_reads' hr h1 (fun _ => no) hq (by omega) (fun _ _ e => e) (fun h' u tk hk => ?_) h3
    exact ⟨.str d.shown, H, I.kept hk, ⟨u, rfl⟩, q⟩
end
end L2.My
namespace PySem.Mine
open PySem.W PySem.Calls PyProof.Rows PySem.HandSPX
/-- what must be known of the bases: the maker's own class is among them, AttributeError and NameError are not -/
structure Ring (B : String) (bm : List Value) : Prop where
  own : bm.contains (.type B) = true
  att : bm.contains (.type "AttributeError") = false
  nam : bm.contains (.type "NameError") = false
section
variable {prog : Program} {w : World} {A : Around} {E : Value → Shared → Prop} {R : Result → Shared → Prop} {h : Heap} {g : Array GenState} {d : Drawn} {t : Nat} {os : OsState}
variable {nm q : Str} {C N : Addr} {bs bm bmB : List Value} {hdct : Bool} {sn : List Str} {sub : List Value} {ab : Bool} {col : Option Bool} {dd : Option Addr} {k0 k1 k2 k3 k5 : Option Value} {B newId initId : String}
theorem own_in (r : Ring B bm) : (Value.ref C :: bm).contains (.type B) = true := by
  rw [List.contains_cons, r.own, Bool.or_true]
theorem att_out (r : Ring B bm) : (Value.ref C :: bm).contains (.type "AttributeError") = false := by
  rw [List.contains_cons, r.att]; rfl
theorem nam_out (r : Ring B bm) : (Value.ref C :: bm).contains (.type "NameError") = false := by
  rw [List.contains_cons, r.nam]; rfl
theorem checked {M : Model} (F : ExcBaseFacts B newId initId bmB) (r : Ring B bm) {rest : List Value} {kw : List (Str × Value)} {Q : Unit → Shared → Prop}
    (hC : h.get? C = some (excClassObj nm q C N bs bm hdct sn sub ab col dd k0 k1 k2 k3 k5 newId)) (z : Q () ⟨h, g, d, t, os⟩) :
    wpAny M A (checkBuiltinCall newId ⟨.ref C :: rest, kw⟩) Q E ⟨h, g, d, t, os⟩ := by
  have i := own_in (C := C) r
  have star := F.noStar
  simp only [checkBuiltinCall, F.newKind, F.newSplit, F.newRow]
  repeat (first
    | refine wpAny_loadPart_at hC ?_
    | (refine wpAny_isSubtype_exc hC ?_; rw [i])
    | refine wpAny_staticBase_exc hC ?_
    | refine wpAny_madeBy_exc hC ?_
    | simp only [bne_self_eq_false, Bool.false_eq_true, if_false]
    | wp_step)
  exact z
theorem fresh_exc (F : ExcBaseFacts B newId initId bmB) (r : Ring B bm) {rest : List Value} {kw : List (Str × Value)} (small : rest.length ≤ sizeLine)
    (hC : h.get? C = some (excClassObj nm q C N bs bm hdct sn sub ab col dd k0 k1 k2 k3 k5 newId))
    (z : R (.ok (.ret (.ref (h.objs.size + 1)))) ⟨(h.push (W.kdv_tup rest)).push (excO C h.objs.size), g, d, t, os⟩) :
    codeAny (model prog w) A (.builtin newId ⟨.ref C :: rest, kw⟩) R ⟨h, g, d, t, os⟩ := by
  have e := F.ends
  have i1 := own_in (C := C) r
  have i2 := att_out (C := C) r
  have i3 := nam_out (C := C) r
  refine codeAny_builtinAt F.entry ?_
  unfold Builtin.«BaseException.__new__»
  refine wpAt_bind ?_
  show wpAt _ _ _ (stack >>= _) _ _ _
  refine wpAt_bind (wpAt_stack fun p below => wpAt_of_wpAny ?_)
  wp_walk
  refine wpAt_of_wpAny ?_
  rw [F.owner]
  repeat (first
    | with_reducible refine wpAny_madeHere_exc F.canon hC ?_
    | with_reducible refine wpAny_loadPart_at hC ?_
    | (with_reducible refine wpAny_isSubtype_exc hC ?_; first | rw [i1] | rw [i2] | rw [i3])
    | wp_step)
  show R _ _
  rw [Heap.size_push]
  exact z
theorem made_typed (F : ExcBaseFacts B newId initId bmB) (r : Ring B bm) {rest : List Value} {kw : List (Str × Value)} {fI : Addr} {Q : Fin → Shared → Prop} (small : rest.length ≤ sizeLine)
    (hC : h.get? C = some (excClassObj nm q C N bs bm hdct sn sub ab col dd k0 k1 k2 k3 k5 newId))
    (hi : W.Looks (model prog w) h (typeLookup (.ref C) "__init__") (some (.ref fI)))
    (hb : ∀ self, W.Looks (model prog w) h (bindSpecial (.ref fI) self) (.ref fI, [self]))
    (z : codeAny (model prog w) A (.call (.ref fI) ⟨.ref (h.objs.size + 1) :: rest, kw⟩)
      (fun r s' => match r with
        | .ok (.ret v) => v = .none ∧ Q (.done (.ret (.ref (h.objs.size + 1)))) s'
        | .ok _ => False
        | .error e => E e s')
      ⟨(h.push (W.kdv_tup rest)).push (excO C h.objs.size), g, d, t, os⟩) :
    wpAny (model prog w) A (Builtin.«type.__call__» ⟨.ref C :: rest, kw⟩) Q E ⟨h, g, d, t, os⟩ := by
  repeat (first
    | with_reducible refine wpAny_loadPart_at hC ?_
    | with_reducible refine wpAny_madeBy_exc hC ?_
    | wp_step)
  refine codeAny_call_builtin_code (Code.quiet_builtin _ F.quiet) (checked F r hC ?_)
  refine fresh_exc F r small hC ?_
  show wpAny _ _ _ _ _ _
  have keep : ∀ b o, h.get? b = some o → ((h.push (W.kdv_tup rest)).push (excO C h.objs.size)).get? b = some o :=
    fun b o e => Heap.get?_push_of_some _ (Heap.get?_push_of_some _ e)
  have c1 := keep _ _ hC
  have x1 : ((h.push (W.kdv_tup rest)).push (excO C h.objs.size)).get? (h.objs.size + 1) = some (excO C h.objs.size) := by
    heap_get
  have cc : (Value.ref C :: bm).contains (.ref C) = true := by
    simp
  have j1 := hi.keeps keep
  have j2 := (hb (.ref (h.objs.size + 1))).keeps keep
  unfold isInstance
  repeat (first
    | with_reducible refine wpAny_loadPart_at x1 ?_
    | (with_reducible refine wpAny_isSubtype_exc c1 ?_; rw [cc])
    | wp_step)
  show wpAny _ _ (typeLookup (.ref C) _) _ _ _
  refine j1.at ?_
  refine wpAny_holding (wpAny_bind (j2.at ?_))
  refine wpAny_bind (wpAny_call (codeAny_mono z ?_))
  intro res s' y
  match res, y with
  | .error _, y => exact y
  | .ok (.ret _), ⟨rfl, y⟩ =>
    first
      | exact wpAny_pure (wpAny_pure y)
      | (wp_walk; exact y)
/-- C(..) of an own exception class with an own __init__ -/
theorem called (F : ExcBaseFacts B newId initId bmB) (r : Ring B bm) {rest : List Value} {kw : List (Str × Value)} {fI : Addr} (small : rest.length ≤ sizeLine)
    (hC : h.get? C = some (excClassObj nm q C N bs bm hdct sn sub ab col dd k0 k1 k2 k3 k5 newId))
    (hi : W.Looks (model prog w) h (typeLookup (.ref C) "__init__") (some (.ref fI)))
    (hb : ∀ self, W.Looks (model prog w) h (bindSpecial (.ref fI) self) (.ref fI, [self]))
    (z : codeAny (model prog w) (A.under (.builtin "type.__call__" ⟨.ref C :: rest, kw⟩)) (.call (.ref fI) ⟨.ref (h.objs.size + 1) :: rest, kw⟩) (W.InitBack (h.objs.size + 1) R)
      ⟨(h.push (W.kdv_tup rest)).push (excO C h.objs.size), g, d, t, os⟩) :
    codeAny (model prog w) A (.call (.ref C) ⟨rest, kw⟩) R ⟨h, g, d, t, os⟩ := by
  have f1 := tc_lookup
  have f2 := tc_bind (.ref C)
  have ty : (⟨h, g, d, t, os⟩ : Shared).TypeIs (.ref C) "type" := ⟨_, hC, rfl⟩
  refine codeAny_of_tree ?_
  show wpAny _ _ (callAny (.ref C) _) _ _ _
  repeat (any_goals (first
    | assumption
    | with_reducible refine wpAny_loadPart_at hC ?_
    | wp_step))
  refine ⟨rfl, ?_⟩
  refine codeAny_call_builtin_at (Code.quiet_builtin _ (by decide +kernel)) entry_typeCall (wpAny_check_type_call_sub hC (made_typed F r small hC hi hb ?_))
  refine codeAny_mono z ?_
  intro res s' y
  match res, y with
  | .error _, y => exact y
  | .ok (.ret _), y => exact y
end
end PySem.Mine
namespace L2.My
open PySem PySem.Spec PyProof.Rows Builtin.ObjectAttr
/-- what the written part says of an own exception class -/
structure ExK (K : W.Frag) (C : Addr) : Prop where
  made : ∃ (B newId initId : String) (bmB bm : List Value) (nm q : Str) (N : Addr) (bs : List Value) (hdct : Bool) (sn : List Str) (sub : List Value) (ab : Bool) (col : Option Bool) (dd : Option Addr) (k0 k1 k2 k3 k5 : Option Value),
    ExcBaseFacts B newId initId bmB ∧ Mine.Ring B bm ∧ K.lookup C = some (excClassObj nm q C N bs bm hdct sn sub ab col dd k0 k1 k2 k3 k5 newId)
  over : ∃ (B : String) (bmB : List Value), StoreFacts B bmB "object.__setattr__" "object" ∧ W.excOver K C bmB = true
  sa : W.findIn K (.ref C) "__setattr__" = some (some (.builtin "object.__setattr__"))
  hd : W.hasDictIn K C = true
  ga : W.findIn K (.ref C) "__getattribute__" = some (some (.builtin "BaseException.__getattribute__"))
  gg : W.findIn K (.ref C) "__getattr__" = some none
  ex : W.subIn K (.ref C) (.type "BaseException") = some true
  cl : W.findIn K (.ref C) "__class__" = some (some (.builtin "object.__class__"))
  ob : W.mroIn K C (.type "object") = some true
  kp : W.keepIn K (.ref C) = true
structure ExA (K : W.Frag) : Prop where
  gt : W.specialIn K (.builtin "object.__class__") "__get__" = some (some (.builtin "getset_descriptor.__get__"))
  tk : W.takesIn K (.builtin "object.__class__") = some true
abbrev rec0 (C t1 : Addr) (d : Option Addr) : Obj := { cls := .ref C, dict := d, data := .fields #[.ref t1, .none, .none, .none, .bool false, .none] }
section
variable {X : Cx} {pins : List (Addr × Obj)} {σ : St} {H : Hp} {s : Shared} {a C dx : Addr} {f : Str} {y : V} {u : Value} {fs : List (Str × V)} {Q : Unit → Shared → Prop} {E : Value → Shared → Prop}
theorem upd_sw {H : Hp} {a b : Addr} {o p : HO} (h : a ≠ b) : upd (upd H a o) b p = upd (upd H b p) a o := by
  funext c
  by_cases ca : c = a
  · subst ca; rw [upd_ne h, upd_same, upd_same]
  · by_cases cb : c = b
    · subst cb; rw [upd_same, upd_ne ca, upd_same]
    · rw [upd_ne cb, upd_ne ca, upd_ne ca, upd_ne cb]
/-- self.f = y, the first field of an exception -/
theorem field_first (T : ExK X.K C) (I : Inv X pins σ H s) (e : H a = some (exo a C none)) (ht : W.takerIn X.K C f = some none) (ry : RelV y u)
    (z : ∀ dx s', H dx = none → dx ≠ a → Inv X pins σ (upd (upd H dx (exd dx [(f, y)])) a (exo a C (some dx))) s' → Q () s') : wpAny (model X.prog X.w) X.A (setAttr (.ref a) f u) Q E s := by
  obtain ⟨B, bmB, SF, ov⟩ := T.over
  obtain ⟨t1, ho⟩ := exo_at I.hok e
  have at0 : W.InstAt s.heap a (rec0 C t1 none) C none := ⟨ho, rfl, rfl, trivial⟩
  refine W.set_plain I.kIn at0 T.sa ?_
  have I0 := I.tok (s.toks + 1)
  refine W.osa_openX SF I0.kIn at0 ov ht fun b => ?_
  obtain ⟨cd, hc, hd'⟩ := W.any_some T.hd
  refine wpAny_bind (wpAny_pure (wpAny_bind (W.instanceDict_exc (c2 := .none) ho (W.looks_clsIn I0.kIn hc) hd' ?_)))
  show wpAny _ _ (storeInDict s.heap.objs.size (.str f s.toks) f u) _ _ _
  -- the dict is laid
  have fr : H s.heap.objs.size = none := I.hok.fresh (Nat.le_refl _)
  have ne : s.heap.objs.size ≠ a := Nat.ne_of_gt (Heap.lt_size ho)
  have ns0 : (s.heap.push (W.dictOf [] 0)).Ns1 s.heap.objs.size (fun _ => none) :=
    Heap.Ns1.of_empty ⟨_, #[], _, Heap.get?_push_size _ rfl, rfl, fun e he => absurd he (by simp), fun _ => rfl⟩
  have I1 : Inv X pins σ (upd H s.heap.objs.size (exd s.heap.objs.size [])) { s with heap := s.heap.push (W.dictOf [] 0), toks := s.toks + 1 } :=
    I.laid (fun b o q => Heap.get?_push_of_some _ q) (Nat.le_refl _) (exd_ok ns0 fun g => True.intro)
  -- the exception gets it
  have oa : (s.heap.push (W.dictOf [] 0)).get? a = some (rec0 C t1 none) := Heap.get?_push_of_some _ ho
  have e1 : upd H s.heap.objs.size (exd s.heap.objs.size []) a = some (exo a C none) := by rw [upd_ne (Ne.symm ne)]; exact e
  have oa2 : ((s.heap.push (W.dictOf [] 0)).update a fun o => { o with dict := some s.heap.objs.size }).get? a = some (rec0 C t1 (some s.heap.objs.size)) := Heap.get?_update_self _ oa rfl
  have I2 := I1.write (t' := s.toks + 1) (x := a) (e := a) (o := exo a C (some s.heap.objs.size)) (h' := (s.heap.push (W.dictOf [] 0)).update a fun o => { o with dict := some s.heap.objs.size })
    (by rw [e1]; exact True.intro) (.inl rfl) (fun b o hb q => (Heap.get?_update_ne _ _ _ _ hb).trans q) ⟨_, oa2⟩ (exo_ok oa2)
  have ns2 : ((s.heap.push (W.dictOf [] 0)).update a fun o => { o with dict := some s.heap.objs.size }).Ns1 s.heap.objs.size (fun _ => none) :=
    ns0.at fun o q => (Heap.get?_update_ne _ _ _ _ ne).trans q
  refine OEX.store_in_old (ns := []) ns2 Within.nil (Nat.zero_le _) fun h' tk' hn hs => ?_
  have ex2 : upd (upd H s.heap.objs.size (exd s.heap.objs.size [])) a (exo a C (some s.heap.objs.size)) s.heap.objs.size = some (exd s.heap.objs.size []) := by rw [upd_ne ne, upd_same]
  have I3 := I2.write (t' := tk') (x := s.heap.objs.size) (e := s.heap.objs.size) (o := exd s.heap.objs.size [(f, y)]) (h' := h') (by rw [ex2]; exact True.intro) (.inl rfl) (fun b o hb q => (hs.2 b hb).trans q)
    (by obtain ⟨o, _, _, q, _⟩ := hn; exact ⟨o, q⟩) (exd_ok hn (relO_put (fs := []) ry fun g => True.intro))
  rw [upd_sw (Ne.symm ne), upd_upd] at I3
  exact z _ _ fr ne I3
/-- self.f = y, a further field -/
theorem field_more (T : ExK X.K C) (I : Inv X pins σ H s) (e : H a = some (exo a C (some dx))) (ed : H dx = some (exd dx fs)) (hl : fs.length ≤ 900) (ht : W.takerIn X.K C f = some none) (ry : RelV y u)
    (z : ∀ s', Inv X pins σ (upd H dx (exd dx ((f, y) :: fs))) s' → Q () s') : wpAny (model X.prog X.w) X.A (setAttr (.ref a) f u) Q E s := by
  obtain ⟨B, bmB, SF, ov⟩ := T.over
  obtain ⟨t1, ho⟩ := exo_at I.hok e
  obtain ⟨mA, hns, rel⟩ := exd_at I.hok ed
  obtain ⟨oD, esD, nD, hoD, hdD, _⟩ := hns.count (within_of rel)
  have at0 : W.InstAt s.heap a (rec0 C t1 (some dx)) C (some oD) := ⟨ho, rfl, rfl, hoD⟩
  refine W.set_plain I.kIn at0 T.sa ?_
  have I0 := I.tok (s.toks + 1)
  refine W.osa_openX SF I0.kIn at0 ov ht fun b => ?_
  obtain ⟨cd, hc, hd'⟩ := W.any_some T.hd
  refine wpAny_bind (wpAny_pure (wpAny_bind (wpAny_bind (wpAny_loadPart ho (wpAny_bind ((W.looks_clsIn I0.kIn hc).here ?_))))))
  rw [hd']
  refine wpAny_pure (a := some dx) ?_
  refine OEX.store_in_old hns (within_of rel) (by rw [List.length_map]; omega) fun h' tk' hn hs => ?_
  have I3 := I0.write (t' := tk') (x := dx) (e := dx) (o := exd dx ((f, y) :: fs)) (h' := h') (by rw [ed]; exact True.intro) (.inl rfl) (fun b o hb q => (hs.2 b hb).trans q)
    (by obtain ⟨o, _, _, q, _⟩ := hn; exact ⟨o, q⟩) (exd_ok hn (relO_put ry rel))
  exact z _ I3
end
end L2.My
namespace L2.My
open PySem PySem.Spec PyProof.Rows
def tEfl (K : W.Frag) (f : Str) (to te : TE) : TS := fun D σ H => te σ H fun y H1 => to σ H1 fun x H2 => ∃ a C : Addr, x = .ref a ∧ ExK K C ∧ W.takerIn K C f = some none ∧
  ((H2 a = some (exo a C none) ∧ ∀ dx, H2 dx = none → dx ≠ a → D.nx σ (upd (upd H2 dx (exd dx [(f, y)])) a (exo a C (some dx)))) ∨
    ∃ (dx : Addr) (fs : List (Str × V)), H2 a = some (exo a C (some dx)) ∧ H2 dx = some (exd dx fs) ∧ fs.length ≤ 900 ∧ D.nx σ (upd H2 dx (exd dx ((f, y) :: fs))))
theorem ps_efl {X : Cx} {o e : Expr} {to te : TE} {f : Str} {p' pos : Pos} (ho : PE X o to) (he : PE X e te) (hs : swapsWith e (some (.Attribute o f p')) pos.line X.env = pure false := by rfl) : PS X (.Assign [.Attribute o f p'] e pos) (tEfl X.K f to te) := by
  constructor
  intro pins s σ H D I h
  refine plainObj_wpAny_Assign_Attribute (thn (he.run pins s σ H _ I h) fun v s1 r1 => ?_) hs
  obtain ⟨y, H1, I1, ry, h1⟩ := r1
  refine thn (ho.run pins s1 σ H1 _ I1 h1) fun u s2 r2 => ?_
  obtain ⟨x, H2, I2, rx, a, C, rfl, T, ht, q⟩ := r2
  obtain rfl : u = Value.ref a := rx
  cases q with
  | inl q => exact field_first T I2 q.1 ht ry fun dx s' n ne J => ⟨σ, _, J, q.2 dx n ne⟩
  | inr q =>
    obtain ⟨dx, fs, ea, ed, hl, q⟩ := q
    exact field_more T I2 ea ed hl ht ry fun s' J => ⟨σ, _, J, q⟩
end L2.My
namespace L2.My
open PySem PySem.Spec PyProof.Rows
/-- what an __init__ that stores its parameters promises -/
def spIni (C : Addr) (fs : List Str) : Sp := fun vs H Q _ => ∃ (a : Addr) (ys : List V), vs = .ref a :: ys ∧ ys.length = fs.length ∧ H a = some (exo a C none) ∧
  ∀ dx, H dx = none → dx ≠ a → Q .non (upd (upd H dx (exd dx (fs.zip ys).reverse)) a (exo a C (some dx)))
end L2.My
namespace L2.My
open PySem PySem.Spec PyProof.Rows
theorem par_vis {N ps : List Str} {sc : Scope} (S : FnScope N ps sc) {x : Str} (h : x ∈ ps) : Vis sc x := by
  rcases S.par x h with e | e
  · exact .inl e
  · exact .inr (.inl e)
end L2.My
namespace L2.My
open PySem PySem.Spec PyProof.Rows
def rAddU : R2 := fun x y H Q => (∃ i j, x = .int i ∧ y = .int j ∧ Q (.int (i + j)) H) ∨ (∃ i j : Str, x = .str i ∧ y = .str j ∧ i.length + j.length ≤ sizeLine ∧ Q (.str (i ++ j)) H) ∨ rCat x y H Q
theorem op_addU {X : Cx} : OpR X (binaryOp .Add) rAddU := by
  intro pins s σ H x y v u Q I rx ry h
  rcases h with h | h | h
  · exact op_add pins s σ H x y v u Q I rx ry h
  · exact op_add_str pins s σ H x y v u Q I rx ry h
  · exact op_cat pins s σ H x y v u Q I rx ry h
def rMulU : R2 := fun x y H Q => (∃ i j, x = .int i ∧ y = .int j ∧ CMul i j ∧ Q (.int (i * j)) H) ∨ rRep x y H Q
theorem op_mulU {X : Cx} : OpR X (binaryOp .Mult) rMulU := by
  intro pins s σ H x y v u Q I rx ry h
  rcases h with h | h
  · exact op_mul pins s σ H x y v u Q I rx ry h
  · exact op_rep pins s σ H x y v u Q I rx ry h
def rEqU (K : W.Frag) (b : Bool) : R2 := fun x y H Q => (scal x y = true ∧ Q (.bl (b == decide (x = y))) H) ∨ ∃ d e, Dp K H x d ∧ Dp K H y e ∧ SeqAt.shaped d = true ∧ SeqAt.shaped e = true ∧ Q (.bl (b == PyData.eqv d e)) H
theorem op_neU {X : Cx} (hu : X.A.units + 64 < cLine) : OpR X (compareOp .NotEq) (rEqU X.K false) := by
  intro pins s σ H x y v u Q I rx ry h
  have e : ∀ b : Bool, (false == b) = !b := by decide
  rcases h with ⟨h1, h⟩ | ⟨d, e', h1, h2, h3, h4, h⟩
  · exact op_ne pins s σ H x y v u Q I rx ry ⟨h1, by rw [← e]; exact h⟩
  · exact op_neD hu pins s σ H x y v u Q I rx ry ⟨d, e', h1, h2, h3, h4, by rw [← e]; exact h⟩
section
variable {X : Cx} {K : W.Frag} {σ : St} {H : Hp} {Q : VK} {ta tb : TE} {t : TA}
theorem g_var {i : Nat} {v : V} (e : σ[i]? = some (some v)) (h : Q v H) : tVar i σ H Q := ⟨v, e, h⟩
theorem g_c {v : V} (h : Q v H) : tC v σ H Q := h
theorem g_op {r : R2} (h : ta σ H fun x H1 => tb σ H1 fun y H2 => r x y H2 Q) : tOp r ta tb σ H Q := h
theorem g_un {r : V → Hp → VK → Prop} (h : ta σ H fun x H1 => r x H1 Q) : tUn r ta σ H Q := h
theorem g_nil {Q : List V → Hp → Prop} (h : Q [] H) : tNil σ H Q := h
theorem g_cons {Q : List V → Hp → Prop} (h : ta σ H fun x H1 => t σ H1 fun xs H2 => Q (x :: xs) H2) : tCons ta t σ H Q := h
theorem g_cb {r : List V → Hp → VK → Prop} (h : t σ H fun vs H1 => r vs H1 Q) : tCB r t σ H Q := h
theorem g_call {sp : Sp} {E : XK} (h : t σ H fun vs H1 => sp vs H1 Q E) : tCall sp [] E t σ H Q := by
  show t σ H fun vs H1 => sp (vs ++ []) H1 Q E
  simpa only [List.append_nil] using h
theorem g_tup (h : t σ H fun xs H1 => xs.length ≤ sizeLine ∧ ∀ p, H1 p = none → Q (.ref p) (upd H1 p (.tup xs))) : tTup t σ H Q := h
theorem g_lst (h : t σ H fun xs H1 => xs.length ≤ sizeLine ∧ ∀ p, H1 p = none → Q (.ref p) (upd H1 p (.lst xs))) : tLst t σ H Q := h
theorem g_small {n : Nat} {B : Prop} (h : n ≤ 1000) (b : B) : n ≤ sizeLine ∧ B := ⟨Nat.le_of_lt (small1000 h), b⟩
theorem g_tests {te : TE} {Q : Bool → Hp → Prop} (h : te σ H fun x H' => ∃ k, x = .bl k ∧ Q k H') : tTest te σ H Q := h
theorem g_bl {b : Bool} {Q : Bool → Prop} (h : Q b) : ∃ k, V.bl b = .bl k ∧ Q k := ⟨b, rfl, h⟩
theorem g_not {te : TT} {Q : Bool → Hp → Prop} (h : te σ H fun c H1 => Q (!c) H1) : tNot te σ H Q := h
theorem g_and {t u : TT} {Q : Bool → Hp → Prop} (h : t σ H fun c H1 => if c = true then u σ H1 Q else Q false H1) : tAnd t u σ H Q := h
theorem g_or {t u : TT} {Q : Bool → Hp → Prop} (h : t σ H fun c H1 => if c = true then Q true H1 else u σ H1 Q) : tOr t u σ H Q := h
theorem g_tB {te : TE} {Q : Bool → Hp → Prop} (h : te σ H fun x H1 => ∃ c, x = .bl c ∧ Q c H1) : tB te σ H Q := h
variable {D : Ends} {sa sb : TS} {g : TG} {gs : TGs}
theorem g_seq (h : sa { D with nx := sb D } σ H) : tSeq sa sb D σ H := h
theorem g_next (h : D.nx σ H) : tNext D σ H := h
theorem g_asg (h : ta σ H fun x H1 => g x σ H1 D.nx) : tAsg ta g D σ H := h
theorem g_name {i : Nat} {v : V} {Q : St → Hp → Prop} (h : Q (σ.set i (some v)) H) : gName i v σ H Q := h
theorem g_sub {v : V} {st : TSet} {Q : St → Hp → Prop} (h : ta σ H fun o H1 => tb σ H1 fun i H2 => st o i v H2 fun H3 => Q σ H3) : gSub ta tb st v σ H Q := h
theorem g_drop (h : ta σ H fun _ H1 => D.nx σ H1) : tDrop ta D σ H := h
theorem g_ret (h : ta σ H D.rt) : tRet ta D σ H := h
theorem g_retN (h : D.rt .non H) : tRetN D σ H := h
theorem g_ifs {c : TT} (h : c σ H fun b H1 => if b = true then sa D σ H1 else sb D σ H1) : tIfS c sa sb D σ H := h
theorem g_par {i j : Nat} (h : t σ H fun vs H1 => ∃ v w, vs = [v, w] ∧ D.nx ((σ.set i (some v)).set j (some w)) H1) : tPar i j t D σ H := h
theorem g_two {v w : V} {R : V → V → Prop} (h : R v w) : ∃ v' w', [v, w] = [v', w'] ∧ R v' w' := ⟨v, w, rfl, h⟩
theorem addU_i {i j : Int} (h : Q (.int (i + j)) H) : rAddU (.int i) (.int j) H Q := .inl ⟨i, j, rfl, rfl, h⟩
theorem addU_l {l b : Addr} {xs zs : List V} (e : H l = some (.lst xs)) (e2 : H b = some (.lst zs)) (z : xs.length + zs.length ≤ 1000) (h : ∀ p, H p = none → Q (.ref p) (upd H p (.lst (xs ++ zs)))) : rAddU (.ref l) (.ref b) H Q :=
  .inr (.inr ⟨l, b, xs, zs, rfl, rfl, e, e2, Nat.le_of_lt (small1000 z), h⟩)
theorem mulU_i {i j : Int} (c : CMul i j) (h : Q (.int (i * j)) H) : rMulU (.int i) (.int j) H Q := .inl ⟨i, j, rfl, rfl, c, h⟩
theorem rI0_i {f : Int → Int → V} {i j : Int} (h : Q (f i j) H) : rI0 f (.int i) (.int j) H Q := ⟨i, j, rfl, rfl, h⟩
theorem rI_i {C : Int → Int → Prop} {f : Int → Int → V} {i j : Int} (c : C i j) (h : Q (f i j) H) : rI C f (.int i) (.int j) H Q := ⟨i, j, rfl, rfl, c, h⟩
theorem ix_l {p : Addr} {xs : List V} {i : Int} {v : V} (e : SqL K H p xs) (a : atI xs i = some v) (h : Q v H) : rIx K (.ref p) (.int i) H Q := .inl ⟨p, xs, i, v, rfl, rfl, e, a, h⟩
theorem eqU_d {b : Bool} {x y : V} {d e : PyData} (h1 : Dp K H x d) (h2 : Dp K H y e) (s1 : SeqAt.shaped d = true) (s2 : SeqAt.shaped e = true) (h : Q (.bl (b == PyData.eqv d e)) H) : rEqU K b x y H Q := .inr ⟨d, e, h1, h2, s1, s2, h⟩
theorem setL {p : Addr} {xs : List V} {k : Int} {j : Nat} {v : V} {R : Hp → Prop} (e : H p = some (.lst xs)) (hk : ixN xs.length k = some j) (h : R (upd H p (.lst (xs.set j v)))) : rSetL (.ref p) (.int k) v H R := ⟨p, xs, k, j, rfl, rfl, e, hk, h⟩
end
end L2.My
namespace L2.My
open PySem PySem.Spec PyProof.Rows
theorem g_cut {σ : St} {H : Hp} {D : Ends} {t u : TS} (Mid : St → Hp → Prop) (h : t { D with nx := Mid } σ H) (h2 : ∀ σ' H', Mid σ' H' → u D σ' H') : C8.tCut t u D σ H := ⟨Mid, h, h2⟩
/-- all but p is as it was -/
def But (H H' : Hp) (p : Addr) : Prop := ∀ b o, b ≠ p → H b = some o → H' b = some o
theorem Same.but {H H' : Hp} (h : Same H H') (p : Addr) : But H H' p := fun b o _ e => h b o e
theorem same_upd {H : Hp} {p : Addr} {o : HO} (h : H p = none) : Same H (upd H p o) := fun b u e => by
  rw [upd_ne (ne_of_none e h)]
  exact e
theorem But.upd {H H' : Hp} {p : Addr} {o : HO} (h : But H H' p) : But H (L2.upd H' p o) p := fun b u n e => by
  rw [upd_ne n]
  exact h b u n e
theorem but_upd {H : Hp} {p : Addr} {o : HO} : But H (L2.upd H p o) p := fun b u n e => by
  rw [upd_ne n]
  exact e
theorem But.same {H H' H2 : Hp} {p : Addr} (h : But H H' p) (s : Same H' H2) : But H H2 p := fun b u n e => s b u (h b u n e)
theorem But.trans {H H' H2 : Hp} {p : Addr} (h : But H H' p) (s : But H' H2 p) : But H H2 p := fun b u n e => s b u n (h b u n e)
theorem dpAll_ints {K : W.Frag} {H : Hp} : ∀ ns : List Int, DpAll K H (ns.map V.int) (ns.map PyData.int)
  | [] => .nil
  | n :: r => .cons (.int n) (dpAll_ints r)
theorem dp_ints {K : W.Frag} {H : Hp} {a : Addr} {ns : List Int} (e : SqL K H a (ns.map V.int)) : Dp K H (.ref a) (.list (ns.map PyData.int)) := .lst e (dpAll_ints ns)
theorem lay_all {α : Type} {f : α → PyData} (h : ∀ a, (f a).canLay0 = true) : ∀ ns : List α, PyData.canLayAll0 (ns.map f) = true
  | [] => by simp [PyData.canLayAll0]
  | n :: r => by simp [PyData.canLayAll0, h n, lay_all h r]
theorem depth_all {α : Type} {f : α → PyData} (h : ∀ a, (f a).depth = 0) : ∀ ns : List α, PyData.depthAll (ns.map f) = 0
  | [] => by simp [PyData.depthAll]
  | n :: r => by simp [PyData.depthAll, h n, depth_all h r]
theorem shaped_map {α : Type} {f : α → PyData} (h : ∀ a, (f a).canLay0 = true) (h2 : ∀ a, (f a).depth = 0) (ns : List α) : SeqAt.shaped (.list (ns.map f)) = true := by
  unfold SeqAt.shaped
  simp [PyData.canLay0, PyData.depth, lay_all h, depth_all h2]
theorem shaped_ints (ns : List Int) : SeqAt.shaped (.list (ns.map PyData.int)) = true := shaped_map (fun _ => by simp [PyData.canLay0]) (fun _ => by simp [PyData.depth]) ns
theorem eqvAll_ints : ∀ ns ms : List Int, PyData.eqvAll (ns.map PyData.int) (ms.map PyData.int) = decide (ns = ms)
  | [], [] => by simp [PyData.eqvAll]
  | [], _ :: _ => by simp [PyData.eqvAll]
  | _ :: _, [] => by simp [PyData.eqvAll]
  | n :: r, m :: q => by
    simp only [List.map_cons, PyData.eqvAll, PyData.eqv, eqvAll_ints r q]
    by_cases h : n = m <;> by_cases h2 : r = q <;> simp [h, h2]
theorem eqv_ints (ns ms : List Int) : PyData.eqv (.list (ns.map PyData.int)) (.list (ms.map PyData.int)) = decide (ns = ms) := by
  rw [← eqvAll_ints]; simp [PyData.eqv]
/-- == and != of two lists of ints, of bools -/
theorem eqU_ints {K : W.Frag} {H : Hp} {Q : VK} {b : Bool} {p q : Addr} {ns ms : List Int} (e1 : SqL K H p (ns.map V.int)) (e2 : SqL K H q (ms.map V.int)) (h : Q (.bl (b == decide (ns = ms))) H) : rEqU K b (.ref p) (.ref q) H Q :=
  eqU_d (dp_ints e1) (dp_ints e2) (shaped_ints ns) (shaped_ints ms) (by rw [eqv_ints]; exact h)
theorem pe_gref {X : Cx} {x : Str} {pos : Pos} {a : Addr} (hg : Gl X x) (hm : X.mg x = some (.ref a)) (hd : (x == ("__debug__" : Str)) = false := by decide) : PE X (.Name x pos) (tC (.ref a)) := pe_glob (v := .ref a) hg hm rfl hd
theorem pe_bty {X : Cx} {x : Str} {pos : Pos} (T : String) (hg : Gl X x) (hm : X.mg x = none) (hv : bootBuiltins x = some (.type T)) (hn : x ≠ "__name__" := by decide) (hd : (x == ("__debug__" : Str)) = false := by decide) : PE X (.Name x pos) (tC (.ty T)) := pe_bltn (v := .ty T) hg hm hv rfl hn hd
def rInt1 : List V → Hp → VK → Prop := fun xs H Q => (∃ i, xs = [.int i] ∧ Q (.int i) H) ∨ ∃ k, xs = [.bl k] ∧ Q (.int (if k then 1 else 0)) H
def rAbs1 : List V → Hp → VK → Prop := fun xs H Q => ∃ i, xs = [.int i] ∧ Q (.int (if i < 0 then -i else i)) H
def rLen1 (K : W.Frag) : List V → Hp → VK → Prop := fun xs H Q => ∃ p ys, xs = [.ref p] ∧ (SqL K H p ys ∨ SqT K H p ys) ∧ Q (.int ys.length) H
def rList1 (K : W.Frag) : List V → Hp → VK → Prop := fun xs H Q => ∃ p ys, xs = [.ref p] ∧ (SqL K H p ys ∨ SqT K H p ys) ∧ ∀ l, H l = none → Q (.ref l) (upd H l (.lst ys))
section
variable {X : Cx} {K : W.Frag} {H : Hp} {Q : VK}
theorem c_int : CallR X (.type "int") rInt1 := call_int1
theorem c_abs : CallR X (.builtin "abs") rAbs1 := call_abs
theorem c_len : CallR X (.builtin "len") (rLen1 X.K) := call_len_seq
theorem c_list : CallR X (.type "list") (rList1 X.K) := call_list_of
theorem g_int {i : Int} (h : Q (.int i) H) : rInt1 [.int i] H Q := .inl ⟨i, rfl, h⟩
theorem g_intb {b : Bool} (h : Q (.int (if b = true then 1 else 0)) H) : rInt1 [.bl b] H Q := .inr ⟨b, rfl, h⟩
theorem g_abs {i : Int} (h : Q (.int (if i < 0 then -i else i)) H) : rAbs1 [.int i] H Q := ⟨i, rfl, h⟩
theorem g_len {p : Addr} {ys : List V} (e : SqL K H p ys) (h : Q (.int (ys.length : Nat)) H) : rLen1 K [.ref p] H Q := ⟨p, ys, rfl, .inl e, h⟩
theorem g_list {p : Addr} {ys : List V} (e : SqL K H p ys) (h : ∀ l, H l = none → Q (.ref l) (upd H l (.lst ys))) : rList1 K [.ref p] H Q := ⟨p, ys, rfl, .inl e, h⟩
variable {σ : St} {te : TE} {tl th : TO} {r : V → Option Int → Option Int → Hp → VK → Prop}
theorem g_sl (h : te σ H fun x H1 => tl σ H1 fun l H2 => th σ H2 fun u H3 => r x l u H3 Q) : tSl r te tl th σ H Q := h
theorem g_nopart {R : Option Int → Hp → Prop} (h : R none H) : tNoPart σ H R := h
theorem g_part {R : Option Int → Hp → Prop} (h : te σ H fun x H1 => ∃ i, x = .int i ∧ R (some i) H1) : tPart te σ H R := h
theorem g_i {i : Int} {R : Int → Prop} (h : R i) : ∃ j, V.int i = .int j ∧ R j := ⟨i, rfl, h⟩
theorem slL {a : Addr} {xs : List V} {lo hi : Option Int} (e : SqL K H a xs) (h : ∀ p, H p = none → Q (.ref p) (upd H p (.lst (cutV xs lo hi)))) : rSlL K (.ref a) lo hi H Q := ⟨a, xs, rfl, e, h⟩
theorem g_pair {tk tv : TE} {r : List (TE × TE)} {R : List (V × V) → Hp → Prop} (h : tk σ H fun x H1 => tv σ H1 fun y H2 => tPairs r σ H2 fun ps H3 => R ((x, y) :: ps) H3) : tPairs ((tk, tv) :: r) σ H R := h
theorem g_pair0 {R : List (V × V) → Hp → Prop} (h : R [] H) : tPairs [] σ H R := h
/-- an exception of the class at C -/
def ExAt (H : Hp) (a C : Addr) : Prop := ∃ d : Option Addr, H a = some (exo a C d) ∧ ∀ dx, d = some dx → ∃ fs, H dx = some (exd dx fs)
theorem ExAt.same {H' : Hp} {a C : Addr} (s : Same H H') (h : ExAt H a C) : ExAt H' a C := by
  obtain ⟨d, e, r⟩ := h
  exact ⟨d, s _ _ e, fun dx z => (r dx z).elim fun fs q => ⟨fs, s _ _ q⟩⟩
theorem g_bm {T : String} {ru : V → List V → Hp → VK → Prop} {t : TA} (h : te σ H fun x H1 => tyV K T x H1 ∧ t σ H1 fun xs H2 => ru x xs H2 Q) : tBM K T ru te t σ H Q := h
end
end L2.My
namespace L2.My
open PySem PySem.Spec PyProof.Rows
/-- at e: an exception of the class, with its dict; whatever its record says -/
def exz (e : Addr) (cls : Value) (d : Option Addr) : HO := .ext fun h => ∃ (oe : Obj) (vs : Array Value), h.get? e = some oe ∧ Zc cls d oe ∧ oe.data = .fields vs
theorem exz_at {P : Program} {w : World} {H : Hp} {h : Heap} {e : Addr} {cls : Value} {d : Option Addr} (hok : HOk P w H h) (he : H e = some (exz e cls d)) : ∃ (oe : Obj) (vs : Array Value), h.get? e = some oe ∧ Zc cls d oe ∧ oe.data = .fields vs := by
  have x : ObjOk P w H h e (.ext fun h => ∃ (oe : Obj) (vs : Array Value), h.get? e = some oe ∧ Zc cls d oe ∧ oe.data = .fields vs) := hok e _ he
  exact x.1
end L2.My
namespace L2.My
open PySem PySem.Spec PyProof.Rows
theorem xd_at {P : Program} {w : World} {H : Hp} {h : Heap} {d : Addr} {fs : List (Str × V)} (hok : HOk P w H h) (he : H d = some (.xd fs)) : ∃ mA, h.Ns1 d mA ∧ ∀ f, RelO (fs.lookup f) (mA f) := by
  obtain ⟨mA, hns, r⟩ := hok d _ he
  exact ⟨mA, hns, r⟩
/-- isinstance of a kept exception -/
def rIsZ (K : W.Frag) : List V → Hp → VK → Prop := fun xs H Q => ∃ (a C : Addr) (dx : Addr) (fs : List (Str × V)) (c : V) (cv : Value) (b : Bool), xs = [.ref a, c] ∧ H a = some (exz a (.ref C) (some dx)) ∧ H dx = some (.xd fs) ∧ ExK K C ∧ ExA K ∧
  (∀ u, RelV c u → u = cv) ∧ W.kitOne K (.ref C) cv = some b ∧ Q (.bl b) H
theorem call_isZ {X : Cx} : CallR X (.builtin "isinstance") (rIsZ X.K) := by
  intro pins s σ H xs us Q I r h
  obtain ⟨a, C, dx, fs, c, cv, b, rfl, ea, ed, T, G, hcv, e, q⟩ := h
  cases r with
  | cons rx rr =>
    cases rr with
    | cons rt rr =>
      cases rr
      obtain rfl := rx
      obtain rfl := hcv _ rt
      obtain ⟨⟨oc, odt, dat, sl⟩, vs, ho, hz, hd0⟩ := exz_at I.hok ea
      obtain ⟨z1, z2⟩ := hz
      dsimp only at z1 z2 hd0
      subst z1 z2 hd0
      obtain ⟨mA, ⟨od, _, _, hd, _⟩, _⟩ := xd_at I.hok ed
      have J : W.InstAt s.heap a _ C (some od) := ⟨ho, rfl, rfl, hd⟩
      have hcl : (W.clsIn X.K C).isSome = true := by
        obtain ⟨cd, hc, _⟩ := W.any_some T.hd
        rw [hc] <;> rfl
      exact W.kia_one (W.kitx_exc hcl T.ga T.gg T.ex T.cl G.gt G.tk T.ob) I.kIn J e (fun z => (nomatch z)) fun tk => ⟨.bl b, H, I.kept (t' := tk) fun _ _ z => z, rfl, q⟩
end L2.My
namespace PySem.Mine
open PySem.W PySem.Calls PyProof.Rows
end PySem.Mine
namespace L2.My
open PySem PySem.Spec PyProof.Rows
end L2.My
namespace PySem.Mine
open PySem.W PySem.Calls PyProof.Rows
end PySem.Mine
namespace L2.My
open PySem PySem.Spec PyProof.Rows
/-- the kind of a right side -/
inductive RT (H : Hp) : V → Value → Prop
  | str (x : Str) : RT H (.str x) (.type "str")
  | ins {a C dx : Addr} {fs : List (Str × V)} (e : H a = some (.ins C dx fs)) : RT H (.ref a) (.ref C)
abbrev BoolQ (pos : Bool) (Q : VK) : VK := fun v H => ∃ b, v = .bl b ∧ Q (.bl (pos == b)) H
section
variable {X : Cx} {n : Nat} {f : Addr} {fd : FuncData} {ps : List Str} {sp : Sp} {A : Around} {pins : List (Addr × Obj)} {σ : St} {H : Hp} {s : Shared} {Q : VK} {us : List Value} {vs : List V} {D : Addr → Sp → Prop}
theorem passE0 {X : Cx} : Passes (L2.CX X.prog X.w) X E0 := fun pins σ H s e s' I ⟨a, B, H', cls, d, _, _, _, _, _, _, _, q⟩ => q.elim
theorem run_at (F : FnG X.prog X.w X.K X.mg X.base (L2.CX X.prog X.w) n f fd ps sp) (hb : Binds X.K fd ps []) (hr : Room n A) (hq : Quiet A) (I : Inv X pins σ H s) (e0 : Env0 X.prog X.w X.K X.mg X.base A X.stack s H) (r : Vals vs us) (h : sp vs H Q E0) :
    wpAny (model X.prog X.w) A (call (.ref f) us) (EP X pins σ Q) X.xe s := by
  have hl : (us ++ []).length = ps.length := by
    rw [List.append_nil, ← r.length]
    exact F.many vs H Q E0 h
  have b := hb s us I.kIn hl
  rw [List.append_nil] at b
  refine wpAny_call (codeAny_mono (F.runs A X.stack s H ⟨us, []⟩ us vs Q E0 hr hq e0 b r h) fun res s' z => ?_)
  match res, z with
  | .error er, z => exact passE0 pins σ H s er s' I z
  | .ok (.ret u), z => exact I.after z
structure ReprDef (P : Program) (w : World) (K : W.Frag) (mg : Str → Option Value) (base : Heap) (n : Nat) (C : Addr) (sp : Sp) : Prop where
  ex : ∃ (f : Addr) (fd : FuncData) (ps : List Str), W.findIn K (.ref C) "__repr__" = some (some (.ref f)) ∧ W.isFn K (.ref f) = true ∧ FnG P w K mg base (L2.CX P w) n f fd ps sp ∧ Binds K fd ps []
def rReprO (D : Addr → Sp → Prop) : List V → Hp → VK → Prop := fun xs H Q => ∃ (a C dx : Addr) (fs : List (Str × V)) (sp : Sp), xs = [.ref a] ∧ H a = some (.ins C dx fs) ∧ D C sp ∧ sp [.ref a] H (fun v H' => ∃ y, v = .str y ∧ Q (.str y) H') E0
theorem call_reprO (hr : Room (n + 1) X.A) (hq : Quiet X.A) (hD : ∀ C sp, D C sp → ReprDef X.prog X.w X.K X.mg X.base n C sp) : CallR X (.builtin "repr") (rReprO D) := by
  intro pins s σ H xs us Q I r h
  obtain ⟨a, C, dx, fs, sp, rfl, ha, dc, q⟩ := h
  cases r with
  | cons r0 r1 =>
    cases r1
    obtain rfl := r0
    obtain ⟨mA, J, _⟩ := ins_get I.hok ha
    obtain ⟨od, J, _⟩ := J.look
    obtain ⟨f, fd, ps, hs, hf, F, hb⟩ := (hD _ _ dc).ex
    obtain ⟨m, fr⟩ := I.fr
    have hr1 : Room n X.A.in1 := hr.in1
    have hq1 : Quiet X.A.in1 := hq
    refine W.repr_K hr1.units0 fr I.ok.mod.kin J hs hf (wpAny_mono (run_at (vs := [.ref a]) F hb hr1 hq1 I I.env0.in1 (.cons rfl .nil) q) (fun v s' z => ?_) fun _ _ e => e)
    obtain ⟨z', H', I', rz, y, rfl, q2⟩ := z
    obtain ⟨t, e⟩ := (show ∃ t, v = Value.str y t from rz)
    subst e
    exact ⟨.str y, H', I', ⟨t, rfl⟩, q2⟩
end
end L2.My
namespace L2.My
open PySem PySem.Spec PyProof.Rows
def rReprA (K : W.Frag) (D : Addr → Sp → Prop) : List V → Hp → VK → Prop := fun xs H Q => (∃ (v : V) (d : PyData), xs = [v] ∧ Dq K H v d ∧ d.showable = true ∧ d.depth ≤ 60 ∧ d.shown.length ≤ sizeLine ∧ Q (.str d.shown) H) ∨ rReprO D xs H Q
section
variable {X : Cx} {m : Str → Option Value} {n : Nat} {D : Addr → Sp → Prop}
theorem call_reprA (hs : X.base.Ns sysModules m) (hq : Quiet X.A) (hr : Room (n + 1) X.A) (hD : ∀ C sp, D C sp → ReprDef X.prog X.w X.K X.mg X.base n C sp) : CallR X (.builtin "repr") (rReprA X.K D) := by
  intro pins s σ H xs us Q I r h
  rcases h with ⟨v, d, rfl, hd, h1, h2, h3, q⟩ | h
  · have hu : X.A.units + 64 < cLine := hr.units
    cases r with
    | cons r0 r1 =>
      cases r1
      have ok : ∀ {h' : Heap} {tk u : Nat}, (∀ b o, s.heap.get? b = some o → h'.get? b = some o) → EP X pins σ Q (.str d.shown u) { s with heap := h', toks := tk } := fun {h' tk u} hk => ⟨.str d.shown, H, I.kept hk, ⟨u, rfl⟩, q⟩
      cases hd with
      | non =>
        obtain rfl := r0
        simp only [PyData.shown] at ok h3
        exact PySem.P.repr_of_none (ok fun _ _ z => z)
      | bl b =>
        obtain rfl := r0
        simp only [PyData.shown] at ok h3
        refine PySem.P.repr_of_bool ?_
        cases b <;> exact ok fun _ _ z => z
      | int i =>
        obtain ⟨t, rfl⟩ := r0
        simp only [PyData.shown] at ok h3
        simp only [PyData.showable, decide_eq_true_eq] at h1
        exact PySem.P.repr_of_int h1 (ok fun _ _ z => z)
      | str x =>
        obtain ⟨t, rfl⟩ := r0
        simp only [PyData.shown] at ok h3
        exact PySem.P.repr_of_str (ok fun _ _ z => z) h3
      | lst e a => exact call_repr hs hq hu pins s σ H _ _ Q I (.cons r0 .nil) ⟨_, _, rfl, .lst e a, h1, h2, h3, q⟩
      | tup e a => exact call_repr hs hq hu pins s σ H _ _ Q I (.cons r0 .nil) ⟨_, _, rfl, .tup e a, h1, h2, h3, q⟩
      | dic e a => exact call_repr hs hq hu pins s σ H _ _ Q I (.cons r0 .nil) ⟨_, _, rfl, .dic e a, h1, h2, h3, q⟩
  · exact call_reprO hr hq hD pins s σ H xs us Q I r h
def rIsA (K : W.Frag) : List V → Hp → VK → Prop := fun xs H Q => rIsi K xs H Q ∨ rIsZ K xs H Q
theorem call_isA : CallR X (.builtin "isinstance") (rIsA X.K) := by
  intro pins s σ H xs us Q I r h
  rcases h with h | h
  · exact call_isi pins s σ H xs us Q I r h
  · exact call_isZ pins s σ H xs us Q I r h
end
end L2.My
namespace L2.My
open PySem PySem.Spec PyProof.Rows
structure PenAt (H : Hp) (p q : Addr) (ns : List Int) (at' big : Int) : Prop where
  pen : H p = some (.lst [.ref q, .int at', .int big])
  cells : H q = some (.lst (ns.map V.int))
  a0 : 0 ≤ at'
  a1 : at' ≤ 100000
  b0 : 0 ≤ big
def spDraw : Sp := fun vs H Q _ => ∃ (p q : Addr) (ns : List Int) (at' big many : Int), vs = [.ref p, .int many] ∧ 0 < many ∧ many.natAbs < 2 ^ 200 ∧ PenAt H p q ns at' big ∧ at' < 100000 ∧
  ∀ (d a2 b2 : Int) (H' : Hp), 0 ≤ d → d < many → at' ≤ a2 → a2 ≤ at' + 1 → 0 ≤ b2 → But H H' p → H' p = some (.lst [.ref q, .int a2, .int b2]) → Q (.int d) H'
theorem del_le {H : Hp} {p : Addr} : Same (del H p) H := fun b o e => by
  by_cases z : b = p
  · rw [z, del_same] at e; cases e
  · rw [del_ne z] at e
    exact e
theorem Rd.same {H H' : Hp} {a : Addr} {o : HO} (s : Same H H') (h : Rd H a o) : Rd H' a o := by
  rcases h with h | ⟨ob, h⟩
  · exact .inl (s _ _ h)
  · exact .inr ⟨ob, s _ _ h⟩
theorem SqL.same {K : W.Frag} {H H' : Hp} {a : Addr} {xs : List V} (s : Same H H') (h : SqL K H a xs) : SqL K H' a xs := h.imp (Rd.same s) id
theorem SqT.same {K : W.Frag} {H H' : Hp} {a : Addr} {xs : List V} (s : Same H H') (h : SqT K H a xs) : SqT K H' a xs := h.imp (Rd.same s) id
mutual
theorem Dq.same {K : W.Frag} {H H' : Hp} (s : Same H H') : ∀ {v : V} {d : PyData}, Dq K H v d → Dq K H' v d
  | _, _, .non => .non
  | _, _, .bl b => .bl b
  | _, _, .int i => .int i
  | _, _, .str x => .str x
  | _, _, .lst h1 h2 => .lst (SqL.same s h1) (DqAll.same s h2)
  | _, _, .tup h1 h2 => .tup (SqT.same s h1) (DqAll.same s h2)
  | _, _, .dic h1 h2 => .dic (s _ _ h1) (DqKv.same s h2)
theorem DqAll.same {K : W.Frag} {H H' : Hp} (s : Same H H') : ∀ {v : List V} {d : List PyData}, DqAll K H v d → DqAll K H' v d
  | _, _, .nil => .nil
  | _, _, .cons h1 h2 => .cons (Dq.same s h1) (DqAll.same s h2)
theorem DqKv.same {K : W.Frag} {H H' : Hp} (s : Same H H') : ∀ {v : List (Key × V)} {d : List (PyData × PyData)}, DqKv K H v d → DqKv K H' v d
  | _, _, .nil => .nil
  | _, _, .cons h1 h2 => .cons (Dq.same s h1) (DqKv.same s h2)
end
/-- a value that is data of a small text -/
def Thing (K : W.Frag) (H : Hp) (v : V) : Prop := ∃ d, Dq K H v d ∧ d.showable = true ∧ d.depth ≤ 3 ∧ d.shown.length ≤ 60
theorem Thing.same {K : W.Frag} {H H' : Hp} {v : V} (s : Same H H') : Thing K H v → Thing K H' v := fun ⟨d, h, r⟩ => ⟨d, h.same s, r⟩
def spPen (K : W.Frag) : Sp := fun vs H Q _ => ∃ (a : Addr) (ns : List Int), vs = [.ref a] ∧ SqL K H a (ns.map V.int) ∧
  ∀ (p q : Addr) (ms : List Int) (H' : Hp), Same H H' → H p = none → PenAt H' p q ms 0 0 → Q (.ref p) H'
theorem cut_ints (ns : List Int) (lo hi : Option Int) : ∃ ms : List Int, cutV (ns.map V.int) lo hi = ms.map V.int := by
  unfold cutV
  rw [← List.map_drop, ← List.map_take]
  exact ⟨_, rfl⟩
theorem PenAt.next {H H' : Hp} {p q : Addr} {ns : List Int} {a b a2 b2 : Int} (h : PenAt H p q ns a b) (s : But H H' p) (e : H' p = some (.lst [.ref q, .int a2, .int b2])) (h1 : a ≤ a2) (h2 : a2 ≤ 100000) (h3 : 0 ≤ b2) : PenAt H' p q ns a2 b2 := by
  have a0 := h.a0
  refine ⟨e, s _ _ (fun z => ?_) h.cells, by omega, h2, h3⟩
  have c := h.cells
  rw [z, h.pen] at c
  have c2 := Option.some.inj c
  injection c2 with c3
  cases ns with
  | nil => cases c3
  | cons n r => cases c3
theorem PenAt.same {H H' : Hp} {p q : Addr} {ns : List Int} {a b : Int} (h : PenAt H p q ns a b) (s : Same H H') : PenAt H' p q ns a b := ⟨s _ _ h.pen, s _ _ h.cells, h.a0, h.a1, h.b0⟩
theorem nth {xs : List V} {d : Int} (h0 : 0 ≤ d) (h1 : d < (xs.length : Int)) : ∃ v, v ∈ xs ∧ atI xs d = some v := by
  have lt : d.toNat < xs.length := by omega
  refine ⟨xs[d.toNat], List.getElem_mem lt, ?_⟩
  have e := atI_nat (xs := xs) (j := d.toNat) (v := xs[d.toNat]) (List.getElem?_eq_getElem lt)
  rw [Int.toNat_of_nonneg h0] at e
  exact e
section
variable {K : W.Frag} {C a : Addr} {f g : Str} {io i2 : Nat} {σ : St} {H : Hp} {v v2 : V} {Q : VK} {fs : List (Str × V)}
theorem step {R : Hp → Prop} {Hx : Hp} (k : ∀ H', Same Hx H' → R H') : R Hx := k Hx (Same.refl _)
end
theorem atI_nat {α : Type} {xs : List α} {k : Nat} : atI xs (k : Int) = xs[k]? := by
  have h : ixN xs.length (k : Int) = if k < xs.length then some k else none := by
    unfold ixN
    rw [if_pos (Int.natCast_nonneg k)]
    by_cases hk : k < xs.length
    · rw [if_pos hk, if_pos (by omega)]; simp
    · rw [if_neg hk, if_neg (by omega)]
  unfold atI
  rw [h]
  by_cases hk : k < xs.length
  · rw [if_pos hk]; rfl
  · rw [if_neg hk]; exact (List.getElem?_eq_none (by omega)).symm
end L2.My
namespace L2.My
open PySem PySem.Spec PyProof.Rows
section
variable {P : Program} {w : World} {K : W.Frag} {mg : Str → Option Value} {base : Heap} {C f1 : Addr} {fd : FuncData} {q : Str} {st : Stmt} {f : Str} {p1 p2 p3 p4 : Pos}
theorem iniF1 (F : Fun K "__init__" q st f1 fd) (S : FnScope ["self", f] ["self", f] (defScope st)) (hb : defBody st = [.Assign [.Attribute (.Name "self" p1) f p2] (.Name f p3) p4]) (T : ExK K C) (ht : W.takerIn K C f = some none)
    (hd : (f == ("__debug__" : Str)) = false) (hcd : (f == ("__classdict__" : Str)) = false) : FnOk P w K mg base CX0 1 f1 fd [("self" : Str), f] (spIni C [f]) := by
  refine F.ok S ?_ ?_
  · rintro vs H Q E ⟨a, ys, rfl, hl, _⟩
    rw [List.length_cons, hl]; rfl
  · rintro cdv A outer s H vs Q E hr ⟨a, ys, rfl, hl, ea, z⟩
    match ys, hl with
    | [y], _ =>
      rw [hb]
      refine ⟨_, pss_one (ps_efl (pv 0 rfl (par_vis S (by simp)) rfl rfl) (pv 1 rfl (par_vis S (by simp)) hd hcd)), ?_⟩
      exact ⟨_, rfl, _, rfl, a, C, rfl, T, ht, .inl ⟨ea, fun dx n ne => z dx n ne⟩⟩
end
/-- what is raised: an own class over any built-in one -/
theorem ExK.ty {K : W.Frag} {C : Addr} (T : ExK K C) : W.typeIn K (.ref C) = some (.type "type") := by
  obtain ⟨B, newId, initId, bmB, bm, nm, q, N, bs, hdct, sn, sub, ab, col, dd, k0, k1, k2, k3, k5, _, _, lk⟩ := T.made
  show (K.lookup C).map (·.cls) = _
  rw [lk]
  rfl
theorem pmk_exk {X : Cx} {arg : Expr} {more : List Expr} {tt : TA} {np cp : Pos} {CX : CXT} {nm : Str} {C fi : Addr} {lv : Nat} {fd : FuncData} {prs : List Str} {sp : Sp} {dfs : List Value} {dvs : List V}
    (T : ExK X.K C) (hi : W.findIn X.K (.ref C) "__init__" = some (some (.ref fi))) (ht : W.typeIn X.K (.ref fi) = some (.type "function")) (F : FnOk X.prog X.w X.K X.mg X.base CX lv fi fd prs sp) (hr : Room (lv + 1) X.A)
    (hb : Binds X.K fd prs dfs) (hd : Vals dvs dfs) (hx : Passes CX X (fun _ _ _ => False)) (hg : Gl X nm) (hm : X.mg nm = some (.ref C)) (ha : PA X (arg :: more) tt)
    (h1 : (nm == ("__debug__" : Str)) = false := by decide) (h2 : starEach (arg :: more) X.env = (false, eval arg X.env) :: starEach more X.env := by rfl) (h3 : (backTo cp (starEach more X.env)).any (·.1) = false := by rfl) :
    PMk X (.Call (.Name nm np) (arg :: more) [] cp) (tMkO C sp dvs tt) := fun pins s σ H Q I h => by
  obtain ⟨BB, nId, iId, mB, mb, n1, q1, N1, b1, hd1, s1, u1, a1, c1, d1, e0, e1, e2, e3, e5, facts, ring, isC⟩ := T.made
  refine wpAny_Call_Name_kw (ld_glob I hg hm (W.callWith_K (h₀ := X.base) I.ok.mod.kin T.kp (thn (ha.run cp pins s σ H _ I h) ?_) h2 h3) h1)
  rintro us ⟨hp, gg, dd, tk, oo⟩ ⟨vs, G, J, rv, _, go⟩
  refine ⟨J.kIn, ?_⟩
  show wpAny _ _ (call (.ref C) us) _ _ _
  -- the record and its tuple are laid behind what there is
  obtain ⟨at_, lay, ea0, el0, le1, keep, there⟩ : ∃ (at_ : Addr) (lay : Heap), at_ = hp.objs.size + 1 ∧ lay = (hp.push (W.kdv_tup us)).push (PySem.HandSPX.excO C hp.objs.size) ∧ hp.objs.size ≤ at_ ∧ (∀ b o, hp.get? b = some o → lay.get? b = some o) ∧ lay.get? at_ = some (PySem.HandSPX.excO C hp.objs.size) :=
    ⟨_, _, rfl, rfl, Nat.le_succ _, fun b o z => Heap.get?_push_of_some _ (Heap.get?_push_of_some _ z), by heap_get⟩
  have spOk := go at_ (J.hok.fresh le1)
  have J2 : Inv X pins σ (upd G at_ (exo at_ C none)) ⟨lay, gg, dd, tk, oo⟩ := J.laid (t' := tk) (a := at_) (o := exo at_ C none) (h' := lay) keep le1 (exo_ok there)
  have pv : Vals (V.ref at_ :: (vs ++ dvs)) (Value.ref at_ :: (us ++ dfs)) := .cons rfl (rv.append hd)
  have hl : (Value.ref at_ :: us ++ dfs).length = prs.length := by
    have z := pv.length
    rw [F.len _ _ _ _ spOk] at z
    exact z.symm
  have few : us.length ≤ sizeLine := by
    have z := Paired.length rv
    rw [sizeLine_eq, ← z]
    omega
  have ran := F.run _ X.stack _ _ ⟨Value.ref at_ :: us, []⟩ (Value.ref at_ :: (us ++ dfs)) _ _ (fun _ _ _ => False) (hr.make C us []) (J2.env0.make C us []) (hb _ (Value.ref at_ :: us) J2.kIn hl) pv spOk
  subst ea0 el0
  refine wpAny_call (PySem.Mine.called facts ring few (J.kIn _ _ isC) (W.looks_findIn J.kIn hi) (fun self => W.bind_fn J.kIn self ht) (codeAny_mono ran ?_))
  intro res after w
  match res, w with
  | .error er, w => exact hx pins σ _ _ er after J2 w
  | .ok (.ret u), ⟨v, G2, os2, bare2, un2, hok2, ru, ev, d, fs, ea, ed, nd, fin⟩ =>
    subst ev
    obtain ⟨g2, gs, ds, ts, os3⟩ := after
    exact ⟨ru, mk_end (raises_own T.ex T.ty) J le1 keep un2 hok2 os2 bare2 ea ed nd fin⟩
/-- an own class of exceptions with one field, as a thing to raise -/
structure ExR (P : Program) (w : World) (K : W.Frag) (mg : Str → Option Value) (base : Heap) (x : Str) (C : Addr) (f : Str) : Prop where
  oex : ExK K C
  nm : mg x = some (.ref C)
  ini : ∃ (fI : Addr) (fd : FuncData), W.findIn K (.ref C) "__init__" = some (some (.ref fI)) ∧ W.typeIn K (.ref fI) = some (.type "function") ∧ FnOk P w K mg base CX0 1 fI fd [("self" : Str), f] (spIni C [f]) ∧ Binds K fd [("self" : Str), f] []
section
variable {X : Cx} {C : Addr} {x f : Str} {e : Expr} {te : TE} {p pos : Pos}
theorem pmk_exr (M : ExR X.prog X.w X.K X.mg X.base x C f) (hr : Room 2 X.A) (hg : Gl X x) (ha : PA X [e] (tCons te tNil)) (hdb : (x == ("__debug__" : Str)) = false := by decide)
    (hst : starEach [e] X.env = (false, eval e X.env) :: starEach [] X.env := by rfl) : PMk X (.Call (.Name x p) [e] [] pos) (tMkO C (spIni C [f]) [] (tCons te tNil)) := by
  obtain ⟨fI, fd, hi, ht, F, hb⟩ := M.ini
  exact pmk_exk M.oex hi ht F hr hb .nil pass0 hg M.nm ha hdb hst rfl
end
/-- a def of the module by its name, with its promise -/
structure CalO (P : Program) (w : World) (K : W.Frag) (mg : Str → Option Value) (base : Heap) (CX : CXT) (k : Nat) (x : Str) (sp : Sp) : Prop where
  ex : ∃ (f : Addr) (fd : FuncData) (ps : List Str), FnOk P w K mg base CX k f fd ps sp ∧ mg x = some (.ref f) ∧ W.keepIn K (.ref f) = true ∧ Binds K fd ps []
theorem CalO.g {P : Program} {w : World} {K : W.Frag} {mg : Str → Option Value} {base : Heap} {CX : CXT} {k : Nat} {x : Str} {sp : Sp} (c : CalO P w K mg base CX k x sp) : CalG P w K mg base CX k x sp := by
  obtain ⟨f, fd, ps, F, r⟩ := c.ex
  exact ⟨f, fd, ps, .of F, r⟩
end L2.My
namespace L2.DL
open L2 L2.My PySem PySem.Spec PyProof.Rows
/-- the hash of a tuple of ints -/
def hashT (k : List Int) : Int := reduceHash (Builtin.Tuple.tupleHashOf (k.map hashInt))
/-- a dict whose keys are tuples of ints: keys and where they stand; the values are not told -/
structure DT0 (h : Heap) (a : Addr) (L : List (List Int × Addr)) : Prop where
  ns : (a == sysModules) = false
  few : L.length ≤ sizeLine
  ob : ∃ (o : Obj) (es : Array DictEntry) (ep : Nat) (xs : List (List Int × Addr × Value)), h.get? a = some o ∧ o.ExactDict ∧ o.data = .dict es ep ∧ es.toList = xs.map (fun x => ⟨hashT x.1, .ref x.2.1, x.2.2⟩) ∧ L = xs.map (fun x => (x.1, x.2.1)) ∧ (xs.map (·.1)).Nodup
def DTO (a : Addr) (L : List (List Int × Addr)) : HO := .ext fun h => DT0 h a L
inductive D where
  | v (x : V)
  | tup (xs : List D)
  | lst (xs : List D)
  | dct (kvs : List (Key × D))
  | obj (C : Addr) (fs : List (Str × D))
  | exc (C : Addr) (fs : List (Str × D))
  | dtp (ks : List (List Int))
  deriving Inhabited
abbrev dI (i : Int) : D := .v (.int i)
abbrev dS (x : Str) : D := .v (.str x)
abbrev dB (b : Bool) : D := .v (.bl b)
abbrev dN : D := .v .non
mutual
inductive R (K : W.Frag) (G : Hp) : V → D → Prop
  | v (x : V) : R K G x (.v x)
  | tup {a : Addr} {xs : List V} {ds : List D} : SqT K G a xs → RAll K G xs ds → R K G (.ref a) (.tup ds)
  | lst {a : Addr} {xs : List V} {ds : List D} : G a = some (.lst xs) → RAll K G xs ds → R K G (.ref a) (.lst ds)
  | dct {a : Addr} {kvs : List (Key × V)} {ds : List (Key × D)} : G a = some (.dK kvs) → RKv K G kvs ds → R K G (.ref a) (.dct ds)
  | obj {a C dx : Addr} {fs : List (Str × V)} {ds : List (Str × D)} : G a = some (.ins C dx fs) → RFs K G fs ds → R K G (.ref a) (.obj C ds)
  | exc {a C dx : Addr} {fs : List (Str × V)} {ds : List (Str × D)} : G a = some (exz a (.ref C) (some dx)) → G dx = some (.xd fs) → RFs K G fs ds → R K G (.ref a) (.exc C ds)
  | dtp {a : Addr} {L : List (List Int × Addr)} {ks : List (List Int)} : G a = some (DTO a L) → (∀ q ∈ L, SqT K G q.2 (q.1.map V.int)) → ks = L.map (·.1) → R K G (.ref a) (.dtp ks)
inductive RAll (K : W.Frag) (G : Hp) : List V → List D → Prop
  | nil : RAll K G [] []
  | cons {v : V} {vs : List V} {d : D} {ds : List D} : R K G v d → RAll K G vs ds → RAll K G (v :: vs) (d :: ds)
inductive RKv (K : W.Frag) (G : Hp) : List (Key × V) → List (Key × D) → Prop
  | nil : RKv K G [] []
  | cons {k : Key} {v : V} {vs : List (Key × V)} {d : D} {ds : List (Key × D)} : R K G v d → RKv K G vs ds → RKv K G ((k, v) :: vs) ((k, d) :: ds)
inductive RFs (K : W.Frag) (G : Hp) : List (Str × V) → List (Str × D) → Prop
  | nil : RFs K G [] []
  | cons {k : Str} {v : V} {vs : List (Str × V)} {d : D} {ds : List (Str × D)} : R K G v d → RFs K G vs ds → RFs K G ((k, v) :: vs) ((k, d) :: ds)
end
section
variable {K : W.Frag} {G G' : Hp}
mutual
theorem R.same (s : Same G G') : ∀ {v : V} {d : D}, R K G v d → R K G' v d
  | _, _, .v x => .v x
  | _, _, .tup h1 h2 => .tup (SqT.same s h1) (RAll.same s h2)
  | _, _, .lst h1 h2 => .lst (s _ _ h1) (RAll.same s h2)
  | _, _, .dct h1 h2 => .dct (s _ _ h1) (RKv.same s h2)
  | _, _, .obj h1 h2 => .obj (s _ _ h1) (RFs.same s h2)
  | _, _, .exc h1 h2 h3 => .exc (s _ _ h1) (s _ _ h2) (RFs.same s h3)
  | _, _, .dtp h1 h2 h3 => .dtp (s _ _ h1) (fun q hq => SqT.same s (h2 q hq)) h3
theorem RAll.same (s : Same G G') : ∀ {v : List V} {d : List D}, RAll K G v d → RAll K G' v d
  | _, _, .nil => .nil
  | _, _, .cons h1 h2 => .cons (R.same s h1) (RAll.same s h2)
theorem RKv.same (s : Same G G') : ∀ {v : List (Key × V)} {d : List (Key × D)}, RKv K G v d → RKv K G' v d
  | _, _, .nil => .nil
  | _, _, .cons h1 h2 => .cons (R.same s h1) (RKv.same s h2)
theorem RFs.same (s : Same G G') : ∀ {v : List (Str × V)} {d : List (Str × D)}, RFs K G v d → RFs K G' v d
  | _, _, .nil => .nil
  | _, _, .cons h1 h2 => .cons (R.same s h1) (RFs.same s h2)
end
theorem RAll.len : ∀ {vs : List V} {ds : List D}, RAll K G vs ds → vs.length = ds.length
  | _, _, .nil => rfl
  | _, _, .cons _ t => by rw [List.length_cons, List.length_cons, RAll.len t]
theorem RAll.get : ∀ {vs : List V} {ds : List D} {i : Nat} {v : V}, RAll K G vs ds → vs[i]? = some v → ∃ d, ds[i]? = some d ∧ R K G v d
  | _, _, i, _, .nil, e => by simp at e
  | _, _, 0, _, .cons r _, e => by simp at e; subst e; exact ⟨_, by simp, r⟩
  | _, _, i + 1, v, .cons _ t, e => by
    obtain ⟨d, h1, h2⟩ := RAll.get (i := i) (v := v) t (by simpa using e)
    exact ⟨d, by simpa using h1, h2⟩
theorem RAll.getD : ∀ {vs : List V} {ds : List D} {i : Nat} {d : D}, RAll K G vs ds → ds[i]? = some d → ∃ v, vs[i]? = some v ∧ R K G v d
  | _, _, i, _, .nil, e => by simp at e
  | _, _, 0, _, .cons r _, e => by simp at e; subst e; exact ⟨_, by simp, r⟩
  | _, _, i + 1, v, .cons _ t, e => by
    obtain ⟨d, h1, h2⟩ := RAll.getD (i := i) (d := v) t (by simpa using e)
    exact ⟨d, by simpa using h1, h2⟩
theorem RAll.app : ∀ {vs ws : List V} {ds es : List D}, RAll K G vs ds → RAll K G ws es → RAll K G (vs ++ ws) (ds ++ es)
  | _, _, _, _, .nil, t => t
  | _, _, _, _, .cons h r, t => .cons h (RAll.app r t)
theorem RAll.take : ∀ {vs : List V} {ds : List D} (n : Nat), RAll K G vs ds → RAll K G (vs.take n) (ds.take n)
  | _, _, 0, _ => .nil
  | _, _, _ + 1, .nil => .nil
  | _, _, n + 1, .cons h r => .cons h (RAll.take n r)
theorem RAll.drop : ∀ {vs : List V} {ds : List D} (n : Nat), RAll K G vs ds → RAll K G (vs.drop n) (ds.drop n)
  | _, _, 0, r => r
  | _, _, _ + 1, .nil => .nil
  | _, _, n + 1, .cons _ r => RAll.drop n r
theorem RAll.set {v : V} {d : D} (h : R K G v d) : ∀ {vs : List V} {ds : List D} (n : Nat), RAll K G vs ds → RAll K G (vs.set n v) (ds.set n d)
  | _, _, _, .nil => .nil
  | _, _, 0, .cons _ r => .cons h r
  | _, _, n + 1, .cons q r => .cons q (RAll.set h n r)
/-- scalars: data that the heap does not matter to -/
theorem RAll.vs : ∀ {vs : List V} {xs : List V}, RAll K G vs (xs.map D.v) → vs = xs
  | _, [], h => by cases h; rfl
  | _, x :: xs, h => by
    cases h with
    | cons h1 h2 => cases h1; rw [RAll.vs h2]
theorem RKv.keys : ∀ {vs : List (Key × V)} {ds : List (Key × D)}, RKv K G vs ds → vs.map (·.1) = ds.map (·.1)
  | _, _, .nil => rfl
  | _, _, .cons _ t => by rw [List.map_cons, List.map_cons, RKv.keys t]
theorem RKv.len {vs : List (Key × V)} {ds : List (Key × D)} (h : RKv K G vs ds) : vs.length = ds.length := by
  have := congrArg List.length h.keys
  simpa using this
end
abbrev Msk := Addr → Prop
noncomputable def cut (M : Msk) (H : Hp) : Hp := fun a => open Classical in if M a then none else H a
section
variable {M M' : Msk} {H H' : Hp} {a : Addr} {o : HO}
theorem cut_out (h : ¬ M a) : cut M H a = H a := by unfold cut; rw [if_neg h]
theorem cut_in (h : M a) : cut M H a = none := by unfold cut; rw [if_pos h]
theorem of_cut (h : cut M H a = some o) : ¬ M a ∧ H a = some o := by
  by_cases z : M a
  · rw [cut_in z] at h; cases h
  · rw [cut_out z] at h; exact ⟨z, h⟩
theorem cut_le : Same (cut M H) H := fun b o e => (of_cut e).2
theorem cut_mono (h : ∀ a, M' a → M a) : Same (cut M H) (cut M' H) := fun b o e => by
  obtain ⟨n, e⟩ := of_cut e
  rw [cut_out fun z => n (h b z)]
  exact e
theorem cut_step (h : ∀ a o, ¬ M a → H a = some o → H' a = some o) : Same (cut M H) (cut M H') := fun b o e => by
  obtain ⟨n, e⟩ := of_cut e
  rw [cut_out n]
  exact h b o n e
end
inductive Cell where
  | lst (xs : List D)
  | dct (kvs : List (Key × D))
  | obj (C : Addr) (fs : List (Str × D))
def Cell.toD : Cell → D
  | .lst xs => .lst xs
  | .dct xs => .dct xs
  | .obj C xs => .obj C xs
def CellR (K : W.Frag) (G H : Hp) (a : Addr) : Cell → Prop
  | .lst xs => ∃ vs, H a = some (.lst vs) ∧ RAll K G vs xs
  | .dct xs => ∃ vs, H a = some (.dK vs) ∧ RKv K G vs xs
  | .obj C xs => ∃ dx vs, H a = some (.ins C dx vs) ∧ RFs K G vs xs
section
variable {K : W.Frag} {G G' H H' : Hp} {a : Addr} {c : Cell}
theorem CellR.move (s : Same G G') (k : ∀ o, H a = some o → H' a = some o) (h : CellR K G H a c) : CellR K G' H' a c := by
  cases c with
  | lst xs => obtain ⟨vs, e, r⟩ := h; exact ⟨vs, k _ e, RAll.same s r⟩
  | dct xs => obtain ⟨vs, e, r⟩ := h; exact ⟨vs, k _ e, RKv.same s r⟩
  | obj C xs => obtain ⟨dx, vs, e, r⟩ := h; exact ⟨dx, vs, k _ e, RFs.same s r⟩
theorem CellR.some (h : CellR K G H a c) : ∃ o, H a = some o := by
  cases c with
  | lst xs => obtain ⟨vs, e, r⟩ := h; exact ⟨_, e⟩
  | dct xs => obtain ⟨vs, e, r⟩ := h; exact ⟨_, e⟩
  | obj C xs => obtain ⟨dx, vs, e, r⟩ := h; exact ⟨_, e⟩
theorem CellR.there (h : CellR K G H a c) : H a ≠ none := by
  obtain ⟨o, e⟩ := h.some
  rw [e]
  exact fun z => by cases z
theorem CellR.strict {m : Msk} (n : ¬ m a) (h : CellR K (cut m H) H a c) : R K (cut m H) (.ref a) c.toD := by
  cases c with
  | lst xs => obtain ⟨vs, e, r⟩ := h; exact .lst (by rw [cut_out n]; exact e) r
  | dct xs => obtain ⟨vs, e, r⟩ := h; exact .dct (by rw [cut_out n]; exact e) r
  | obj C xs => obtain ⟨dx, vs, e, r⟩ := h; exact .obj (by rw [cut_out n]; exact e) r
end
def RBo (K : W.Frag) (g o m : Msk) (H : Hp) (v : V) (d : D) : Prop := R K (cut m H) v d ∨ ∃ (a : Addr) (c : Cell), v = .ref a ∧ d = c.toD ∧ (o a ∧ ¬ g a) ∧ CellR K (cut m H) H a c
abbrev RB (K : W.Frag) (g m : Msk) (H : Hp) (v : V) (d : D) : Prop := RBo K g m m H v d
/-- a new object, which nothing else holds -/
def RF (K : W.Frag) (m : Msk) (H0 H : Hp) (v : V) (d : D) : Prop := ∃ (a : Addr) (c : Cell), v = .ref a ∧ d = c.toD ∧ H0 a = none ∧ CellR K (cut (fun b => m b ∨ b = a) H) H a c
/-- lent, strict, new -/
inductive Mo | b | s | f
  deriving DecidableEq
def RR (K : W.Frag) (g : Msk) : Mo → Msk → Hp → Hp → V → D → Prop
  | .b, m, _, H, v, d => RB K g m H v d
  | .s, m, _, H, v, d => R K (cut m H) v d
  | .f, m, H0, H, v, d => RF K m H0 H v d
section
variable {K : W.Frag} {g o m : Msk} {H0 H H' : Hp} {v : V} {d : D}
theorem RBo.sc {x : V} (h : RBo K g o m H v (.v x)) : v = x := by
  rcases h with h | ⟨_, c, _, e, _⟩
  · cases h; rfl
  · cases c <;> cases e
theorem RBo.lst {ds : List D} (h : RBo K g o m H v (.lst ds)) : ∃ a xs, v = .ref a ∧ H a = some (.lst xs) ∧ RAll K (cut m H) xs ds := by
  rcases h with h | ⟨a, c, rfl, e, _, h⟩
  · cases h with
    | lst h1 h2 => exact ⟨_, _, rfl, cut_le _ _ h1, h2⟩
  · cases c with
    | lst xs => cases e; obtain ⟨vs, h1, h2⟩ := h; exact ⟨a, vs, rfl, h1, h2⟩
    | _ => cases e
theorem RBo.tup {ds : List D} (h : RBo K g o m H v (.tup ds)) : ∃ a xs, v = .ref a ∧ SqT K H a xs ∧ RAll K (cut m H) xs ds := by
  rcases h with h | ⟨_, c, _, e, _⟩
  · cases h with
    | tup h1 h2 => exact ⟨_, _, rfl, SqT.same cut_le h1, h2⟩
  · cases c <;> cases e
theorem RBo.dct {ds : List (Key × D)} (h : RBo K g o m H v (.dct ds)) : ∃ a kvs, v = .ref a ∧ H a = some (.dK kvs) ∧ RKv K (cut m H) kvs ds := by
  rcases h with h | ⟨a, c, rfl, e, _, h⟩
  · cases h with
    | dct h1 h2 => exact ⟨_, _, rfl, cut_le _ _ h1, h2⟩
  · cases c with
    | dct xs => cases e; obtain ⟨vs, h1, h2⟩ := h; exact ⟨a, vs, rfl, h1, h2⟩
    | _ => cases e
theorem RBo.obj {C : Addr} {ds : List (Str × D)} (h : RBo K g o m H v (.obj C ds)) : ∃ a dx fs, v = .ref a ∧ H a = some (.ins C dx fs) ∧ RFs K (cut m H) fs ds := by
  rcases h with h | ⟨a, c, rfl, e, _, h⟩
  · cases h with
    | obj h1 h2 => exact ⟨_, _, _, rfl, cut_le _ _ h1, h2⟩
  · cases c with
    | obj C xs => cases e; obtain ⟨dx, vs, h1, h2⟩ := h; exact ⟨a, dx, vs, rfl, h1, h2⟩
    | _ => cases e
theorem RBo.step (hm : ∀ a, g a → m a) (s : ∀ a o, ¬ g a → H a = some o → H' a = some o) (h : RBo K g o m H v d) : RBo K g o m H' v d := by
  have c : Same (cut m H) (cut m H') := cut_step fun a u n e => s a u (fun z => n (hm a z)) e
  rcases h with h | ⟨a, k, e1, e2, n, h⟩
  · exact .inl (R.same c h)
  · exact .inr ⟨a, k, e1, e2, n, h.move c fun u e => s _ _ n.2 e⟩
theorem RBo.mono {o' : Msk} (h : ∀ a, o a → o' a) (r : RBo K g o m H v d) : RBo K g o' m H v d := by
  rcases r with r | ⟨a, k, e1, e2, n, r⟩
  · exact .inl r
  · exact .inr ⟨a, k, e1, e2, ⟨h a n.1, n.2⟩, r⟩
/-- the lent value elsewhere: what stood stands, and what was hidden is hidden -/
theorem RBo.carry {m' : Msk} (c : Same (cut m H) (cut m' H')) (k : ∀ a u, ¬ g a → o a → H a = some u → H' a = some u) (r : RBo K g o m H v d) : RBo K g o m' H' v d := by
  rcases r with r | ⟨a, q, e1, e2, n, r⟩
  · exact .inl (R.same c r)
  · exact .inr ⟨a, q, e1, e2, n, r.move c fun u e => k a u n.2 n.1 e⟩
theorem RF.strict (hm : ∀ a, m a → H0 a ≠ none) (h : RF K m H0 H v d) : R K (cut m H) v d := by
  obtain ⟨a, c, rfl, rfl, n, h⟩ := h
  have na : ¬ m a := fun z => hm a z n
  exact CellR.strict na (h.move (cut_mono fun b z => .inl z) fun _ e => e)
theorem RR.b {mo : Mo} (hm : ∀ a, m a → H0 a ≠ none) (h : RR K g mo m H0 H v d) : RB K g m H v d := by
  cases mo with
  | b => exact h
  | s => exact .inl h
  | f => exact .inl (RF.strict hm h)
theorem RR.from {H00 : Hp} {mo : Mo} (hk : ∀ a, H00 a ≠ none → H0 a ≠ none) (h : RR K g mo m H0 H v d) : RR K g mo m H00 H v d := by
  cases mo with
  | b => exact h
  | s => exact h
  | f =>
    obtain ⟨a, c, e1, e2, n, r⟩ := h
    exact ⟨a, c, e1, e2, Classical.byContradiction fun z => hk a z n, r⟩
end
inductive Slot where
  | no
  | d (x : D)
  | bor (x : D)
  | own (c : Cell)
abbrev Env := List Slot
def Slot.isOwn : Slot → Bool
  | .own _ => true
  | _ => false
def ownAt (ρ : Env) (i : Nat) : Prop := ∃ sl, ρ[i]? = some sl ∧ sl.isOwn = true
def mask (M : Msk) (α : Nat → Addr) (ρ : Env) : Msk := fun a => M a ∨ ∃ i, ownAt ρ i ∧ α i = a
def SlotR (K : W.Frag) (g o m : Msk) (H : Hp) (a : Addr) (σi : Option (Option V)) : Slot → Prop
  | .no => True
  | .d x => ∃ v, σi = some (some v) ∧ R K (cut m H) v x
  | .bor x => ∃ v, σi = some (some v) ∧ RBo K g o m H v x
  | .own c => σi = some (some (.ref a)) ∧ CellR K (cut m H) H a c
/-- what is kept beside data: its places, and what is true of them -/
structure Fr (S : Type) where
  M : Msk
  st : S → Hp → Prop
  loc : ∀ {s : S} {H H' : Hp}, (∀ a, M a → H' a = H a) → st s H → st s H'
  self : Option Addr := none
structure Ok {S : Type} (Γ : Fr S) (K : W.Frag) (M : Msk) (α : Nat → Addr) (σ : St) (H : Hp) (ρ : Env) : Prop where
  sub : ∀ a, Γ.M a → M a
  trk : ∀ a, M a → H a ≠ none
  out : ∀ i, ownAt ρ i → ¬ M (α i)
  inj : ∀ i j, ownAt ρ i → ownAt ρ j → α i = α j → i = j
  len : σ.length = ρ.length
  slot : ∀ i sl, ρ[i]? = some sl → SlotR K Γ.M M (mask M α ρ) H (α i) σ[i]? sl
  sf : ∀ a, Γ.self = some a → α 0 = a
structure Stp {S : Type} (Γ : Fr S) (H H' : Hp) : Prop where
  keep : ∀ a o, ¬ Γ.M a → H a = some o → H' a = some o
  trk : ∀ a, H a ≠ none → H' a ≠ none
section
variable {S : Type} {Γ : Fr S} {K : W.Frag} {M : Msk} {α : Nat → Addr} {σ : St} {H H' H2 : Hp} {ρ : Env} {s : S} {v : V} {d : D}
theorem Stp.refl : Stp Γ H H := ⟨fun _ _ _ e => e, fun _ e => e⟩
theorem Stp.trans (a : Stp Γ H H') (b : Stp Γ H' H2) : Stp Γ H H2 := ⟨fun c o n e => b.keep c o n (a.keep c o n e), fun c e => b.trk c (a.trk c e)⟩
theorem Stp.of (h : Same H H') : Stp Γ H H' := ⟨fun a o _ e => h a o e, fun a n e => by
  cases q : H a with
  | none => exact n q
  | some o => rw [h a o q] at e; cases e⟩
theorem Fr.same (hM : ∀ a, Γ.M a → H a ≠ none) (h : Same H H') (q : Γ.st s H) : Γ.st s H' := Γ.loc (fun a z => by
  cases e : H a with
  | none => exact absurd e (hM a z)
  | some o => exact h a o e) q
theorem Ok.mtrk (h : Ok Γ K M α σ H ρ) : ∀ a, mask M α ρ a → H a ≠ none := by
  rintro a (z | ⟨i, ⟨sl, e, o⟩, rfl⟩)
  · exact h.trk a z
  · have q := h.slot i sl e
    cases sl with
    | own c => exact q.2.there
    | _ => cases o
theorem Ok.frt (h : Ok Γ K M α σ H ρ) : ∀ a, Γ.M a → H a ≠ none := fun a z => h.trk a (h.sub a z)
theorem Stp.cut {m : Msk} (s : Stp Γ H H') (h : ∀ a, Γ.M a → m a) : Same (cut m H) (cut m H') := cut_step fun a o n e => s.keep a o (fun z => n (h a z)) e
theorem SlotR.step {o m : Msk} {a : Addr} {x : Option (Option V)} {sl : Slot} (s : Stp Γ H H') (hm : ∀ a, Γ.M a → m a) (na : sl.isOwn = true → ¬ Γ.M a) (h : SlotR K Γ.M o m H a x sl) : SlotR K Γ.M o m H' a x sl := by
  have c := s.cut hm
  cases sl with
  | no => trivial
  | d y => obtain ⟨v, e, r⟩ := h; exact ⟨v, e, R.same c r⟩
  | bor y => obtain ⟨v, e, r⟩ := h; exact ⟨v, e, RBo.step hm s.keep r⟩
  | own y => exact ⟨h.1, h.2.move c fun o e => s.keep _ _ (na rfl) e⟩
theorem Ok.msub (h : Ok Γ K M α σ H ρ) : ∀ a, Γ.M a → mask M α ρ a := fun a z => .inl (h.sub a z)
theorem Ok.step (h : Ok Γ K M α σ H ρ) (s : Stp Γ H H') : Ok Γ K M α σ H' ρ :=
  ⟨h.sub, fun a z => s.trk a (h.trk a z), h.out, h.inj, h.len, fun i sl e => SlotR.step s h.msub (fun o z => h.out i ⟨sl, e, o⟩ (h.sub _ z)) (h.slot i sl e), h.sf⟩
end
end L2.DL
namespace L2.DL
open L2 L2.My PySem PySem.Spec PyProof.Rows
/-- an own exception: its class, its fields (none where its class has no own __init__) -/
structure Exn where
  C : Addr
  fs : Option (List (Str × D))
def XR (K : W.Frag) (m : Msk) (H : Hp) (c : Value) (dx : Option Addr) (x : Exn) : Prop := c = .ref x.C ∧ match x.fs with
  | none => dx = none
  | some ds => ∃ d fs, dx = some d ∧ ¬ m d ∧ H d = some (.xd fs) ∧ RFs K (cut m H) fs ds
abbrev TX (S : Type) := Env → S → (D → S → Prop) → (Exn → S → Prop) → Prop
abbrev TB (S : Type) := Env → S → (Bool → S → Prop) → (Exn → S → Prop) → Prop
abbrev TL (S : Type) := Env → S → (List D → S → Prop) → (Exn → S → Prop) → Prop
def ARel (K : W.Frag) (g : Msk) : List Mo → Msk → Hp → Hp → List V → List D → Prop
  | [], _, _, _, [], [] => True
  | o :: os, m, H0, H, v :: vs, d :: ds => RR K g o m H0 H v d ∧ ARel K g os m H0 H vs ds
  | _, _, _, _, _, _ => False
def opt {α : Type} (o : Option α) (Q : α → Prop) : Prop := match o with
  | some d => Q d
  | none => False
theorem opt_ex {α : Type} {o : Option α} {Q : α → Prop} (h : opt o Q) : ∃ d, o = some d ∧ Q d := by
  cases o with
  | none => exact h.elim
  | some d => exact ⟨d, rfl, h⟩
section
variable {S : Type}
/-- the link of a reading to data -/
def Ln (Γ : Fr S) (K : W.Frag) (E : XK) (mo : Mo) (t : TE) (T : TX S) : Prop :=
  ∀ {M : Msk} {α : Nat → Addr} {σ : St} {H : Hp} {ρ : Env} {s : S}, Ok Γ K M α σ H ρ → Γ.st s H → ∀ (QD : D → S → Prop) (QX : Exn → S → Prop) (Q : VK), T ρ s QD QX →
    (∀ v H' d s', Stp Γ H H' → Γ.st s' H' → RR K Γ.M mo (mask M α ρ) H H' v d → QD d s' → Q v H') →
    (∀ c dx H' x s', Stp Γ H H' → Γ.st s' H' → XR K (mask M α ρ) H' c dx x → QX x s' → E c dx H') → t σ H Q
def LnT (Γ : Fr S) (K : W.Frag) (E : XK) (t : TT) (T : TB S) : Prop :=
  ∀ {M : Msk} {α : Nat → Addr} {σ : St} {H : Hp} {ρ : Env} {s : S}, Ok Γ K M α σ H ρ → Γ.st s H → ∀ (QD : Bool → S → Prop) (QX : Exn → S → Prop) (Q : Bool → Hp → Prop), T ρ s QD QX →
    (∀ b H' s', Stp Γ H H' → Γ.st s' H' → QD b s' → Q b H') →
    (∀ c dx H' x s', Stp Γ H H' → Γ.st s' H' → XR K (mask M α ρ) H' c dx x → QX x s' → E c dx H') → t σ H Q
def LnA (Γ : Fr S) (K : W.Frag) (E : XK) (os : List Mo) (t : TA) (T : TL S) : Prop :=
  ∀ {M : Msk} {α : Nat → Addr} {σ : St} {H : Hp} {ρ : Env} {s : S}, Ok Γ K M α σ H ρ → Γ.st s H → ∀ (QD : List D → S → Prop) (QX : Exn → S → Prop) (Q : List V → Hp → Prop), T ρ s QD QX →
    (∀ vs H' ds s', Stp Γ H H' → Γ.st s' H' → ARel K Γ.M os (mask M α ρ) H H' vs ds → QD ds s' → Q vs H') →
    (∀ c dx H' x s', Stp Γ H H' → Γ.st s' H' → XR K (mask M α ρ) H' c dx x → QX x s' → E c dx H') → t σ H Q
/-- readings of values: one, two operands, lent; nothing that stands is changed -/
def P1 (K : W.Frag) (mo : Mo) (r : V → Hp → VK → Prop) (f : D → Option D) : Prop :=
  ∀ {g m : Msk} {H : Hp} {v : V} {d e : D} {Q : VK}, (∀ a, m a → H a ≠ none) → RB K g m H v d → f d = some e → (∀ v' H', Same H H' → RR K g mo m H H' v' e → Q v' H') → r v H Q
def P2 (K : W.Frag) (mo : Mo) (r : R2) (f : D → D → Option D) : Prop :=
  ∀ {g m : Msk} {H : Hp} {v u : V} {d c e : D} {Q : VK}, (∀ a, m a → H a ≠ none) → RB K g m H v d → RB K g m H u c → f d c = some e → (∀ v' H', Same H H' → RR K g mo m H H' v' e → Q v' H') → r v u H Q
def xVar (mo : Mo) (i : Nat) : TX S := fun ρ s Q _ => match ρ[i]? with
  | some (.d x) => Q x s
  | some (.bor x) => (match mo, x with
    | .b, _ => Q x s
    | _, .v _ => Q x s
    | _, _ => False)
  | some (.own c) => (match mo with
    | .b => Q c.toD s
    | _ => False)
  | _ => False
def xC (d : D) : TX S := fun _ s Q _ => Q d s
def xOp (f : D → D → Option D) (A B : TX S) : TX S := fun ρ s Q X => A ρ s (fun x s1 => B ρ s1 (fun y s2 => opt (f x y) fun d => Q d s2) X) X
def xUn (f : D → Option D) (A : TX S) : TX S := fun ρ s Q X => A ρ s (fun x s1 => opt (f x) fun d => Q d s1) X
def xNil : TL S := fun _ s Q _ => Q [] s
def xCons (A : TX S) (B : TL S) : TL S := fun ρ s Q X => A ρ s (fun x s1 => B ρ s1 (fun xs s2 => Q (x :: xs) s2) X) X
def xTup (A : TL S) : TX S := fun ρ s Q X => A ρ s (fun xs s1 => xs.length ≤ sizeLine ∧ Q (.tup xs) s1) X
def xLst (A : TL S) : TX S := fun ρ s Q X => A ρ s (fun xs s1 => xs.length ≤ sizeLine ∧ Q (.lst xs) s1) X
def asB : D → Option Bool
  | .v (.bl b) => some b
  | _ => none
def xAnd (A B : TX S) : TX S := fun ρ s Q X => A ρ s (fun x s1 => opt (asB x) fun c => if c = true then B ρ s1 Q X else Q (dB false) s1) X
def xNot (A : TX S) : TX S := fun ρ s Q X => A ρ s (fun x s1 => opt (asB x) fun c => Q (dB (!c)) s1) X
def xIf (C : TB S) (A B : TX S) : TX S := fun ρ s Q X => C ρ s (fun c s1 => if c = true then A ρ s1 Q X else B ρ s1 Q X) X
def bTest (A : TX S) : TB S := fun ρ s Q X => A ρ s (fun x s1 => opt (asB x) fun c => Q c s1) X
def bAnd (A B : TB S) : TB S := fun ρ s Q X => A ρ s (fun c s1 => if c = true then B ρ s1 Q X else Q false s1) X
def bOr (A B : TB S) : TB S := fun ρ s Q X => A ρ s (fun c s1 => if c = true then Q true s1 else B ρ s1 Q X) X
def bNot (A : TB S) : TB S := fun ρ s Q X => A ρ s (fun c s1 => Q (!c) s1) X
def xChain (f f' : D → D → Option D) (A B C : TX S) : TX S := fun ρ s Q X => A ρ s (fun x s1 => B ρ s1 (fun y s2 => opt (f x y) fun d => opt (asB d) fun c => if c = true then C ρ s2 (fun z s3 => opt (f' y z) fun e => Q e s3) X else Q (dB false) s2) X) X
variable {Γ : Fr S} {K : W.Frag} {E : XK} {mo : Mo} {ta tb tc : TE} {A B C : TX S} {t u : TT} {T U : TB S} {tl : TA} {L : TL S} {os : List Mo}
theorem Ln.weak (h : Ln Γ K E .f ta A) : Ln Γ K E .s ta A := fun ok st QD QX Q q k kx => h ok st QD QX Q q (fun v H' d s' p st' r z => k v H' d s' p st' (RF.strict ok.mtrk r) z) kx
theorem Ln.lend (h : Ln Γ K E .s ta A) : Ln Γ K E .b ta A := fun ok st QD QX Q q k kx => h ok st QD QX Q q (fun v H' d s' p st' r z => k v H' d s' p st' (.inl r) z) kx
theorem ln_var {i : Nat} : Ln Γ K E .s (tVar i) (xVar .s i) := by
  intro M α σ H ρ s ok st QD QX Q q k kx
  unfold xVar at q
  split at q
  · rename_i x e
    obtain ⟨v, e1, r⟩ := ok.slot i _ e
    exact ⟨v, e1, k v H x s .refl st r q⟩
  · rename_i x e
    obtain ⟨v, e1, r⟩ := ok.slot i _ e
    split at q
    · rename_i z; cases z
    · rename_i y z
      obtain rfl := RBo.sc r
      exact ⟨_, e1, k _ H _ s .refl st (.v _) q⟩
    · exact q.elim
  · exact q.elim
  · exact q.elim
theorem ln_varb {i : Nat} : Ln Γ K E .b (tVar i) (xVar .b i) := by
  intro M α σ H ρ s ok st QD QX Q q k kx
  unfold xVar at q
  split at q
  · rename_i x e
    obtain ⟨v, e1, r⟩ := ok.slot i _ e
    exact ⟨v, e1, k v H x s .refl st (.inl r) q⟩
  · rename_i x e
    obtain ⟨v, e1, r⟩ := ok.slot i _ e
    exact ⟨v, e1, k v H x s .refl st (r.mono fun a z => .inl z) q⟩
  · rename_i c e
    obtain ⟨e1, r⟩ := ok.slot i _ e
    exact ⟨_, e1, k _ H _ s .refl st (.inr ⟨_, c, rfl, rfl, ⟨.inr ⟨i, ⟨_, e, rfl⟩, rfl⟩, fun z => ok.out i ⟨_, e, rfl⟩ (ok.sub _ z)⟩, r⟩) q⟩
  · exact q.elim
theorem ln_c {v : V} : Ln Γ K E .s (tC v) (xC (.v v)) := fun {_ _ _ H _ s} _ st _ _ _ q k _ => k v H _ s .refl st (.v v) q
theorem ln_op {r : R2} {f : D → D → Option D} (ha : Ln Γ K E .b ta A) (hb : Ln Γ K E .b tb B) (hr : P2 K mo r f) : Ln Γ K E mo (tOp r ta tb) (xOp f A B) := by
  intro M α σ H ρ s ok st QD QX Q q k kx
  refine ha ok st _ QX _ q (fun vx H1 x s1 p1 st1 rx q1 => ?_) kx
  refine hb (ok.step p1) st1 _ QX _ q1 (fun vy H2 y s2 p2 st2 ry q2 => ?_) (fun c dx H' x s' p st' r z => kx c dx H' x s' (p1.trans p) st' r z)
  obtain ⟨d, e, q3⟩ := opt_ex q2
  have p := p1.trans p2
  have ok2 := ok.step p
  exact hr ok2.mtrk (RBo.step ok.msub p2.keep rx) ry e fun v' H' sm r' => k v' H' d s2 (p.trans (Stp.of sm)) (Fr.same ok2.frt sm st2) (r'.from p.trk) q3
theorem ln_un {r : V → Hp → VK → Prop} {f : D → Option D} (ha : Ln Γ K E .b ta A) (hr : P1 K mo r f) : Ln Γ K E mo (tUn r ta) (xUn f A) := by
  intro M α σ H ρ s ok st QD QX Q q k kx
  refine ha ok st _ QX _ q (fun vx H1 x s1 p1 st1 rx q1 => ?_) kx
  obtain ⟨d, e, q3⟩ := opt_ex q1
  have ok2 := ok.step p1
  exact hr ok2.mtrk rx e fun v' H' sm r' => k v' H' d s1 (p1.trans (Stp.of sm)) (Fr.same ok2.frt sm st1) (r'.from p1.trk) q3
/-- a built-in of one, two arguments -/
theorem ln_cb1 {r : List V → Hp → VK → Prop} {f : D → Option D} (ha : Ln Γ K E .b ta A) (hr : P1 K mo (fun v => r [v]) f) : Ln Γ K E mo (tCB r (tCons ta tNil)) (xUn f A) := fun ok st QD QX Q q k kx => ln_un (r := fun v => r [v]) ha hr ok st QD QX Q q k kx
theorem ln_cb2 {r : List V → Hp → VK → Prop} {f : D → D → Option D} (ha : Ln Γ K E .b ta A) (hb : Ln Γ K E .b tb B) (hr : P2 K mo (fun v u => r [v, u]) f) : Ln Γ K E mo (tCB r (tCons ta (tCons tb tNil))) (xOp f A B) := fun ok st QD QX Q q k kx => ln_op (r := fun v u => r [v, u]) ha hb hr ok st QD QX Q q k kx
theorem ln_nil : LnA Γ K E [] tNil xNil := fun {_ _ _ H _ s} _ st _ _ _ q k _ => k [] H [] s .refl st trivial q
theorem ARel.step {g m : Msk} {H0 H H' : Hp} (hm : ∀ a, g a → m a) (st : ∀ a o, ¬ g a → H a = some o → H' a = some o) : ∀ {os : List Mo} {vs : List V} {ds : List D}, (∀ o ∈ os, o ≠ .f) → ARel K g os m H0 H vs ds → ARel K g os m H0 H' vs ds
  | [], [], [], _, _ => trivial
  | o :: os, v :: vs, d :: ds, ho, ⟨h, t⟩ => by
    refine ⟨?_, ARel.step hm st (fun o z => ho o (List.mem_cons_of_mem _ z)) t⟩
    cases o with
    | b => exact RBo.step hm st h
    | s => exact R.same (cut_step fun a o n e => st a o (fun z => n (hm a z)) e) h
    | f => exact absurd rfl (ho .f List.mem_cons_self)
theorem ARel.from {g m : Msk} {H00 H0 H : Hp} : ∀ {os : List Mo} {vs : List V} {ds : List D}, (∀ o ∈ os, o ≠ .f) → ARel K g os m H0 H vs ds → ARel K g os m H00 H vs ds
  | [], [], [], _, _ => trivial
  | o :: os, v :: vs, d :: ds, ho, ⟨h, t⟩ => by
    refine ⟨?_, ARel.from (fun o z => ho o (List.mem_cons_of_mem _ z)) t⟩
    cases o with
    | b => exact h
    | s => exact h
    | f => exact absurd rfl (ho .f List.mem_cons_self)
theorem ln_cons (ho : (mo :: os).all (fun o => match o with | .f => false | _ => true) = true) (ha : Ln Γ K E mo ta A) (hb : LnA Γ K E os tl L) : LnA Γ K E (mo :: os) (tCons ta tl) (xCons A L) := by
  have hno : ∀ o ∈ (mo :: os), o ≠ Mo.f := fun o z e => by
    have := List.all_eq_true.mp ho o z
    rw [e] at this
    cases this
  intro M α σ H ρ s ok st QD QX Q q k kx
  refine ha ok st _ QX _ q (fun vx H1 x s1 p1 st1 rx q1 => ?_) kx
  refine hb (ok.step p1) st1 _ QX _ q1 (fun vs H2 ds s2 p2 st2 ry q2 => ?_) (fun c dx H' x s' p st' r z => kx c dx H' x s' (p1.trans p) st' r z)
  have one : ARel K Γ.M [mo] (mask M α ρ) H H1 [vx] [x] := ⟨rx, trivial⟩
  have one' := ARel.step ok.msub p2.keep (fun o z => hno o (by have e : o = mo := (by simpa using z); subst e; exact List.mem_cons_self)) one
  exact k _ H2 (x :: ds) s2 (p1.trans p2) st2 ⟨one'.1, ARel.from (fun o z => hno o (List.mem_cons_of_mem _ z)) ry⟩ q2
theorem ARel.strict {g m : Msk} {H0 H : Hp} : ∀ {os : List Mo} {vs : List V} {ds : List D}, (∀ o ∈ os, o = .s) → ARel K g os m H0 H vs ds → RAll K (cut m H) vs ds
  | [], [], [], _, _ => .nil
  | o :: os, v :: vs, d :: ds, ho, ⟨h, t⟩ => by
    have e := ho o List.mem_cons_self
    subst e
    exact .cons h (ARel.strict (fun o z => ho o (List.mem_cons_of_mem _ z)) t)
/-- an object is laid: a tuple, a list -/
theorem lay_tup {m : Msk} {H : Hp} {p : Addr} {vs : List V} {ds : List D} (hm : ∀ a, m a → H a ≠ none) (hp : H p = none) (h : RAll K (cut m H) vs ds) : R K (cut m (upd H p (.tup vs))) (.ref p) (.tup ds) :=
  .tup (.inl (.inl (by rw [cut_out fun z => hm p z hp, upd_same]))) (RAll.same (cut_step fun a o _ e => same_upd hp a o e) h)
theorem lay_lst {m : Msk} {H : Hp} {p : Addr} {vs : List V} {ds : List D} (hm : ∀ a, m a → H a ≠ none) (hp : H p = none) (h : RAll K (cut m H) vs ds) : RF K m H (upd H p (.lst vs)) (.ref p) (.lst ds) := by
  refine ⟨p, .lst ds, rfl, rfl, hp, vs, upd_same, RAll.same (fun b o e => ?_) h⟩
  obtain ⟨n, e⟩ := of_cut e
  have ne := ne_of_none e hp
  rw [cut_out fun z => z.elim n ne, upd_ne ne]
  exact e
theorem ln_tup (ho : os.all (fun o => match o with | .s => true | _ => false) = true) (h : LnA Γ K E os tl L) : Ln Γ K E .s (tTup tl) (xTup L) := by
  have hno : ∀ o ∈ os, o = Mo.s := fun o z => by
    have := List.all_eq_true.mp ho o z
    cases o with
    | s => rfl
    | b => cases this
    | f => cases this
  intro M α σ H ρ s ok st QD QX Q q k kx
  refine h ok st _ QX _ q (fun vs H1 ds s1 p1 st1 r ⟨le, q1⟩ => ?_) kx
  have ra := ARel.strict hno r
  refine ⟨by rw [RAll.len ra]; exact le, fun p hp => ?_⟩
  have ok1 := ok.step p1
  have sm := same_upd (o := .tup vs) hp
  exact k _ _ _ s1 (p1.trans (Stp.of sm)) (Fr.same ok1.frt sm st1) (lay_tup ok1.mtrk hp ra) q1
theorem ln_lst (ho : os.all (fun o => match o with | .s => true | _ => false) = true) (h : LnA Γ K E os tl L) : Ln Γ K E .f (tLst tl) (xLst L) := by
  have hno : ∀ o ∈ os, o = Mo.s := fun o z => by
    have := List.all_eq_true.mp ho o z
    cases o with
    | s => rfl
    | b => cases this
    | f => cases this
  intro M α σ H ρ s ok st QD QX Q q k kx
  refine h ok st _ QX _ q (fun vs H1 ds s1 p1 st1 r ⟨le, q1⟩ => ?_) kx
  have ra := ARel.strict hno r
  refine ⟨by rw [RAll.len ra]; exact le, fun p hp => ?_⟩
  have ok1 := ok.step p1
  have sm := same_upd (o := .lst vs) hp
  exact k _ _ _ s1 (p1.trans (Stp.of sm)) (Fr.same ok1.frt sm st1) (RR.from (mo := .f) (g := Γ.M) p1.trk (lay_lst ok1.mtrk hp ra)) q1
theorem asB_sc {g m : Msk} {H : Hp} {v : V} {d : D} {c : Bool} (r : RB K g m H v d) (e : asB d = some c) : v = .bl c := by
  unfold asB at e
  split at e
  · cases e; exact RBo.sc r
  · cases e
theorem ln_not (ha : Ln Γ K E .b ta A) : Ln Γ K E .s (tNotV ta) (xNot A) := by
  intro M α σ H ρ s ok st QD QX Q q k kx
  refine ha ok st _ QX _ q (fun vx H1 x s1 p1 st1 rx q1 => ?_) kx
  obtain ⟨c, e, q2⟩ := opt_ex q1
  obtain rfl := asB_sc rx e
  exact ⟨c, rfl, k _ H1 _ s1 p1 st1 (.v _) q2⟩
theorem ln_if (hc : LnT Γ K E t T) (ha : Ln Γ K E mo ta A) (hb : Ln Γ K E mo tb B) : Ln Γ K E mo (tIf t ta tb) (xIf T A B) := by
  intro M α σ H ρ s ok st QD QX Q q k kx
  refine hc ok st _ QX _ q (fun c H1 s1 p1 st1 q1 => ?_) kx
  cases c with
  | true =>
    rw [if_pos rfl] at q1 ⊢
    exact ha (ok.step p1) st1 QD QX _ q1 (fun v H' d s' p st' r z => k v H' d s' (p1.trans p) st' (r.from p1.trk) z) (fun c dx H' x s' p st' r z => kx c dx H' x s' (p1.trans p) st' r z)
  | false =>
    rw [if_neg (by decide)] at q1 ⊢
    exact hb (ok.step p1) st1 QD QX _ q1 (fun v H' d s' p st' r z => k v H' d s' (p1.trans p) st' (r.from p1.trk) z) (fun c dx H' x s' p st' r z => kx c dx H' x s' (p1.trans p) st' r z)
theorem lt_val (ha : Ln Γ K E .b ta A) : LnT Γ K E (tB ta) (bTest A) := by
  intro M α σ H ρ s ok st QD QX Q q k kx
  refine ha ok st _ QX _ q (fun vx H1 x s1 p1 st1 rx q1 => ?_) kx
  obtain ⟨c, e, q2⟩ := opt_ex q1
  obtain rfl := asB_sc rx e
  exact ⟨c, rfl, k _ H1 s1 p1 st1 q2⟩
theorem lt_test (ha : Ln Γ K E .b ta A) : LnT Γ K E (tTest ta) (bTest A) := by
  intro M α σ H ρ s ok st QD QX Q q k kx
  refine ha ok st _ QX _ q (fun vx H1 x s1 p1 st1 rx q1 => ?_) kx
  obtain ⟨c, e, q2⟩ := opt_ex q1
  obtain rfl := asB_sc rx e
  exact ⟨c, rfl, k _ H1 s1 p1 st1 q2⟩
theorem lt_not (ha : LnT Γ K E t T) : LnT Γ K E (tNot t) (bNot T) := fun ok st QD QX Q q k kx => ha ok st _ QX _ q (fun c H1 s1 p1 st1 q1 => k _ H1 s1 p1 st1 q1) kx
theorem lt_and (ha : LnT Γ K E t T) (hb : LnT Γ K E u U) : LnT Γ K E (tAnd t u) (bAnd T U) := by
  intro M α σ H ρ s ok st QD QX Q q k kx
  refine ha ok st _ QX _ q (fun c H1 s1 p1 st1 q1 => ?_) kx
  cases c with
  | true =>
    rw [if_pos rfl] at q1 ⊢
    exact hb (ok.step p1) st1 QD QX _ q1 (fun v H' s' p st' z => k v H' s' (p1.trans p) st' z) (fun c dx H' x s' p st' r z => kx c dx H' x s' (p1.trans p) st' r z)
  | false =>
    rw [if_neg (by decide)] at q1 ⊢
    exact k _ H1 s1 p1 st1 q1
theorem lt_or (ha : LnT Γ K E t T) (hb : LnT Γ K E u U) : LnT Γ K E (tOr t u) (bOr T U) := by
  intro M α σ H ρ s ok st QD QX Q q k kx
  refine ha ok st _ QX _ q (fun c H1 s1 p1 st1 q1 => ?_) kx
  cases c with
  | true =>
    rw [if_pos rfl] at q1 ⊢
    exact k _ H1 s1 p1 st1 q1
  | false =>
    rw [if_neg (by decide)] at q1 ⊢
    exact hb (ok.step p1) st1 QD QX _ q1 (fun v H' s' p st' z => k v H' s' (p1.trans p) st' z) (fun c dx H' x s' p st' r z => kx c dx H' x s' (p1.trans p) st' r z)
theorem ln_chain {r r' : R2} {f f' : D → D → Option D} (ha : Ln Γ K E .b ta A) (hb : Ln Γ K E .b tb B) (hc : Ln Γ K E .b tc C) (hr : P2 K .b r f) (hr' : P2 K mo r' f') (hmo : mo ≠ .f) : Ln Γ K E mo (tChain r r' ta tb tc) (xChain f f' A B C) := by
  intro M α σ H ρ s ok st QD QX Q q k kx
  refine ha ok st _ QX _ q (fun vx H1 x s1 p1 st1 rx q1 => ?_) kx
  refine hb (ok.step p1) st1 _ QX _ q1 (fun vy H2 y s2 p2 st2 ry q2 => ?_) (fun c dx H' x s' p st' r z => kx c dx H' x s' (p1.trans p) st' r z)
  obtain ⟨d, e, q3⟩ := opt_ex q2
  obtain ⟨c, e2, q4⟩ := opt_ex q3
  have p := p1.trans p2
  have ok2 := ok.step p
  refine hr ok2.mtrk (RBo.step ok.msub p2.keep rx) ry e fun v' H3 sm r' => ?_
  obtain rfl := asB_sc r' e2
  have p3 := p.trans (Stp.of (Γ := Γ) sm)
  have st3 := Fr.same ok2.frt sm st2
  refine ⟨c, rfl, ?_⟩
  cases c with
  | true =>
    rw [if_pos rfl] at q4 ⊢
    refine hc (ok.step p3) st3 _ QX _ q4 (fun vz H4 z s4 p4 st4 rz q5 => ?_) (fun c dx H' x s' p st' r z => kx c dx H' x s' (p3.trans p) st' r z)
    obtain ⟨d', e', q6⟩ := opt_ex q5
    have p5 := p3.trans p4
    have ok4 := ok.step p5
    exact hr' ok4.mtrk (RBo.step ok.msub p4.keep (RBo.step ok.msub (fun a o _ z => sm a o z) ry)) rz e' fun v' H' sm' r'' => k v' H' d' s4 (p5.trans (Stp.of sm')) (Fr.same ok4.frt sm' st4) (r''.from p5.trk) q6
  | false =>
    rw [if_neg (by decide)] at q4 ⊢
    refine k _ H3 _ s2 p3 st3 ?_ q4
    cases mo with
    | b => exact .inl (.v _)
    | s => exact .v _
    | f => exact absurd rfl hmo
end
end L2.DL
namespace L2.DL
open L2 L2.My PySem PySem.Spec PyProof.Rows
section
variable {S : Type} {Γ : Fr S} {K : W.Frag} {M : Msk} {α : Nat → Addr} {σ : St} {H H' H1 H2 : Hp} {ρ : Env} {s : S} {v : V} {d : D}
def wmask (Γ : Fr S) (α : Nat → Addr) (ρ : Env) : Msk := fun a => Γ.M a ∨ ∃ i, ownAt ρ i ∧ α i = a
abbrev Keep (w : Msk) (H H' : Hp) : Prop := ∀ a o, ¬ w a → H a = some o → H' a = some o
structure StS (w w' : Msk) (H H' : Hp) : Prop where
  keep : Keep w H H'
  new : ∀ a, w' a → w a ∨ H a = none
  trk : ∀ a, H a ≠ none → H' a ≠ none
theorem StS.trans {w w1 w2 : Msk} (a : StS w w1 H H1) (b : StS w1 w2 H1 H2) : StS w w2 H H2 := by
  refine ⟨fun c o n e => b.keep c o (fun z => ?_) (a.keep c o n e), fun c z => ?_, fun c e => b.trk c (a.trk c e)⟩
  · rcases a.new c z with z | z
    · exact n z
    · rw [z] at e; cases e
  · rcases b.new c z with z | z
    · exact a.new c z
    · exact .inr (Classical.byContradiction fun q => a.trk c q z)
theorem StS.of {w w' : Msk} (h : ∀ a, w' a → w a) (st : Stp Γ H H') (hg : ∀ a, Γ.M a → w a) : StS w w' H H' := ⟨fun a o n e => st.keep a o (fun z => n (hg a z)) e, fun a z => .inl (h a z), st.trk⟩
theorem own_set {i j : Nat} {sl : Slot} (h : ownAt (ρ.set i sl) j) : (j = i ∧ sl.isOwn = true) ∨ (j ≠ i ∧ ownAt ρ j) := by
  obtain ⟨u, e, o⟩ := h
  by_cases z : j = i
  · subst z
    by_cases l : j < ρ.length
    · rw [List.getElem?_set_self l] at e
      cases e
      exact .inl ⟨rfl, o⟩
    · rw [List.getElem?_eq_none (by simpa using Nat.le_of_not_lt l)] at e
      cases e
  · rw [List.getElem?_set_ne (Ne.symm z)] at e
    exact .inr ⟨z, u, e, o⟩
theorem Ok.put {i : Nat} {x : Option V} {sl : Slot} {a : Addr} {α' : Nat → Addr} (ok : Ok Γ K M α σ H ρ) (hα : α' = fun j => if j = i then a else α j) (hz : a = α i ∨ i ≠ 0) (trk : ∀ b, H b ≠ none → H' b ≠ none)
    (c : Same (cut (mask M α ρ) H) (cut (mask M α' (ρ.set i sl)) H')) (k : ∀ b o, ¬ Γ.M b → (M b ∨ ∃ j, j ≠ i ∧ ownAt ρ j ∧ α j = b) → H b = some o → H' b = some o)
    (out : sl.isOwn = true → ¬ M a ∧ ∀ j, j ≠ i → ownAt ρ j → α j ≠ a) (new : i < ρ.length → SlotR K Γ.M M (mask M α' (ρ.set i sl)) H' a (some x) sl) : Ok Γ K M α' (σ.set i x) H' (ρ.set i sl) := by
  have ai : α' i = a := by rw [hα]; simp
  have aj : ∀ j, j ≠ i → α' j = α j := fun j n => by rw [hα]; simp [n]
  refine ⟨ok.sub, fun b z => trk b (ok.trk b z), fun j hj => ?_, fun j l hj hl e => ?_, by rw [List.length_set, List.length_set]; exact ok.len, fun j u e => ?_, fun b z => by
    rcases hz with hz | hz
    · rw [← ok.sf b z, hα]
      by_cases q : 0 = i
      · simp [q, hz]
      · simp [q]
    · rw [← ok.sf b z, hα]
      simp [Ne.symm hz]⟩
  · rcases own_set hj with ⟨rfl, o⟩ | ⟨n, o⟩
    · rw [ai]; exact (out o).1
    · rw [aj j n]; exact ok.out j o
  · rcases own_set hj with ⟨rfl, o⟩ | ⟨n, o⟩
    · rcases own_set hl with ⟨rfl, o'⟩ | ⟨n', o'⟩
      · rfl
      · rw [ai, aj l n'] at e
        exact absurd e.symm ((out o).2 l n' o')
    · rcases own_set hl with ⟨rfl, o'⟩ | ⟨n', o'⟩
      · rw [ai, aj j n] at e
        exact absurd e ((out o').2 j n o)
      · rw [aj j n, aj l n'] at e
        exact ok.inj j l o o' e
  · by_cases z : j = i
    · subst z
      by_cases l : j < ρ.length
      · rw [List.getElem?_set_self l] at e
        cases e
        rw [ai, List.getElem?_set_self (by rw [ok.len]; exact l)]
        exact new l
      · rw [List.getElem?_eq_none (by simpa using Nat.le_of_not_lt l)] at e
        cases e
    · rw [List.getElem?_set_ne (Ne.symm z)] at e
      rw [aj j z, List.getElem?_set_ne (Ne.symm z)]
      have q := ok.slot j u e
      cases u with
      | no => trivial
      | d y => obtain ⟨v, e1, r⟩ := q; exact ⟨v, e1, R.same c r⟩
      | bor y =>
        obtain ⟨v, e1, r⟩ := q
        exact ⟨v, e1, RBo.carry c (fun b u n o e => k b u n (.inl o) e) r⟩
      | own y =>
        have oj : ownAt ρ j := ⟨_, e, rfl⟩
        exact ⟨q.1, q.2.move c fun o e => k _ _ (fun z => ok.out j oj (ok.sub _ z)) (.inr ⟨j, z, oj, rfl⟩) e⟩
theorem mask_set_sub {i : Nat} {sl : Slot} (h : sl.isOwn = false) : ∀ a, mask M α (ρ.set i sl) a → mask M α ρ a := by
  rintro a (z | ⟨j, o, rfl⟩)
  · exact .inl z
  · rcases own_set o with ⟨_, o'⟩ | ⟨n, o⟩
    · rw [h] at o'; cases o'
    · exact .inr ⟨j, o, rfl⟩
theorem wmask_set_sub {i : Nat} {sl : Slot} (h : sl.isOwn = false) : ∀ a, wmask Γ α (ρ.set i sl) a → wmask Γ α ρ a := by
  rintro a (z | ⟨j, o, rfl⟩)
  · exact .inl z
  · rcases own_set o with ⟨_, o'⟩ | ⟨n, o⟩
    · rw [h] at o'; cases o'
    · exact .inr ⟨j, o, rfl⟩
theorem self_upd {i : Nat} : α = fun j => if j = i then α i else α j := by
  funext j
  by_cases h : j = i
  · simp [h]
  · simp [h]
theorem Ok.setD {i : Nat} (ok : Ok Γ K M α σ H ρ) (r : R K (cut (mask M α ρ) H) v d) : Ok Γ K M α (σ.set i (some v)) H (ρ.set i (.d d)) :=
  ok.put (a := α i) self_upd (.inl rfl) (fun _ z => z) (cut_mono (mask_set_sub rfl)) (fun _ _ _ _ e => e) (fun z => by cases z) fun _ => ⟨v, rfl, R.same (cut_mono (mask_set_sub rfl)) r⟩
/-- slots are forgotten -/
theorem Ok.forget {ρ' : Env} (ok : Ok Γ K M α σ H ρ) (hl : ρ'.length = ρ.length) (h : ∀ (j : Nat) (sl : Slot), ρ'[j]? = some sl → sl = Slot.no ∨ ρ[j]? = some sl) : Ok Γ K M α σ H ρ' ∧ (∀ a, mask M α ρ' a → mask M α ρ a) ∧ (∀ a, wmask Γ α ρ' a → wmask Γ α ρ a) := by
  have own : ∀ j, ownAt ρ' j → ownAt ρ j := fun j ⟨sl, e, o⟩ => by
    rcases h j sl e with rfl | e'
    · cases o
    · exact ⟨sl, e', o⟩
  have mm : ∀ a, mask M α ρ' a → mask M α ρ a := fun a z => z.imp id fun ⟨j, o, e⟩ => ⟨j, own j o, e⟩
  refine ⟨⟨ok.sub, ok.trk, fun i o => ok.out i (own i o), fun i j a b => ok.inj i j (own i a) (own j b), by rw [hl]; exact ok.len, fun j sl e => ?_, ok.sf⟩, mm, fun a z => z.imp id fun ⟨j, o, e⟩ => ⟨j, own j o, e⟩⟩
  rcases h j sl e with rfl | e'
  · trivial
  · have q := ok.slot j sl e'
    have c : Same (cut (mask M α ρ) H) (cut (mask M α ρ') H) := cut_mono mm
    cases sl with
    | no => trivial
    | d y => obtain ⟨v, e1, r⟩ := q; exact ⟨v, e1, R.same c r⟩
    | bor y =>
      obtain ⟨v, e1, r⟩ := q
      exact ⟨v, e1, RBo.carry c (fun _ _ _ _ e => e) r⟩
    | own y => exact ⟨q.1, q.2.move c fun _ e => e⟩
/-- what was one's own is frozen -/
def frz (ρ : Env) : Env := ρ.map fun
  | .own c => .d c.toD
  | sl => sl
theorem Ok.frz (ok : Ok Γ K M α σ H ρ) : Ok Γ K M α σ H (frz ρ) ∧ ∀ j, ¬ ownAt (DL.frz ρ) j := by
  have no : ∀ j, ¬ ownAt (DL.frz ρ) j := by
    rintro j ⟨sl, e, o⟩
    unfold DL.frz at e
    rw [List.getElem?_map] at e
    cases q : ρ[j]? with
    | none => rw [q] at e; cases e
    | some u =>
      rw [q] at e
      cases e
      cases u <;> cases o
  have mm : ∀ a, mask M α (DL.frz ρ) a → mask M α ρ a := by
    rintro a (z | ⟨j, o, _⟩)
    · exact .inl z
    · exact absurd o (no j)
  refine ⟨⟨ok.sub, ok.trk, fun i o => absurd o (no i), fun i j a b => absurd a (no i), by unfold DL.frz; rw [List.length_map]; exact ok.len, fun j sl e => ?_, ok.sf⟩, no⟩
  have c : Same (cut (mask M α ρ) H) (cut (mask M α (DL.frz ρ)) H) := cut_mono mm
  unfold DL.frz at e
  rw [List.getElem?_map] at e
  cases q : ρ[j]? with
  | none => rw [q] at e; cases e
  | some u =>
    rw [q] at e
    have sl' := ok.slot j u q
    cases u with
    | no => cases e; trivial
    | d y => cases e; obtain ⟨v, e1, r⟩ := sl'; exact ⟨v, e1, R.same c r⟩
    | bor y =>
      cases e
      obtain ⟨v, e1, r⟩ := sl'
      exact ⟨v, e1, RBo.carry c (fun _ _ _ _ e => e) r⟩
    | own y =>
      cases e
      have na : ¬ mask M α (DL.frz ρ) (α j) := fun z => z.elim (ok.out j ⟨_, q, rfl⟩) fun ⟨i, o, _⟩ => no i o
      exact ⟨_, sl'.1, CellR.strict na (sl'.2.move c fun _ e => e)⟩
end
structure Post (S : Type) where
  nx : Env → S → Prop
  rt : D → S → Prop
  bk : Env → S → Prop := fun _ _ => False
  ct : Env → S → Prop := fun _ _ => False
  ex : Exn → S → Prop := fun _ _ => False
abbrev TP (S : Type) := Env → S → Post S → Prop
section
variable {S : Type}
def LnS (Γ : Fr S) (K : W.Frag) (E : XK) (t : TS) (T : TP S) : Prop :=
  ∀ {M : Msk} {α : Nat → Addr} {σ : St} {H : Hp} {ρ : Env} {s : S}, Ok Γ K M α σ H ρ → Γ.st s H → ∀ (P : Post S) (Dn : Ends), T ρ s P →
    (∀ σ' H' ρ' s' α', Ok Γ K M α' σ' H' ρ' → Γ.st s' H' → StS (wmask Γ α ρ) (wmask Γ α' ρ') H H' → P.nx ρ' s' → Dn.nx σ' H') →
    (∀ σ' H' ρ' s' α', Ok Γ K M α' σ' H' ρ' → Γ.st s' H' → StS (wmask Γ α ρ) (wmask Γ α' ρ') H H' → P.bk ρ' s' → Dn.bk σ' H') →
    (∀ σ' H' ρ' s' α', Ok Γ K M α' σ' H' ρ' → Γ.st s' H' → StS (wmask Γ α ρ) (wmask Γ α' ρ') H H' → P.ct ρ' s' → Dn.ct σ' H') →
    (∀ v H' d s', StS (wmask Γ α ρ) (fun _ => False) H H' → Γ.st s' H' → R K (cut M H') v d → P.rt d s' → Dn.rt v H') →
    (∀ c dx H' x s', StS (wmask Γ α ρ) (fun _ => False) H H' → Γ.st s' H' → XR K M H' c dx x → P.ex x s' → E c dx H') → t Dn σ H
variable {Γ : Fr S} {K : W.Frag} {E : XK} {mo : Mo} {ta tb tc : TE} {A B C : TX S} {t u : TS} {T U : TP S} {tt : TT} {TT' : TB S}
theorem XR.mono {m m' : Msk} {H : Hp} {c : Value} {dx : Option Addr} {x : Exn} (h : ∀ a, m' a → m a) (r : XR K m H c dx x) : XR K m' H c dx x := by
  obtain ⟨e, r⟩ := r
  refine ⟨e, ?_⟩
  cases q : x.fs with
  | none => rw [q] at r; exact r
  | some ds =>
    rw [q] at r
    obtain ⟨d, fs, e1, n, h1, h2⟩ := r
    exact ⟨d, fs, e1, fun z => n (h d z), h1, RFs.same (cut_mono h) h2⟩
theorem stS_stp {α : Nat → Addr} {ρ : Env} {H H' : Hp} (h : Stp Γ H H') : StS (wmask Γ α ρ) (wmask Γ α ρ) H H' := .of (fun _ z => z) h fun _ z => .inl z
theorem stS_end {α : Nat → Addr} {ρ : Env} {H H' : Hp} (h : Stp Γ H H') : StS (wmask Γ α ρ) (fun _ => False) H H' := .of (fun _ z => z.elim) h fun _ z => .inl z
def pNext : TP S := fun ρ s P => P.nx ρ s
def pSeq (T U : TP S) : TP S := fun ρ s P => T ρ s { P with nx := fun ρ' s' => U ρ' s' P }
def pCut (T U : TP S) : TP S := fun ρ s P => ∃ I : Env → S → Prop, T ρ s { P with nx := I } ∧ ∀ ρ' s', I ρ' s' → U ρ' s' P
def pDrop (A : TX S) : TP S := fun ρ s P => A ρ s (fun _ s1 => P.nx ρ s1) P.ex
def pSet (A : TX S) (i : Nat) : TP S := fun ρ s P => A ρ s (fun d s1 => P.nx (ρ.set i (.d d)) s1) P.ex
def ownOf : D → Option Cell
  | .lst xs => some (.lst xs)
  | .dct xs => some (.dct xs)
  | .obj C xs => some (.obj C xs)
  | _ => none
theorem ownOf_toD (c : Cell) : ownOf c.toD = some c := by cases c <;> rfl
def pOwn (A : TX S) (i : Nat) : TP S := fun ρ s P => A ρ s (fun d s1 => opt (ownOf d) fun c => P.nx (ρ.set i (.own c)) s1) P.ex
def pRet (A : TX S) : TP S := fun ρ s P => A (frz ρ) s P.rt P.ex
def pIf (C : TB S) (T U : TP S) : TP S := fun ρ s P => C ρ s (fun c s1 => if c = true then T ρ s1 P else U ρ s1 P) P.ex
theorem ls_next : LnS Γ K E tNext pNext := fun {_ α σ H ρ s} ok st P Dn q k _ _ _ _ => k σ H ρ s α ok st (stS_stp .refl) q
theorem ls_seq (h1 : LnS Γ K E t T) (h2 : LnS Γ K E u U) : LnS Γ K E (tSeq t u) (pSeq T U) := by
  intro M α σ H ρ s ok st P Dn q kn kb kc kr kx
  refine h1 ok st _ _ q (fun σ' H' ρ' s' α' ok' st' p z => ?_) kb kc kr kx
  exact h2 ok' st' P Dn z (fun σ2 H2 ρ2 s2 α2 o2 t2 p2 z2 => kn σ2 H2 ρ2 s2 α2 o2 t2 (p.trans p2) z2) (fun σ2 H2 ρ2 s2 α2 o2 t2 p2 z2 => kb σ2 H2 ρ2 s2 α2 o2 t2 (p.trans p2) z2)
    (fun σ2 H2 ρ2 s2 α2 o2 t2 p2 z2 => kc σ2 H2 ρ2 s2 α2 o2 t2 (p.trans p2) z2) (fun v H2 d s2 p2 t2 r z2 => kr v H2 d s2 (p.trans p2) t2 r z2) (fun c dx H2 x s2 p2 t2 r z2 => kx c dx H2 x s2 (p.trans p2) t2 r z2)
theorem ls_cut (h1 : LnS Γ K E t T) (h2 : LnS Γ K E u U) : LnS Γ K E (C8.tCut t u) (pCut T U) := by
  intro M α σ H ρ s ok st P Dn ⟨I, q1, q2⟩ kn kb kc kr kx
  refine ⟨fun σ' H' => ∃ ρ' s' α', Ok Γ K M α' σ' H' ρ' ∧ Γ.st s' H' ∧ StS (wmask Γ α ρ) (wmask Γ α' ρ') H H' ∧ I ρ' s', ?_, ?_⟩
  · exact h1 ok st _ _ q1 (fun σ' H' ρ' s' α' ok' st' p z => ⟨ρ', s', α', ok', st', p, z⟩) kb kc kr kx
  · rintro σ' H' ⟨ρ', s', α', ok', st', p, z⟩
    exact h2 ok' st' P Dn (q2 _ _ z) (fun σ2 H2 ρ2 s2 α2 o2 t2 p2 z2 => kn σ2 H2 ρ2 s2 α2 o2 t2 (p.trans p2) z2) (fun σ2 H2 ρ2 s2 α2 o2 t2 p2 z2 => kb σ2 H2 ρ2 s2 α2 o2 t2 (p.trans p2) z2)
      (fun σ2 H2 ρ2 s2 α2 o2 t2 p2 z2 => kc σ2 H2 ρ2 s2 α2 o2 t2 (p.trans p2) z2) (fun v H2 d s2 p2 t2 r z2 => kr v H2 d s2 (p.trans p2) t2 r z2) (fun c dx H2 x s2 p2 t2 r z2 => kx c dx H2 x s2 (p.trans p2) t2 r z2)
theorem ls_drop (ha : Ln Γ K E mo ta A) : LnS Γ K E (tDrop ta) (pDrop A) := by
  intro M α σ H ρ s ok st P Dn q kn kb kc kr kx
  exact ha ok st _ P.ex _ q (fun v H' d s' p st' r z => kn σ H' ρ s' α (ok.step p) st' (stS_stp p) z) (fun c dx H' x s' p st' r z => kx c dx H' x s' (stS_end p) st' (r.mono fun _ z => .inl z) z)
theorem ls_set {i : Nat} (ha : Ln Γ K E .s ta A) : LnS Γ K E (tAsg ta (gName i)) (pSet A i) := by
  intro M α σ H ρ s ok st P Dn q kn kb kc kr kx
  refine ha ok st _ P.ex _ q (fun v H' d s' p st' r z => ?_) (fun c dx H' x s' p st' r z => kx c dx H' x s' (stS_end p) st' (r.mono fun _ z => .inl z) z)
  exact kn _ H' _ s' α ((ok.step p).setD r) st' (.of (wmask_set_sub rfl) p fun _ z => .inl z) z
theorem ls_own {i : Nat} (hi0 : i ≠ 0) (ha : Ln Γ K E .f ta A) : LnS Γ K E (tAsg ta (gName i)) (pOwn A i) := by
  intro M α σ H ρ s ok st P Dn q kn kb kc kr kx
  refine ha ok st _ P.ex _ q (fun v H' d s' p st' r z => ?_) (fun c dx H' x s' p st' r z => kx c dx H' x s' (stS_end p) st' (r.mono fun _ z => .inl z) z)
  obtain ⟨c, e, z⟩ := opt_ex z
  generalize hsl : Slot.own c = sl at z
  have main : ∀ a, H a = none → v = .ref a → sl.isOwn = true → (∀ m' : Msk, (∀ b, m' b → mask M α ρ b ∨ b = a) → SlotR K Γ.M M m' H' a (some (some v)) sl) → Dn.nx (σ.set i (some v)) H' := by
    intro a na hv ho new
    have nM : ¬ M a := fun z => ok.trk a z na
    have nO : ∀ j, ownAt ρ j → α j ≠ a := fun j o e => ok.mtrk (α j) (.inr ⟨j, o, rfl⟩) (by rw [e]; exact na)
    have sub : ∀ b, mask M (fun j => if j = i then a else α j) (ρ.set i sl) b → mask M α ρ b ∨ b = a := by
      rintro b (z | ⟨j, o, rfl⟩)
      · exact .inl (.inl z)
      · by_cases hj : j = i
        · simp [hj]
        · simp only [hj, if_false]
          rcases own_set o with ⟨e, _⟩ | ⟨_, o⟩
          · exact absurd e hj
          · exact .inl (.inr ⟨j, o, rfl⟩)
    refine kn _ H' (ρ.set i sl) s' (fun j => if j = i then a else α j) (ok.put (a := a) rfl (.inr hi0) p.trk (fun b o e => ?_) (fun b o n _ e => p.keep b o n e) (fun _ => ⟨nM, fun j _ o => nO j o⟩) fun _ => new _ sub) st' ⟨fun b o n e => p.keep b o (fun z => n (.inl z)) e, ?_, p.trk⟩ z
    · obtain ⟨n, e⟩ := of_cut e
      have nb : b ≠ a := fun q => by rw [q, na] at e; cases e
      rw [cut_out fun z => (sub b z).elim n nb]
      exact p.keep b o (fun z => n (.inl (ok.sub b z))) e
    · rintro b (z | ⟨j, o, rfl⟩)
      · exact .inl (.inl z)
      · by_cases hj : j = i
        · simp only [hj, if_true]
          exact .inr na
        · simp only [hj, if_false]
          rcases own_set o with ⟨e, _⟩ | ⟨_, o⟩
          · exact absurd e hj
          · exact .inl (.inr ⟨j, o, rfl⟩)
  obtain ⟨a, c, hv, rfl, na, h⟩ := r
  rw [ownOf_toD] at e
  cases e
  subst hsl
  exact main a na hv rfl fun m' hm => ⟨by rw [hv], h.move (cut_mono hm) fun _ e => e⟩
theorem ls_ret (ha : Ln Γ K E .s ta A) : LnS Γ K E (tRet ta) (pRet A) := by
  intro M α σ H ρ s ok st P Dn q kn kb kc kr kx
  obtain ⟨ok', no⟩ := ok.frz
  have mm : ∀ a, M a → mask M α (frz ρ) a := fun a z => .inl z
  exact ha ok' st _ P.ex _ q (fun v H' d s' p st' r z => kr v H' d s' (stS_end p) st' (R.same (cut_mono mm) r) z) (fun c dx H' x s' p st' r z => kx c dx H' x s' (stS_end p) st' (r.mono mm) z)
theorem ls_if (hc : LnT Γ K E tt TT') (h1 : LnS Γ K E t T) (h2 : LnS Γ K E u U) : LnS Γ K E (tIfS tt t u) (pIf TT' T U) := by
  intro M α σ H ρ s ok st P Dn q kn kb kc kr kx
  refine hc ok st _ P.ex _ q (fun c H1 s1 p st1 z => ?_) (fun c dx H' x s' p st' r z => kx c dx H' x s' (stS_end p) st' (r.mono fun _ z => .inl z) z)
  have pp : StS (wmask Γ α ρ) (wmask Γ α ρ) H H1 := stS_stp p
  have go : ∀ {t : TS} {T : TP S}, LnS Γ K E t T → T ρ s1 P → t Dn σ H1 := fun h q =>
    h (ok.step p) st1 P Dn q (fun σ2 H2 ρ2 s2 α2 o2 t2 p2 z2 => kn σ2 H2 ρ2 s2 α2 o2 t2 (pp.trans p2) z2) (fun σ2 H2 ρ2 s2 α2 o2 t2 p2 z2 => kb σ2 H2 ρ2 s2 α2 o2 t2 (pp.trans p2) z2)
      (fun σ2 H2 ρ2 s2 α2 o2 t2 p2 z2 => kc σ2 H2 ρ2 s2 α2 o2 t2 (pp.trans p2) z2) (fun v H2 d s2 p2 t2 r z2 => kr v H2 d s2 (pp.trans p2) t2 r z2) (fun c dx H2 x s2 p2 t2 r z2 => kx c dx H2 x s2 (pp.trans p2) t2 r z2)
  cases c with
  | true => rw [if_pos rfl] at z ⊢; exact go h1 z
  | false => rw [if_neg (by decide)] at z ⊢; exact go h2 z
end
end L2.DL
namespace L2.DL
open L2 L2.My PySem PySem.Spec PyProof.Rows
abbrev GD := D → Env → Option Env
abbrev GDs := List D → Env → Option Env
def gdN (i : Nat) : GD := fun d ρ => some (ρ.set i (.d d))
def gdNil : GDs := fun xs ρ => match xs with
  | [] => some ρ
  | _ => none
def gdCons (g : GD) (gs : GDs) : GDs := fun xs ρ => match xs with
  | x :: r => match g x ρ with
    | some ρ' => gs r ρ'
    | none => none
  | [] => none
def gdTup (n : Nat) (gs : GDs) : GD := fun d ρ => match d with
  | .tup xs => if xs.length = n then gs xs ρ else none
  | _ => none
section
variable {S : Type}
/-- ts: the slots that the target stores -/
def LnG (Γ : Fr S) (K : W.Frag) (ts : List Nat) (g : TG) (gd : GD) : Prop :=
  ∀ {M : Msk} {α : Nat → Addr} {σ : St} {H : Hp} {ρ ρ' : Env} {v : V} {d : D}, Ok Γ K M α σ H ρ → R K (cut (mask M α ρ) H) v d → gd d ρ = some ρ' → ∀ Q : St → Hp → Prop,
    (∀ σ', Ok Γ K M α σ' H ρ' → (∀ a, mask M α ρ' a → mask M α ρ a) → (∀ a, wmask Γ α ρ' a → wmask Γ α ρ a) → (∀ vs : List Nat, (∀ i ∈ ts, i ∈ vs) → wipe σ' vs = wipe σ vs) → Q σ' H) → g v σ H Q
def LnGs (Γ : Fr S) (K : W.Frag) (ts : List Nat) (g : TGs) (gd : GDs) : Prop :=
  ∀ {M : Msk} {α : Nat → Addr} {σ : St} {H : Hp} {ρ ρ' : Env} {v : List V} {d : List D}, Ok Γ K M α σ H ρ → RAll K (cut (mask M α ρ) H) v d → gd d ρ = some ρ' → ∀ Q : St → Hp → Prop,
    (∀ σ', Ok Γ K M α σ' H ρ' → (∀ a, mask M α ρ' a → mask M α ρ a) → (∀ a, wmask Γ α ρ' a → wmask Γ α ρ a) → (∀ vs : List Nat, (∀ i ∈ ts, i ∈ vs) → wipe σ' vs = wipe σ vs) → Q σ' H) → g v σ H Q
theorem set_none_set {σ : St} {i j : Nat} {x : Option V} (h : i ≠ j) : (σ.set i x).set j none = (σ.set j none).set i x := List.set_comm _ _ h
theorem wipe_set {σ : St} {i : Nat} {x : Option V} : ∀ {vs : List Nat}, i ∈ vs → wipe (σ.set i x) vs = wipe σ vs
  | [], h => by cases h
  | v :: vs, h => by
    unfold wipe
    by_cases e : i = v
    · subst e
      by_cases m : i ∈ vs
      · rw [wipe_set m]
      · have q : ∀ (us : List Nat), i ∉ us → wipe (σ.set i x) us = (wipe σ us).set i x := by
          intro us
          induction us with
          | nil => intro _; rfl
          | cons u r ih =>
            intro n
            unfold wipe
            rw [ih fun z => n (List.mem_cons_of_mem _ z), set_none_set fun z => n (by rw [z]; exact List.mem_cons_self)]
        rw [q vs m, List.set_set]
    · rcases List.mem_cons.mp h with z | m
      · exact absurd z e
      · rw [wipe_set m]
variable {Γ : Fr S} {K : W.Frag} {E : XK} {g : TG} {gd : GD} {gs : TGs} {gds : GDs} {ts us : List Nat}
theorem lg_name {i : Nat} : LnG Γ K [i] (gName i) (gdN i) := by
  intro M α σ H ρ ρ' v d ok r e Q k
  cases e
  exact k _ (ok.setD r) (mask_set_sub rfl) (wmask_set_sub rfl) fun vs h => wipe_set (h i List.mem_cons_self)
theorem lg_nil : LnGs Γ K [] gNil gdNil := by
  intro M α σ H ρ ρ' v d ok r e Q k
  cases r with
  | nil => cases e; exact ⟨rfl, k σ ok (fun _ z => z) (fun _ z => z) fun _ _ => rfl⟩
  | cons _ _ => cases e
theorem lg_cons (h1 : LnG Γ K ts g gd) (h2 : LnGs Γ K us gs gds) : LnGs Γ K (ts ++ us) (gCons g gs) (gdCons gd gds) := by
  intro M α σ H ρ ρ' v d ok r e Q k
  cases r with
  | nil => cases e
  | @cons x xs y ys r1 r2 =>
    unfold gdCons at e
    simp only at e
    split at e
    · rename_i ρ1 e1
      refine ⟨x, xs, rfl, h1 ok r1 e1 _ fun σ1 ok1 m1 w1 p1 => ?_⟩
      refine h2 ok1 (RAll.same (cut_mono m1) r2) e _ fun σ2 ok2 m2 w2 p2 => ?_
      exact k σ2 ok2 (fun a z => m1 a (m2 a z)) (fun a z => w1 a (w2 a z)) fun vs h => (p2 vs fun i z => h i (List.mem_append_right _ z)).trans (p1 vs fun i z => h i (List.mem_append_left _ z))
    · cases e
theorem lg_tup {n : Nat} (h : LnGs Γ K ts gs gds) : LnG Γ K ts (gTup K n gs) (gdTup n gds) := by
  intro M α σ H ρ ρ' v d ok r e Q k
  unfold gdTup at e
  split at e
  · rename_i xs
    split at e
    · rename_i hl
      cases r with
      | tup h1 h2 => exact ⟨_, _, rfl, SqT.same cut_le h1, by rw [RAll.len h2]; exact hl, h ok h2 e Q k⟩
    · cases e
  · cases e
variable {ta tb : TE} {A B : TX S} {t u : TS} {T U : TP S} {tt : TT} {C : TB S} {os : List Mo} {tl : TA} {L : TL S}
def pAsg (A : TX S) (gd : GD) : TP S := fun ρ s P => A ρ s (fun d s1 => opt (gd d ρ) fun ρ' => P.nx ρ' s1) P.ex
theorem ls_asg (ha : Ln Γ K E .s ta A) (hg : LnG Γ K ts g gd) : LnS Γ K E (tAsg ta g) (pAsg A gd) := by
  intro M α σ H ρ s ok st P Dn q kn kb kc kr kx
  refine ha ok st _ P.ex _ q (fun v H' d s' p st' r z => ?_) (fun c dx H' x s' p st' r z => kx c dx H' x s' (stS_end p) st' (r.mono fun _ z => .inl z) z)
  obtain ⟨ρ', e, z⟩ := opt_ex z
  exact hg (ok.step p) r e _ fun σ' ok' mm ww _ => kn σ' H' ρ' s' α ok' st' (.of ww p fun _ z => .inl z) z
def pPar (L : TL S) (i j : Nat) : TP S := fun ρ s P => L ρ s (fun ds s1 => match ds with
  | [x, y] => P.nx ((ρ.set i (.d x)).set j (.d y)) s1
  | _ => False) P.ex
theorem ARel.len {gM m : Msk} {H0 H : Hp} : ∀ {os : List Mo} {vs : List V} {ds : List D}, ARel K gM os m H0 H vs ds → vs.length = os.length ∧ ds.length = os.length
  | [], [], [], _ => ⟨rfl, rfl⟩
  | o :: os, v :: vs, d :: ds, h => by
    obtain ⟨a, b⟩ := ARel.len h.2
    exact ⟨by simp [a], by simp [b]⟩
  | [], _ :: _, _, h => by cases h
  | [], [], _ :: _, h => by cases h
  | _ :: _, [], _, h => by cases h
  | _ :: _, _ :: _, [], h => by cases h
theorem two {β : Type} {xs : List β} (h : xs.length = 2) : ∃ a b, xs = [a, b] := by
  match xs, h with
  | [a, b], _ => exact ⟨a, b, rfl⟩
theorem ls_par {i j : Nat} (h : LnA Γ K E [.s, .s] tl L) : LnS Γ K E (tPar i j tl) (pPar L i j) := by
  intro M α σ H ρ s ok st P Dn q kn kb kc kr kx
  refine h ok st _ P.ex _ q (fun vs H' ds s' p st' r z => ?_) (fun c dx H' x s' p st' r z => kx c dx H' x s' (stS_end p) st' (r.mono fun _ z => .inl z) z)
  obtain ⟨l1, l2⟩ := ARel.len r
  obtain ⟨v, w, rfl⟩ := two l1
  obtain ⟨x, y, rfl⟩ := two l2
  obtain ⟨r1, r2, _⟩ := r
  have ok1 := (ok.step p).setD (i := i) r1
  have ok2 := ok1.setD (i := j) (R.same (cut_mono (mask_set_sub rfl)) r2)
  exact ⟨v, w, rfl, kn _ H' _ s' α ok2 st' (.of (fun a z => wmask_set_sub rfl a (wmask_set_sub rfl a z)) p fun _ z => .inl z) z⟩
structure JOk (K : W.Frag) (w m : Msk) (H0 : Hp) (J : It) (ds : List D) : Prop where
  go : ∀ i H, i < ds.length → Keep w H0 H → J.go i H
  yld : ∀ (i : Nat) (H : Hp) (x : V) (H' : Hp) (d : D) (m' : Msk), ds[i]? = some d → Keep w H0 H → (∀ b, m' b → m b ∨ H0 b = none) → (∀ a, m' a → H a ≠ none) → J.yld i H x H' → Same H H' ∧ R K (cut m' H') x d
  stop : ∀ H, Keep w H0 H → J.stop ds.length H
/-- st: a statement's walk (what is one's own may change meanwhile), else a comprehension's -/
def LnI (Γ : Fr S) (K : W.Frag) (E : XK) (stm : Bool) (wi : TI) (T : TL S) : Prop :=
  ∀ {M : Msk} {α : Nat → Addr} {σ : St} {H : Hp} {ρ : Env} {s : S}, Ok Γ K M α σ H ρ → Γ.st s H → ∀ (QD : List D → S → Prop) (QX : Exn → S → Prop) (Q : It → Hp → Prop), T ρ s QD QX →
    (∀ J H' ds s', Stp Γ H H' → Γ.st s' H' → JOk K (if stm = true then wmask Γ α ρ else Γ.M) (mask M α ρ) H' J ds → QD ds s' → Q J H') →
    (∀ c dx H' x s', Stp Γ H H' → Γ.st s' H' → XR K (mask M α ρ) H' c dx x → QX x s' → E c dx H') → wi σ H Q
theorem keep_R {w m m' : Msk} {H0 H : Hp} {v : V} {d : D} (hw : ∀ a, w a → m a) (k : Keep w H0 H) (hm : ∀ b, m' b → m b ∨ H0 b = none) (r : R K (cut m H0) v d) : R K (cut m' H) v d := by
  refine R.same (fun b o e => ?_) r
  obtain ⟨n, e⟩ := of_cut e
  rw [cut_out fun z => (hm b z).elim n fun q => by rw [q] at e; cases e]
  exact k b o (fun z => n (hw b z)) e
/-- a list that stands where nothing changes meanwhile -/
theorem jok_list {w m : Msk} {H0 : Hp} {a : Addr} {xs : List V} {ds : List D} (hw : ∀ a, w a → m a) (na : ¬ w a) (h : H0 a = some (.lst xs)) (r : RAll K (cut m H0) xs ds) : JOk K w m H0 (Itl K a) ds := by
  have at' : ∀ {H}, Keep w H0 H → SqL K H a xs := fun k => .inl (.inl (k a _ na h))
  have len := RAll.len r
  refine ⟨fun i H hi k => ⟨xs, _, at' k, List.getElem?_eq_getElem (by rw [len]; exact hi)⟩, fun i H x H' d m' e k hm _ y => ?_, fun H k => ⟨xs, at' k, by omega⟩⟩
  obtain ⟨rfl, y⟩ := y
  obtain ⟨v, e1, r1⟩ := RAll.getD r e
  have q := y xs (at' k)
  rw [e1] at q
  cases q
  exact ⟨Same.refl _, keep_R hw k hm r1⟩
theorem jok_tup {w m : Msk} {H0 : Hp} {a : Addr} {xs : List V} {ds : List D} (hw : ∀ a, w a → m a) (h : SqT K (cut m H0) a xs) (r : RAll K (cut m H0) xs ds) : JOk K w m H0 (Itt K a) ds := by
  have at' : ∀ {H}, Keep w H0 H → SqT K H a xs := fun {H} k => by
    rcases h with (h | ⟨o, h⟩) | h
    · obtain ⟨n, h⟩ := of_cut h
      exact .inl (.inl (k a _ (fun z => n (hw a z)) h))
    · obtain ⟨n, h⟩ := of_cut h
      exact .inl (.inr ⟨o, k a _ (fun z => n (hw a z)) h⟩)
    · exact .inr h
  have len := RAll.len r
  refine ⟨fun i H hi k => ⟨xs, _, at' k, List.getElem?_eq_getElem (by rw [len]; exact hi)⟩, fun i H x H' d m' e k hm _ y => ?_, fun H k => ⟨xs, at' k, by omega⟩⟩
  obtain ⟨rfl, y⟩ := y
  obtain ⟨v, e1, r1⟩ := RAll.getD r e
  have q := y xs (at' k)
  rw [e1] at q
  cases q
  exact ⟨Same.refl _, keep_R hw k hm r1⟩
theorem jok_rng {w m : Msk} {H0 : Hp} {lo : Int} {n : Nat} : JOk K w m H0 (Itr lo n) ((List.range n).map fun (i : Nat) => dI (lo + (i : Int))) := by
  refine ⟨fun i H hi _ => (show i < n by simpa using hi), fun i H x H' d m' e _ _ _ y => ?_, fun H _ => by show n ≤ _; simp⟩
  obtain ⟨rfl, rfl⟩ := y
  rw [List.getElem?_map] at e
  cases q : (List.range n)[i]? with
  | none => rw [q] at e; cases e
  | some j =>
    rw [q] at e
    obtain ⟨hi, ej⟩ := List.getElem?_eq_some_iff.mp q
    simp at ej
    subst ej
    cases e
    exact ⟨Same.refl _, .v _⟩
def iSeq (K : W.Frag) (t : TE) : TI := fun σ H R => t σ H fun x H1 => (∃ a, x = .ref a ∧ (((∃ xs, SqL K H1 a xs) ∧ R (Itl K a) H1) ∨ ((∃ xs, SqT K H1 a xs) ∧ R (Itt K a) H1))) ∨ ∃ z, x = .str z ∧ R (Its z) H1
theorem pi_seq {X : Cx} {tg l : Expr} {t : TE} (h : PE X l t) : PI X tg l (iSeq X.K t) := by
  refine ⟨fun pins s σ H R I q => ?_⟩
  refine thn (h.run pins s σ H _ I q) fun v s1 ⟨x, H1, I1, r1, q1⟩ => ?_
  rcases q1 with ⟨a, e, q1⟩ | ⟨z, e, q1⟩
  · subst e
    cases r1
    have new : ∀ b, b ∈ [s1.heap.objs.size] → FpOk X pins H1 b := fun b hb => by
      have e : b = s1.heap.objs.size := by simpa using hb
      subst e
      exact I1.fpOk (Nat.le_refl _) (I1.hok.fresh (Nat.le_refl _))
    rcases q1 with ⟨⟨xs, hq⟩, q⟩ | ⟨⟨xs, hq⟩, q⟩
    · obtain ⟨its, rv, p, hz⟩ := I1.list hq
      refine wpAny_pyIter_list p.isList ?_
      exact ⟨s1.heap.objs.size, [s1.heap.objs.size], _, _, H1, rfl, I1.kept (t' := s1.toks) fun b o e => Heap.get?_push_of_some _ e, turn_list a _, ⟨_, Heap.get?_push_size _ rfl, rfl, rfl⟩, new, q⟩
    · obtain ⟨its, rv, p, hz⟩ := I1.tuple hq
      refine wpAny_pyIter_tuple (show s1.heap.IsTuple a its.toArray from p) ?_
      exact ⟨s1.heap.objs.size, [s1.heap.objs.size], _, _, H1, rfl, I1.kept (t' := s1.toks) fun b o e => Heap.get?_push_of_some _ e, turn_tuple a _, ⟨_, Heap.get?_push_size _ rfl, rfl, rfl⟩, new, q⟩
  · subst e
    obtain ⟨t, rfl⟩ := r1
    cases ha : z.cps.all (· < 128)
    · exact wpAny_pyIter_wide ha (pi_one (tk := s1.toks) I1 _ (turn_str _ z t "str_iterator" (.inr rfl)) ⟨_, Heap.get?_push_size _ rfl, rfl, rfl⟩ q1)
    · exact wpAny_pyIter_ascii ha (pi_one (tk := s1.toks) I1 _ (turn_str _ z t "str_ascii_iterator" (.inl rfl)) ⟨_, Heap.get?_push_size _ rfl, rfl, rfl⟩ q1)
def asSeq : D → Option (List D)
  | .lst xs => some xs
  | .tup xs => some xs
  | _ => none
def asIt : D → Option (List D)
  | .lst xs => some xs
  | .tup xs => some xs
  | .v (.str z) => some (z.cps.toList.map fun c => dS ⟨#[c]⟩)
  | _ => none
def xSeq (A : TX S) : TL S := fun ρ s Q X => A ρ s (fun d s1 => opt (asIt d) fun ds => Q ds s1) X
theorem jok_str {w m : Msk} {H0 : Hp} {z : Str} : JOk K w m H0 (Its z) (z.cps.toList.map fun c => dS ⟨#[c]⟩) := by
  refine ⟨fun i H hi _ => (show i < z.cps.size by simpa using hi), fun i H x H' d m' e _ _ _ y => ?_, fun H _ => (show z.cps.size ≤ _ by simp)⟩
  obtain ⟨rfl, c, hc, rfl⟩ := y
  rw [List.getElem?_map] at e
  have hc' : z.cps.toList[i]? = some c := by rw [Array.getElem?_toList]; exact hc
  rw [hc'] at e
  cases e
  exact ⟨Same.refl _, .v _⟩
theorem wm_m {M : Msk} {α : Nat → Addr} {σ : St} {H : Hp} {ρ : Env} (ok : Ok Γ K M α σ H ρ) {stm : Bool} : ∀ a, (if stm = true then wmask Γ α ρ else Γ.M) a → mask M α ρ a := by
  intro a z
  cases stm with
  | true => exact z.imp (ok.sub a) id
  | false => exact .inl (ok.sub a z)
theorem li_seq {stm : Bool} (ha : Ln Γ K E .s ta A) : LnI Γ K E stm (iSeq K ta) (xSeq A) := by
  intro M α σ H ρ s ok st QD QX Q q k kx
  refine ha ok st _ QX _ q (fun v H' d s' p st' r z => ?_) kx
  obtain ⟨ds, e, z⟩ := opt_ex z
  have ok' := ok.step p
  cases r with
  | lst h1 h2 =>
    cases e
    obtain ⟨n, h1⟩ := of_cut h1
    exact .inl ⟨_, rfl, .inl ⟨⟨_, .inl (.inl h1)⟩, k _ H' _ s' p st' (jok_list (wm_m ok') (fun y => n (wm_m ok' _ y)) h1 h2) z⟩⟩
  | tup h1 h2 =>
    cases e
    exact .inl ⟨_, rfl, .inr ⟨⟨_, SqT.same cut_le h1⟩, k _ H' _ s' p st' (jok_tup (wm_m ok') h1 h2) z⟩⟩
  | v => cases v <;> first | (cases e; exact .inr ⟨_, rfl, k _ H' _ s' p st' jok_str z⟩) | cases e
  | dct => cases e
  | obj => cases e
  | exc => cases e
  | dtp => cases e
/-- a lent list in a comprehension -/
theorem li_seqb (ha : Ln Γ K E .b ta A) : LnI Γ K E false (iSeq K ta) (xSeq A) := by
  intro M α σ H ρ s ok st QD QX Q q k kx
  refine ha ok st _ QX _ q (fun v H' d s' p st' r z => ?_) kx
  obtain ⟨ds, e, z⟩ := opt_ex z
  have ok' := ok.step p
  rcases r with r | ⟨a, c, rfl, rfl, n, h⟩
  · cases r with
    | lst h1 h2 =>
      cases e
      obtain ⟨n, h1⟩ := of_cut h1
      exact .inl ⟨_, rfl, .inl ⟨⟨_, .inl (.inl h1)⟩, k _ H' _ s' p st' (jok_list (wm_m ok' (stm := false)) (fun y => n (ok'.msub _ y)) h1 h2) z⟩⟩
    | tup h1 h2 =>
      cases e
      exact .inl ⟨_, rfl, .inr ⟨⟨_, SqT.same cut_le h1⟩, k _ H' _ s' p st' (jok_tup (wm_m ok' (stm := false)) h1 h2) z⟩⟩
    | v => cases v <;> first | (cases e; exact .inr ⟨_, rfl, k _ H' _ s' p st' jok_str z⟩) | cases e
    | dct => cases e
    | obj => cases e
    | exc => cases e
    | dtp => cases e
  · cases c with
    | lst xs =>
      cases e
      obtain ⟨vs, h1, h2⟩ := h
      exact .inl ⟨_, rfl, .inl ⟨⟨_, .inl (.inl h1)⟩, k _ H' _ s' p st' (jok_list (wm_m ok' (stm := false)) n.2 h1 h2) z⟩⟩
    | _ => cases e
/-- a parameter that is lent, walked by a statement -/
def xSeqP (i : Nat) : TL S := fun ρ s Q _ => match ρ[i]? with
  | some (.d x) => opt (asIt x) fun ds => Q ds s
  | some (.bor x) => opt (asIt x) fun ds => Q ds s
  | _ => False
theorem li_seqp {i : Nat} : LnI Γ K E true (iSeq K (tVar i)) (xSeqP i) := by
  intro M α σ H ρ s ok st QD QX Q q k kx
  unfold xSeqP at q
  have strict : ∀ {v d}, σ[i]? = some (some v) → R K (cut (mask M α ρ) H) v d → (opt (asIt d) fun ds => QD ds s) → iSeq K (tVar i) σ H Q := by
    intro v d e r z
    obtain ⟨ds, e', z⟩ := opt_ex z
    cases r with
    | lst h1 h2 =>
      cases e'
      obtain ⟨n, h1⟩ := of_cut h1
      exact ⟨_, e, .inl ⟨_, rfl, .inl ⟨⟨_, .inl (.inl h1)⟩, k _ H _ s .refl st (jok_list (wm_m ok (stm := true)) (fun y => n (wm_m ok (stm := true) _ y)) h1 h2) z⟩⟩⟩
    | tup h1 h2 =>
      cases e'
      exact ⟨_, e, .inl ⟨_, rfl, .inr ⟨⟨_, SqT.same cut_le h1⟩, k _ H _ s .refl st (jok_tup (wm_m ok (stm := true)) h1 h2) z⟩⟩⟩
    | v => cases v <;> first | (cases e'; exact ⟨_, e, .inr ⟨_, rfl, k _ H _ s .refl st jok_str z⟩⟩) | cases e'
    | dct => cases e'
    | obj => cases e'
    | exc => cases e'
    | dtp => cases e'
  split at q
  · rename_i x e
    obtain ⟨v, e1, r⟩ := ok.slot i _ e
    exact strict e1 r q
  · rename_i x e
    obtain ⟨v, e1, r⟩ := ok.slot i _ e
    rcases r with r | ⟨a, c, rfl, rfl, n, h⟩
    · exact strict e1 r q
    · have na : ¬ wmask Γ α ρ a := fun z => z.elim n.2 fun ⟨j, o, e⟩ => ok.out j o (by rw [e]; exact n.1)
      cases c with
      | lst xs =>
        obtain ⟨vs, h1, h2⟩ := h
        exact ⟨_, e1, .inl ⟨_, rfl, .inl ⟨⟨_, .inl (.inl h1)⟩, k _ H _ s .refl st (jok_list (wm_m ok (stm := true)) na h1 h2) q⟩⟩⟩
      | _ => exact q.elim
  · exact q.elim
def rngD (lo hi : Int) : List D := (List.range (hi - lo).toNat).map fun (i : Nat) => dI (lo + (i : Int))
def inR (i : Int) : Bool := decide (-(2 ^ 62) ≤ i) && decide (i < 2 ^ 62)
def xRng1 (A : TX S) : TL S := fun ρ s Q X => A ρ s (fun d s1 => match d with
  | .v (.int j) => inR j = true ∧ Q (rngD 0 j) s1
  | _ => False) X
theorem li_rng1 {stm : Bool} (ha : Ln Γ K E .b ta A) : LnI Γ K E stm (iRng1 (tCons ta tNil)) (xRng1 A) := by
  intro M α σ H ρ s ok st QD QX Q q k kx
  refine ha ok st _ QX _ q (fun v H' d s' p st' r z => ?_) kx
  split at z
  · obtain rfl := RBo.sc r
    simp only [inR, Bool.and_eq_true, decide_eq_true_eq] at z
    refine ⟨_, rfl, z.1.1, z.1.2, k _ H' _ s' p st' jok_rng ?_⟩
    have := z.2
    unfold rngD at this
    simpa using this
  · exact z.elim
def backSlot : Slot → Slot → Slot
  | .no, _ => .no
  | _, b => b
def back (ρ ρ' : Env) : Env := List.zipWith backSlot ρ ρ'
theorem back_ok {M : Msk} {α : Nat → Addr} {σ : St} {H : Hp} {ρ ρ' : Env} (hl : ρ'.length = ρ.length) (ok : Ok Γ K M α σ H ρ') : Ok Γ K M α σ H (back ρ ρ') ∧ (∀ a, mask M α (back ρ ρ') a → mask M α ρ' a) ∧ (∀ a, wmask Γ α (back ρ ρ') a → wmask Γ α ρ' a) := by
  refine ok.forget (by unfold back; rw [List.length_zipWith]; omega) fun j sl e => ?_
  unfold back at e
  rw [List.getElem?_zipWith] at e
  cases q : ρ[j]? with
  | none => rw [q] at e; cases e
  | some a =>
    cases q' : ρ'[j]? with
    | none => rw [q, q'] at e; cases e
    | some b =>
      rw [q, q'] at e
      cases e
      cases a <;> first | exact .inl rfl | exact .inr rfl
def forT (gd : GD) (T : TP S) (P : Post S) : List D → Env → S → Prop
  | [], ρ, s => P.nx ρ s
  | d :: r, ρ, s => opt (gd d ρ) fun ρ1 => T ρ1 s { P with nx := fun ρ' s' => ρ'.length = ρ.length ∧ forT gd T P r (back ρ ρ') s', ct := fun ρ' s' => ρ'.length = ρ.length ∧ forT gd T P r (back ρ ρ') s', bk := fun ρ' s' => ρ'.length = ρ.length ∧ P.nx (back ρ ρ') s' }
def pFor (I : TL S) (gd : GD) (T : TP S) : TP S := fun ρ s P => I ρ s (fun ds s1 => forT gd T P ds ρ s1) P.ex
theorem mask_wm {M : Msk} {α α' : Nat → Addr} {ρ ρ' : Env} {H H' : Hp} (h : StS (wmask Γ α ρ) (wmask Γ α' ρ') H H') (hs : ∀ a, Γ.M a → M a) : ∀ a, mask M α' ρ' a → mask M α ρ a ∨ H a = none := by
  rintro a (z | z)
  · exact .inl (.inl z)
  · rcases h.new a (.inr z) with q | q
    · exact .inl (q.imp (hs a) id)
    · exact .inr q
theorem ls_for {wi : TI} {I : TL S} (hi : LnI Γ K E true wi I) (hg : LnG Γ K ts g gd) (hb : LnS Γ K E t T) : LnS Γ K E (tFor wi g t) (pFor I gd T) := by
  intro M α σ H ρ s ok st P Dn q kn kb kc kr kx
  refine hi ok st (fun ds s1 => forT gd T P ds ρ s1) P.ex _ q ?_ (fun c dx H' x s' p st' r z => kx c dx H' x s' (stS_end p) st' (r.mono fun _ z => .inl z) z)
  intro J H1 ds s1 p st1 jok q1
  have p0 : StS (wmask Γ α ρ) (wmask Γ α ρ) H H1 := stS_stp p
  have ok1 := ok.step p
  refine ⟨fun i m σ' H' => m = ds.length - i ∧ i ≤ ds.length ∧ ∃ ρ' s' α', Ok Γ K M α' σ' H' ρ' ∧ Γ.st s' H' ∧ StS (wmask Γ α ρ) (wmask Γ α' ρ') H1 H' ∧ forT gd T P (ds.drop i) ρ' s', ⟨_, rfl, Nat.zero_le _, ρ, s1, α, ok1, st1, stS_stp .refl, q1⟩, ?_⟩
  rintro i m σ' H' ⟨rfl, hi', ρ', s', α', ok', st', pp, z⟩
  by_cases lt : i < ds.length
  · have e : ds.drop i = ds[i] :: ds.drop (i + 1) := List.drop_eq_getElem_cons lt
    rw [e] at z
    unfold forT at z
    obtain ⟨ρ1, e1, z⟩ := opt_ex z
    refine .inr ⟨jok.go i H' lt pp.keep, _, fun σ2 H2 w => ⟨ds.length - (i + 1), by omega, w⟩, fun x H2 y => ?_⟩
    obtain ⟨sm, rx⟩ := jok.yld i H' x H2 ds[i] (mask M α' ρ') (List.getElem?_eq_getElem lt) pp.keep (mask_wm pp ok.sub) ok'.mtrk y
    have ok2 := ok'.step (Stp.of (Γ := Γ) sm)
    have st2 := Fr.same ok'.frt sm st'
    have lenE : ρ1.length = ρ'.length ∨ True := .inr trivial
    refine hg ok2 rx e1 _ fun σ2 ok3 mm ww _ => ?_
    have pb : StS (wmask Γ α ρ) (wmask Γ α' ρ1) H1 H2 := pp.trans ((stS_stp (Γ := Γ) (α := α') (ρ := ρ') (Stp.of sm)).trans (.of ww .refl fun _ z => .inl z))
    refine hb ok3 st2 _ _ z (fun σ3 H3 ρ3 s3 α3 o3 t3 p3 z3 => ?_) (fun σ3 H3 ρ3 s3 α3 o3 t3 p3 z3 => ?_) (fun σ3 H3 ρ3 s3 α3 o3 t3 p3 z3 => ?_) (fun v H3 d s3 p3 t3 r z3 => kr v H3 d s3 (p0.trans (pb.trans p3)) t3 r z3) (fun c dx H3 x s3 p3 t3 r z3 => kx c dx H3 x s3 (p0.trans (pb.trans p3)) t3 r z3)
    · obtain ⟨hl, z3⟩ := z3
      obtain ⟨o4, m4, w4⟩ := back_ok hl o3
      exact ⟨rfl, lt, _, s3, α3, o4, t3, pb.trans (p3.trans (.of w4 .refl fun _ z => .inl z)), z3⟩
    · obtain ⟨hl, z3⟩ := z3
      obtain ⟨o4, m4, w4⟩ := back_ok hl o3
      exact kn σ3 H3 _ s3 α3 o4 t3 (p0.trans (pb.trans (p3.trans (.of w4 .refl fun _ z => .inl z)))) z3
    · obtain ⟨hl, z3⟩ := z3
      obtain ⟨o4, m4, w4⟩ := back_ok hl o3
      exact ⟨rfl, lt, _, s3, α3, o4, t3, pb.trans (p3.trans (.of w4 .refl fun _ z => .inl z)), z3⟩
  · have e : i = ds.length := by omega
    subst e
    rw [List.drop_length] at z
    exact .inl ⟨jok.stop H' pp.keep, kn σ' H' ρ' s' α' ok' st' (p0.trans pp) z⟩
end
end L2.DL
namespace L2.DL
open L2 L2.My PySem PySem.Spec PyProof.Rows
def wipeE (ρ : Env) : List Nat → Env
  | [] => ρ
  | v :: vs => (wipeE ρ vs).set v .no
def lendS : Slot → Slot
  | .own c => .bor c.toD
  | sl => sl
def inE (ρ : Env) (vs : List Nat) : Env := (wipeE ρ vs).map lendS
theorem wipeE_len (ρ : Env) : ∀ vs : List Nat, (wipeE ρ vs).length = ρ.length
  | [] => rfl
  | v :: vs => by unfold wipeE; rw [List.length_set, wipeE_len ρ vs]
theorem wipeE_at {ρ : Env} {j : Nat} {sl : Slot} : ∀ {vs : List Nat}, (wipeE ρ vs)[j]? = some sl → sl = Slot.no ∨ (j ∉ vs ∧ ρ[j]? = some sl)
  | [], h => .inr ⟨by simp, h⟩
  | v :: vs, h => by
    unfold wipeE at h
    by_cases e : v = j
    · subst e
      by_cases l : v < (wipeE ρ vs).length
      · rw [List.getElem?_set_self l] at h; cases h; exact .inl rfl
      · rw [List.getElem?_eq_none (by simpa using l)] at h; cases h
    · rw [List.getElem?_set_ne e] at h
      rcases wipeE_at h with h | ⟨h1, h2⟩
      · exact .inl h
      · exact .inr ⟨by simp only [List.mem_cons, not_or]; exact ⟨fun z => e z.symm, h1⟩, h2⟩
theorem wipe_ne {σ : St} {j : Nat} : ∀ {vs : List Nat}, j ∉ vs → (wipe σ vs)[j]? = σ[j]?
  | [], _ => rfl
  | v :: vs, h => by
    unfold wipe
    simp only [List.mem_cons, not_or] at h
    rw [List.getElem?_set_ne fun z => h.1 z.symm, wipe_ne h.2]
theorem wipe_stay {τ : St} : ∀ {us : List Nat}, (∀ u ∈ us, τ.set u none = τ) → wipe τ us = τ
  | [], _ => rfl
  | u :: r, h => by
    unfold wipe
    rw [wipe_stay fun i z => h i (List.mem_cons_of_mem _ z)]
    exact h u List.mem_cons_self
theorem wipe_mem {σ : St} {u : Nat} : ∀ {ws : List Nat}, u ∈ ws → (wipe σ ws).set u none = wipe σ ws
  | [], z => by cases z
  | w :: ws, z => by
    unfold wipe
    by_cases e : w = u
    · subst e; rw [List.set_set]
    · rw [List.set_comm _ _ e]
      rcases List.mem_cons.mp z with q | q
      · exact absurd q.symm e
      · rw [wipe_mem q]
theorem wipe_wipe {σ : St} {vs : List Nat} : wipe (wipe σ vs) vs = wipe σ vs := wipe_stay fun u z => wipe_mem z
section
variable {S : Type} {Γ : Fr S} {K : W.Frag} {E : XK} {g : TG} {gd : GD} {ts : List Nat} {ta tb te : TE} {A B : TX S} {t u : TS} {T U : TP S} {tt : TT} {C : TB S} {os : List Mo} {tl : TA} {L : TL S} {mo : Mo}
theorem Ok.inner {M : Msk} {α : Nat → Addr} {σ : St} {H H' : Hp} {ρ : Env} {D0 : Addr} {vs : List Nat} (ok : Ok Γ K M α σ H ρ) (hD : H D0 = none) (hD' : H' D0 ≠ none) (k : ∀ a o, ¬ Γ.M a → a ≠ D0 → H a = some o → H' a = some o) (tr : ∀ a, H a ≠ none → H' a ≠ none) :
    Ok Γ K (fun b => mask M α ρ b ∨ b = D0) α (wipe σ vs) H' (inE ρ vs) ∧ (∀ i, ¬ ownAt (inE ρ vs) i) := by
  have no : ∀ j, ¬ ownAt (inE ρ vs) j := by
    rintro j ⟨sl, e, o⟩
    unfold inE at e
    rw [List.getElem?_map] at e
    cases q : (wipeE ρ vs)[j]? with
    | none => rw [q] at e; cases e
    | some u =>
      rw [q] at e
      cases e
      cases u <;> cases o
  refine ⟨⟨fun a z => .inl (ok.msub a z), fun a z => ?_, fun i o => absurd o (no i), fun i j a b => absurd a (no i), ?_, fun j sl e => ?_, ok.sf⟩, no⟩
  · rcases z with z | rfl
    · exact tr a (ok.mtrk a z)
    · exact hD'
  · unfold inE
    rw [List.length_map, wipeE_len, wipe_length]
    exact ok.len
  · have mm : ∀ a, mask (fun b => mask M α ρ b ∨ b = D0) α (inE ρ vs) a → mask M α ρ a ∨ a = D0 := by
      rintro a (z | ⟨i, o, _⟩)
      · exact z
      · exact absurd o (no i)
    have c : Same (cut (mask M α ρ) H) (cut (mask (fun b => mask M α ρ b ∨ b = D0) α (inE ρ vs)) H') := fun b o e => by
      obtain ⟨n, e⟩ := of_cut e
      have ne : b ≠ D0 := ne_of_none e hD
      rw [cut_out fun z => (mm b z).elim n ne]
      exact k b o (fun z => n (ok.msub b z)) ne e
    unfold inE at e
    rw [List.getElem?_map] at e
    cases q : (wipeE ρ vs)[j]? with
    | none => rw [q] at e; cases e
    | some u =>
      rw [q] at e
      cases e
      rcases wipeE_at q with rfl | ⟨nj, q⟩
      · trivial
      · rw [wipe_ne nj]
        have sl' := ok.slot j u q
        cases u with
        | no => trivial
        | d y => obtain ⟨v, e1, r⟩ := sl'; exact ⟨v, e1, R.same c r⟩
        | bor y =>
          obtain ⟨v, e1, r⟩ := sl'
          exact ⟨v, e1, RBo.mono (fun a z => .inl (.inl z)) (RBo.carry c (fun b u n o e => k b u n (ne_of_none e hD) e) r)⟩
        | own y =>
          have oj : ownAt ρ j := ⟨_, q, rfl⟩
          have ng : ¬ Γ.M (α j) := fun z => ok.out j oj (ok.sub _ z)
          exact ⟨_, sl'.1, .inr ⟨α j, y, rfl, rfl, ⟨.inl (.inr ⟨j, oj, rfl⟩), ng⟩, sl'.2.move c fun o e => k _ _ ng (ne_of_none e hD) e⟩⟩
def bYes : TB S := fun _ s Q _ => Q true s
theorem lt_yes : LnT Γ K E tYes bYes := fun {_ _ _ H _ s} _ st _ _ _ q k _ => k true H s .refl st q
def lcT (gd : GD) (C : TB S) (A : TX S) (ρ : Env) (Q : D → S → Prop) : List D → List D → S → Prop
  | [], acc, s => Q (.lst acc) s
  | d :: r, acc, s => opt (gd d ρ) fun ρ1 => C ρ1 s (fun b s1 => if b = true then A ρ1 s1 (fun y s2 => acc.length < sizeLine ∧ lcT gd C A ρ Q r (acc ++ [y]) s2) (fun _ _ => False) else lcT gd C A ρ Q r acc s1) (fun _ _ => False)
def xLc (I : TL S) (gd : GD) (C : TB S) (A : TX S) (vs : List Nat) : TX S := fun ρ s Q X => I ρ s (fun ds s1 => lcT gd C A (inE ρ vs) Q ds [] s1) X
theorem ln_lc {wi : TI} {I : TL S} {vs : List Nat} (hts : ts.all (fun i => vs.contains i) = true) (hi : LnI Γ K E false wi I) (hg : LnG Γ K ts g gd) (hc : LnT Γ K E0 tt C) (ha : Ln Γ K E0 .s te A) : Ln Γ K E .f (tLc wi g tt te vs) (xLc I gd C A vs) := by
  intro M α σ H ρ s ok st QD QX Q q k kx
  refine hi ok st _ QX _ q (fun J H1 ds s1 p1 st1 jok q1 => ?_) kx
  intro D0 nD
  have ok1 := ok.step p1
  have tsv : ∀ i ∈ ts, i ∈ vs := fun i z => by
    have := List.all_eq_true.mp hts i z
    simpa using this
  have gD : ¬ Γ.M D0 := fun z => ok1.frt D0 z nD
  refine ⟨fun i m H' => m = ds.length - i ∧ i ≤ ds.length ∧ ∃ acc ws s', H' D0 = some (.lst ws) ∧ RAll K (cut (fun b => mask M α ρ b ∨ b = D0) H') ws acc ∧ Γ.st s' H' ∧ (∀ a o, ¬ Γ.M a → a ≠ D0 → H1 a = some o → H' a = some o) ∧ (∀ a, H1 a ≠ none → H' a ≠ none) ∧ lcT gd C A (inE ρ vs) QD (ds.drop i) acc s', ⟨_, rfl, Nat.zero_le _, [], [], s1, upd_same, .nil, Fr.same ok1.frt (same_upd nD) st1, fun a o _ _ e => same_upd nD a o e, (Stp.of (Γ := Γ) (same_upd nD)).trk, q1⟩, ?_⟩
  rintro i m H' ⟨rfl, hi', acc, ws, s', hD', ra, st', kp, tr, z⟩
  have kG : Keep Γ.M H1 H' := fun a o n e => kp a o n (ne_of_none e nD) e
  by_cases lt : i < ds.length
  · have e : ds.drop i = ds[i] :: ds.drop (i + 1) := List.drop_eq_getElem_cons lt
    rw [e] at z
    unfold lcT at z
    obtain ⟨ρ1, e1, z⟩ := opt_ex z
    obtain ⟨okI, noI⟩ := ok1.inner (vs := vs) nD (by rw [hD']; exact fun z => by cases z) kp tr
    refine .inr ⟨jok.go i H' lt kG, _, fun H2 w => ⟨ds.length - (i + 1), by omega, w⟩, fun x H2 y => ?_⟩
    have mI : ∀ b, mask (fun b => mask M α ρ b ∨ b = D0) α (inE ρ vs) b → mask M α ρ b ∨ b = D0 := by
      rintro a (z | ⟨i, o, _⟩)
      · exact z
      · exact absurd o (noI i)
    obtain ⟨sm, rx⟩ := jok.yld i H' x H2 ds[i] _ (List.getElem?_eq_getElem lt) kG (fun b z => (mI b z).imp id fun e => by rw [e]; exact nD) okI.mtrk y
    have pI := Stp.of (Γ := Γ) sm
    refine hg (okI.step pI) rx e1 _ fun σ2 ok2 mm ww pw => ⟨(pw vs tsv).trans wipe_wipe, ?_⟩
    refine hc ok2 (Fr.same okI.frt sm st') _ _ _ z (fun b H3 s3 p3 st3 z => ?_) (fun c dx H' x s' p st' r z => z.elim)
    have p3' := pI.trans p3
    have D3 : H3 D0 = some (.lst ws) := p3'.keep _ _ gD hD'
    cases b with
    | true =>
      rw [if_pos rfl] at z ⊢
      refine ha (ok2.step p3) st3 _ _ _ z (fun v H4 d s4 p4 st4 r z => ?_) (fun c dx H' x s' p st' r z => z.elim)
      have p4' := p3'.trans p4
      have D4 : H4 D0 = some (.lst ws) := p4'.keep _ _ gD hD'
      refine ⟨ws, D4, by rw [RAll.len ra]; exact z.1, rfl, lt, acc ++ [d], ws ++ [v], s4, upd_same, ?_, ?_, ?_, ?_, z.2⟩
      · have c1 : Same (cut (fun b => mask M α ρ b ∨ b = D0) H4) (cut (fun b => mask M α ρ b ∨ b = D0) (upd H4 D0 (.lst (ws ++ [v])))) := fun b o e => by
          obtain ⟨n, e⟩ := of_cut e
          rw [cut_out n, upd_ne fun z => n (.inr z)]
          exact e
        have c0 : Same (cut (fun b => mask M α ρ b ∨ b = D0) H') (cut (fun b => mask M α ρ b ∨ b = D0) H4) := p4'.cut fun a z => .inl (ok.msub a z)
        refine RAll.app (RAll.same c1 (RAll.same c0 ra)) (.cons (R.same c1 (R.same (cut_mono fun a z => .inl z) r)) .nil)
      · exact Γ.loc (fun a z => by rw [upd_ne fun e => gD (by rw [← e]; exact z)]) st4
      · intro a o n ne e
        rw [upd_ne ne]
        exact p4'.keep a o n (kp a o n ne e)
      · intro a z
        by_cases ne : a = D0
        · rw [ne, upd_same]; exact fun q => by cases q
        · rw [upd_ne ne]; exact p4'.trk a (tr a z)
    | false =>
      rw [if_neg (by decide)] at z ⊢
      exact ⟨rfl, lt, acc, ws, s3, D3, RAll.same (p3'.cut fun a z => .inl (ok.msub a z)) ra, st3, fun a o n ne e => p3'.keep a o n (kp a o n ne e), fun a z => p3'.trk a (tr a z), z⟩
  · have e : i = ds.length := by omega
    subst e
    rw [List.drop_length] at z
    refine .inl ⟨jok.stop H' kG, k _ H' _ s' ⟨fun a o n e => kG a o n (p1.keep a o n e), fun a z => tr a (p1.trk a z)⟩ st' ⟨D0, .lst acc, rfl, rfl, Classical.byContradiction fun q => p1.trk D0 q nD, ws, hD', ra⟩ z⟩
theorem set_same {σ : St} {i : Nat} {x : Option V} (h : σ[i]? = some x) : σ.set i x = σ := by
  obtain ⟨l, e⟩ := List.getElem?_eq_some_iff.mp h
  subst e
  exact List.set_getElem_self l
theorem Ok.turnC {M : Msk} {α : Nat → Addr} {σ : St} {H : Hp} {ρ : Env} {i : Nat} {c c' : Cell} {u : HO} (ok : Ok Γ K M α σ H ρ) (e : ρ[i]? = some (.own c)) (r : ∀ m' H', Same (cut (mask M α ρ) H) (cut m' H') → H' (α i) = some u → CellR K (cut m' H') H' (α i) c') :
    Ok Γ K M α σ (upd H (α i) u) (ρ.set i (.own c')) ∧ StS (wmask Γ α ρ) (wmask Γ α (ρ.set i (.own c'))) H (upd H (α i) u) := by
  have oi : ownAt ρ i := ⟨_, e, rfl⟩
  obtain ⟨e1, _⟩ := ok.slot i _ e
  have own' : ∀ j, ownAt (ρ.set i (.own c')) j → ownAt ρ j := fun j o => by
    rcases own_set o with ⟨rfl, _⟩ | ⟨_, o⟩
    · exact oi
    · exact o
  have mm : ∀ a, mask M α (ρ.set i (.own c')) a → mask M α ρ a := fun a z => z.imp id fun ⟨j, o, q⟩ => ⟨j, own' j o, q⟩
  have tr : ∀ b, H b ≠ none → upd H (α i) u b ≠ none := fun b z => by
    by_cases q : b = α i
    · rw [q, upd_same]; exact fun z => by cases z
    · rw [upd_ne q]; exact z
  have cc : Same (cut (mask M α ρ) H) (cut (mask M α (ρ.set i (.own c'))) (upd H (α i) u)) := fun b o q => by
    obtain ⟨n, q⟩ := of_cut q
    rw [cut_out fun z => n (mm b z), upd_ne fun z => n (.inr ⟨i, oi, z.symm⟩)]
    exact q
  have put := ok.put (x := some (.ref (α i))) (sl := .own c') (a := α i) (H' := upd H (α i) u) (i := i) self_upd (.inl rfl) tr cc (fun b o n z q => by
    rw [upd_ne fun y => ?_]
    · exact q
    · rcases z with z | ⟨j, nj, oj, z⟩
      · exact ok.out i oi (by rw [← y]; exact z)
      · exact nj (ok.inj j i oj oi (z.trans y))) (fun _ => ⟨ok.out i oi, fun j nj oj z => nj (ok.inj j i oj oi z)⟩) fun _ => ⟨rfl, r _ _ cc upd_same⟩
  rw [set_same e1] at put
  refine ⟨put, ⟨fun a o n q => ?_, fun a z => .inl (z.imp id fun ⟨j, o, q⟩ => ⟨j, own' j o, q⟩), tr⟩⟩
  rw [upd_ne fun z => n (.inr ⟨i, oi, z.symm⟩)]
  exact q
theorem Ok.turn {M : Msk} {α : Nat → Addr} {σ : St} {H : Hp} {ρ : Env} {i : Nat} {xs ys : List D} {ws : List V} (ok : Ok Γ K M α σ H ρ) (e : ρ[i]? = some (.own (.lst xs))) (r : RAll K (cut (mask M α ρ) H) ws ys) :
    Ok Γ K M α σ (upd H (α i) (.lst ws)) (ρ.set i (.own (.lst ys))) ∧ StS (wmask Γ α ρ) (wmask Γ α (ρ.set i (.own (.lst ys)))) H (upd H (α i) (.lst ws)) :=
  ok.turnC e fun m' H' s e => ⟨ws, e, RAll.same s r⟩
def ownL (ρ : Env) (i : Nat) : Option (List D) := match ρ[i]? with
  | some (.own (.lst xs)) => some xs
  | _ => none
theorem ownL_at {ρ : Env} {i : Nat} {xs : List D} (h : ownL ρ i = some xs) : ρ[i]? = some (.own (.lst xs)) := by
  unfold ownL at h
  split at h
  · rename_i ys e; cases h; exact e
  · cases h
def pApp (i : Nat) (A : TX S) : TP S := fun ρ s P => A ρ s (fun d s1 => opt (ownL ρ i) fun xs => xs.length < sizeLine ∧ P.nx (ρ.set i (.own (.lst (xs ++ [d])))) s1) P.ex
theorem tyV_lst {H : Hp} {a : Addr} {xs : List V} (h : H a = some (.lst xs)) : tyV K "list" (.ref a) H := .inl ⟨rfl, _, .inl (.inl h)⟩
theorem own_var {M : Msk} {α : Nat → Addr} {σ : St} {H : Hp} {ρ : Env} {i : Nat} {xs : List D} (ok : Ok Γ K M α σ H ρ) (e : ρ[i]? = some (.own (.lst xs))) : σ[i]? = some (some (.ref (α i))) ∧ ∃ vs, H (α i) = some (.lst vs) ∧ RAll K (cut (mask M α ρ) H) vs xs := ok.slot i _ e
/-- the list must be one's own already when the method is asked for -/
def onOwn (i : Nat) (T : TP S) : TP S := fun ρ s P => (ownL ρ i).isSome = true ∧ T ρ s P
theorem ls_append {i : Nat} (ha : Ln Γ K E .s ta A) : LnS Γ K E (tDrop (tBM K "list" rAppend (tVar i) (tCons ta tNil))) (onOwn i (pApp i A)) := by
  intro M α σ H ρ s ok st P Dn ⟨hs, q⟩ kn kb kc kr kx
  obtain ⟨xs, e⟩ := Option.isSome_iff_exists.mp hs
  have e' := ownL_at e
  obtain ⟨e1, vs, h1, r1⟩ := own_var ok e'
  refine ⟨_, e1, tyV_lst h1, ?_⟩
  refine ha ok st _ P.ex _ q (fun v H' d s' p st' r z => ?_) (fun c dx H' x s' p st' r z => kx c dx H' x s' (stS_end p) st' (r.mono fun _ z => .inl z) z)
  rw [e] at z
  have ok' := ok.step p
  obtain ⟨_, vs', h1', r1'⟩ := own_var ok' e'
  obtain ⟨o2, p2⟩ := ok'.turn e' (RAll.app r1' (.cons r .nil))
  refine ⟨_, vs', v, rfl, rfl, h1', by rw [RAll.len r1']; exact z.1, ?_⟩
  exact kn σ _ _ s' α o2 (Γ.loc (fun a y => by rw [upd_ne fun e => ok.out i ⟨_, e', rfl⟩ (ok.sub _ (by rw [← e]; exact y))]) st') ((stS_stp p).trans p2) z.2
def asI : D → Option Int
  | .v (.int i) => some i
  | _ => none
theorem asI_sc {g m : Msk} {H : Hp} {v : V} {d : D} {c : Int} (r : RB K g m H v d) (e : asI d = some c) : v = .int c := by
  unfold asI at e
  split at e
  · cases e; exact RBo.sc r
  · cases e
/-- what a def does to data alone: nothing that stands is changed -/
abbrev Fn := List D → Option (Except Exn D)
def spF (K : W.Frag) (os : List Mo) (F : Fn) : Sp := fun vs H Q E => ∃ (S : Type) (Γ : Fr S) (M : Msk) (s : S) (ds : List D), (∀ a, Γ.M a → M a) ∧ (∀ a, M a → H a ≠ none) ∧ ARel K Γ.M os M H H vs ds ∧ Γ.st s H ∧
  opt (F ds) fun r => match r with
    | .ok d => ∀ v H', Stp Γ H H' → Γ.st s H' → R K (cut M H') v d → Q v H'
    | .error x => ∀ c dx H', Stp Γ H H' → Γ.st s H' → XR K M H' c dx x → E c dx H'
def xCall (F : Fn) (L : TL S) : TX S := fun ρ s Q X => L ρ s (fun ds s1 => opt (F ds) fun r => match r with
  | .ok d => Q d s1
  | .error x => X x s1) X
theorem ln_call {F : Fn} (ho : os.all (fun o => match o with | .f => false | _ => true) = true) (h : LnA Γ K E os tl L) : Ln Γ K E .s (tCall (spF K os F) [] E tl) (xCall F L) := by
  intro M α σ H ρ s ok st QD QX Q q k kx
  refine h ok st _ QX _ q (fun vs H1 ds s1 p1 st1 r z => ?_) kx
  obtain ⟨y, e, z⟩ := opt_ex z
  have ok1 := ok.step p1
  have hno : ∀ o ∈ os, o ≠ Mo.f := fun o z e => by
    have := List.all_eq_true.mp ho o z
    rw [e] at this
    cases this
  show spF K os F (vs ++ []) H1 Q E
  rw [List.append_nil]
  refine ⟨S, Γ, mask M α ρ, s1, ds, ok.msub, ok1.mtrk, ARel.from hno r, st1, ?_⟩
  rw [e]
  cases y with
  | ok d => exact fun v H' p st' r => k v H' d s1 (p1.trans p) st' r z
  | error x => exact fun c dx H' p st' r => kx c dx H' x s1 (p1.trans p) st' r z
def startD : List Mo → List D → Env
  | .b :: os, d :: ds => .bor d :: startD os ds
  | _ :: os, d :: ds => .d d :: startD os ds
  | _, _ => []
def envD (os : List Mo) (n : Nat) (ds : List D) : Env := startD os ds ++ List.replicate (n - ds.length) .no
/-- the same without the object that is being made -/
abbrev Fr.cl {S : Type} (Γ : Fr S) : Fr S := ⟨Γ.M, Γ.st, Γ.loc, none⟩
theorem startD_own : ∀ {os : List Mo} {ds : List D} {i : Nat}, ¬ ownAt (startD os ds) i
  | [], ds, i, ⟨_, e, _⟩ => by unfold startD at e; simp at e
  | .b :: os, [], i, ⟨_, e, _⟩ => by unfold startD at e; simp at e
  | .s :: os, [], i, ⟨_, e, _⟩ => by unfold startD at e; simp at e
  | .f :: os, [], i, ⟨_, e, _⟩ => by unfold startD at e; simp at e
  | .b :: os, d :: ds, 0, ⟨_, e, o⟩ => by unfold startD at e; simp at e; subst e; cases o
  | .s :: os, d :: ds, 0, ⟨_, e, o⟩ => by unfold startD at e; simp at e; subst e; cases o
  | .f :: os, d :: ds, 0, ⟨_, e, o⟩ => by unfold startD at e; simp at e; subst e; cases o
  | .b :: os, d :: ds, i + 1, ⟨_, e, o⟩ => by unfold startD at e; exact startD_own ⟨_, (by simpa using e), o⟩
  | .s :: os, d :: ds, i + 1, ⟨_, e, o⟩ => by unfold startD at e; exact startD_own ⟨_, (by simpa using e), o⟩
  | .f :: os, d :: ds, i + 1, ⟨_, e, o⟩ => by unfold startD at e; exact startD_own ⟨_, (by simpa using e), o⟩
theorem startD_slot {M : Msk} {H : Hp} {a : Addr} : ∀ {os : List Mo} {vs : List V} {ds : List D}, (∀ o ∈ os, o ≠ .f) → ARel K Γ.M os M H H vs ds → (startD os ds).length = vs.length ∧ ∀ (i : Nat) (sl : Slot), (startD os ds)[i]? = some sl → ∃ v, vs[i]? = some v ∧ SlotR K Γ.M M M H a (some (some v)) sl
  | [], [], [], _, _ => ⟨rfl, fun i sl e => by unfold startD at e; simp at e⟩
  | o :: os, v :: vs, d :: ds, ho, ⟨h, t⟩ => by
    obtain ⟨l, q⟩ := startD_slot (a := a) (fun o z => ho o (List.mem_cons_of_mem _ z)) t
    cases o with
    | f => exact absurd rfl (ho .f List.mem_cons_self)
    | s =>
      refine ⟨by unfold startD; simp [l], fun i sl e => ?_⟩
      unfold startD at e
      cases i with
      | zero => simp at e; subst e; exact ⟨v, rfl, v, rfl, h⟩
      | succ i => exact q i sl (by simpa using e)
    | b =>
      refine ⟨by unfold startD; simp [l], fun i sl e => ?_⟩
      unfold startD at e
      cases i with
      | zero => simp at e; subst e; exact ⟨v, rfl, v, rfl, h⟩
      | succ i => exact q i sl (by simpa using e)
theorem ok_start {M : Msk} {H : Hp} {N : List Str} {vs : List V} {ds : List D} (hsf : Γ.self = none) (ho : ∀ o ∈ os, o ≠ .f) (h1 : ∀ a, Γ.M a → M a) (h2 : ∀ a, M a → H a ≠ none) (r : ARel K Γ.M os M H H vs ds) : Ok Γ K M (fun _ => 0) (start N vs) H (envD os N.length ds) ∧ ∀ i, ¬ ownAt (envD os N.length ds) i := by
  obtain ⟨l1, l2⟩ := ARel.len r
  obtain ⟨sl, q⟩ := startD_slot (a := 0) ho r
  have get : ∀ (i : Nat) (s : Slot), (envD os N.length ds)[i]? = some s → s = .no ∨ (startD os ds)[i]? = some s := fun i s e => by
    unfold envD at e
    by_cases h : i < (startD os ds).length
    · rw [List.getElem?_append_left h] at e
      exact .inr e
    · rw [List.getElem?_append_right (by omega), List.getElem?_replicate] at e
      split at e
      · cases e; exact .inl rfl
      · cases e
  have no : ∀ i, ¬ ownAt (envD os N.length ds) i := fun i ⟨s, e, o⟩ => by
    rcases get i s e with rfl | e
    · cases o
    · exact startD_own ⟨s, e, o⟩
  refine ⟨⟨h1, h2, fun i o => absurd o (no i), fun i j a b => absurd a (no i), ?_, fun i s e => ?_, fun a z => by rw [hsf] at z; cases z⟩, no⟩
  · unfold start envD
    rw [List.length_append, List.length_append, List.length_map, List.length_replicate, List.length_replicate, sl]
    omega
  · rcases get i s e with rfl | e
    · trivial
    · obtain ⟨v, ev, rs⟩ := q i s e
      have es : (start N vs)[i]? = some (some v) := by
        unfold start
        rw [List.getElem?_append_left (by rw [List.length_map]; exact (List.getElem?_eq_some_iff.mp ev).1), List.getElem?_map, ev]
        rfl
      rw [es]
      have mm : ∀ a, mask M (fun _ => 0) (envD os N.length ds) a → M a := by
        rintro a (z | ⟨j, o, _⟩)
        · exact z
        · exact absurd o (no j)
      have c : Same (cut M H) (cut (mask M (fun _ => 0) (envD os N.length ds)) H) := cut_mono mm
      cases s with
      | no => trivial
      | d y => obtain ⟨v, e1, r⟩ := rs; exact ⟨v, e1, R.same c r⟩
      | bor y =>
        obtain ⟨v, e1, r⟩ := rs
        exact ⟨v, e1, RBo.carry c (fun _ _ _ _ e => e) r⟩
      | own y => exact absurd ⟨_, e, rfl⟩ startD_own
end
/-- what a def's body is to reach -/
def postF {S : Type} (s : S) (r : Except Exn D) : Post S where
  nx := fun _ s' => r = .ok dN ∧ s' = s
  rt := fun d s' => r = .ok d ∧ s' = s
  ex := fun x s' => r = .error x ∧ s' = s
/-- THE RULE for a def over data alone -/
theorem fn_data {P : Program} {w : World} {K : W.Frag} {mg : Str → Option Value} {base : Heap} {x qual : Str} {st : Stmt} {f : Addr} {fd : FuncData} {N ps : List Str} {k : Nat} {os : List Mo} {F : Fn}
    (Fd : Fun K x qual st f fd) (Sc : FnScope N ps (defScope st)) (hl : os.length = ps.length) (ho : os.all (fun o => match o with | .f => false | _ => true) = true)
    (hbody : ∀ (cdv : Value) (A : Around) (outer : List PySem.Env) (s : Shared) (H : Hp) (E : XK), Room k (A.deeper (envOfC qual (defScope st) s.heap.objs.size f cdv)) → Quiet (A.deeper (envOfC qual (defScope st) s.heap.objs.size f cdv)) →
      ∃ t, PSs (cxOf (L2.CX P w) P w K mg base N qual (defScope st) f cdv A outer s H E) (defBody st) t ∧
        ∀ (S : Type) (Γ : Fr S), ∃ T : TP S, LnS Γ K E t T ∧ ∀ (ds : List D) (r : Except Exn D) (s : S), F ds = some r → T (envD os N.length ds) s (postF s r)) :
    FnG P w K mg base (L2.CX P w) (k + 1) f fd ps (spF K os F) := by
  have hno : ∀ o ∈ os, o ≠ Mo.f := fun o z e => by
    have := List.all_eq_true.mp ho o z
    rw [e] at this
    cases this
  refine body_g Fd Sc (fun vs H Q E ⟨S, Γ, M, s, ds, _, _, r, _⟩ => by rw [(ARel.len r).1]; exact hl) ?_
  rintro cdv A outer s H vs Q E hr hq ⟨S, Γ, M, s0, ds, h1, h2, r, st0, q⟩
  obtain ⟨t, ht, hT⟩ := hbody cdv A outer s H E hr hq
  obtain ⟨T, lt, main⟩ := hT S Γ.cl
  obtain ⟨y, e, q⟩ := opt_ex q
  obtain ⟨ok, no⟩ := ok_start (Γ := Γ.cl) (N := N) rfl hno h1 h2 r
  have back' : ∀ {w : Msk} {H' : Hp}, StS (wmask Γ.cl (fun _ => 0) (envD os N.length ds)) w H H' → Stp Γ H H' := fun p => ⟨fun a o n e => p.keep a o (fun z => z.elim n fun ⟨j, o, _⟩ => no j o) e, p.trk⟩
  refine ⟨t, ht, lt ok st0 _ _ (main ds y s0 e) (fun σ' H' ρ' s' α' ok' st' p z => ?_) (fun _ _ _ _ _ _ _ _ z => z.elim) (fun _ _ _ _ _ _ _ _ z => z.elim) (fun v H' d s' p st' r' z => ?_) (fun c dx H' x s' p st' r' z => ?_)⟩
  · obtain ⟨z1, z2⟩ := z
    subst z1 z2
    exact q .non H' (back' p) st' (.v _)
  · obtain ⟨z1, z2⟩ := z
    subst z1 z2
    exact q v H' (back' p) st' r'
  · obtain ⟨z1, z2⟩ := z
    subst z1 z2
    exact q c dx H' (back' p) st' r'
end L2.DL
namespace L2.DL
open L2 L2.My PySem PySem.Spec PyProof.Rows
mutual
def toPy : D → Option PyData
  | .v .non => some .none
  | .v (.bl b) => some (.bool b)
  | .v (.int i) => some (.int i)
  | .v (.str x) => some (.str x)
  | .v _ => none
  | .tup xs => (toPyAll xs).map .tuple
  | .lst xs => (toPyAll xs).map .list
  | .dct _ => none
  | .obj _ _ => none
  | .exc _ _ => none
  | .dtp _ => none
def toPyAll : List D → Option (List PyData)
  | [] => some []
  | x :: r => match toPy x, toPyAll r with
    | some a, some b => some (a :: b)
    | _, _ => none
end
section
variable {K : W.Frag} {G : Hp}
mutual
theorem py_dp : ∀ {d : D} {v : V} {p : PyData}, R K G v d → toPy d = some p → Dp K G v p
  | .v x, _, p, .v _, e => by
    cases x with
    | non => simp only [toPy, Option.some.injEq] at e; subst e; exact .non
    | bl b => simp only [toPy, Option.some.injEq] at e; subst e; exact .bl b
    | int i => simp only [toPy, Option.some.injEq] at e; subst e; exact .int i
    | str x => simp only [toPy, Option.some.injEq] at e; subst e; exact .str x
    | byt _ => simp [toPy] at e
    | flt _ => simp [toPy] at e
    | ref _ => simp [toPy] at e
    | ty _ => simp [toPy] at e
  | .tup xs, _, p, .tup h1 h2, e => by
    simp only [toPy, Option.map_eq_some_iff] at e
    obtain ⟨ps, e, rfl⟩ := e
    exact .tup h1 (py_dps h2 e)
  | .lst xs, _, p, .lst h1 h2, e => by
    simp only [toPy, Option.map_eq_some_iff] at e
    obtain ⟨ps, e, rfl⟩ := e
    exact .lst (.inl (.inl h1)) (py_dps h2 e)
  | .dct _, _, p, _, e => by simp [toPy] at e
  | .obj _ _, _, p, _, e => by simp [toPy] at e
  | .exc _ _, _, p, _, e => by simp [toPy] at e
  | .dtp _, _, p, _, e => by simp [toPy] at e
theorem py_dps : ∀ {ds : List D} {vs : List V} {ps : List PyData}, RAll K G vs ds → toPyAll ds = some ps → DpAll K G vs ps
  | [], _, ps, .nil, e => by simp only [toPyAll, Option.some.injEq] at e; subst e; exact .nil
  | d :: ds, _, ps, .cons h1 h2, e => by
    simp only [toPyAll] at e
    split at e
    · rename_i a b e1 e2
      cases e
      exact .cons (py_dp h1 e1) (py_dps h2 e2)
    · cases e
end
mutual
theorem Dp.same {H H' : Hp} (s : Same H H') : ∀ {v : V} {d : PyData}, Dp K H v d → Dp K H' v d
  | _, _, .non => .non
  | _, _, .bl b => .bl b
  | _, _, .int i => .int i
  | _, _, .str x => .str x
  | _, _, .lst h1 h2 => .lst (SqL.same s h1) (DpAll.same s h2)
  | _, _, .tup h1 h2 => .tup (SqT.same s h1) (DpAll.same s h2)
theorem DpAll.same {H H' : Hp} (s : Same H H') : ∀ {v : List V} {d : List PyData}, DpAll K H v d → DpAll K H' v d
  | _, _, .nil => .nil
  | _, _, .cons h1 h2 => .cons (Dp.same s h1) (DpAll.same s h2)
end
theorem rb_dp {g m : Msk} {H : Hp} {v : V} {d : D} {p : PyData} (r : RB K g m H v d) (e : toPy d = some p) : Dp K H v p := by
  rcases r with r | ⟨a, c, rfl, rfl, _, h⟩
  · exact Dp.same cut_le (py_dp r e)
  · cases c with
    | lst xs =>
      obtain ⟨vs, h1, h2⟩ := h
      simp only [Cell.toD, toPy, Option.map_eq_some_iff] at e
      obtain ⟨ps, e, rfl⟩ := e
      exact .lst (.inl (.inl h1)) (DpAll.same cut_le (py_dps h2 e))
    | _ => simp [Cell.toD, toPy] at e
end
mutual
theorem toPy_plain : ∀ {d : D} {p : PyData}, toPy d = some p → p.plain = true
  | .v x, p, e => by
    cases x <;> simp only [toPy, Option.some.injEq, reduceCtorEq] at e <;> subst e <;> rfl
  | .tup xs, p, e => by
    simp only [toPy, Option.map_eq_some_iff] at e
    obtain ⟨ps, e, rfl⟩ := e
    rw [PyData.plain]; exact toPy_plains e
  | .lst xs, p, e => by
    simp only [toPy, Option.map_eq_some_iff] at e
    obtain ⟨ps, e, rfl⟩ := e
    rw [PyData.plain]; exact toPy_plains e
  | .dct _, p, e => by simp [toPy] at e
  | .obj _ _, p, e => by simp [toPy] at e
  | .exc _ _, p, e => by simp [toPy] at e
  | .dtp _, p, e => by simp [toPy] at e
theorem toPy_plains : ∀ {ds : List D} {ps : List PyData}, toPyAll ds = some ps → PyData.plainAll ps = true
  | [], ps, e => by simp only [toPyAll, Option.some.injEq] at e; subst e; rfl
  | d :: ds, ps, e => by
    simp only [toPyAll] at e
    split at e
    · rename_i a b e1 e2
      cases e
      rw [PyData.plainAll, toPy_plain e1, toPy_plains e2]; rfl
    · cases e
end
section
variable {X : Cx}
def rEqP (K : W.Frag) (b : Bool) : R2 := fun x y H Q => ∃ d e, Dp K H x d ∧ Dp K H y e ∧ d.plain = true ∧ e.plain = true ∧ min d.depth e.depth ≤ 60 ∧ Q (.bl (b == PyData.eqv d e)) H
theorem op_eqP (hu : X.A.units + 64 < cLine) : OpR X (compareOp .Eq) (rEqP X.K true) := by
  intro pins s σ H x y v u Q I rx ry ⟨d, e, h1, h2, p1, p2, l, h⟩
  obtain ⟨as, r1⟩ := Dp.reads I d x v h1 rx
  obtain ⟨bs, r2⟩ := Dp.reads I e y u h2 ry
  exact SeqAt.eq_plain r1 r2 p1 p2 (by omega) ⟨.bl _, H, I, rfl, by simpa using h⟩
theorem op_neP (hu : X.A.units + 64 < cLine) : OpR X (compareOp .NotEq) (rEqP X.K false) := by
  intro pins s σ H x y v u Q I rx ry ⟨d, e, h1, h2, p1, p2, l, h⟩
  obtain ⟨as, r1⟩ := Dp.reads I d x v h1 rx
  obtain ⟨bs, r2⟩ := Dp.reads I e y u h2 ry
  have eb : ∀ b : Bool, (false == b) = !b := by decide
  exact SeqAt.ne_plain r1 r2 p1 p2 (by omega) ⟨.bl _, H, I, rfl, by rw [← eb]; exact h⟩
def rInP (K : W.Frag) (b : Bool) : R2 := fun x y H Q => ∃ d es, Dp K H x d ∧ (Dp K H y (.list es) ∨ Dp K H y (.tuple es)) ∧ d.plain = true ∧ PyData.plainAll es = true ∧ min (PyData.depthAll es) d.depth ≤ 60 ∧ Q (.bl (b == es.any fun z => PyData.eqv z d)) H
theorem op_inP (hu : X.A.units + 64 < cLine) : OpR X (compareOp .In) (rInP X.K true) := by
  intro pins s σ H x y v u Q I rx ry ⟨d, es, h1, h2, p1, p2, l, h⟩
  obtain ⟨as, r1⟩ := Dp.reads I d x v h1 rx
  rcases h2 with h2 | h2
  · obtain ⟨bs, r2⟩ := Dp.reads I _ y u h2 ry
    exact SeqAt.in_list_data r2 r1 p2 p1 (by omega) ⟨.bl _, H, I, rfl, by simpa using h⟩
  · obtain ⟨bs, r2⟩ := Dp.reads I _ y u h2 ry
    exact SeqAt.in_tuple_data r2 r1 p2 p1 (by omega) ⟨.bl _, H, I, rfl, by simpa using h⟩
theorem op_notInP (hu : X.A.units + 64 < cLine) : OpR X (compareOp .NotIn) (rInP X.K false) := by
  intro pins s σ H x y v u Q I rx ry ⟨d, es, h1, h2, p1, p2, l, h⟩
  obtain ⟨as, r1⟩ := Dp.reads I d x v h1 rx
  have eb : ∀ b : Bool, (false == b) = !b := by decide
  rcases h2 with h2 | h2
  · obtain ⟨bs, r2⟩ := Dp.reads I _ y u h2 ry
    exact SeqAt.notIn_list_data r2 r1 p2 p1 (by omega) ⟨.bl _, H, I, rfl, by rw [← eb]; exact h⟩
  · obtain ⟨bs, r2⟩ := Dp.reads I _ y u h2 ry
    exact SeqAt.notIn_tuple_data r2 r1 p2 p1 (by omega) ⟨.bl _, H, I, rfl, by rw [← eb]; exact h⟩
end
def eqD (b : Bool) (x y : D) : Option D := match toPy x, toPy y with
  | some d, some e => if min d.depth e.depth ≤ 60 then some (dB (b == PyData.eqv d e)) else none
  | _, _ => none
def inD (b : Bool) (x y : D) : Option D := match toPy x, asSeq y with
  | some d, some ys => (match toPyAll ys with
    | some es => if min (PyData.depthAll es) d.depth ≤ 60 then some (dB (b == es.any fun z => PyData.eqv z d)) else none
    | none => none)
  | _, _ => none
section
variable {K : W.Frag}
theorem p2_eq {b : Bool} : P2 K .s (rEqP K b) (eqD b) := by
  intro g m H v u d c e Q hm r1 r2 he k
  unfold eqD at he
  split at he
  · rename_i p q e1 e2
    split at he
    · rename_i l
      cases he
      exact ⟨p, q, rb_dp r1 e1, rb_dp r2 e2, toPy_plain e1, toPy_plain e2, l, k _ H (Same.refl _) (.v _)⟩
    · cases he
  · cases he
theorem p2_in {b : Bool} : P2 K .s (rInP K b) (inD b) := by
  intro g m H v u d c e Q hm r1 r2 he k
  unfold inD at he
  split at he
  · rename_i p ys e1 e2
    split at he
    · rename_i es e3
      split at he
      · rename_i l
        cases he
        refine ⟨p, es, rb_dp r1 e1, ?_, toPy_plain e1, toPy_plains e3, l, k _ H (Same.refl _) (.v _)⟩
        unfold asSeq at e2
        split at e2
        · cases e2; exact .inl (rb_dp r2 (by simp [toPy, e3]))
        · cases e2; exact .inr (rb_dp r2 (by simp [toPy, e3]))
        · cases e2
      · cases he
    · cases he
  · cases he
def ii (f : Int → Int → Option D) (x y : D) : Option D := match x, y with
  | .v (.int i), .v (.int j) => f i j
  | _, _ => none
theorem ii_ex {f : Int → Int → Option D} {x y : D} {e : D} (h : ii f x y = some e) : ∃ i j, x = dI i ∧ y = dI j ∧ f i j = some e := by
  unfold ii at h
  split at h
  · exact ⟨_, _, rfl, rfl, h⟩
  · cases h
theorem p2_rI0 {g : Int → Int → V} : P2 K .s (rI0 g) (ii fun i j => some (.v (g i j))) := by
  intro g' m H v u d c e Q hm r1 r2 he k
  obtain ⟨i, j, rfl, rfl, q⟩ := ii_ex he
  cases q
  exact ⟨i, j, RBo.sc r1, RBo.sc r2, k _ H (Same.refl _) (.v _)⟩
theorem p2_rI {C : Int → Int → Prop} {Cb : Int → Int → Bool} {g : Int → Int → V} (hc : ∀ i j, Cb i j = true → C i j) : P2 K .s (rI C g) (ii fun i j => if Cb i j = true then some (.v (g i j)) else none) := by
  intro g' m H v u d c e Q hm r1 r2 he k
  obtain ⟨i, j, rfl, rfl, q⟩ := ii_ex he
  split at q
  · rename_i z
    cases q
    exact ⟨i, j, RBo.sc r1, RBo.sc r2, hc i j z, k _ H (Same.refl _) (.v _)⟩
  · cases q
def powB (i j : Int) : Bool := decide (0 ≤ j) && decide (j ≤ 1000000) && decide (i.natAbs < 2 ^ 64)
theorem powB_ok : ∀ i j, powB i j = true → CPow i j := fun i j h => by
  simp only [powB, Bool.and_eq_true, decide_eq_true_eq] at h
  exact ⟨h.1.1, h.1.2, h.2⟩
theorem p2_pow : P2 K .s (rI CPow fun i j => .int (i ^ j.toNat)) (ii fun i j => if powB i j = true then some (dI (i ^ j.toNat)) else none) := p2_rI powB_ok
def rAddD (K : W.Frag) : R2 := fun x y H Q => rAddU x y H Q ∨ rCatA K x y H Q
theorem op_addD {X : Cx} : OpR X (binaryOp .Add) (rAddD X.K) := OpR.or op_addU op_catA
def addD (x y : D) : Option D := match x, y with
  | .v (.int i), .v (.int j) => some (dI (i + j))
  | .v (.str a), .v (.str b) => if a.length + b.length ≤ sizeLine then some (dS (a ++ b)) else none
  | .lst xs, .lst ys => if xs.length + ys.length ≤ sizeLine then some (.lst (xs ++ ys)) else none
  | .tup xs, .tup ys => if xs.length + ys.length ≤ sizeLine then some (.tup (xs ++ ys)) else none
  | _, _ => none
def addL (x y : D) : Option D := match x, y with
  | .lst xs, .lst ys => if xs.length + ys.length ≤ sizeLine then some (.lst (xs ++ ys)) else none
  | _, _ => none
theorem p2_addL : P2 K .f (rAddD K) addL := by
  intro g m H v u d c e Q hm r1 r2 he k
  unfold addL at he
  split at he
  · rename_i xs ys
    split at he
    · rename_i l
      cases he
      obtain ⟨a, ws, rfl, h1, q1⟩ := RBo.lst r1
      obtain ⟨b, us, rfl, h2, q2⟩ := RBo.lst r2
      exact .inl (.inr (.inr ⟨a, b, ws, us, rfl, rfl, h1, h2, by rw [RAll.len q1, RAll.len q2]; exact l, fun p hp => k _ _ (same_upd hp) (lay_lst hm hp (q1.app q2))⟩))
    · cases he
  · cases he
theorem p2_add : P2 K .s (rAddD K) addD := by
  intro g m H v u d c e Q hm r1 r2 he k
  unfold addD at he
  split at he
  · cases he
    exact .inl (.inl ⟨_, _, RBo.sc r1, RBo.sc r2, k _ H (Same.refl _) (.v _)⟩)
  · split at he
    · rename_i l
      cases he
      exact .inl (.inr (.inl ⟨_, _, RBo.sc r1, RBo.sc r2, l, k _ H (Same.refl _) (.v _)⟩))
    · cases he
  · rename_i xs ys
    exact p2_addL (e := e) hm r1 r2 he fun v' H' s r => k v' H' s (RF.strict hm r)
  · rename_i xs ys
    split at he
    · rename_i l
      cases he
      obtain ⟨a, ws, rfl, h1, q1⟩ := RBo.tup r1
      obtain ⟨b, us, rfl, h2, q2⟩ := RBo.tup r2
      have strict : ∀ {a : Addr} {ds : List D}, RB K g m H (.ref a) (.tup ds) → R K (cut m H) (.ref a) (.tup ds) := fun r => by
        rcases r with r | ⟨_, c, _, e, _⟩
        · exact r
        · cases c <;> cases e
      refine .inr ⟨a, b, ws, us, rfl, rfl, h1, h2, by rw [RAll.len q1, RAll.len q2]; exact l, fun z => ?_, fun _ z => ?_, fun _ _ p hp => k _ _ (same_upd hp) (lay_tup hm hp (q1.app q2))⟩
      · have : xs = [] := by
          have := RAll.len q1
          rw [z] at this
          exact List.eq_nil_of_length_eq_zero this.symm
        subst this
        exact k _ H (Same.refl _) (strict r2)
      · have : ys = [] := by
          have := RAll.len q2
          rw [z] at this
          exact List.eq_nil_of_length_eq_zero this.symm
        subst this
        exact k _ H (Same.refl _) (by rw [List.append_nil]; exact strict r1)
    · cases he
  · cases he
def rCmpD (p : Int → Int → Bool) (q : List Nat → List Nat → Bool) : R2 := fun x y H Q => (∃ i j, x = .int i ∧ y = .int j ∧ Q (.bl (p i j)) H) ∨ (∃ i j, x = .str i ∧ y = .str j ∧ Q (.bl (q i.cps.toList j.cps.toList)) H)
abbrev rLtD := rCmpD (fun i j => decide (i < j)) (fun i j => decide (i < j))
abbrev rLeD := rCmpD (fun i j => decide (i ≤ j)) (fun i j => !decide (j < i))
abbrev rGtD := rCmpD (fun i j => decide (j < i)) (fun i j => decide (j < i))
theorem op_ltD {X : Cx} : OpR X (compareOp .Lt) rLtD := OpR.or op_lt op_lt_str
theorem op_leD {X : Cx} : OpR X (compareOp .LtE) rLeD := OpR.or op_le op_le_str
theorem op_gtD {X : Cx} : OpR X (compareOp .Gt) rGtD := OpR.or op_gt op_gt_str
def cmpD (p : Int → Int → Bool) (q : List Nat → List Nat → Bool) (x y : D) : Option D := match x, y with
  | .v (.int i), .v (.int j) => some (dB (p i j))
  | .v (.str i), .v (.str j) => some (dB (q i.cps.toList j.cps.toList))
  | _, _ => none
theorem p2_cmp {p : Int → Int → Bool} {q : List Nat → List Nat → Bool} : P2 K .s (rCmpD p q) (cmpD p q) := by
  intro g m H v u d c e Q hm r1 r2 he k
  unfold cmpD at he
  split at he
  · cases he; exact .inl ⟨_, _, RBo.sc r1, RBo.sc r2, k _ H (Same.refl _) (.v _)⟩
  · cases he; exact .inr ⟨_, _, RBo.sc r1, RBo.sc r2, k _ H (Same.refl _) (.v _)⟩
  · cases he
def isD (b : Bool) (x y : D) : Option D := match y with
  | .v .non => (match x with
    | .v z => some (dB (b == decide (z = .non)))
    | _ => some (dB (b == false)))
  | .v (.bl c) => (match x with
    | .v (.bl a) => some (dB (b == decide (a = c)))
    | _ => none)
  | _ => none
def rIs (b : Bool) : R2 := fun x y H Q => (y = .non ∧ Q (.bl (b == decide (x = .non))) H) ∨ (∃ a c, x = .bl a ∧ y = .bl c ∧ Q (.bl (b == decide (a = c))) H)
theorem op_isD {X : Cx} : OpR X (compareOp .Is) (rIs true) := by
  intro pins s σ H x y v u Q I rx ry h
  rcases h with ⟨h1, h⟩ | ⟨a, c, h1, h2, h⟩
  · exact op_isN pins s σ H x y v u Q I rx ry ⟨h1, by simpa using h⟩
  · exact op_is_bl pins s σ H x y v u Q I rx ry ⟨a, c, h1, h2, by simpa using h⟩
theorem op_isNotD {X : Cx} : OpR X (compareOp .IsNot) (rIs false) := by
  intro pins s σ H x y v u Q I rx ry h
  have eb : ∀ b : Bool, (false == b) = !b := by decide
  rcases h with ⟨h1, h⟩ | ⟨a, c, h1, h2, h⟩
  · exact op_notN pins s σ H x y v u Q I rx ry ⟨h1, by rw [← eb]; exact h⟩
  · exact op_isnot_bl pins s σ H x y v u Q I rx ry ⟨a, c, h1, h2, by rw [← eb]; exact h⟩
theorem rb_ref {g m : Msk} {H : Hp} {v : V} {d : D} (r : RB K g m H v d) (h : ∀ x, d ≠ .v x) : v ≠ .non := by
  rcases r with r | ⟨a, c, rfl, _⟩
  · cases r with
    | v x => exact absurd rfl (h _)
    | _ => exact fun z => by cases z
  · exact fun z => by cases z
theorem p2_is {b : Bool} : P2 K .s (rIs b) (isD b) := by
  intro g m H v u d c e Q hm r1 r2 he k
  unfold isD at he
  split at he
  · obtain rfl := RBo.sc r2
    split at he
    · cases he
      obtain rfl := RBo.sc r1
      exact .inl ⟨rfl, k _ H (Same.refl _) (.v _)⟩
    · rename_i n
      cases he
      refine .inl ⟨rfl, ?_⟩
      rw [decide_eq_false (rb_ref r1 fun x z => n x z)]
      exact k _ H (Same.refl _) (.v _)
  · obtain rfl := RBo.sc r2
    split at he
    · cases he
      obtain rfl := RBo.sc r1
      exact .inr ⟨_, _, rfl, rfl, k _ H (Same.refl _) (.v _)⟩
    · cases he
  · cases he
def ixD (x y : D) : Option D := match x, y with
  | .lst xs, .v (.int i) => atI xs i
  | .tup xs, .v (.int i) => atI xs i
  | .v (.str z), .v (.int i) => if z.length ≤ sizeLine then (atI z.cps.toList i).map fun c => dS ⟨#[c]⟩ else none
  | _, _ => none
theorem atI_rel {G : Hp} {xs : List V} {ds : List D} {i : Int} {d : D} (r : RAll K G xs ds) (e : atI ds i = some d) : ∃ v, atI xs i = some v ∧ R K G v d := by
  unfold atI at e ⊢
  rw [RAll.len r]
  cases q : ixN ds.length i with
  | none => rw [q] at e; cases e
  | some j => rw [q] at e; exact RAll.getD r e
theorem p2_ix : P2 K .s (rIx K) ixD := by
  intro g m H v u d c e Q hm r1 r2 he k
  unfold ixD at he
  split at he
  · obtain ⟨a, ws, rfl, h1, q1⟩ := RBo.lst r1
    obtain ⟨v, e1, rv⟩ := atI_rel q1 he
    exact .inl ⟨a, ws, _, v, rfl, RBo.sc r2, .inl (.inl h1), e1, k _ H (Same.refl _) rv⟩
  · obtain ⟨a, ws, rfl, h1, q1⟩ := RBo.tup r1
    obtain ⟨v, e1, rv⟩ := atI_rel q1 he
    exact .inr (.inl ⟨a, ws, _, v, rfl, RBo.sc r2, h1, e1, k _ H (Same.refl _) rv⟩)
  · split at he
    · rename_i l
      rw [Option.map_eq_some_iff] at he
      obtain ⟨c, e1, rfl⟩ := he
      exact .inr (.inr ⟨_, _, c, RBo.sc r1, RBo.sc r2, l, e1, k _ H (Same.refl _) (.v _)⟩)
    · cases he
  · cases he
def lenD (x : D) : Option D := match x with
  | .lst xs => some (dI xs.length)
  | .tup xs => some (dI xs.length)
  | .v (.str z) => if z.length ≤ sizeLine then some (dI z.length) else none
  | _ => none
def rLenD (K : W.Frag) : List V → Hp → VK → Prop := fun xs H Q => rLen1 K xs H Q ∨ ∃ z : Str, xs = [.str z] ∧ z.length ≤ sizeLine ∧ Q (.int z.length) H
theorem c_lenD {X : Cx} : CallR X (.builtin "len") (rLenD X.K) := by
  intro pins s σ H xs us Q I r h
  rcases h with h | h
  · exact c_len pins s σ H xs us Q I r h
  · exact call_len_str pins s σ H xs us Q I r h
theorem p1_len : P1 K .s (fun v => rLenD K [v]) lenD := by
  intro g m H v d e Q hm r he k
  unfold lenD at he
  split at he
  · cases he
    obtain ⟨a, ws, rfl, h1, q1⟩ := RBo.lst r
    exact .inl ⟨a, ws, rfl, .inl (.inl (.inl h1)), by rw [RAll.len q1]; exact k _ H (Same.refl _) (.v _)⟩
  · cases he
    obtain ⟨a, ws, rfl, h1, q1⟩ := RBo.tup r
    exact .inl ⟨a, ws, rfl, .inr h1, by rw [RAll.len q1]; exact k _ H (Same.refl _) (.v _)⟩
  · split at he
    · rename_i l
      cases he
      exact .inr ⟨_, by rw [RBo.sc r], l, k _ H (Same.refl _) (.v _)⟩
    · cases he
  · cases he
def listD (x : D) : Option D := (asSeq x).map .lst
theorem p1_list : P1 K .f (fun v => rList1 K [v]) listD := by
  intro g m H v d e Q hm r he k
  unfold listD asSeq at he
  split at he
  · cases he
    obtain ⟨a, ws, rfl, h1, q1⟩ := RBo.lst r
    exact ⟨a, ws, rfl, .inl (.inl (.inl h1)), fun l hl => k _ _ (same_upd hl) (lay_lst hm hl q1)⟩
  · cases he
    obtain ⟨a, ws, rfl, h1, q1⟩ := RBo.tup r
    exact ⟨a, ws, rfl, .inr h1, fun l hl => k _ _ (same_upd hl) (lay_lst hm hl q1)⟩
  · cases he
def tyD : D → Option String
  | .v .non => some "NoneType"
  | .v (.bl _) => some "bool"
  | .v (.int _) => some "int"
  | .v (.str _) => some "str"
  | .tup _ => some "tuple"
  | .lst _ => some "list"
  | .dct _ => some "dict"
  | _ => none
def isTab (a b : String) : Bool := a == b || (a == "bool" && b == "int")
def tyNames : List String := ["NoneType", "bool", "int", "str", "tuple", "list", "dict"]
theorem kit_tab : ∀ a ∈ tyNames, ∀ b ∈ tyNames.drop 1, kitB a b = some (isTab a b) := by decide +kernel
theorem tyD_mem {d : D} {a : String} (h : tyD d = some a) : a ∈ tyNames := by
  unfold tyD at h
  split at h <;> first | (cases h; decide) | cases h
def isiD (x y : D) : Option D := match y with
  | .v (.ty b) => if b ∈ tyNames.drop 1 then (tyD x).map fun a => dB (isTab a b) else none
  | _ => none
theorem rb_ty {g m : Msk} {H : Hp} {v : V} {d : D} {a : String} (r : RB K g m H v d) (h : tyD d = some a) : TyX K H v (.type a) := by
  unfold tyD at h
  split at h
  · cases h; rw [RBo.sc r]; exact .base .non
  · cases h; rw [RBo.sc r]; exact .base (.bl _)
  · cases h; rw [RBo.sc r]; exact .base (.int _)
  · cases h; rw [RBo.sc r]; exact .base (.str _)
  · cases h
    obtain ⟨b, ws, rfl, h1, _⟩ := RBo.tup r
    rcases h1 with (h1 | ⟨o, h1⟩) | ⟨o, its, n, h1, h2, h3, _⟩
    · exact .base (.tup h1)
    · exact .fTuple h1
    · exact .kTuple h1 h2
  · cases h
    obtain ⟨b, ws, rfl, h1, _⟩ := RBo.lst r
    exact .base (.lst h1)
  · cases h
    obtain ⟨b, ws, rfl, h1, _⟩ := RBo.dct r
    exact .base (.dK h1)
  · cases h
theorem p2_isi : P2 K .s (fun v u => rIsA K [v, u]) isiD := by
  intro g m H v u d c e Q hm r1 r2 he k
  unfold isiD at he
  split at he
  · rename_i b
    obtain rfl := RBo.sc r2
    split at he
    · rename_i hb
      rw [Option.map_eq_some_iff] at he
      obtain ⟨a, ea, rfl⟩ := he
      exact .inl ⟨v, .ty b, .type a, .type b, isTab a b, rfl, .ty b, rb_ty r1 ea, kit_ty (kit_tab a (tyD_mem ea) b hb), k _ H (Same.refl _) (.v _)⟩
    · cases he
  · cases he
end
end L2.DL
namespace L2.DL
open L2 L2.My PySem PySem.Spec PyProof.Rows
theorem passF {X : Cx} : Passes (L2.CX X.prog X.w) X E0 := fun pins σ H s e s' I ⟨a, B, H', cls, d, _, _, _, _, _, _, _, q⟩ => q.elim
theorem passX {X : Cx} {E : XK} (tk : Takes X (fun cls d _ H => E cls d H)) : Passes (L2.CX X.prog X.w) X E := passes_call tk (fun _ _ _ _ h => h)
/-- a constant of the module -/
structure KnA (mg : Str → Option Value) (x : Str) (v : V) : Prop where
  ex : ∃ u, mg x = some u ∧ RelV v u
theorem pe_k {X : Cx} {x : Str} {v : V} {pos : Pos} (h : KnA X.mg x v) (hg : Gl X x) (hd : (x == ("__debug__" : Str)) = false := by decide) : PE X (.Name x pos) (tC v) := by
  obtain ⟨u, h1, h2⟩ := h.ex
  exact pe_glob hg h1 h2 hd
section
variable {K : W.Frag}
theorem P2.lend {r : R2} {f : D → D → Option D} (h : P2 K .s r f) : P2 K .b r f := fun hm r1 r2 e k => h hm r1 r2 e fun v' H' s q => k v' H' s (.inl q)
variable {S : Type} {Γ : Fr S} {E : XK} {mo : Mo} {ta tb tc : TE} {A B C : TX S}
theorem ln_andM (hmo : mo ≠ .f) (ha : Ln Γ K E .b ta A) (hb : Ln Γ K E mo tb B) : Ln Γ K E mo (tAndV ta tb) (xAnd A B) := by
  intro M α σ H ρ s ok st QD QX Q q k kx
  refine ha ok st _ QX _ q (fun vx H1 x s1 p1 st1 rx q1 => ?_) kx
  obtain ⟨c, e, q2⟩ := opt_ex q1
  obtain rfl := asB_sc rx e
  refine ⟨c, rfl, ?_⟩
  cases c with
  | true =>
    rw [if_pos rfl] at q2 ⊢
    exact hb (ok.step p1) st1 QD QX _ q2 (fun v H' d s' p st' r z => k v H' d s' (p1.trans p) st' (r.from p1.trk) z) (fun c dx H' x s' p st' r z => kx c dx H' x s' (p1.trans p) st' r z)
  | false =>
    rw [if_neg (by decide)] at q2 ⊢
    refine k _ H1 _ s1 p1 st1 ?_ q2
    cases mo with
    | b => exact .inl (.v _)
    | s => exact .v _
    | f => exact absurd rfl hmo
def asBs : List D → Option (List Bool)
  | [] => some []
  | .v (.bl b) :: r => (asBs r).map (b :: ·)
  | _ => none
theorem asBs_rel {G : Hp} : ∀ {ds : List D} {vs : List V} {bs : List Bool}, RAll K G vs ds → asBs ds = some bs → vs = bs.map V.bl
  | [], _, _, .nil, e => by simp only [asBs, Option.some.injEq] at e; subst e; rfl
  | d :: r, _, bs, .cons h1 h2, e => by
    cases d with
    | v x =>
      cases x with
      | bl b =>
        simp only [asBs, Option.map_eq_some_iff] at e
        obtain ⟨cs, e, rfl⟩ := e
        cases h1
        rw [asBs_rel h2 e]
        rfl
      | _ => simp [asBs] at e
    | _ => simp [asBs] at e
def asIs : List D → Option (List Int)
  | [] => some []
  | .v (.int b) :: r => (asIs r).map (b :: ·)
  | _ => none
theorem asIs_rel {G : Hp} : ∀ {ds : List D} {vs : List V} {bs : List Int}, RAll K G vs ds → asIs ds = some bs → vs = bs.map V.int
  | [], _, _, .nil, e => by simp only [asIs, Option.some.injEq] at e; subst e; rfl
  | d :: r, _, bs, .cons h1 h2, e => by
    cases d with
    | v x =>
      cases x with
      | int b =>
        simp only [asIs, Option.map_eq_some_iff] at e
        obtain ⟨cs, e, rfl⟩ := e
        cases h1
        rw [asIs_rel h2 e]
        rfl
      | _ => simp [asIs] at e
    | _ => simp [asIs] at e
theorem asBs_map (bs : List Bool) : asBs (bs.map dB) = some bs := by
  induction bs with
  | nil => rfl
  | cons b r ih => simp [asBs, ih]
def allD (x : D) : Option D := match x with
  | .lst xs => (asBs xs).map fun bs => dB (bs.all id)
  | _ => none
theorem p1_all : P1 K .s (fun v => rAll K [v]) allD := by
  intro g m H v d e Q hm r he k
  unfold allD at he
  split at he
  · obtain ⟨a, ws, rfl, h1, q1⟩ := RBo.lst r
    rw [Option.map_eq_some_iff] at he
    obtain ⟨bs, e1, rfl⟩ := he
    have := asBs_rel q1 e1
    subst this
    exact ⟨a, bs, rfl, .inl (.inl h1), k _ H (Same.refl _) (.v _)⟩
  · cases he
def tupD (x : D) : Option D := (asSeq x).map .tup
theorem rb_strict {g m : Msk} {H : Hp} {v : V} {d : D} (r : RB K g m H v d) (h1 : ∀ c : Cell, d ≠ c.toD) : R K (cut m H) v d := by
  rcases r with r | ⟨_, c, _, e, _⟩
  · exact r
  · exact absurd e (h1 _)
theorem p1_tup : P1 K .s (fun v H Q => ∃ p ys, [v] = [V.ref p] ∧ ((SqL K H p ys ∧ ∀ l, H l = none → Q (.ref l) (upd H l (.tup ys))) ∨ (SqT K H p ys ∧ Q (.ref p) H))) tupD := by
  intro g m H v d e Q hm r he k
  unfold tupD asSeq at he
  split at he
  · cases he
    obtain ⟨a, ws, rfl, h1, q1⟩ := RBo.lst r
    exact ⟨a, ws, rfl, .inl ⟨.inl (.inl h1), fun l hl => k _ _ (same_upd hl) (lay_tup hm hl q1)⟩⟩
  · cases he
    have rs := rb_strict r (fun c z => by cases c <;> cases z)
    obtain ⟨a, ws, rfl, h1, q1⟩ := RBo.tup r
    exact ⟨a, ws, rfl, .inr ⟨h1, k _ H (Same.refl _) rs⟩⟩
  · cases he
abbrev TOx (S : Type) := Env → S → (Option Int → S → Prop) → (Exn → S → Prop) → Prop
def LnO (Γ : Fr S) (K : W.Frag) (E : XK) (t : TO) (T : TOx S) : Prop :=
  ∀ {M : Msk} {α : Nat → Addr} {σ : St} {H : Hp} {ρ : Env} {s : S}, Ok Γ K M α σ H ρ → Γ.st s H → ∀ (QD : Option Int → S → Prop) (QX : Exn → S → Prop) (Q : Option Int → Hp → Prop), T ρ s QD QX →
    (∀ b H' s', Stp Γ H H' → Γ.st s' H' → QD b s' → Q b H') →
    (∀ c dx H' x s', Stp Γ H H' → Γ.st s' H' → XR K (mask M α ρ) H' c dx x → QX x s' → E c dx H') → t σ H Q
def oNone : TOx S := fun _ s Q _ => Q none s
def oSome (A : TX S) : TOx S := fun ρ s Q X => A ρ s (fun d s1 => opt (asI d) fun i => Q (some i) s1) X
theorem lo_none : LnO Γ K E tNoPart oNone := fun {_ _ _ H _ s} _ st _ _ _ q k _ => k none H s .refl st q
theorem lo_some (ha : Ln Γ K E .b ta A) : LnO Γ K E (tPart ta) (oSome A) := by
  intro M α σ H ρ s ok st QD QX Q q k kx
  refine ha ok st _ QX _ q (fun v H' d s' p st' r z => ?_) kx
  obtain ⟨i, e, z⟩ := opt_ex z
  obtain rfl := asI_sc r e
  exact ⟨i, rfl, k _ H' s' p st' z⟩
def cutL {β : Type} (xs : List β) (lo hi : Option Int) : List β := (xs.drop (HT.sIx xs.length 0 lo)).take (HT.sIx xs.length xs.length hi - HT.sIx xs.length 0 lo)
def slD (x : D) (lo hi : Option Int) : Option D := match x with
  | .lst xs => some (.lst (cutL xs lo hi))
  | .tup xs => some (.tup (cutL xs lo hi))
  | .v (.str z) => if z.length ≤ sizeLine then some (dS (cutS z lo hi)) else none
  | _ => none
def slL (x : D) (lo hi : Option Int) : Option D := match x with
  | .lst xs => some (.lst (cutL xs lo hi))
  | _ => none
def rSlD (K : W.Frag) : V → Option Int → Option Int → Hp → VK → Prop := fun x lo hi H Q => rSlL K x lo hi H Q ∨ (rSlA K x lo hi H Q ∨ rSlS x lo hi H Q)
theorem sl_D {X : Cx} : SlR X (rSlD X.K) := SlR.or sl_list (SlR.or sl_tupA sl_str)
def xSl (f : D → Option Int → Option Int → Option D) (A : TX S) (L U : TOx S) : TX S := fun ρ s Q X => A ρ s (fun x s1 => L ρ s1 (fun lo s2 => U ρ s2 (fun hi s3 => opt (f x lo hi) fun d => Q d s3) X) X) X
def PS3 (K : W.Frag) (mo : Mo) (r : V → Option Int → Option Int → Hp → VK → Prop) (f : D → Option Int → Option Int → Option D) : Prop :=
  ∀ {g m : Msk} {H : Hp} {v : V} {d e : D} {lo hi : Option Int} {Q : VK}, (∀ a, m a → H a ≠ none) → RB K g m H v d → f d lo hi = some e → (∀ v' H', Same H H' → RR K g mo m H H' v' e → Q v' H') → r v lo hi H Q
theorem ln_sl {r : V → Option Int → Option Int → Hp → VK → Prop} {f : D → Option Int → Option Int → Option D} {tl th : TO} {L U : TOx S} (ha : Ln Γ K E .b ta A) (hl : LnO Γ K E tl L) (hh : LnO Γ K E th U) (hr : PS3 K mo r f) : Ln Γ K E mo (tSl r ta tl th) (xSl f A L U) := by
  intro M α σ H ρ s ok st QD QX Q q k kx
  refine ha ok st _ QX _ q (fun vx H1 x s1 p1 st1 rx q1 => ?_) kx
  refine hl (ok.step p1) st1 _ QX _ q1 (fun lo H2 s2 p2 st2 q2 => ?_) (fun c dx H' x s' p st' r z => kx c dx H' x s' (p1.trans p) st' r z)
  have p := p1.trans p2
  refine hh (ok.step p) st2 _ QX _ q2 (fun hi H3 s3 p3 st3 q3 => ?_) (fun c dx H' x s' p' st' r z => kx c dx H' x s' (p.trans p') st' r z)
  obtain ⟨d, e, q4⟩ := opt_ex q3
  have p' := p.trans p3
  have ok3 := ok.step p'
  exact hr ok3.mtrk (RBo.step ok.msub (p2.trans p3).keep rx) e fun v' H' sm r' => k v' H' d s3 (p'.trans (Stp.of sm)) (Fr.same ok3.frt sm st3) (r'.from p'.trk) q4
theorem RAll.cut {G : Hp} {vs : List V} {ds : List D} (h : RAll K G vs ds) (lo hi : Option Int) : RAll K G (cutV vs lo hi) (cutL ds lo hi) := by
  unfold cutV cutL
  rw [RAll.len h]
  exact RAll.take _ (RAll.drop _ h)
theorem p3_slL : PS3 K .f (rSlD K) slL := by
  intro g m H v d e lo hi Q hm r he k
  unfold slL at he
  split at he
  · cases he
    obtain ⟨a, ws, rfl, h1, q1⟩ := RBo.lst r
    exact .inl ⟨a, ws, rfl, .inl (.inl h1), fun p hp => k _ _ (same_upd hp) (lay_lst hm hp (q1.cut lo hi))⟩
  · cases he
theorem p3_sl : PS3 K .s (rSlD K) slD := by
  intro g m H v d e lo hi Q hm r he k
  unfold slD at he
  split at he
  · exact p3_slL (e := e) hm r he fun v' H' s r => k v' H' s (RF.strict hm r)
  · rename_i xs
    cases he
    have rs := rb_strict r (fun c z => by cases c <;> cases z)
    obtain ⟨a, ws, rfl, h1, q1⟩ := RBo.tup r
    refine .inr (.inl ⟨a, ws, rfl, h1, fun z => ?_, fun _ p hp => k _ _ (same_upd hp) (lay_tup hm hp (q1.cut lo hi))⟩)
    have ec : cutL xs lo hi = xs := by
      rw [RAll.len q1] at z
      unfold cutL
      rw [z.1, z.2]
      simp
    exact k _ H (Same.refl _) (by rw [ec]; exact rs)
  · split at he
    · rename_i l
      cases he
      exact .inr (.inr ⟨_, RBo.sc r, l, k _ H (Same.refl _) (.v _)⟩)
    · cases he
  · cases he
end
end L2.DL
namespace L2.DL
open L2 L2.My PySem PySem.Spec PyProof.Rows
theorem FnG.any {P : Program} {w : World} {K : W.Frag} {mg : Str → Option Value} {base : Heap} {CX : CXT} {k : Nat} {f : Addr} {fd : FuncData} {ps : List Str} {sp : Sp} (F : FnG P w K mg base CX0 k f fd ps sp) : FnG P w K mg base CX k f fd ps sp := by
  refine ⟨F.many, fun A outer s H args us vs Q E hr hq he hb hv hs => codeAny_mono (F.runs A outer s H args us vs Q E hr hq he hb hv hs) ?_⟩
  intro r s' h
  match r, h with
  | .ok (.ret u), h => exact h
  | .ok .next, h => exact h
  | .ok .brk, h => exact h
  | .ok .cont, h => exact h
  | .error e, h => exact False.elim h
theorem CalG.any {P : Program} {w : World} {K : W.Frag} {mg : Str → Option Value} {base : Heap} {CX : CXT} {k : Nat} {x : Str} {sp : Sp} (c : CalG P w K mg base CX0 k x sp) : CalG P w K mg base CX k x sp := by
  obtain ⟨f, fd, ps, F, r⟩ := c.ex
  exact ⟨f, fd, ps, FnG.any F, r⟩
def penFr (p q : Addr) (ns : List Int) : Fr Nat where
  M := fun a => a = p ∨ a = q
  st := fun n H => ∃ big, PenAt H p q ns n big
  loc := fun h ⟨b, e⟩ => ⟨b, by rw [h _ (.inl rfl)]; exact e.pen, by rw [h _ (.inr rfl)]; exact e.cells, e.a0, e.a1, e.b0⟩
section
variable {K : W.Frag} {E : XK} {p q : Addr} {ns : List Int} {tl : TA} {L : TL Nat} {os : List Mo}
theorem pen_next {n : Nat} {H H' : Hp} {big a2 b2 : Int} (h : PenAt H p q ns n big) (b : But H H' p) (e : H' p = some (.lst [.ref q, .int a2, .int b2])) (h1 : (n : Int) ≤ a2) (h2 : a2 ≤ 100000) (h3 : 0 ≤ b2) : Stp (penFr p q ns) H H' ∧ (penFr p q ns).st a2.toNat H' := by
  refine ⟨⟨fun a o n e => b a o (fun z => n (.inl z)) e, fun a z => ?_⟩, b2, ?_⟩
  · by_cases ne : a = p
    · rw [ne, e]; exact fun z => by cases z
    · cases q : H a with
      | none => exact absurd q z
      | some o => rw [b a o ne q]; exact fun z => by cases z
  · have := h.next b e h1 h2 h3
    have e2 : ((a2.toNat : Nat) : Int) = a2 := Int.toNat_of_nonneg (by omega)
    rw [e2]
    exact this
/-- what a draw gives -/
def xDraw (p : Addr) (L : TL Nat) : TX Nat := fun ρ n Q X => L ρ n (fun ds n1 => match ds with
  | [.v (.ref p'), .v (.int many)] => p' = p ∧ 0 < many ∧ many.natAbs < 2 ^ 200 ∧ n1 < 100000 ∧ ∀ (d : Int) (n2 : Nat), 0 ≤ d → d < many → n1 ≤ n2 → n2 ≤ n1 + 1 → Q (dI d) n2
  | _ => False) X
theorem ln_draw (h : LnA (penFr p q ns) K E [.b, .b] tl L) : Ln (penFr p q ns) K E .s (tCall spDraw [] E tl) (xDraw p L) := by
  intro M α σ H ρ s ok st QD QX Q z k kx
  refine h ok st _ QX _ z (fun vs H1 ds n1 p1 st1 r z => ?_) kx
  split at z
  · rename_i p' many
    obtain ⟨rfl, z1, z2, z3, z⟩ := z
    obtain ⟨l1, l2⟩ := ARel.len r
    obtain ⟨v, w, rfl⟩ := two l1
    obtain ⟨r1, r2, _⟩ := r
    have e1 := RBo.sc r1
    have e2 := RBo.sc r2
    subst e1 e2
    obtain ⟨big, pen⟩ := st1
    show spDraw ([V.ref p', V.int many] ++ []) H1 Q E
    refine ⟨p', q, ns, n1, big, many, rfl, z1, z2, pen, by omega, fun d a2 b2 H' h0 h1 h2 h3 h4 b e => ?_⟩
    obtain ⟨p2, st2⟩ := pen_next pen b e h2 (by omega) h4
    exact k _ H' _ a2.toNat (p1.trans p2) st2 (.v _) (z d a2.toNat h0 h1 (by omega) (by omega))
  · exact z.elim
/-- a def that draws at most k times: what it gives -/
def spP (K : W.Frag) (os : List Mo) (Pre : List D → Prop) (k : List D → Nat) (Post : List D → D → Prop) : Sp := fun vs H Q _ => ∃ (p q : Addr) (ns : List Int) (M : Msk) (n : Nat) (ds : List D), (∀ a, (penFr p q ns).M a → M a) ∧ (∀ a, M a → H a ≠ none) ∧
  ARel K (penFr p q ns).M (.b :: os) M H H vs (.v (.ref p) :: ds) ∧ (penFr p q ns).st n H ∧ n + k ds ≤ 100000 ∧ Pre ds ∧
  ∀ (d : D) (n' : Nat) (v : V) (H' : Hp), Stp (penFr p q ns) H H' → (penFr p q ns).st n' H' → n ≤ n' → n' ≤ n + k ds → R K (cut M H') v d → Post ds d → Q v H'
end
end L2.DL
namespace L2.DL
open L2 L2.My NdefX PySem PySem.Spec PyProof.Rows
abbrev supFn (name qual : Str) (st : Stmt) (kV doc pm : Value) (an : Option Addr) (cdv ct : Value) (cc : Addr) : FuncData := W.ksFn name qual (defArgs st) (defBody st) (defScope st) .none kV doc pm an cdv ct cc
/-- a method of the text whose class is captured -/
structure FunS (P : Program) (K : W.Frag) (x qual : Str) (st : Stmt) (f : Addr) (fd : FuncData) (c cc Dc : Addr) : Prop where
  ex : ∃ (oc : Value) (od : Option Addr) (kV doc pm : Value) (an : Option Addr) (ct : Value) (osl : Array (Option Value)),
    fd = supFn x qual st kV doc pm an (.ref c) ct cc ∧ K.lookup f = some ⟨oc, od, .func fd, osl⟩ ∧ W.codeIn K (.ref c) qual = true
  kp : W.keepIn K (.ref f) = true
  cell : ∃ (cl : Value) (cld : Option Addr) (csl : Array (Option Value)), K.lookup cc = some ⟨cl, cld, .cell (some (.ref Dc)), csl⟩
  file : ∃ (ccl : Value) (cdd : Option Addr) (vs : Array Value) (ccs : Array (Option Value)) (fl : Str) (tf : Tok), K.lookup c = some ⟨ccl, cdd, .fields vs, ccs⟩ ∧ vs[2]? = some (.str fl tf) ∧ ((P.main.file : Str) == fl) = true
  top : (P.main.scope.names.lookup ("super" : Str)).isSome = false
  cls : ∃ cd, W.clsIn K Dc = some cd
def nfS (x qual : Str) (st : Stmt) (c cc : Addr) : NF := ⟨x, qual, defArgs st, defBody st, defScope st, [("__class__", cc)], c⟩
theorem body_super {P : Program} {w : World} {K : W.Frag} {mg : Str → Option Value} {base : Heap} {CX : CXT} {x qual : Str} {st : Stmt} {f : Addr} {fd : FuncData} {c cc Dc : Addr} {N ps : List Str} {self : Str} {k : Nat} {sp : Sp} {e : Expr} {es : List Expr} {rest : List Stmt} {p0 p1 apos pos pos2 : Pos} {ar : Arg}
    (Fd : FunS P K x qual st f fd c cc Dc) (Sc : NScope N (self :: ps) ["__class__"] (defScope st)) (hst : defBody st = .Expr (.Call (.Attribute (.Call (.Name "super" p0) [] [] p1) "__init__" apos) (e :: es) [] pos) pos2 :: rest)
    (hpar : ((defArgs st).posonlyargs ++ (defArgs st).args).head? = some ar) (har : ar.arg = self) (hks : (defScope st).names.lookup ("super" : Str) = some .globalImplicit) (m_super : mg "super" = none) (hop : W.nsIn K cStatics "thirdparty.any" = some none)
    (hN0 : N[0]? = some self) (many : ∀ vs H Q E, sp vs H Q E → vs.length = (self :: ps).length)
    (he : ∀ env : PySem.Env, starEach (e :: es) env = (false, eval e env) :: starEach es env) (hpl : ∀ env : PySem.Env, (backTo pos (starEach es env)).any (·.1) = false)
    (hev : ∀ env : PySem.Env, ∃ pl, eval (.Call (.Attribute (.Call (.Name "super" p0) [] [] p1) "__init__" apos) (e :: es) [] pos) env = (do
        let ov ← attributeBase (.Call (.Name "super" p0) [] [] p1) "__init__" env (eval (.Call (.Name "super" p0) [] [] p1) env)
        standAt apos.atName
        let (f, first) ← holding [ov] (getMethod ov "__init__" pl)
        callWith pos f first (backTo pos (starEach (e :: es) env)) []))
    (hsw : ∀ env : PySem.Env, swapsWith (.Call (.Attribute (.Call (.Name "super" p0) [] [] p1) "__init__" apos) (e :: es) [] pos) none pos2.line env = pure false)
    (hbody : ∀ (A : Around) (outer : List PySem.Env) (s : Shared) (H : Hp) (vs : List V) (Q : VK) (E : XK), Room k (A.deeper (envF (nfS x qual st c cc) f s.heap.objs.size)) → Quiet (A.deeper (envF (nfS x qual st c cc) f s.heap.objs.size)) → sp vs H Q E →
      ∃ (ta : TA) (t : TS) (a C dx : Addr) (us : List V) (fs : List (Str × V)) (fP : Addr) (fdP : FuncData) (psP : List Str) (spP : Sp),
        PA (ncx CX P w K mg base N (nfS x qual st c cc) f A outer s H E) (e :: es) ta ∧ PSs (ncx CX P w K mg base N (nfS x qual st c cc) f A outer s H E) rest t ∧ vs = .ref a :: us ∧ H a = some (.ins C dx fs) ∧
        W.mroIn K C (.ref Dc) = some true ∧ W.ks_superIn K C Dc "__init__" = some (some (.ref fP)) ∧ W.typeIn K (.ref fP) = some (.type "function") ∧ W.fnIn K fP = true ∧ FnG P w K mg base CX k fP fdP psP spP ∧ Binds K fdP psP [] ∧
        Passes CX (ncx CX P w K mg base N (nfS x qual st c cc) f A outer s H E) E ∧
        ∀ q, H q = none → ta (startF N vs [some (.ref Dc)]) (upd H q (.met fP a)) fun ws H2 => H2 q = some (.met fP a) ∧ spP (.ref a :: ws) H2 (fun _ H3 => t { nx := fun _ H' => Q .non H', rt := Q } (startF N vs [some (.ref Dc)]) H3) E) :
    FnG P w K mg base CX (k + 1) f fd (self :: ps) sp := by
  obtain ⟨oc, od, kV, doc, pm, an, ct, osl, rfl, lk, hcd⟩ := Fd.ex
  refine ⟨many, ?_⟩
  intro A outer s H args us0 vs Q E hr hq e0 hb r hsp
  have hk0 : ∀ b o, base.get? b = some o → s.heap.get? b = some o := fun b o e => (e0.bs b o e).1
  have KX : K.In s.heap := e0.mod.kin.keeps hk0
  have lim : s.heap.NoLimit := e0.mod.nolimit.keeps hk0
  obtain ⟨ta, t, a, C, dx, us, fs, fP, fdP, psP, spP, hA, hS, rfl, hH, hmro, hsup, htP, hfP, FP, bP, hx, main⟩ := hbody A outer s H vs Q E (hr.deeper _) hq hsp
  obtain ⟨cl, cld, csl, lcell⟩ := Fd.cell
  obtain ⟨ccl, cdd, vsf, ccs, fl, tf, lcode, hvs, hfile⟩ := Fd.file
  obtain ⟨cdD, hD⟩ := Fd.cls
  have hlen := many _ _ _ _ hsp
  refine ks_codeAny_call_defAt (fd := supFn x qual st kV doc pm an (.ref c) ct cc) (body := defBody st) hr.depth (KX _ _ lk) rfl lim (W.codeRec_of KX hcd) rfl hb Sc.nocell (fun ⟨n, _⟩ hy => Sc.par n (List.of_mem_zip hy).1) (fun h₁ hns kp => ?_) Sc.co Sc.gen Sc.kind
  -- the context
  have Cs : CellsAt (nfS x qual st c cc).cl ["__class__"] [some (.ref Dc)] s.heap H := by
    have at_ : ∀ y c', (nfS x qual st c cc).cl.lookup y = some c' → y = "__class__" ∧ c' = cc := fun y c' z => by
      have z : List.lookup y [(("__class__" : Str), cc)] = some c' := z
      rw [List.lookup_cons] at z
      split at z
      · rename_i hb
        cases z
        exact ⟨by simpa using hb, rfl⟩
      · cases z
    have hcc : s.heap.get? cc = some ⟨cl, cld, .cell (some (.ref Dc)), csl⟩ := KX _ _ lcell
    have hb' : base.get? cc = some ⟨cl, cld, .cell (some (.ref Dc)), csl⟩ := e0.mod.kin _ _ lcell
    refine ⟨rfl, fun y c' z => ?_, fun y y' c' z z' => ?_, fun i y z => ?_⟩
    · obtain ⟨_, rfl⟩ := at_ y c' z
      exact ⟨(e0.bs _ _ hb').2, _, _, hcc, rfl⟩
    · rw [(at_ y c' z).1, (at_ y' c' z').1]
    · match i, z with
      | 0, z =>
        cases z
        exact ⟨cc, rfl, fun v z => by cases z; exact ⟨.ref Dc, rfl, _, hcc, rfl⟩⟩
  have I : Inv (ncx CX P w K mg base N (nfS x qual st c cc) f A outer s H E) [] (startF N (.ref a :: us) [some (.ref Dc)]) H { s with heap := h₁, toks := s.toks + ((self :: ps).zip us0).length } := inv_startN Sc hr.hd e0 hlen r Cs hns kp
  show _root_.PySem.wpAt (model P w) (A.deeper (envF (nfS x qual st c cc) f s.heap.objs.size)) (.func (defBody st) (envF (nfS x qual st c cc) f s.heap.objs.size)) (execs (defBody st) (envF (nfS x qual st c cc) f s.heap.objs.size)) _ _ _
  have fin : ∀ {fl : Flow} {s' : Shared}, SP (ncx CX P w K mg base N (nfS x qual st c cc) f A outer s H E) [] { nx := fun _ H' => Q .non H', rt := Q } fl s' → CR CX outer P w H s Q E (.ok (.ret (match fl with | .ret v => v | _ => .none))) s' := by
    intro fl s' hs
    match fl, hs with
    | .ret u, ⟨v, σ', H', J, rv, q⟩ => exact (⟨v, H', J.os, J.bare, J.base, J.hok, rv, q⟩ : CE outer P w H s Q u s')
    | .next, ⟨σ', H', J, q⟩ => exact (⟨.non, H', J.os, J.bare, J.base, J.hok, rfl, q⟩ : CE outer P w H s Q .none s')
    | .brk, ⟨_, _, _, q⟩ => exact q.elim
    | .cont, ⟨_, _, _, q⟩ => exact q.elim
  generalize hs1 : ({ s with heap := h₁, toks := s.toks + ((self :: ps).zip us0).length } : Shared) = s1 at I
  have bodyE : ∀ b : List Stmt, b = defBody st → _root_.PySem.wpAt (model P w) (A.deeper (envF (nfS x qual st c cc) f s.heap.objs.size)) (.func b (envF (nfS x qual st c cc) f s.heap.objs.size)) (execs (.Expr (.Call (.Attribute (.Call (.Name "super" p0) [] [] p1) "__init__" apos) (e :: es) [] pos) pos2 :: rest) (envF (nfS x qual st c cc) f s.heap.objs.size))
      (fun fl s' => CR CX outer P w H s Q E (.ok (.ret (match fl with | .ret v => v | _ => .none))) s') (ncx CX P w K mg base N (nfS x qual st c cc) f A outer s H E).xe s1 := by
    intro b hb'
    refine ks_wpAt_execs_cons (ks_wpAt_mono (Q := fun fl s' => fl = .next ∧ ∃ H3, Inv (ncx CX P w K mg base N (nfS x qual st c cc) f A outer s H E) [] (startF N (.ref a :: us) [some (.ref Dc)]) H3 s' ∧ t { nx := fun _ H' => Q .non H', rt := Q } (startF N (.ref a :: us) [some (.ref Dc)]) H3) ?_ ?_ fun e s' z => z)
    · refine ks_wpAt_Expr_any ?_ (by unfold interactive; rw [show (envF (nfS x qual st c cc) f s.heap.objs.size).scope.kind = .function from Sc.kind]; rfl) (hsw _)
      obtain ⟨pl, hpl'⟩ := hev (envF (nfS x qual st c cc) f s.heap.objs.size)
      refine ks_wpAt_MethodCall (pl := pl) ?_ hpl'
      have KX1 : K.In s1.heap := I.kIn
      obtain ⟨mA, O, _⟩ := ins_get I.hok hH
      obtain ⟨odx, J, _⟩ := O.look
      obtain ⟨oD, hD1, hD2⟩ : ∃ oD, s1.heap.get? Dc = some oD ∧ oD.data = .cls cdD := by
        unfold W.clsIn at hD
        split at hD
        · rename_i c1 d1 cd1 sl1 ho
          cases hD
          exact ⟨_, KX1 _ _ ho, rfl⟩
        · cases hD
      have hs0 : (startF N (.ref a :: us) [some (.ref Dc)])[0]? = some (some (.ref a)) := rfl
      obtain ⟨m, hn, hl⟩ := id I.loc
      obtain ⟨mb, hb1, hb2⟩ := I.mod.blt
      have hself : (defScope st).names.lookup self = some .local := Sc.par self List.mem_cons_self
      obtain ⟨u, ru, lu⟩ := hl 0 self (.ref a) hN0 hs0 (.inl hself)
      cases (show u = Value.ref a from ru)
      have lu' : m self = some (.ref a) := by
        rcases lu with ⟨_, q⟩ | ⟨q, _⟩
        · exact q
        · rcases q with q | q
          · exact absurd (hself.symm.trans q) (by decide)
          · exact absurd (hself.symm.trans q) (by decide)
      refine ks_wpAt_super_base (env := envF (nfS x qual st c cc) f s.heap.objs.size) hks (Sc.frk "__class__" List.mem_cons_self) (by decide) rfl (KX1 _ _ lk) rfl hpar rfl (KX1 _ _ lcode) rfl hvs hfile Fd.top ?_
      refine W.ks_loadName_global Sc.kind hks (Calls.loadGlobal_builtin (I.mod.glob.keeps I.bk) m_super (hb1.keeps I.bk) ((hb2 _ (by decide +kernel)).trans (show bootBuiltins "super" = some (.type "super") by decide +kernel)) ⟨rfl, ?_⟩)
      refine wpAny_loadName_free Sc.kind (Sc.frk "__class__" List.mem_cons_self) rfl ⟨_, KX1 _ _ lcell, rfl⟩ ?_
      rw [har]
      refine wpAny_loadName_local Sc.kind hself hn lu' ?_
      refine ks_wpAny_isType_cls hD1 hD2 ⟨rfl, ?_⟩
      obtain ⟨hh, g, d, tk, os⟩ := s1
      refine ks_wpAny_call_super hD1 hD2 J.at_ J.cls (fun c e => ?_) (W.looks_mroIn KX1 hmro) (fun h' e' kp' => ?_)
      · have := J.no
        unfold W.notCls at this
        rw [e] at this
        exact Bool.noConfusion this
      have I2 : Inv (ncx CX P w K mg base N (nfS x qual st c cc) f A outer s H E) [] (startF N (.ref a :: us) [some (.ref Dc)]) H ⟨h', g, d, tk, os⟩ := I.kept (t' := tk) kp'
      -- the method
      cases hc : W.clsIn K C with
      | none => unfold W.ks_superIn at hsup; rw [hc] at hsup; cases hsup
      | some cd =>
        unfold W.ks_superIn at hsup
        rw [hc] at hsup
        have KX2 : K.In h' := I2.kIn
        obtain ⟨of, hof, hofc⟩ : ∃ of, h'.get? fP = some of ∧ of.cls = .type "function" := by
          have ht' : (K.lookup fP).map (·.cls) = some (.type "function") := htP
          cases z : K.lookup fP with
          | none => rw [z] at ht'; cases ht'
          | some of => rw [z] at ht'; exact ⟨of, KX2 _ _ z, Option.some.inj ht'⟩
        obtain ⟨mA2, O2, _⟩ := ins_get I2.hok hH
        obtain ⟨odx2, J2, _⟩ := O2.look
        refine ks_wpAny_getMethod_super e' (W.looks_opaque KX2 hop) (l₀ := cd.mro) ?_ rfl KX2 hsup hof hofc (W.ks_ne KX2 J2 hc) (by decide) ?_
        · exact fun A Q E s k q => wpAny_bind ((W.looks_clsIn KX2 hc) A _ E s k (wpAny_pure q))
        have nq : H h'.objs.size = none := I2.hok.fresh (Nat.le_refl _)
        have I3 : Inv (ncx CX P w K mg base N (nfS x qual st c cc) f A outer s H E) [] (startF N (.ref a :: us) [some (.ref Dc)]) (upd H h'.objs.size (.met fP a)) ⟨h'.push { cls := .type "method", data := .fields #[.ref fP, .ref a] }, g, d, tk + 1, os⟩ :=
          I2.laid (t' := tk + 1) (fun b o z => Heap.get?_push_of_some _ z) (Nat.le_refl _) (show ObjOk _ _ _ _ _ (.met fP a) from Heap.get?_push_size _ rfl)
        refine callwith_met (X := ncx CX P w K mg base N (nfS x qual st c cc) f A outer s H E) (a := a) ?_ hfP ?_
        · rw [he]
          show ((false || (backTo pos (starEach es _)).any (·.1)) || false) = false
          rw [hpl]
          rfl
        rw [he]
        refine Calls.evalArgs_plain ?_
        have run := hA.run pos [] _ _ _ _ I3 (main h'.objs.size nq)
        rw [he] at run
        refine thn run fun ws s4 ⟨zs, H4, I4, rv, hm, hz⟩ => ⟨met_P I4 hm, ?_⟩
        refine wpAny_call (ks_codeAny_call_bound (met_P I4 hm).1 ?_)
        have hl4 : ((Value.ref a :: ws) ++ []).length = psP.length := by
          rw [List.append_nil, List.length_cons, ← rv.length]
          exact FP.many _ _ _ _ hz
        have b4 := bP s4 (Value.ref a :: ws) I4.kIn hl4
        rw [List.append_nil] at b4
        refine codeAny_mono (FP.runs _ _ s4 H4 ⟨Value.ref a :: ws, []⟩ (Value.ref a :: ws) (V.ref a :: zs) _ _ (hr.deeper _) hq I4.env0 b4 (.cons rfl rv) hz) ?_
        intro res s' z
        match res, z with
        | .error er, z => exact hx [] _ H4 s4 er s' I4 z
        | .ok (.ret u), z =>
          obtain ⟨v, H5, I5, _, q5⟩ := I4.after z
          exact ⟨rfl, H5, I5, q5⟩
    · rintro fl s' ⟨rfl, H3, I3, q3⟩
      exact wpAt_of_wpAny (wpAny_mono (hS.run [] s' _ H3 _ I3 q3) (fun fl s'' hs => fin hs) fun _ _ z => z)
  have := bodyE (defBody st) rfl
  rw [← hst] at this
  exact this
end L2.DL
namespace L2.DL
open L2 L2.My NdefX PySem PySem.Spec PyProof.Rows
section
variable {S : Type} {Γ : Fr S} {K : W.Frag} {E : XK} {ta tb tc : TE} {A B : TX S} {t u : TS} {T U : TP S} {os : List Mo} {tl : TA} {L : TL S} {mo : Mo}
/-- one's own object is another now -/
theorem Ok.turnH {M : Msk} {α : Nat → Addr} {σ : St} {H H' : Hp} {ρ : Env} {i : Nat} {c c' : Cell} (ok : Ok Γ K M α σ H ρ) (e : ρ[i]? = some (.own c)) (kp : ∀ b o, ¬ Γ.M b → b ≠ α i → H b = some o → H' b = some o) (tr : ∀ b, H b ≠ none → H' b ≠ none)
    (r : ∀ m', (∀ b, m' b → mask M α ρ b) → CellR K (cut m' H') H' (α i) c') : Ok Γ K M α σ H' (ρ.set i (.own c')) ∧ StS (wmask Γ α ρ) (wmask Γ α (ρ.set i (.own c'))) H H' := by
  have oi : ownAt ρ i := ⟨_, e, rfl⟩
  obtain ⟨e1, _⟩ := ok.slot i _ e
  have own' : ∀ j, ownAt (ρ.set i (.own c')) j → ownAt ρ j := fun j o => by
    rcases own_set o with ⟨rfl, _⟩ | ⟨_, o⟩
    · exact oi
    · exact o
  have mm : ∀ a, mask M α (ρ.set i (.own c')) a → mask M α ρ a := fun a z => z.imp id fun ⟨j, o, q⟩ => ⟨j, own' j o, q⟩
  have cc : Same (cut (mask M α ρ) H) (cut (mask M α (ρ.set i (.own c'))) H') := fun b o q => by
    obtain ⟨n, q⟩ := of_cut q
    rw [cut_out fun z => n (mm b z)]
    exact kp b o (fun z => n (ok.msub b z)) (fun z => n (.inr ⟨i, oi, z.symm⟩)) q
  have put := ok.put (x := some (.ref (α i))) (sl := .own c') (a := α i) (H' := H') (i := i) self_upd (.inl rfl) tr cc (fun b o n z q => kp b o n (fun y => by
    rcases z with z | ⟨j, nj, oj, z⟩
    · exact ok.out i oi (by rw [← y]; exact z)
    · exact nj (ok.inj j i oj oi (z.trans y))) q) (fun _ => ⟨ok.out i oi, fun j nj oj z => nj (ok.inj j i oj oi z)⟩) fun _ => ⟨rfl, r _ mm⟩
  rw [set_same e1] at put
  exact ⟨put, ⟨fun a o n q => kp a o (fun z => n (.inl z)) (fun z => n (.inr ⟨i, oi, z.symm⟩)) q, fun a z => .inl (z.imp id fun ⟨j, o, q⟩ => ⟨j, own' j o, q⟩), tr⟩⟩
theorem RFs.look {G : Hp} {f : Str} : ∀ {vs : List (Str × V)} {ds : List (Str × D)} {d : D}, RFs K G vs ds → ds.lookup f = some d → ∃ v, vs.lookup f = some v ∧ R K G v d
  | _, _, _, .nil, e => by cases e
  | _, _, d, .cons (k := k) h t, e => by
    rw [List.lookup_cons] at e ⊢
    split at e
    · cases e; exact ⟨_, rfl, h⟩
    · exact RFs.look t e
theorem RFs.len {G : Hp} : ∀ {vs : List (Str × V)} {ds : List (Str × D)}, RFs K G vs ds → vs.length = ds.length
  | _, _, .nil => rfl
  | _, _, .cons _ t => by rw [List.length_cons, List.length_cons, RFs.len t]
def putD (f : Str) (d : D) : List (Str × D) → List (Str × D)
  | [] => [(f, d)]
  | (g, x) :: r => if g = f then (g, d) :: r else (g, x) :: putD f d r
theorem RFs.put {G : Hp} {f : Str} {v : V} {d : D} (h : R K G v d) : ∀ {vs : List (Str × V)} {ds : List (Str × D)}, RFs K G vs ds → RFs K G (putF f v vs) (putD f d ds)
  | _, _, .nil => .cons h .nil
  | _, _, .cons (k := k) q t => by
    unfold putF putD
    by_cases e : k = f
    · rw [if_pos e, if_pos e]; exact .cons h t
    · rw [if_neg e, if_neg e]; exact .cons q (RFs.put h t)
/-- instances of the class at C have an attribute f of their own -/
structure Att (K : W.Frag) (C : Addr) (f : Str) : Prop where
  cl : Cls K C
  no : NoAttr K C f
def xFld (K : W.Frag) (f : Str) (A : TX S) : TX S := fun ρ s Q X => A ρ s (fun d s1 => match d with
  | .obj C fs => Att K C f ∧ opt (fs.lookup f) fun d => Q d s1
  | _ => False) X
theorem ln_fld {f : Str} (ha : Ln Γ K E .b ta A) : Ln Γ K E .s (tFld K ta f) (xFld K f A) := by
  intro M α σ H ρ s ok st QD QX Q q k kx
  refine ha ok st _ QX _ q (fun v H' d s' p st' r z => ?_) kx
  split at z
  · rename_i C fs
    obtain ⟨⟨c1, c2⟩, z⟩ := z
    obtain ⟨d, e, z⟩ := opt_ex z
    obtain ⟨a, dx, vs, rfl, h1, h2⟩ := RBo.obj r
    obtain ⟨v, ev, rv⟩ := RFs.look h2 e
    exact ⟨a, C, dx, vs, v, rfl, h1, c1, c2, ev, k _ H' d s' p st' rv z⟩
  · exact z.elim
def ownO (ρ : Env) (i : Nat) : Option (Addr × List (Str × D)) := match ρ[i]? with
  | some (.own (.obj C fs)) => some (C, fs)
  | _ => none
theorem ownO_at {ρ : Env} {i : Nat} {x : Addr × List (Str × D)} (h : ownO ρ i = some x) : ρ[i]? = some (.own (.obj x.1 x.2)) := by
  unfold ownO at h
  split at h
  · rename_i C fs e; cases h; exact e
  · cases h
/-- self.f = e -/
def pFld (K : W.Frag) (f : Str) (i : Nat) (A : TX S) : TP S := fun ρ s P => A ρ s (fun d s1 => opt (ownO ρ i) fun x => Att K x.1 f ∧ x.2.length < 1000 ∧ P.nx (ρ.set i (.own (.obj x.1 (putD f d x.2)))) s1) P.ex
theorem ls_fld {f : Str} {i : Nat} (ha : Ln Γ K E .s ta A) : LnS Γ K E (sFld K (tVar i) ta f) (pFld K f i A) := by
  intro M α σ H ρ s ok st P Dn q kn kb kc kr kx
  refine ha ok st _ P.ex _ q (fun v H' d s' p st' r z => ?_) (fun c dx H' x s' p st' r z => kx c dx H' x s' (stS_end p) st' (r.mono fun _ z => .inl z) z)
  obtain ⟨⟨C, fs⟩, e, z⟩ := opt_ex z
  have e' := ownO_at e
  have ok' := ok.step p
  obtain ⟨e1, dx, vs, h1, r1⟩ := ok'.slot i _ e'
  obtain ⟨c1, c2, z⟩ := z
  have oi : ownAt ρ i := ⟨_, e', rfl⟩
  refine ⟨_, e1, α i, C, dx, vs, rfl, h1, c1.cl, c1.no, by rw [RFs.len r1]; exact c2, ?_⟩
  obtain ⟨o2, p2⟩ := ok'.turnC (u := .ins C dx (putF f v vs)) (c' := .obj C (putD f d fs)) e' fun m' H2 s e => ⟨dx, _, e, RFs.same s (RFs.put r r1)⟩
  exact kn σ _ _ s' α o2 (Γ.loc (fun a y => by rw [upd_ne fun e => ok.out i oi (ok.sub _ (by rw [← e]; exact y))]) st') ((stS_stp p).trans p2) z
abbrev IniF := Addr → List D → Option (Except Exn (List (Str × D)))
structure StX (Γ : Fr S) (x : Addr) (H H' : Hp) : Prop where
  keep : ∀ a o, ¬ Γ.M a → a ≠ x → H a = some o → H' a = some o
  trk : ∀ a, H a ≠ none → H' a ≠ none
def spI (K : W.Frag) (os : List Mo) (CC : Addr → Prop) (F : IniF) : Sp := fun vs H Q E => ∃ (S : Type) (Γ : Fr S) (M : Msk) (s : S) (x C dx : Addr) (us : List V) (ds : List D), vs = .ref x :: us ∧ (∀ a, Γ.M a → M a) ∧ (∀ a, M a → H a ≠ none) ∧ ¬ M x ∧ H x = some (.ins C dx []) ∧
  ARel K Γ.M os M (del H x) (del H x) us ds ∧ Γ.st s H ∧ CC C ∧ opt (F C ds) fun r => match r with
    | .ok fs => ∀ H', StX Γ x H H' → Γ.st s H' → CellR K (cut (fun b => M b ∨ b = x) H') H' x (.obj C fs) → Q .non H'
    | .error e => ∀ c dx H', StX Γ x H H' → Γ.st s H' → XR K M H' c dx e → E c dx H'
def iniE (os : List Mo) (n : Nat) (C : Addr) (ds : List D) : Env := .own (.obj C []) :: (startD os ds ++ List.replicate (n - ds.length - 1) .no)
/-- the frame with an object that is being made -/
abbrev Fr.mk' {S : Type} (Γ : Fr S) (x : Addr) : Fr S := ⟨Γ.M, Γ.st, Γ.loc, some x⟩
theorem ini_start {M : Msk} {H : Hp} {n : Nat} {vs : List V} {ds : List D} {x C dx : Addr} {tl : St} (ho : ∀ o ∈ os, o ≠ .f) (h1 : ∀ a, Γ.M a → M a) (h2 : ∀ a, M a → H a ≠ none) (h3 : ¬ M x) (hx : H x = some (.ins C dx [])) (r : ARel K Γ.M os M (del H x) (del H x) vs ds)
    (ht : tl.length = n - vs.length - 1) : Ok (Γ.mk' x) K M (fun _ => x) ((.ref x :: vs).map some ++ tl) H (iniE os n C ds) ∧ ∀ i, ownAt (iniE os n C ds) i → i = 0 := by
  obtain ⟨l1, l2⟩ := ARel.len r
  have own : ∀ i, ownAt (iniE os n C ds) i → i = 0 := fun i ⟨s, e, o⟩ => by
    match i with
    | 0 => rfl
    | i + 1 =>
      unfold iniE at e
      rw [List.getElem?_cons_succ] at e
      by_cases h : i < (startD os ds).length
      · rw [List.getElem?_append_left h] at e
        exact absurd ⟨s, e, o⟩ startD_own
      · rw [List.getElem?_append_right (by omega), List.getElem?_replicate] at e
        split at e
        · cases e; cases o
        · cases e
  have mm : ∀ a, mask M (fun _ => x) (iniE os n C ds) a → M a ∨ a = x := by
    rintro a (z | ⟨j, o, e⟩)
    · exact .inl z
    · exact .inr e.symm
  have c : Same (cut M (del H x)) (cut (mask M (fun _ => x) (iniE os n C ds)) H) := fun b o e => by
    obtain ⟨n, e⟩ := of_cut e
    have ne : b ≠ x := fun z => by rw [z] at e; unfold del at e; simp at e
    rw [cut_out fun z => (mm b z).elim n ne]
    rwa [del_ne ne] at e
  obtain ⟨hlen, slots⟩ := startD_slot (a := x) ho r
  refine ⟨⟨h1, h2, fun i o => h3, fun i j a b _ => (own i a).trans (own j b).symm, ?_, fun i s e => ?_, fun a z => by cases z; rfl⟩, own⟩
  · unfold iniE
    simp only [List.length_append, List.length_map, List.length_cons, List.length_replicate, ht, hlen]
    omega
  · match i with
    | 0 =>
      cases e
      exact ⟨rfl, dx, [], hx, .nil⟩
    | i + 1 =>
      unfold iniE at e
      rw [List.getElem?_cons_succ] at e
      by_cases h : i < (startD os ds).length
      · rw [List.getElem?_append_left h] at e
        obtain ⟨v, ev, rs⟩ := slots i s e
        have es : ((V.ref x :: vs).map some ++ tl)[i + 1]? = some (some v) := by
          rw [List.map_cons, List.cons_append, List.getElem?_cons_succ, List.getElem?_append_left (by rw [List.length_map]; exact (List.getElem?_eq_some_iff.mp ev).1), List.getElem?_map, ev]
          rfl
        rw [es]
        cases s with
        | no => trivial
        | d y => obtain ⟨v, e1, r⟩ := rs; exact ⟨v, e1, R.same c r⟩
        | bor y => obtain ⟨v, e1, r⟩ := rs; exact ⟨v, e1, RBo.carry c (fun _ _ _ _ e => del_le _ _ e) r⟩
        | own y => exact absurd ⟨_, e, rfl⟩ startD_own
      · rw [List.getElem?_append_right (by omega), List.getElem?_replicate] at e
        split at e
        · cases e; trivial
        · cases e
/-- what an __init__'s body is to reach -/
def postI (C : Addr) (s : S) (r : Except Exn (List (Str × D))) : Post S where
  nx := fun ρ s' => s' = s ∧ ∃ fs, r = .ok fs ∧ ownO ρ 0 = some (C, fs)
  rt := fun _ _ => False
  ex := fun x s' => r = .error x ∧ s' = s
theorem ini_cell {M : Msk} {α : Nat → Addr} {σ : St} {H : Hp} {ρ : Env} {x C : Addr} {fs : List (Str × D)} (ok : Ok (Γ.mk' x) K M α σ H ρ) (e : ownO ρ 0 = some (C, fs)) : CellR K (cut (fun b => M b ∨ b = x) H) H x (.obj C fs) := by
  have e' := ownO_at e
  have a0 : α 0 = x := ok.sf x rfl
  obtain ⟨_, r⟩ := ok.slot 0 _ e'
  rw [a0] at r
  exact r.move (cut_mono fun b z => z.imp id fun z => ⟨0, ⟨_, e', rfl⟩, a0.trans z.symm⟩) fun _ e => e
theorem stX_of {w : Msk} {H H' : Hp} {n : Nat} {x C : Addr} {ds : List D} (own : ∀ i, ownAt (iniE os n C ds) i → i = 0) (p : StS (wmask (Γ.mk' x) (fun _ => x) (iniE os n C ds)) w H H') : StX Γ x H H' :=
  ⟨fun a o n ne e => p.keep a o (fun z => z.elim n fun ⟨_, _, z⟩ => ne z.symm) e, p.trk⟩
end
section
variable {P : Program} {w : World} {K : W.Frag} {mg : Str → Option Value} {base : Heap} {xn qual self : Str} {st : Stmt} {f : Addr} {fd : FuncData} {N ps : List Str} {k : Nat} {os osP : List Mo} {CC CCP : Addr → Prop} {F FP : IniF}
theorem fn_ini (Fd : Fun K xn qual st f fd) (Sc : FnScope N (self :: ps) (defScope st)) (hl : os.length = ps.length) (ho : os.all (fun o => match o with | .f => false | _ => true) = true)
    (hbody : ∀ (cdv : Value) (A : Around) (outer : List PySem.Env) (s : Shared) (H : Hp) (E : XK), Room k (A.deeper (envOfC qual (defScope st) s.heap.objs.size f cdv)) → Quiet (A.deeper (envOfC qual (defScope st) s.heap.objs.size f cdv)) →
      ∃ t, PSs (cxOf (L2.CX P w) P w K mg base N qual (defScope st) f cdv A outer s H E) (defBody st) t ∧
        ∀ (S : Type) (Γ : Fr S) (x : Addr), ∃ T : TP S, LnS (Γ.mk' x) K E t T ∧ ∀ (C : Addr) (ds : List D) (r : Except Exn (List (Str × D))) (s : S), CC C → F C ds = some r → T (iniE os N.length C ds) s (postI C s r)) :
    FnG P w K mg base (L2.CX P w) (k + 1) f fd (self :: ps) (spI K os CC F) := by
  have hno : ∀ o ∈ os, o ≠ Mo.f := fun o z e => by
    have := List.all_eq_true.mp ho o z
    rw [e] at this
    cases this
  refine body_g Fd Sc (fun vs H Q E ⟨S, Γ, M, s, x, C, dx, us, ds, e, _, _, _, _, r, _⟩ => by rw [e, List.length_cons, List.length_cons, (ARel.len r).1, hl]) ?_
  rintro cdv A outer s H vs Q E hr hq ⟨S, Γ, M, s0, x, C, dx, us, ds, rfl, h1, h2, h3, hx, r, st0, hC, q⟩
  obtain ⟨t, ht, hT⟩ := hbody cdv A outer s H E hr hq
  obtain ⟨T, lt, main⟩ := hT S Γ x
  obtain ⟨y, e, q⟩ := opt_ex q
  obtain ⟨ok, own⟩ := ini_start (n := N.length) (tl := List.replicate (N.length - (us.length + 1)) none) hno h1 h2 h3 hx r (by rw [List.length_replicate]; omega)
  refine ⟨t, ht, lt ok st0 _ _ (main C ds y s0 hC e) (fun σ' H' ρ' s' α' ok' st' p z => ?_) (fun _ _ _ _ _ _ _ _ z => z.elim) (fun _ _ _ _ _ _ _ _ z => z.elim) (fun v H' d s' p st' r' z => z.elim) (fun c dx H' x s' p st' r' z => ?_)⟩
  · obtain ⟨rfl, fs, rfl, ef⟩ := z
    exact q H' (stX_of own p) st' (ini_cell ok' ef)
  · obtain ⟨rfl, rfl⟩ := z
    exact q c dx H' (stX_of own p) st' r'
theorem ARel.ofS {g m : Msk} {H0 H : Hp} : ∀ {os : List Mo} {vs : List V} {ds : List D}, os.length = vs.length → (∀ o ∈ os, o = .s) → RAll K (cut m H) vs ds → ARel K g os m H0 H vs ds
  | [], [], _, _, _, .nil => trivial
  | o :: os, _, _, l, ho, .cons h t => by
    have e := ho o List.mem_cons_self
    subst e
    exact ⟨h, ARel.ofS (by simpa using l) (fun o z => ho o (List.mem_cons_of_mem _ z)) t⟩
theorem fn_sup {c cc Dc : Addr} {e : Expr} {es : List Expr} {rest : List Stmt} {p0 p1 apos pos pos2 : Pos} {ar : Arg}
    (Fd : FunS P K xn qual st f fd c cc Dc) (Sc : NScope N (self :: ps) ["__class__"] (defScope st)) (hst : defBody st = .Expr (.Call (.Attribute (.Call (.Name "super" p0) [] [] p1) "__init__" apos) (e :: es) [] pos) pos2 :: rest)
    (hpar : ((defArgs st).posonlyargs ++ (defArgs st).args).head? = some ar) (har : ar.arg = self) (hks : (defScope st).names.lookup ("super" : Str) = some .globalImplicit) (m_super : mg "super" = none) (hop : W.nsIn K cStatics "thirdparty.any" = some none)
    (he : ∀ env : PySem.Env, starEach (e :: es) env = (false, eval e env) :: starEach es env) (hpl : ∀ env : PySem.Env, (backTo pos (starEach es env)).any (·.1) = false)
    (hev : ∀ env : PySem.Env, ∃ pl, eval (.Call (.Attribute (.Call (.Name "super" p0) [] [] p1) "__init__" apos) (e :: es) [] pos) env = (do
        let ov ← attributeBase (.Call (.Name "super" p0) [] [] p1) "__init__" env (eval (.Call (.Name "super" p0) [] [] p1) env)
        standAt apos.atName
        let (f, first) ← holding [ov] (getMethod ov "__init__" pl)
        callWith pos f first (backTo pos (starEach (e :: es) env)) []))
    (hsw : ∀ env : PySem.Env, swapsWith (.Call (.Attribute (.Call (.Name "super" p0) [] [] p1) "__init__" apos) (e :: es) [] pos) none pos2.line env = pure false)
    (hl : os.length = ps.length) (ho : os.all (fun o => match o with | .f => false | _ => true) = true) (hoP : osP.all (fun o => match o with | .s => true | _ => false) = true)
    {fP : Addr} {fdP : FuncData} {psP : List Str} (hC : ∀ C, CC C → W.mroIn K C (.ref Dc) = some true ∧ W.ks_superIn K C Dc "__init__" = some (some (.ref fP)) ∧ CCP C) (htP : W.typeIn K (.ref fP) = some (.type "function")) (hfP : W.fnIn K fP = true)
    (FF : FnG P w K mg base (L2.CX P w) k fP fdP psP (spI K osP CCP FP)) (bP : Binds K fdP psP [])
    (hbody : ∀ (A : Around) (outer : List PySem.Env) (s : Shared) (H : Hp) (E : XK), Room k (A.deeper (envF (nfS xn qual st c cc) f s.heap.objs.size)) → Quiet (A.deeper (envF (nfS xn qual st c cc) f s.heap.objs.size)) →
      ∃ (ta : TA) (t : TS), PA (ncx (L2.CX P w) P w K mg base N (nfS xn qual st c cc) f A outer s H E) (e :: es) ta ∧ PSs (ncx (L2.CX P w) P w K mg base N (nfS xn qual st c cc) f A outer s H E) rest t ∧
        Passes (L2.CX P w) (ncx (L2.CX P w) P w K mg base N (nfS xn qual st c cc) f A outer s H E) E ∧
        ∀ (S : Type) (Γ : Fr S) (x : Addr), ∃ (L : TL S) (T : TP S), LnA (Γ.mk' x) K E osP ta L ∧ LnS (Γ.mk' x) K E t T ∧ ∀ (C : Addr) (ds : List D) (r : Except Exn (List (Str × D))) (s : S), CC C → F C ds = some r →
          L (iniE os N.length C ds) s (fun ys s1 => s1 = s ∧ opt (FP C ys) fun y => match y with
            | .ok fs => T ((iniE os N.length C ds).set 0 (.own (.obj C fs))) s (postI C s r)
            | .error e => r = .error e) (fun x s1 => r = .error x ∧ s1 = s)) :
    FnG P w K mg base (L2.CX P w) (k + 1) f fd (self :: ps) (spI K os CC F) := by
  have hno : ∀ o ∈ os, o ≠ Mo.f := fun o z e => by
    have := List.all_eq_true.mp ho o z
    rw [e] at this
    cases this
  have hnP : ∀ o ∈ osP, o = Mo.s := fun o z => by
    have := List.all_eq_true.mp hoP o z
    cases o <;> first | rfl | cases this
  have hN : ps.length + 2 ≤ N.length := by
    have := congrArg List.length Sc.pre
    simp only [List.length_take, List.length_append, List.length_cons, List.length_nil] at this
    omega
  have hN0 : N[0]? = some self := by
    have := congrArg (fun l => l[0]?) Sc.pre
    simpa using this
  refine body_super Fd Sc hst hpar har hks m_super hop hN0 (fun vs H Q E ⟨S, Γ, M, s, x, C, dx, us, ds, e, _, _, _, _, r, _⟩ => by rw [e, List.length_cons, List.length_cons, (ARel.len r).1, hl]) he hpl hev hsw ?_
  rintro A outer s H vs Q E hr hq ⟨S, Γ, M, s0, x, C, dx, us, ds, rfl, h1, h2, h3, hx, r, st0, hc, q⟩
  obtain ⟨ta, t, hA, hS, hp, hT⟩ := hbody A outer s H E hr hq
  obtain ⟨L, T, la, lt, main⟩ := hT S Γ x
  obtain ⟨y, e, q⟩ := opt_ex q
  obtain ⟨m1, m2, m3⟩ := hC C hc
  have lus : us.length = ps.length := by rw [(ARel.len r).1, hl]
  obtain ⟨ok, own⟩ := ini_start (n := N.length) (tl := [some (.ref Dc)] ++ List.replicate (N.length - (us.length + 1) - 1) none) hno h1 h2 h3 hx r (by simp only [List.length_append, List.length_replicate, List.length_cons, List.length_nil]; omega)
  refine ⟨ta, t, x, C, dx, us, [], fP, fdP, psP, spI K osP CCP FP, hA, hS, rfl, hx, m1, m2, htP, hfP, FF, bP, hp, fun qa hqa => ?_⟩
  have p0 : Stp (Γ.mk' x) H (upd H qa (.met fP x)) := Stp.of (same_upd hqa)
  refine la (ok.step p0) (Fr.same (Γ := Γ) (fun a z => h2 a (h1 a z)) (same_upd hqa) st0) _ _ _ (main C ds y s0 hc e) (fun ws H2 ys s1 p1 st1 ra z => ?_) (fun c dx H' xx s' p st' r' z => ?_)
  · obtain ⟨rfl, z⟩ := z
    have p := p0.trans p1
    have ok2 := ok.step p
    have mx : ∀ b, mask M (fun _ => x) (iniE os N.length C ds) b → M b ∨ b = x := fun b z => z.imp id fun ⟨_, _, z⟩ => z.symm
    obtain ⟨_, dx2, vs2, hx2, r2⟩ := ok2.slot 0 _ rfl
    cases r2
    obtain ⟨y2, ey, z⟩ := opt_ex z
    refine ⟨p1.keep qa _ (fun z => h2 _ (h1 _ z) hqa) upd_same, ⟨S, Γ, M, s1, x, C, dx2, ws, ys, rfl, h1, fun a z => p.trk a (h2 a z), h3, hx2, ?_, st1, m3, ?_⟩⟩
    · have rr := ARel.strict hnP ra
      refine ARel.ofS (ARel.len ra).1.symm hnP (RAll.same (fun b o z => ?_) rr)
      obtain ⟨n, z⟩ := of_cut z
      have ne : b ≠ x := fun q => n (.inr ⟨0, ⟨_, rfl, rfl⟩, q.symm⟩)
      rw [cut_out fun z => n (.inl z), del_ne ne]
      exact z
    · rw [ey]
      cases y2 with
      | error x2 =>
        obtain rfl := z
        exact fun c dx H' sx st' rx => q c dx H' ⟨fun a o n ne e => sx.keep a o n ne (p.keep a o n e), fun a z => sx.trk a (p.trk a z)⟩ st' rx
      | ok fs =>
        intro H3 sx st3 cx
        obtain ⟨ok3, p3⟩ := ok2.turnH (i := 0) (c' := .obj C fs) rfl (fun b o n ne e => sx.keep b o n ne e) sx.trk (fun m' hm => cx.move (cut_mono fun b z => mx b (hm b z)) fun _ e => e)
        have pp : StS (wmask (Γ.mk' x) (fun _ => x) (iniE os N.length C ds)) (wmask (Γ.mk' x) (fun _ => x) ((iniE os N.length C ds).set 0 (.own (.obj C fs)))) H H3 := (stS_stp p).trans p3
        refine lt ok3 st3 _ _ z (fun σ' H' ρ' s' α' ok' st' p z => ?_) (fun _ _ _ _ _ _ _ _ z => z.elim) (fun _ _ _ _ _ _ _ _ z => z.elim) (fun v H' d s' p st' r' z => z.elim) (fun c dx H' x s' p st' r' z => ?_)
        · obtain ⟨rfl, fs', rfl, ef⟩ := z
          exact q H' (stX_of own (pp.trans p)) st' (ini_cell ok' ef)
        · obtain ⟨rfl, rfl⟩ := z
          exact q c dx H' (stX_of own (pp.trans p)) st' r'
  · obtain ⟨rfl, rfl⟩ := z
    exact q c dx H' (stX_of own (stS_stp (p0.trans p))) st' (r'.mono fun _ z => .inl z)
end
end L2.DL
namespace L2.DL
open L2 L2.My NdefX PySem PySem.Spec PyProof.Rows
/-- C(e, ..) -/
def tMk (C : Addr) (sp : Sp) (E : XK) (t : TA) : TE := fun σ H Q => t σ H fun vs H1 => ∀ x dx, H1 x = none → H1 dx = none → dx ≠ x →
  sp (.ref x :: vs) (upd (upd H1 dx (.own x)) x (.ins C dx [])) (fun v H2 => v = .non ∧ Q (.ref x) H2) E
section
variable {X : Cx} {CX : CXT} {k : Nat} {f C : Addr} {fd : FuncData} {ps : List Str} {sp : Sp} {E : XK} {x : Str} {p pos : Pos} {e : Expr} {es : List Expr} {t : TA}
theorem run_mk {pins : List (Addr × Obj)} {σ : St} {H : Hp} {s : Shared} {Q : VK} {us : List Value} {vs : List V} (M : Mk X.K C f) (F : FnG X.prog X.w X.K X.mg X.base CX k f fd ps sp) (hr : Room (k + 1) X.A) (hq : My.Quiet X.A) (hb : Binds X.K fd ps []) (hx : Passes CX X E) (I : Inv X pins σ H s) (r : Vals vs us)
    (h : ∀ x dx, H x = none → H dx = none → dx ≠ x → sp (.ref x :: vs) (upd (upd H dx (.own x)) x (.ins C dx [])) (fun v H2 => v = .non ∧ Q (.ref x) H2) E) : wpAny (model X.prog X.w) X.A (call (.ref C) us) (EP X pins σ Q) X.xe s := by
  have h' := h (s.heap.objs.size + 1) s.heap.objs.size (I.hok.fresh (Nat.le_succ _)) (I.hok.fresh (Nat.le_refl _)) (Nat.ne_of_lt (Nat.lt_succ_self _))
  have I2 := Inv.made (C := C) I
  have lv := F.many _ _ _ _ h'
  have hl : ((Value.ref (s.heap.objs.size + 1) :: us) ++ []).length = ps.length := by
    rw [← lv, List.append_nil, List.length_cons, List.length_cons, r.length]
  have b := hb _ (Value.ref (s.heap.objs.size + 1) :: us) I2.kIn hl
  rw [List.append_nil] at b
  have hq2 : My.Quiet (X.A.under (.builtin "type.__call__" ⟨.ref C :: us, []⟩)) := by
    unfold My.Quiet Around.under
    rw [show X.A.guards = some [] from hq]
    rfl
  refine wpAny_call (make_map (f := f) I.kIn M.makes M.init (beq_iff_eq.mp M.fn) (codeAny_mono (F.runs _ X.stack _ _ ⟨Value.ref (s.heap.objs.size + 1) :: us, []⟩ _ (V.ref (s.heap.objs.size + 1) :: vs) _ E (hr.make C us []) hq2 (I2.env0.make C us []) b (.cons rfl r) h') ?_))
  intro res s' z
  match res, z with
  | .error er, z => exact hx pins σ _ _ er s' I2 z
  | .ok (.ret u), z =>
    obtain ⟨v, H', I3, rv, rfl, q⟩ := I2.after z
    exact ⟨rv, .ref (s.heap.objs.size + 1), H', I3, rfl, q⟩
theorem pe_mk (M : Mk X.K C f) (F : FnG X.prog X.w X.K X.mg X.base CX k f fd ps sp) (hr : Room (k + 1) X.A) (hq : My.Quiet X.A) (hg : Gl X x) (hm : X.mg x = some (.ref C)) (hb : Binds X.K fd ps []) (hx : Passes CX X E)
    (ha : PA X (e :: es) t) (hdb : (x == ("__debug__" : Str)) = false := by decide) (he : starEach (e :: es) X.env = (false, eval e X.env) :: starEach es X.env := by rfl) (hpl : (backTo pos (starEach es X.env)).any (·.1) = false := by rfl) :
    PE X (.Call (.Name x p) (e :: es) [] pos) (tMk C sp E t) := by
  constructor
  intro pins s σ H Q I h
  refine wpAny_Call_Name_kw (ld_glob I hg hm ?_ hdb)
  refine W.callWith_K (h₀ := X.base) I.ok.mod.kin M.kp (thn (ha.run pos pins s σ H _ I h) ?_) he hpl
  rintro us s1 ⟨vs, H1, I1, r, q⟩
  exact ⟨I1.kIn, run_mk M F hr hq hb hx I1 r q⟩
end
section
variable {S : Type} {Γ : Fr S} {K : W.Frag} {E : XK} {ta tb tc : TE} {A B : TX S} {t u : TS} {T U : TP S} {os : List Mo} {tl : TA} {L : TL S} {mo : Mo}
def xMk (C : Addr) (F : IniF) (L : TL S) : TX S := fun ρ s Q X => L ρ s (fun ds s1 => opt (F C ds) fun r => match r with
  | .ok fs => Q (.obj C fs) s1
  | .error x => X x s1) X
theorem ln_mk {CC : Addr → Prop} {C : Addr} {F : IniF} (ho : os.all (fun o => match o with | .f => false | _ => true) = true) (hC : CC C) (h : LnA Γ K E os tl L) : Ln Γ K E .f (tMk C (spI K os CC F) E tl) (xMk C F L) := by
  have hno : ∀ o ∈ os, o ≠ Mo.f := fun o z e => by
    have := List.all_eq_true.mp ho o z
    rw [e] at this
    cases this
  intro M α σ H ρ s ok st QD QX Q q k kx
  refine h ok st _ QX _ q (fun vs H1 ds s1 p1 st1 r z => ?_) kx
  obtain ⟨y, e, z⟩ := opt_ex z
  intro x dx nx nd ne
  have ok1 := ok.step p1
  have step : ∀ a o, H1 a = some o → a ≠ x ∧ upd (upd H1 dx (.own x)) x (.ins C dx []) a = some o := fun a o q => by
    have h1 := ne_of_none q nx
    have h2 := ne_of_none q nd
    exact ⟨h1, by rw [upd_ne h1, upd_ne h2]; exact q⟩
  have trk : ∀ a, H1 a ≠ none → upd (upd H1 dx (.own x)) x (.ins C dx []) a ≠ none := fun a q => by
    cases e : H1 a with
    | none => exact absurd e q
    | some o => rw [(step a o e).2]; exact fun z => by cases z
  have nm : ¬ mask M α ρ x := fun z => ok1.mtrk x z nx
  have nH : H x = none := Classical.byContradiction fun q => p1.trk x q nx
  refine ⟨S, Γ, mask M α ρ, s1, x, C, dx, vs, ds, rfl, ok.msub, fun a z => trk a (ok1.mtrk a z), nm, upd_same, ?_, Fr.same ok1.frt (fun a o q => (step a o q).2) st1, hC, ?_⟩
  · refine ARel.from hno (ARel.step ok.msub (fun a o _ q => ?_) hno r)
    rw [del_ne (step a o q).1]
    exact (step a o q).2
  · rw [e]
    cases y with
    | error x2 => exact fun c dx H' sx st' rx => kx c dx H' x2 s1 ⟨fun a o n e => sx.keep a o n (step a o (p1.keep a o n e)).1 (step a o (p1.keep a o n e)).2, fun a q => sx.trk a (trk a (p1.trk a q))⟩ st' rx z
    | ok fs => exact fun H' sx st' cx => ⟨rfl, k _ H' _ s1 ⟨fun a o n e => sx.keep a o n (step a o (p1.keep a o n e)).1 (step a o (p1.keep a o n e)).2, fun a q => sx.trk a (trk a (p1.trk a q))⟩ st' ⟨x, .obj C fs, rfl, rfl, nH, cx⟩ z⟩
structure ClsI (K : W.Frag) (C : Addr) : Prop where
  cl : Cls K C
  ci : W.findIn K (.ref C) "__class__" = some (some (.builtin "object.__class__"))
  ob : W.mroIn K C (.type "object") = some true
open Classical in
noncomputable def tyV (K : W.Frag) : D → Option Value
  | .obj C _ => if ClsI K C then some (.ref C) else none
  | .exc C _ => if ExK K C then some (.ref C) else none
  | d => (tyD d).map .type
def clsV : D → Option Value
  | .v (.ty b) => some (.type b)
  | .v (.ref C) => some (.ref C)
  | _ => none
noncomputable def isiK (K : W.Frag) (d c : D) : Option D := match isiD d c with
  | some r => some r
  | none => (tyV K d).bind fun t => (clsV c).bind fun u => (W.kitOne K t u).map dB
theorem clsV_of {g m : Msk} {H : Hp} {v : V} {c : D} {u : Value} (r : RB K g m H v c) (e : clsV c = some u) : ClsV v u := by
  unfold clsV at e
  split at e
  · cases e; rw [RBo.sc r]; exact .ty _
  · cases e; rw [RBo.sc r]; exact .own _
  · cases e
theorem RBo.exc {g o m : Msk} {H : Hp} {v : V} {C : Addr} {ds : List (Str × D)} (h : RBo K g o m H v (.exc C ds)) : ∃ a dx fs, v = .ref a ∧ H a = some (exz a (.ref C) (some dx)) ∧ H dx = some (.xd fs) ∧ RFs K (cut m H) fs ds := by
  rcases h with h | ⟨a, c, rfl, e, _⟩
  · cases h with
    | exc h1 h2 h3 => exact ⟨_, _, _, rfl, cut_le _ _ h1, cut_le _ _ h2, h3⟩
  · cases c <;> cases e
theorem p2_isiK (G : ExA K) : P2 K .s (fun v u => rIsA K [v, u]) (isiK K) := by
  intro g m H v u d c e Q hm r1 r2 he k
  unfold isiK at he
  split at he
  · rename_i r er
    cases he
    exact p2_isi hm r1 r2 er k
  · simp only [Option.bind_eq_some_iff, Option.map_eq_some_iff] at he
    obtain ⟨t, et, cu, ec, b, eb, rfl⟩ := he
    have hc := clsV_of r2 ec
    unfold tyV at et
    split at et
    · rename_i C fs
      split at et
      · rename_i hC
        cases et
        obtain ⟨a, dx, vs, rfl, h1, _⟩ := RBo.obj r1
        exact .inl ⟨_, _, _, _, b, rfl, hc, .base (.ins h1 hC.cl hC.ci G.gt G.tk hC.ob), eb, k _ H (Same.refl _) (.v _)⟩
      · cases et
    · split at et
      · rename_i hC
        cases et
        obtain ⟨a, dx, vs, rfl, h1, h2, _⟩ := RBo.exc r1
        exact .inr ⟨a, _, dx, vs, _, cu, b, rfl, h1, h2, hC, G, fun w rw' => hc.eq rw', eb, k _ H (Same.refl _) (.v _)⟩
      · cases et
    · rw [Option.map_eq_some_iff] at et
      obtain ⟨a, ea, rfl⟩ := et
      exact .inl ⟨_, _, _, _, b, rfl, hc, rb_ty r1 ea, eb, k _ H (Same.refl _) (.v _)⟩
end
end L2.DL
namespace L2.DL
open L2 L2.My NdefX PySem PySem.Spec PyProof.Rows
section
variable {K : W.Frag}
/-- a call that leaves all alone -/
def agree (g m : Msk) (H : Hp) : Fr Unit := ⟨fun a => g a ∧ m a, fun _ H' => ∀ a, g a ∧ m a → H' a = H a, fun h q a z => (h a z).trans (q a z), none⟩
theorem RBo.less {g g' o m : Msk} {H : Hp} {v : V} {d : D} (h : ∀ a, g' a → g a) (r : RBo K g o m H v d) : RBo K g' o m H v d := by
  rcases r with r | ⟨a, c, e1, e2, n, r⟩
  · exact .inl r
  · exact .inr ⟨a, c, e1, e2, ⟨n.1, fun z => n.2 (h a z)⟩, r⟩
theorem agree_same {g m : Msk} {H H' : Hp} (p : Stp (agree g m H) H H') (st : (agree g m H).st () H') : Same H H' := fun a o e => by
  by_cases z : g a ∧ m a
  · rw [st a z]; exact e
  · exact p.keep a o z e
/-- a pure def of two lent values, called from within an operator -/
theorem spF_two {F : Fn} {g m : Msk} {H : Hp} {v u : V} {d c e : D} {Q : VK} {E : XK} (hm : ∀ a, m a → H a ≠ none) (r1 : RB K g m H v d) (r2 : RB K g m H u c) (h : F [d, c] = some (.ok e)) (k : ∀ v' H', Same H H' → R K (cut m H') v' e → Q v' H') : spF K [.b, .b] F [v, u] H Q E := by
  refine ⟨Unit, agree g m H, m, (), [d, c], fun a z => z.2, hm, ⟨RBo.less (fun a z => z.1) r1, RBo.less (fun a z => z.1) r2, trivial⟩, fun a _ => rfl, ?_⟩
  rw [h]
  exact fun v' H' p st r => k v' H' (agree_same p st) r
theorem spF_one {F : Fn} {g m : Msk} {H : Hp} {v : V} {d e : D} {Q : VK} {E : XK} (hm : ∀ a, m a → H a ≠ none) (r1 : RB K g m H v d) (h : F [d] = some (.ok e)) (k : ∀ v' H', Same H H' → R K (cut m H') v' e → Q v' H') : spF K [.b] F [v] H Q E := by
  refine ⟨Unit, agree g m H, m, (), [d], fun a z => z.2, hm, ⟨RBo.less (fun a z => z.1) r1, trivial⟩, fun a _ => rfl, ?_⟩
  rw [h]
  exact fun v' H' p st r => k v' H' (agree_same p st) r
def rtD : D → Option Value
  | .v (.str _) => some (.type "str")
  | .obj C _ => some (.ref C)
  | _ => none
def resB (pos : Bool) : Option (Except Exn D) → Option D
  | some (.ok (.v (.bl b))) => some (dB (pos == b))
  | _ => none
def eqO (K : W.Frag) (EF : Addr → Option Fn) (pos : Bool) (d c : D) : Option D := match d with
  | .obj C _ => (rtD c).bind fun t => if W.notFirst K C t = true then (EF C).bind fun F => resB pos (F [d, c]) else match c with
    | .obj C' _ => if C' ≠ C ∧ W.subIn K (.ref C') (.ref C) = some true then (EF C').bind fun F => resB pos (F [c, d]) else none
    | _ => none
  | _ => none
theorem resB_ex {pos : Bool} {r : Option (Except Exn D)} {e : D} (h : resB pos r = some e) : ∃ b, r = some (.ok (dB b)) ∧ e = dB (pos == b) := by
  unfold resB at h
  split at h
  · cases h; exact ⟨_, rfl, rfl⟩
  · cases h
def DRp (K : W.Frag) (RF : Addr → Option Fn) : Addr → Sp → Prop := fun C sp => ∃ F, RF C = some F ∧ sp = spF K [.b] F
def resS : Option (Except Exn D) → Option D
  | some (.ok (.v (.str y))) => some (dS y)
  | _ => none
theorem resS_ex {r : Option (Except Exn D)} {e : D} (h : resS r = some e) : ∃ y, r = some (.ok (dS y)) ∧ e = dS y := by
  unfold resS at h
  split at h
  · cases h; exact ⟨_, rfl, rfl⟩
  · cases h
end
end L2.DL
namespace L2.DL
open L2 L2.My NdefX PySem PySem.Spec PyProof.Rows
section
variable {S : Type} {Γ : Fr S} {K : W.Frag} {E : XK} {ta tb tc te : TE} {A B : TX S} {t u : TS} {T U : TP S} {os : List Mo} {tl : TA} {L : TL S} {mo : Mo}
def fmtD (r : Bool) : D → Option Str
  | .v (.str y) => bif r then (if (reprText y).length ≤ sizeLine then some (reprText y) else none) else (if y.length ≤ sizeLine then some y else none)
  | .v (.int i) => if i.natAbs.log2 < 1920 then some (toString i) else none
  | _ => none
def xFmt (r : Bool) (A : TX S) : TX S := fun ρ s Q X => A ρ s (fun d s1 => opt (fmtD r d) fun y => Q (dS y) s1) X
theorem ln_fmt (ha : Ln Γ K E .b ta A) : Ln Γ K E .s (tFmt ta) (xFmt false A) := by
  intro M α σ H ρ s ok st QD QX Q q k kx
  refine ha ok st _ QX _ q (fun v H' d s' p st' r z => ?_) kx
  obtain ⟨y, e, z2⟩ := opt_ex z
  unfold fmtD at e
  split at e
  · simp only [cond_true, cond_false] at e
    split at e
    · rename_i h
      cases e
      exact .inl ⟨_, RBo.sc r, h, k _ H' _ s' p st' (.v _) z2⟩
    · cases e
  · split at e
    · rename_i h
      cases e
      exact .inr ⟨_, RBo.sc r, h, k _ H' _ s' p st' (.v _) z2⟩
    · cases e
  · cases e
inductive LnJ (Γ : Fr S) (K : W.Frag) (E : XK) : List TE → List (TX S) → Prop
  | nil : LnJ Γ K E [] []
  | cons {t : TE} {A : TX S} {ts : List TE} {As : List (TX S)} (h : Ln Γ K E .s t A) (r : LnJ Γ K E ts As) : LnJ Γ K E (t :: ts) (A :: As)
def xJs : List (TX S) → Str → Env → S → (Str → S → Prop) → (Exn → S → Prop) → Prop
  | [], acc, _, s, Q, _ => Q acc s
  | A :: As, acc, ρ, s, Q, X => A ρ s (fun d s1 => match d with
    | .v (.str y) => (acc ++ y).length ≤ sizeLine ∧ xJs As (acc ++ y) ρ s1 Q X
    | _ => False) X
def xJoined (As : List (TX S)) : TX S := fun ρ s Q X => xJs As Str.empty ρ s (fun y s1 => Q (dS y) s1) X
theorem ln_joined {ts : List TE} {As : List (TX S)} (h : LnJ Γ K E ts As) : Ln Γ K E .s (fun σ H Q => tJs ts Str.empty σ H fun out H1 => Q (.str out) H1) (xJoined As) := by
  intro M α σ H ρ s ok st QD QX Q q k kx
  have main : ∀ {ts : List TE} {As : List (TX S)}, LnJ Γ K E ts As → ∀ (acc : Str) (H1 : Hp) (s1 : S), Stp Γ H H1 → Γ.st s1 H1 → xJs As acc ρ s1 (fun y s1 => QD (dS y) s1) QX → tJs ts acc σ H1 fun out H2 => Q (.str out) H2 := by
    intro ts As h
    induction h with
    | nil => exact fun acc H1 s1 p st1 q => k _ H1 _ s1 p st1 (.v _) q
    | cons ha _ ih =>
      intro acc H1 s1 p st1 q
      refine ha (ok.step p) st1 _ QX _ q (fun v H' d s' p' st' r z => ?_) fun c dx H' x s' p' st' r z => kx c dx H' x s' (p.trans p') st' r z
      split at z
      · rename_i y
        cases r
        exact ⟨y, rfl, z.1, ih _ H' s' (p.trans p') st' z.2⟩
      · exact z.elim
  exact main h _ H s .refl st q
def asStrs : List D → Option (List Str)
  | [] => some []
  | .v (.str y) :: r => (asStrs r).map (y :: ·)
  | _ => none
theorem asStrs_eq : ∀ {ds : List D} {ys : List Str}, asStrs ds = some ys → ds = (ys.map V.str).map D.v
  | [], _, e => by cases e; rfl
  | .v (.str y) :: r, _, e => by
    unfold asStrs at e
    obtain ⟨zs, e1, e2⟩ := Option.map_eq_some_iff.mp e
    rw [← e2, asStrs_eq e1]; rfl
  | .v .non :: _, _, e => by cases e
  | .v (.bl _) :: _, _, e => by cases e
  | .v (.int _) :: _, _, e => by cases e
  | .v (.byt _) :: _, _, e => by cases e
  | .v (.flt _) :: _, _, e => by cases e
  | .v (.ref _) :: _, _, e => by cases e
  | .v (.ty _) :: _, _, e => by cases e
  | .tup _ :: _, _, e => by cases e
  | .lst _ :: _, _, e => by cases e
  | .dct _ :: _, _, e => by cases e
  | .obj _ _ :: _, _, e => by cases e
  | .exc _ _ :: _, _, e => by cases e
def joinD (d c : D) : Option D := match d with
  | .v (.str a) => (asSeq c).bind fun ds => (asStrs ds).bind fun ys => if (ys.map (·.length)).sum + ys.length * a.length ≤ 16777216 then some (dS (Txt.join a ys)) else none
  | _ => none
theorem ln_join (ha : Ln Γ K E .b ta A) (hb : Ln Γ K E .b tb B) : Ln Γ K E .s (tM1 (fun x xs H Q => ∃ a p, ∃ ys : List Str, x = .str a ∧ xs = [.ref p] ∧ (SqL K H p (ys.map V.str) ∨ SqT K H p (ys.map V.str)) ∧
      (ys.map (·.length)).sum + ys.length * a.length ≤ 16777216 ∧ Q (.str (Txt.join a ys)) H) ta tb) (fun ρ s Q X => A ρ s (fun d s1 => (∃ a, d = dS a) ∧ B ρ s1 (fun c s2 => opt (joinD d c) fun e => Q e s2) X) X) := by
  intro M α σ H ρ s ok st QD QX Q q k kx
  refine ha ok st _ QX _ q (fun v H1 d s1 p1 st1 r1 z => ?_) kx
  obtain ⟨⟨a, rfl⟩, z⟩ := z
  obtain rfl := RBo.sc r1
  refine ⟨⟨a, rfl⟩, ?_⟩
  refine hb (ok.step p1) st1 _ QX _ z (fun u H2 c s2 p2 st2 r2 z => ?_) fun c dx H' x s' p st' r z => kx c dx H' x s' (p1.trans p) st' r z
  obtain ⟨e, he, z2⟩ := opt_ex z
  obtain ⟨ds, ed, he⟩ := Option.bind_eq_some_iff.mp he
  obtain ⟨ys, ey, he⟩ := Option.bind_eq_some_iff.mp he
  split at he
  · rename_i hz
    cases he
    have eds := asStrs_eq ey
    unfold asSeq at ed
    split at ed
    · cases ed
      obtain ⟨b, ws, rfl, h1, h2⟩ := RBo.lst r2
      rw [eds] at h2
      obtain rfl := RAll.vs h2
      exact ⟨a, b, ys, rfl, rfl, .inl (.inl (.inl h1)), hz, k _ H2 _ s2 (p1.trans p2) st2 (.v _) z2⟩
    · cases ed
      obtain ⟨b, ws, rfl, h1, h2⟩ := RBo.tup r2
      rw [eds] at h2
      obtain rfl := RAll.vs h2
      exact ⟨a, b, ys, rfl, rfl, .inr h1, hz, k _ H2 _ s2 (p1.trans p2) st2 (.v _) z2⟩
    · cases ed
  · cases he
end
end L2.DL
namespace L2.DL
open L2 L2.My NdefX PySem PySem.Spec PyProof.Rows
section
variable {S : Type} {Γ : Fr S} {K : W.Frag} {E : XK} {ta tb tc te : TE} {A B : TX S} {t u : TS} {T U : TP S} {os : List Mo} {tl : TA} {L : TL S} {mo : Mo}
theorem RFs.zip {G : Hp} : ∀ {fs : List Str} {vs : List V} {ds : List D}, RAll K G vs ds → RFs K G (fs.zip vs) (fs.zip ds)
  | [], _, _, _ => .nil
  | _ :: _, _, _, .nil => .nil
  | f :: fs, _, _, .cons h t => .cons h (RFs.zip t)
theorem RFs.app {G : Hp} : ∀ {vs ws : List (Str × V)} {ds es : List (Str × D)}, RFs K G vs ds → RFs K G ws es → RFs K G (vs ++ ws) (ds ++ es)
  | _, _, _, _, .nil, t => t
  | _, _, _, _, .cons h r, t => .cons h (RFs.app r t)
theorem RFs.rev {G : Hp} : ∀ {vs : List (Str × V)} {ds : List (Str × D)}, RFs K G vs ds → RFs K G vs.reverse ds.reverse
  | _, _, .nil => .nil
  | _, _, .cons h t => by rw [List.reverse_cons, List.reverse_cons]; exact RFs.app (RFs.rev t) (.cons h .nil)
/-- raise X(e, ..), an own class whose __init__ stores its parameters -/
def pRaise (C : Addr) (fs : List Str) (L : TL S) : TP S := fun ρ s P => L (frz ρ) s (fun ds s1 => ds.length = fs.length ∧ ds.length ≤ 1000 ∧ P.ex ⟨C, some (fs.zip ds).reverse⟩ s1) P.ex
theorem ls_raise {C : Addr} {fs : List Str} (hs : os.all (fun o => match o with | .s => true | _ => false) = true) (h : LnA Γ K E os tl L) : LnS Γ K E (fun _ σ H => tMkO C (spIni C fs) [] tl σ H fun cls d H' => E cls d H') (pRaise C fs L) := by
  have hnS : ∀ o ∈ os, o = Mo.s := fun o z => by
    have := List.all_eq_true.mp hs o z
    cases o <;> first | rfl | cases this
  intro M α σ H ρ s ok st P Dn q kn kb kc kr kx
  obtain ⟨ok0, no⟩ := ok.frz
  have mm : ∀ a, M a → mask M α (frz ρ) a := fun a z => .inl z
  refine h ok0 st _ P.ex _ q (fun vs H1 ds s1 p st1 r z => ?_) (fun c dx H' x s' p st' r z => kx c dx H' x s' (stS_end p) st' (r.mono mm) z)
  obtain ⟨z1, z2, z⟩ := z
  obtain ⟨l1, l2⟩ := ARel.len r
  have rr := ARel.strict hnS r
  have lv : vs.length = ds.length := RAll.len rr
  refine ⟨by rw [lv]; exact z2, fun a na => ⟨a, vs, by rw [List.append_nil], by rw [lv]; exact z1, upd_same, fun dx nd ne => ⟨rfl, dx, (fs.zip vs).reverse, upd_same, by rw [upd_ne ne, upd_same], ?_, ?_⟩⟩⟩
  · rwa [upd_ne ne] at nd
  · have nd1 : H1 dx = none := by rwa [upd_ne ne] at nd
    have sm : Same H1 (upd (del (upd (upd (upd H1 a (exo a C none)) dx (exd dx (fs.zip vs).reverse)) a (exo a C (some dx))) a) dx (.xd (fs.zip vs).reverse)) := fun b o e => by
      have h1 := ne_of_none e na
      have h2 := ne_of_none e nd1
      rw [upd_ne h2, del_ne h1, upd_ne h1, upd_ne h2, upd_ne h1]
      exact e
    have p2 : Stp Γ H1 _ := Stp.of sm
    have ok1 := ok0.step p
    refine kx _ _ _ ⟨C, some (fs.zip ds).reverse⟩ s1 (stS_end (p.trans p2)) (Fr.same ok1.frt sm st1) ⟨rfl, dx, _, rfl, fun z => ok1.trk dx z nd1, upd_same, ?_⟩ z
    exact RFs.same (fun b o e => by
      obtain ⟨n, e⟩ := of_cut e
      rw [cut_out fun z => n (mm b z)]
      exact sm b o e) (RFs.rev (RFs.zip rr))
end
end L2.DL
namespace L2.DL
open L2 L2.My NdefX PySem PySem.Spec PyProof.Rows
section
variable {S : Type}
theorem cmpD_i {p : Int → Int → Bool} {q : List Nat → List Nat → Bool} {i j : Int} : cmpD p q (dI i) (dI j) = some (dB (p i j)) := rfl
theorem lenD_t {xs : List D} : lenD (.tup xs) = some (dI xs.length) := rfl
theorem allD_l {xs : List D} : allD (.lst xs) = (asBs xs).map fun bs => dB (bs.all id) := rfl
theorem eqD_s {b : Bool} {x y : Str} : eqD b (dS x) (dS y) = some (dB (b == (x == y))) := by simp [eqD, toPy, PyData.eqv, PyData.depth]
theorem eqD_i {b : Bool} {x y : Int} : eqD b (dI x) (dI y) = some (dB (b == (x == y))) := by simp [eqD, toPy, PyData.eqv, PyData.depth]
theorem eqD_b {b x y : Bool} : eqD b (dB x) (dB y) = some (dB (b == (x == y))) := by simp [eqD, toPy, PyData.eqv, PyData.depth]
theorem eqD_n {b : Bool} : eqD b dN dN = some (dB b) := by simp [eqD, toPy, PyData.eqv, PyData.depth]
theorem eqD_in {b : Bool} {x : Int} : eqD b (dI x) dN = some (dB !b) := by cases b <;> simp [eqD, toPy, PyData.eqv, PyData.depth]
theorem eqD_ni {b : Bool} {x : Int} : eqD b dN (dI x) = some (dB !b) := by cases b <;> simp [eqD, toPy, PyData.eqv, PyData.depth]
theorem eqD_sn {b : Bool} {x : Str} : eqD b (dS x) dN = some (dB !b) := by cases b <;> simp [eqD, toPy, PyData.eqv, PyData.depth]
theorem eqD_ns {b : Bool} {x : Str} : eqD b dN (dS x) = some (dB !b) := by cases b <;> simp [eqD, toPy, PyData.eqv, PyData.depth]
theorem isiK_o {K : W.Frag} {C c : Addr} {fs : List (Str × D)} (h : ClsI K C) : isiK K (.obj C fs) (.v (.ref c)) = (W.kitOne K (.ref C) (.ref c)).map dB := by
  simp [isiK, isiD, DL.tyV, clsV, h]
end
theorem ln_dct0 {S : Type} {Γ : Fr S} {K : W.Frag} {E : XK} : Ln Γ K E .f tDNewK (xC (.dct []) : TX S) := by
  intro M α σ H ρ s ok st QD QX Q q k kx
  intro d hd
  exact k _ _ _ s (Stp.of (same_upd hd)) (Fr.same ok.frt (same_upd hd) st) ⟨d, .dct [], rfl, rfl, hd, _, upd_same, .nil⟩ q
/-- a class of the module by its name, with its __init__'s promise -/
structure MkC (P : Program) (w : World) (K : W.Frag) (mg : Str → Option Value) (base : Heap) (k : Nat) (x : Str) (C : Addr) (ps : List Str) (sp : Sp) : Prop where
  ex : ∃ (f : Addr) (fd : FuncData), Mk K C f ∧ FnG P w K mg base (L2.CX P w) k f fd ps sp ∧ Binds K fd ps []
  nm : mg x = some (.ref C)
theorem pe_mkc {X : Cx} {k n : Nat} {C : Addr} {ps : List Str} {sp : Sp} {E : XK} {x : Str} {p pos : Pos} {e : Expr} {es : List Expr} {t : TA} (c : MkC X.prog X.w X.K X.mg X.base k x C ps sp) (hr : Room n X.A) (hk : k + 1 ≤ n) (hq : My.Quiet X.A) (hg : Gl X x) (hx : Passes (L2.CX X.prog X.w) X E) (ha : PA X (e :: es) t)
    (hdb : (x == ("__debug__" : Str)) = false := by decide) (he : starEach (e :: es) X.env = (false, eval e X.env) :: starEach es X.env := by rfl) (hpl : (backTo pos (starEach es X.env)).any (·.1) = false := by rfl) : PE X (.Call (.Name x p) (e :: es) [] pos) (tMk C sp E t) := by
  obtain ⟨f, fd, M, F, hb⟩ := c.ex
  exact pe_mk M F (hr.mono hk) hq hg c.nm hb hx ha hdb he hpl
end L2.DL
namespace L2.DL
open L2 L2.My NdefX PySem PySem.Spec PyProof.Rows
section
variable {S : Type}
variable {ρ : Env} {s : S} {A B C : TX S} {L : TL S} {T U U2 : TP S} {I : TL S} {c c' : TB S} {d e x y : D} {ds : List D} {a b : Bool} {P : Post S} {i : Nat} {mo : Mo}
/-- what is wanted of a statement, closed -/
structure Run (T : TP S) (ρ : Env) (s : S) (P : Post S) : Prop where
  go : T ρ s P
variable {Q : D → S → Prop} {QL : List D → S → Prop} {X : Exn → S → Prop}
end
end L2.DL
namespace L2.DL
open L2 L2.My NdefX PySem PySem.Spec PyProof.Rows
def spLaw (K : W.Frag) : Sp := fun vs H Q _ => ∃ (a : Addr) (ns : List Int), vs = [.ref a] ∧ SqL K H a (ns.map V.int) ∧ ∀ H', Q (.bl true) H'
def lawE (n : Nat) (p : Addr) : Env := .no :: .d (.v (.ref p)) :: List.replicate (n - 2) .no
def postW : Post Nat where
  nx := fun _ _ => False
  rt := fun d _ => d = dB true
section
variable {P : Program} {w : World} {K : W.Frag} {mg : Str → Option Value} {base : Heap} {st : Stmt} {f : Addr} {fd : FuncData} {N : List Str} {k : Nat} {r1 : Stmt} {rest : List Stmt}
theorem fn_law (Fd : Fun K "law" "law" st f fd) (Sc : FnScope N ["_law_script"] (defScope st)) (h2 : 2 ≤ N.length) (hst : defBody st = r1 :: rest)
    (hbody : ∀ (cdv : Value) (A : Around) (outer : List PySem.Env) (s : Shared) (H : Hp), Room k (A.deeper (envOfC "law" (defScope st) s.heap.objs.size f cdv)) → Quiet (A.deeper (envOfC "law" (defScope st) s.heap.objs.size f cdv)) →
      ∃ t, PS (cxOf CX0 P w K mg base N "law" (defScope st) f cdv A outer s H E0).nox r1 (tAsg (tCall (spPen K) [] E0 (tCons (tVar 0) tNil)) (gName 1)) ∧ PSs (cxOf CX0 P w K mg base N "law" (defScope st) f cdv A outer s H E0).nox rest t ∧
        ∀ (p q : Addr) (ns : List Int), ∃ T : TP Nat, LnS (penFr p q ns) K E0 t T ∧ Run T (lawE N.length p) 0 postW) :
    FnG P w K mg base CX0 (k + 1) f fd ["_law_script"] (spLaw K) := by
  refine body_g0 Fd Sc ?_ ?_
  · rintro vs H Q E ⟨a, ns, rfl, _⟩
    rfl
  rintro cdv A outer s H vs Q E hr hq ⟨a0, ms, rfl, sa, z⟩
  obtain ⟨t, h1, h2', hT⟩ := hbody cdv A outer s H hr hq
  rw [hst]
  refine ⟨_, pss_cons h1 h2', ?_⟩
  have hN : N.length = N.length - 2 + 2 := by omega
  refine ⟨V.ref a0, rfl, ⟨a0, ms, rfl, sa, fun p q ns H' sm hp pen => ?_⟩⟩
  obtain ⟨T, lt, main⟩ := hT p q ns
  have pM : ∀ a, (penFr p q ns).M a → H' a ≠ none := by
    rintro a (rfl | rfl)
    · rw [pen.pen]; exact fun z => by cases z
    · rw [pen.cells]; exact fun z => by cases z
  have no : ∀ i, ¬ ownAt (lawE N.length p) i := by
    rintro i ⟨sl, e, o⟩
    match i with
    | 0 => cases e; cases o
    | 1 => cases e; cases o
    | i + 2 =>
      unfold lawE at e
      rw [List.getElem?_cons_succ, List.getElem?_cons_succ, List.getElem?_replicate] at e
      split at e
      · cases e; cases o
      · cases e
  have ok : Ok (penFr p q ns) K (penFr p q ns).M (fun _ => 0) ((start N [V.ref a0]).set 1 (some (.ref p))) H' (lawE N.length p) := by
    refine ⟨fun _ z => z, pM, fun i o => absurd o (no i), fun i j a b => absurd a (no i), ?_, fun i sl e => ?_, fun a z => by cases z⟩
    · unfold start lawE
      simp only [List.length_set, List.length_append, List.length_map, List.length_replicate, List.length_cons, List.length_nil]
      omega
    · match i with
      | 0 => cases e; trivial
      | 1 =>
        cases e
        refine ⟨.ref p, ?_, .v _⟩
        rw [List.getElem?_set_self]
        unfold start
        simp only [List.length_append, List.length_map, List.length_replicate, List.length_cons, List.length_nil]
        omega
      | i + 2 =>
        unfold lawE at e
        rw [List.getElem?_cons_succ, List.getElem?_cons_succ, List.getElem?_replicate] at e
        split at e
        · cases e; trivial
        · cases e
  exact lt ok ⟨0, pen⟩ postW _ main.go (fun _ _ _ _ _ _ _ _ z => z.elim) (fun _ _ _ _ _ _ _ _ z => z.elim) (fun _ _ _ _ _ _ _ _ z => z.elim) (fun v H2 d s' _ _ r e => by
    rw [e] at r
    cases r
    exact z H2) (fun _ _ _ _ _ _ _ _ z => z.elim)
end
end L2.DL
namespace L2.DL
open L2 L2.My PySem PySem.Spec PyProof.Rows
/-- one turn of one clause: act is what is done where the tests are passed, ag the next turn -/
def turnG (p : Pos) (tg : Expr) (ifs : List Expr) (it : Value) (env : PySem.Env) (act : Sem Fin → Sem Fin) (ag : Sem Fin) : Sem Fin := do
  standAt p
  match ← pyNext it with
  | none => pure (.done .next)
  | some v =>
    letOwnedTupleGo tg it v
    assign tg env v
    let mut ok := true
    for c in ifs do
      if ok then ok ← isTrue c env (eval c env)
    if ok then act ag else ag
abbrev testsG (ifs : List Expr) (env : PySem.Env) : Sem Bool := forIn ifs true fun c r => if r = true then do let ok ← isTrue c env (eval c env); pure (ForInStep.yield ok) else pure (ForInStep.yield r)
section
variable {prog : Program} {w : World} {A : Around} {s : Shared}
theorem wp_turnG {p : Pos} {tg : Expr} {ifs : List Expr} {it : Value} {env : PySem.Env} {act : Sem Fin → Sem Fin} {ag : Sem Fin} {Q : Fin → Shared → Prop} {E : Value → Shared → Prop}
    (h : wpAny (model prog w) A (pyNext it) (fun r s1 => match r with
      | none => Q (.done .next) s1
      | some v => wpAny (model prog w) A (letOwnedTupleGo tg it v) (fun _ s2 => wpAny (model prog w) A (assign tg env v) (fun _ s3 => wpAny (model prog w) A (testsG ifs env) (fun ok s4 =>
          if ok = true then wpAny (model prog w) A (act ag) Q E s4 else wpAny (model prog w) A ag Q E s4) E s3) E s2) E s1) E s) :
    wpAny (model prog w) A (turnG p tg ifs it env act ag) Q E s := by
  unfold turnG
  refine wpAny_bind (wpAny_standAt (wpAny_bind (wpAny_mono h (fun r s1 h1 => ?_) fun _ _ z => z)))
  match r, h1 with
  | none, h1 => exact wpAny_pure h1
  | some v, h1 =>
    refine wpAny_bind (wpAny_mono h1 (fun _ s2 h2 => wpAny_bind (wpAny_mono h2 (fun _ s3 h3 => wpAny_bind (wpAny_mono h3 (fun ok s4 h4 => ?_) fun _ _ z => z)) fun _ _ z => z)) fun _ _ z => z)
    cases ok with
    | false => exact h4
    | true => exact h4
/-- what the machine does for a clause's loop -/
structure NodeL (prog : Program) (w : World) (node : Expr) (lvl : Nat) (it acc : Value) (env : PySem.Env) : Prop where
  un : ∀ A : Around, A.under (.compLoop node lvl it acc env) = A
  de : (model prog w).den (.compLoop node lvl it acc env) = (compTurn node lvl it acc env).onRaise fun x => do noteFrame x env; theTreesLotGoes x
  qu : (Code.compLoop node lvl it acc env).quiet = true
/-- the loop of a clause -/
theorem loopG {node : Expr} {lvl : Nat} {p : Pos} {tg : Expr} {ifs : List Expr} {it acc : Value} {env : PySem.Env} {act : Sem Fin → Sem Fin} {R : Result → Shared → Prop}
    (nl : NodeL prog w node lvl it acc env) (ht : compTurn node lvl it acc env = turnG p tg ifs it env act (again (.compLoop node lvl it acc env))) (I : Nat → Shared → Prop)
    (turn : ∀ n s, I n s → wpAny (model prog w) A (pyNext it) (fun r s1 => match r with
      | none => R (.ok .next) s1
      | some v => wpAny (model prog w) A (letOwnedTupleGo tg it v) (fun _ s2 => wpAny (model prog w) A (assign tg env v) (fun _ s3 => wpAny (model prog w) A (testsG ifs env) (fun ok s4 =>
          if ok = true then ∀ (Q : Fin → Shared → Prop) (E : Value → Shared → Prop) (k : Sem Fin), (∀ s5, (∃ m, m < n ∧ I m s5) → wpAny (model prog w) A k Q E s5) → wpAny (model prog w) A (act k) Q E s4 else ∃ m, m < n ∧ I m s4) (fun _ _ => False) s3) (fun _ _ => False) s2) (fun _ _ => False) s1) (fun _ _ => False) s)
    (n : Nat) (h : I n s) : codeAny (model prog w) A (.compLoop node lvl it acc env) R s := by
  refine codeAny_loop nl.qu I (fun n s hI => ?_) n h
  rw [nl.un, nl.de]
  refine wpAny_noted ?_
  rw [ht]
  have nof : ∀ {α : Type} {t : Sem α} {Q : α → Shared → Prop} {E : Value → Shared → Prop} {s : Shared}, wpAny (model prog w) A t Q (fun _ _ => False) s → wpAny (model prog w) A t Q E s := fun z => wpAny_mono z (fun _ _ q => q) fun _ _ q => q.elim
  have agn : ∀ {s' : Shared} {E : Value → Shared → Prop}, (∃ m, m < n ∧ I m s') → wpAny (model prog w) A (again (.compLoop node lvl it acc env)) (fun fin s' => match fin with
      | .done f => R (.ok f) s'
      | .again c' => c' = .compLoop node lvl it acc env ∧ ∃ m, m < n ∧ I m s') E s' := fun q => wpAny_pure ⟨rfl, q⟩
  refine wp_turnG (nof (wpAny_mono (turn n s hI) (fun r s1 h1 => ?_) fun _ _ z => z))
  match r, h1 with
  | none, h1 => exact h1
  | some v, h1 =>
    refine nof (wpAny_mono h1 (fun _ s2 h2 => nof (wpAny_mono h2 (fun _ s3 h3 => nof (wpAny_mono h3 (fun ok s4 h4 => ?_) fun _ _ z => z)) fun _ _ z => z)) fun _ _ z => z)
    cases ok with
    | false =>
      rw [if_neg (by decide)] at h4 ⊢
      exact agn h4
    | true =>
      rw [if_pos rfl] at h4 ⊢
      exact h4 _ _ _ fun s5 h5 => agn h5
end
/-- what a turn does, read: from slots and the heap to what the next turn wants; vs1: the slots that it forgets -/
structure PAc (Y : Cx) (act : Sem Fin → Sem Fin) (vs1 : List Nat) (ta : St → Hp → (Hp → Prop) → Prop) : Prop where
  run : ∀ (pins : List (Addr × Obj)) (s : Shared) (σ : St) (H : Hp) (Nx : Hp → Prop), Inv Y pins σ H s → ta σ H Nx → ∀ (Q : Fin → Shared → Prop) (E : Value → Shared → Prop) (k : Sem Fin), (∀ s' H', Inv Y pins (wipe σ vs1) H' s' → Nx H' → wpAny (model Y.prog Y.w) Y.A k Q E s') → wpAny (model Y.prog Y.w) Y.A (act k) Q E s
/-- a comprehension's reading: o0 D the thing at its start -/
def tCo (o0 : Addr → HO) (wi : TI) (g : TG) (tt : TT) (ta : Addr → St → Hp → (Hp → Prop) → Prop) (vs : List Nat) : TE := fun σ H Q => wi σ H fun J H1 => ∀ D, H1 D = none → ∃ W : Nat → Nat → Hp → Prop, (∃ m, W 0 m (upd H1 D (o0 D))) ∧ ∀ i m H, W i m H →
  (J.stop i H ∧ Q (.ref D) H) ∨ (J.go i H ∧ ∃ Nx : Hp → Prop, (∀ H', Nx H' → ∃ m', m' < m ∧ W (i + 1) m' H') ∧ ∀ x H', J.yld i H x H' → g x (wipe σ vs) H' fun σ2 H2 => wipe σ2 vs = wipe σ vs ∧ tt σ2 H2 fun b H3 => if b = true then ta D σ2 H3 Nx else Nx H3)
theorem wipe_back {σ σ2 : St} {vs vs1 : List Nat} (hw : wipe σ2 vs = wipe σ vs) (hv : ∀ i ∈ vs1, i ∈ vs) : ∀ (i : Nat) v, (wipe σ vs)[i]? = some (some v) → (wipe σ2 vs1)[i]? = some (some v) := fun i v e => by
  rw [← hw] at e
  obtain ⟨e1, e2⟩ := wipe_some e
  rw [wipe_out fun z => e2 (hv i z)]
  exact e1
section
variable {X : Cx} {pins : List (Addr × Obj)} {s : Shared} {σ : St} {H : Hp} {Q : VK}
/-- THE loop of the first clause, within the block -/
theorem co_loop {Y : Cx} {node tg : Expr} {ifs : List Expr} {p : Pos} {it D : Addr} {fp : List Addr} {tn : Nat → Heap → Prop} {J : It} {g : TG} {tt : TT} {ta : St → Hp → (Hp → Prop) → Prop} {vs vs1 : List Nat} {lvl : Nat} {act : Sem Fin → Sem Fin} {R : Result → Shared → Prop} {pn : List (Addr × Obj)} {H3 : Hp} {s4 : Shared} {Qe : Hp → Prop} {W : Nat → Nat → Hp → Prop} {m0 : Nat}
    (hc : Y.calm = true) (hxe : ∀ (e : Value) (s : Shared), Y.xe e s → False) (nl : NodeL Y.prog Y.w node lvl (.ref it) (.ref D) Y.env) (T : Turn Y.prog Y.w Y.K tg J fp it tn) (ht : compTurn node lvl (.ref it) (.ref D) Y.env = turnG p tg ifs (.ref it) Y.env act (again (.compLoop node lvl (.ref it) (.ref D) Y.env)))
    (pg : PG Y tg g) (pt : PTs Y ifs tt) (pa : PAc Y act vs1 ta) (hv : ∀ i ∈ vs1, i ∈ vs)
    (stat : ∀ {H' : Hp} {σ' : St} {s' : Shared}, Inv Y pn σ' H' s' → (∀ b ∈ fp, H' b = none) → ∀ b ∈ fp, FpOk Y pn H' b)
    (I4 : Inv Y pn (wipe σ vs) H3 s4) (st4 : tn 0 s4.heap) (nfp : ∀ b ∈ fp, H3 b = none) (w0 : W 0 m0 H3)
    (turn : ∀ i m H, W i m H → (J.stop i H ∧ Qe H) ∨ (J.go i H ∧ ∃ Nx : Hp → Prop, (∀ H', Nx H' → ∃ m', m' < m ∧ W (i + 1) m' H') ∧ ∀ x H', J.yld i H x H' → g x (wipe σ vs) H' fun σ2 H2 => wipe σ2 vs = wipe σ vs ∧ tt σ2 H2 fun b H3 => if b = true then ta σ2 H3 Nx else Nx H3))
    (fin : ∀ (s6 : Shared) (H6 : Hp), Inv Y pn (wipe σ vs) H6 s6 → Qe H6 → R (.ok .next) s6) :
    codeAny (model Y.prog Y.w) Y.A (.compLoop node lvl (.ref it) (.ref D) Y.env) R s4 := by
  refine loopG nl ht (fun n s' => ∃ i H', Inv Y pn (wipe σ vs) H' s' ∧ tn i s'.heap ∧ (∀ b ∈ fp, H' b = none) ∧ W i n H') ?_ m0 ⟨0, H3, I4, st4, nfp, w0⟩
  rintro n s5 ⟨i, H5, I5, st5, n5, w5⟩
  rcases turn i n H5 w5 with ⟨stop, qq⟩ | ⟨go, Nx, hNx, step⟩
  · refine wpAny_mono (T.done Y rfl rfl rfl hc i pn s5 _ H5 (fun _ _ => False) I5 (stat I5 n5) st5 stop) (fun r s6 ⟨hr, I6⟩ => ?_) fun _ _ z => z
    subst hr
    exact fin s6 H5 I6 qq
  · refine wpAny_mono (T.item Y rfl rfl rfl hc i pn s5 _ H5 (fun _ _ => False) I5 (stat I5 n5) st5 go) (fun r s6 ⟨u, hr, h6⟩ => ?_) fun _ _ z => z
    subst hr
    refine wpAny_mono h6 (fun _ s7 ⟨x, H7, I7, r7, y7, st7, n7⟩ => ?_) fun _ _ z => z
    have I7' := I7.pinned (stat I7 n7) (T.obj _ _ st7)
    have back : ∀ {s' : Shared} {H' : Hp} {σ' : St}, Inv Y (pn ++ pinsAt fp s7.heap) σ' H' s' → σ'.length = (wipe σ vs).length → (∀ (j : Nat) v, (wipe σ vs)[j]? = some (some v) → σ'[j]? = some (some v)) → Nx H' → ∃ m, m < n ∧ ∃ i H', Inv Y pn (wipe σ vs) H' s' ∧ tn i s'.heap ∧ (∀ b ∈ fp, H' b = none) ∧ W i m H' := fun {s' H' σ'} I' hl hk nx => by
      obtain ⟨m', lt, w'⟩ := hNx H' nx
      have still : ∀ b ∈ fp, ∀ o, s7.heap.get? b = some o → s'.heap.get? b = some o ∧ H' b = none := fun b hb o e =>
        ⟨(I'.pin (b, o) (List.mem_append_right _ (List.mem_append_right _ (mem_pinsAt hb e)))).1, (I'.pin (b, o) (List.mem_append_right _ (List.mem_append_right _ (mem_pinsAt hb e)))).2.1⟩
      refine ⟨m', lt, i + 1, H', I'.unpinned.weak hl.symm hk, T.keep _ _ _ st7 fun b hb o e => (still b hb o e).1, fun b hb => ?_, w'⟩
      obtain ⟨o, e, _⟩ := T.obj _ _ st7 b hb
      exact (still b hb o e).2
    refine wpAny_mono (pg.run _ s7 _ H7 x u _ I7' r7 (step x H7 y7)) (fun _ s8 ⟨σ8, H8, I8, hw8, q8⟩ => ?_) hxe
    have l8 : σ8.length = (wipe σ vs).length := by rw [← hw8, wipe_length]
    have k8 : ∀ (j : Nat) v, (wipe σ vs)[j]? = some (some v) → σ8[j]? = some (some v) := fun j v e => by
      rw [← hw8] at e
      exact (wipe_some e).1
    refine wpAny_mono (pt.run _ s8 σ8 H8 _ I8 q8) (fun ok s9 ⟨H9, I9, q9⟩ => ?_) hxe
    cases ok with
    | false =>
      rw [if_neg (by decide)] at q9 ⊢
      exact back I9 l8 k8 q9
    | true =>
      rw [if_pos rfl] at q9 ⊢
      exact fun Q E k hk => pa.run _ s9 σ8 H9 Nx I9 q9 Q E k fun s10 H10 I10 q10 => hk s10 (back I10 (by rw [wipe_length]; exact l8) (fun j v e => wipe_back hw8 hv j v e) q10)
/-- a sort of comprehension: what it makes at first, its turn, its start -/
structure Sort' (X : Cx) (node iter tg : Expr) (ifs : List Expr) (scope : Scope) (rest : List Comprehension) (newAcc : Sem Value) (ob : Obj) (o0 : Addr → HO) (act : Addr → PySem.Env → Sem Fin → Sem Fin) : Prop where
  cls : clausesOf node = ⟨tg, iter, ifs, 0⟩ :: rest
  evl : ∃ pos', eval node X.env = comprehension node scope X.env pos' newAcc false (eval iter X.env)
  new : ∀ {s : Shared} {Q E : Value → Shared → Prop}, Q (.ref s.heap.objs.size) { s with heap := s.heap.push ob } → wpAny (model X.prog X.w) X.A newAcc Q E s
  isO : ∀ (H : Hp) (h : Heap), sysModules < h.objs.size → ObjOk X.prog X.w H (h.push ob) h.objs.size (o0 h.objs.size)
  trn : ∀ (it D : Addr) (env : PySem.Env), compTurn node 0 (.ref it) (.ref D) env = turnG iter.pos tg ifs (.ref it) env (act D env) (again (.compLoop node 0 (.ref it) (.ref D) env))
  nod : ∀ (it D : Addr) (env : PySem.Env), NodeL X.prog X.w node 0 (.ref it) (.ref D) env
  sta : ∀ {it acc : Value} {env : PySem.Env} {R : Result → Shared → Prop} {s : Shared}, codeAny (model X.prog X.w) X.A (.compLoop node 0 it acc env) R s → (∀ (Q : Value → Shared → Prop) (E : Value → Shared → Prop), Q it s → wpAny (model X.prog X.w) X.A (pyIter it) Q E s) → codeAny (model X.prog X.w) X.A (.compStart node 0 it acc env) R s
  fol : ∀ x, foldedSetIterable iter X.env x = pure x
/-- a comprehension, whatever is done with it -/
theorem co_core {use : Option (Value → Sem Unit)} {Qf : Value → Shared → Prop} {pos' : Pos} {node iter tg : Expr} {ifs : List Expr} {scope : Scope} {rest : List Comprehension} {newAcc : Sem Value} {ob : Obj} {o0 : Addr → HO} {act : Addr → PySem.Env → Sem Fin → Sem Fin} {own : List (Str × Nat)} {vs1 : List Nat} {wi : TI} {g : TG} {tt : TT} {ta : Addr → St → Hp → (Hp → Prop) → Prop}
    (so : Sort' X node iter tg ifs scope rest newAcc ob o0 act) (hc : X.calm = true) (hN : X.N.Nodup) (hi : PI X tg iter wi) (ok : BlkOk X.N X.env.scope scope own) (hv : ∀ i ∈ vs1, i ∈ own.map (·.2))
    (hg : ∀ (s : Shared) (H : Hp) (C : Addr) (cl : List (Str × Addr)) (fp : List Addr), PG (X.blk s H scope (compEnvC scope cl C X.env) fp) tg g) (ht : ∀ (s : Shared) (H : Hp) (C : Addr) (cl : List (Str × Addr)) (fp : List Addr), PTs (X.blk s H scope (compEnvC scope cl C X.env) fp) ifs tt)
    (ha : ∀ (s : Shared) (H : Hp) (C : Addr) (cl : List (Str × Addr)) (fp : List Addr) (D : Addr), PAc (X.blk s H scope (compEnvC scope cl C X.env) fp) (act D (compEnvC scope cl C X.env)) vs1 (ta D))
    (I : Inv X pins σ H s) (h : tCo o0 wi g tt ta (own.map (·.2)) σ H Q)
    (hRR : ∀ D C s' m H', Inv X pins σ H' s' → Q (.ref D) H' → s'.heap.Ns C m → FpOk X pins H' C → compPost (model X.prog X.w) X.A X.xe use Qf (.ref D) C (.ok .next) s') :
    wpAny (model X.prog X.w) X.A (comprehension node scope X.env pos' newAcc false (eval iter X.env) use) Qf X.xe s := by
  have free : ∀ y ∈ scope.names, y.2 = .free → ∃ c, X.env.cells.lookup y.1 = some c := fun y hy e => (ok.free y hy e).elim (fun z => I.ok.has _ (.inl z)) fun z => I.ok.has _ (.inr z)
  refine wpAny_comprehension_free (use := use) so.cls so.fol (closure_ok free) ok.kind (fun y hy e => by rw [ok.uniq y hy, e]) (thn (hi.run pins s σ H _ I h) fun xv s1 hx => thn hx fun itv s2 h2 => ?_)
  obtain ⟨it, fp, tn, J, H2, rfl, I2, T, st2, f2, q⟩ := h2
  refine so.new (newEnv_comp ?_)
  have hDn : H2 s2.heap.objs.size = none := I2.hok.fresh (Nat.le_refl _)
  obtain ⟨W, ⟨m0, w0⟩, turn⟩ := q _ hDn
  have I3 : Inv X pins σ (upd H2 s2.heap.objs.size (o0 s2.heap.objs.size)) { s2 with heap := s2.heap.push ob } := I2.laid (t' := s2.toks) (fun b o e => Heap.get?_push_of_some _ e) (Nat.le_refl _) (so.isO _ _ I2.big)
  have there : ∀ b ∈ fp, b < s2.heap.objs.size := fun b hb => let ⟨_, e, _⟩ := T.obj _ _ st2 b hb; Heap.lt_size e
  have f3 : ∀ b ∈ fp, FpOk X pins (upd H2 s2.heap.objs.size (o0 s2.heap.objs.size)) b ∧ b < (s2.heap.push ob).objs.size := fun b hb =>
    ⟨⟨by rw [upd_ne (Nat.ne_of_lt (there b hb))]; exact (f2 b hb).1, (f2 b hb).2⟩, by rw [Heap.size_push]; exact Nat.lt_succ_of_lt (there b hb)⟩
  have st3 : tn 0 (s2.heap.push ob) := T.keep _ _ _ st2 fun b _ o e => Heap.get?_push_of_some _ e
  revert I3 f3 st3
  generalize hs3 : ({ s2 with heap := s2.heap.push ob } : Shared) = s3
  have e3 : s2.heap.push ob = s3.heap := by rw [← hs3]
  rw [e3]
  generalize upd H2 s2.heap.objs.size (o0 s2.heap.objs.size) = H3 at w0 ⊢
  intro I3 f3 st3
  have I4 := block_start I3 ok hN f3
  have pg := hg s3 H3 s3.heap.objs.size (cellsFrom (s3.heap.objs.size + 1) scope.names (cloFrom X.env.cells scope.names [])) fp
  have pt := ht s3 H3 s3.heap.objs.size (cellsFrom (s3.heap.objs.size + 1) scope.names (cloFrom X.env.cells scope.names [])) fp
  have pa := ha s3 H3 s3.heap.objs.size (cellsFrom (s3.heap.objs.size + 1) scope.names (cloFrom X.env.cells scope.names [])) fp s2.heap.objs.size
  show codeAny _ _ (.compStart node 0 (.ref it) (.ref s2.heap.objs.size) (compEnvC scope (cellsFrom (s3.heap.objs.size + 1) scope.names (cloFrom X.env.cells scope.names [])) s3.heap.objs.size X.env)) (compPost (model X.prog X.w) X.A X.xe use Qf (.ref s2.heap.objs.size) s3.heap.objs.size) { s3 with heap := pushCells (s3.heap.push { cls := .type "dict", data := .dict #[] }) scope.names }
  have cL : (compEnvC scope (cellsFrom (s3.heap.objs.size + 1) scope.names (cloFrom X.env.cells scope.names [])) s3.heap.objs.size X.env).locals = s3.heap.objs.size := rfl
  revert I4 pg pt pa cL
  generalize compEnvC scope (cellsFrom (s3.heap.objs.size + 1) scope.names (cloFrom X.env.cells scope.names [])) s3.heap.objs.size X.env = ce
  generalize hs4 : ({ s3 with heap := pushCells (s3.heap.push { cls := .type "dict", data := .dict #[] }) scope.names } : Shared) = s4
  intro I4 pg pt pa cL
  have st4 : tn 0 s4.heap := T.keep _ _ _ st3 fun b _ o e => by rw [← hs4]; exact pushCells_keeps _ _ _ _ (Heap.get?_push_of_some _ e)
  have loop := co_loop (Y := X.blk s3 H3 scope ce fp) (node := node) (lvl := 0) (D := s2.heap.objs.size) (σ := σ) (R := compPost (model X.prog X.w) X.A X.xe use Qf (.ref s2.heap.objs.size) s3.heap.objs.size) hc (fun _ _ z => z) (so.nod it s2.heap.objs.size ce) T (so.trn it s2.heap.objs.size ce) pg pt pa hv
    (fun {H' σ' s'} I' hn b hb => ⟨hn b hb, (I'.ok.exf b hb).1, I'.ok.exfs b hb, .inl hb, fun x c e => (I'.ok.exf b hb).2 x c e, fun p hp => absurd (show p ∈ ([] : List (Addr × Obj)) ++ [] from hp) (by simp)⟩)
    I4 st4 (fun b hb => (f3 b hb).1.1) w0 turn fun s6 H6 I6 qq => by
      have I7 : Inv X pins σ H6 s6 := I3.call' (ch := fp) I6.os I6.base I6.hok I6.bare fun b hb => ⟨(f3 b hb).1.2.2.2.1, (f3 b hb).1.2.1, (f3 b hb).1.2.2.2.2.1, (f3 b hb).1.2.2.2.2.2⟩
      have nC : H6 s3.heap.objs.size = none := by
        have z : H6 ce.locals = none := I6.free
        rwa [cL] at z
      obtain ⟨m, hn, _⟩ := I6.loc
      have hn : s6.heap.Ns ce.locals m := hn
      rw [cL] at hn
      exact hRR _ _ s6 m H6 I7 qq hn (I3.fpOk (Nat.le_refl _) nC)
  exact so.sta loop fun Q E q => T.self X.A 0 _ _ _ st4 q
/-- a comprehension as a value -/
theorem pe_co {node iter tg : Expr} {ifs : List Expr} {scope : Scope} {rest : List Comprehension} {newAcc : Sem Value} {ob : Obj} {o0 : Addr → HO} {act : Addr → PySem.Env → Sem Fin → Sem Fin} {own : List (Str × Nat)} {vs1 : List Nat} {wi : TI} {g : TG} {tt : TT} {ta : Addr → St → Hp → (Hp → Prop) → Prop}
    (so : Sort' X node iter tg ifs scope rest newAcc ob o0 act) (hc : X.calm = true) (hN : X.N.Nodup) (hi : PI X tg iter wi) (ok : BlkOk X.N X.env.scope scope own) (hv : ∀ i ∈ vs1, i ∈ own.map (·.2))
    (hg : ∀ (s : Shared) (H : Hp) (C : Addr) (cl : List (Str × Addr)) (fp : List Addr), PG (X.blk s H scope (compEnvC scope cl C X.env) fp) tg g) (ht : ∀ (s : Shared) (H : Hp) (C : Addr) (cl : List (Str × Addr)) (fp : List Addr), PTs (X.blk s H scope (compEnvC scope cl C X.env) fp) ifs tt)
    (ha : ∀ (s : Shared) (H : Hp) (C : Addr) (cl : List (Str × Addr)) (fp : List Addr) (D : Addr), PAc (X.blk s H scope (compEnvC scope cl C X.env) fp) (act D (compEnvC scope cl C X.env)) vs1 (ta D)) :
    PE X node (tCo o0 wi g tt ta (own.map (·.2))) := by
  refine ⟨fun pins s σ H Q I h => ?_⟩
  obtain ⟨pos', he⟩ := so.evl
  rw [he]
  refine co_core so hc hN hi ok hv hg ht ha I h fun D C s' m H' I' q hn f => ⟨m, hn, fun h'' sb => ?_⟩
  obtain ⟨y0, y1, y2, y3, y4, y5⟩ := f
  exact ⟨.ref D, H', I'.turned (t' := s'.toks) (fun b o hb e => (sb.2 b hb).trans e) y0 y1 y3 y4 y5, rfl, q⟩
end
end L2.DL
namespace L2.DL
open L2 L2.My PySem PySem.Spec PyProof.Rows
section
variable {prog : Program} {w : World} {A : Around} {R : Result → Shared → Prop} {s : Shared} {env : PySem.Env} {it acc : Value}
/-- a clause's start, whatever is made -/
theorem start_any {node : Expr} {lvl : Nat} {c : Comprehension} (hc : (clausesOf node)[lvl]? = some c) (ha : (c.is_async != 0) = false) (hu : A.under (.compStart node lvl it acc env) = A) (hq : (Code.compLoop node lvl it acc env).quiet = true)
    (hd : (model prog w).den (.compStart node lvl it acc env) = (compStart node lvl it acc env).onRaise fun x => do noteFrame x env; standAt theWindowsPlace)
    (h : codeAny (model prog w) A (.compLoop node lvl it acc env) R s) (hi : ∀ (Q : Value → Shared → Prop) (E : Value → Shared → Prop), Q it s → wpAny (model prog w) A (pyIter it) Q E s) :
    codeAny (model prog w) A (.compStart node lvl it acc env) R s := by
  refine codeAny_of_tree ?_
  rw [hu, hd]
  refine wpAny_notedAt ?_
  unfold compStart
  rw [hc]
  simp only [Option.elim_some, ha, Bool.false_eq_true, if_false]
  refine wpAny_bind (wpAny_askSetting (wpAny_ite ?_))
  split
  · first
      | exact wpAny_bind (wpAny_pure (wpAny_pure ⟨hq, h⟩))
      | exact wpAny_pure ⟨hq, h⟩
  · refine wpAny_bind (wpAny_rule ?_)
    first
      | exact wpAny_bind (wpAny_standAt (wpAny_bind (hi _ _ (wpAny_pure ⟨hq, h⟩))))
      | (show wpAny _ _ (standAt c.iter.pos >>= _) _ _ s; exact wpAny_bind (wpAny_standAt (wpAny_bind (hi _ _ (wpAny_pure ⟨hq, h⟩)))))
end
def actAdd (elt : Expr) (D : Addr) (env : PySem.Env) (k : Sem Fin) : Sem Fin := do
  (do let v ← eval elt env; standAt elt.pos; let _ ← call (.builtin "set.add") [.ref D, v])
  k
def taAdd (r : V → List V → Hp → VK → Prop) (te : TE) : Addr → St → Hp → (Hp → Prop) → Prop := fun D σ H Nx => te σ H fun y H1 => r (.ref D) [y] H1 fun _ H2 => Nx H2
theorem pac_add {Y : Cx} {elt : Expr} {te : TE} {r : V → List V → Hp → VK → Prop} {D : Addr} (hxe : ∀ (e : Value) (s : Shared), Y.xe e s → False) (hm : MtR Y "set.add" r) (he : PE Y elt te) : PAc Y (actAdd elt D Y.env) [] (taAdd r te D) := by
  refine ⟨fun pins s σ H Nx I h Qk Ek k hk => ?_⟩
  have hx0 : ∀ (e : Value) (s : Shared), Y.xe e s → Ek e s := fun e s z => (hxe e s z).elim
  unfold actAdd
  refine wpAny_bind (wpAny_bind (wpAny_mono (he.run pins s σ H _ I h) (fun u s1 ⟨y, H1, I1, r1, q1⟩ => ?_) hx0))
  refine wpAny_bind (wpAny_standAt (wpAny_bind (wpAny_mono (hm pins s1 σ H1 (.ref D) [y] (.ref D) [u] _ I1 rfl (.cons r1 .nil) q1) (fun _ s2 ⟨_, H2, I2, _, q2⟩ => ?_) hx0)))
  exact wpAny_pure (hk s2 H2 I2 q2)
def newSetO (w : World) : Obj := { cls := .type "set", dict := none, data := .set #[] 0 (.fresh 0 0 (!w.params.followText "set-order")) }
section
variable {X : Cx} {elt tg iter t1 i1 : Expr} {ifs ifs1 : List Expr} {scope : Scope} {pos : Pos}
theorem sort_set1 {o0 : Addr → HO} (ho : ∀ (H : Hp) (h : Heap), ObjOk X.prog X.w H (h.push (newSetO X.w)) h.objs.size (o0 h.objs.size)) (hs : ∀ x, foldedSetIterable iter X.env x = pure x) :
    Sort' X (.SetComp elt [⟨tg, iter, ifs, 0⟩] scope pos) iter tg ifs scope [] (newSet (.type "set")) (newSetO X.w) o0 (actAdd elt) where
  cls := rfl
  evl := ⟨_, rfl⟩
  new := fun h => PpSet.newSet_ok h
  isO := fun H h _ => ho H h
  trn := fun it D env => rfl
  nod := fun it D env => ⟨fun _ => rfl, rfl, rfl⟩
  sta := fun h hi => start_any rfl rfl rfl rfl rfl h hi
  fol := hs
end
end L2.DL
namespace L2.DL
open L2 L2.My PySem PySem.Spec PyProof.Rows
end L2.DL
namespace L2.DL
open L2 L2.My PySem PySem.Spec PyProof.Rows
abbrev kp (p : Int × Int) : Int := p.1 * 64 + p.2
section
variable {K : W.Frag}
theorem rb_ints {g m : Msk} {H : Hp} {v : V} {ds : List D} {ns : List Int} (r : RB K g m H v (.lst ds)) (e : asIs ds = some ns) : ∃ a, v = .ref a ∧ SqL K H a (ns.map V.int) := by
  obtain ⟨a, xs, rfl, h1, h2⟩ := RBo.lst r
  exact ⟨a, rfl, .inl (.inl (by rw [h1, asIs_rel h2 e]))⟩
end
end L2.DL
namespace L2.DL
open L2 L2.My NdefX PySem PySem.Spec PyProof.Rows
section
variable {S : Type}
abbrev Stepper (S Acc : Type) := Env → S → Acc → (Acc → S → Prop) → Prop
def coT {Acc : Type} (gd : GD) (C : TB S) (step : Stepper S Acc) (Q : Acc → S → Prop) (ρ : Env) : List D → Acc → S → Prop
  | [], acc, s => Q acc s
  | d :: r, acc, s => opt (gd d ρ) fun ρ1 => C ρ1 s (fun b s1 => if b = true then step ρ1 s1 acc (fun acc' s2 => coT gd C step Q ρ r acc' s2) else coT gd C step Q ρ r acc s1) (fun _ _ => False)
/-- what stands for the thing that is being made -/
abbrev ARep (Acc : Type) := Acc → Addr → Hp → HO → Prop
/-- the frame that minds D0, too -/
def Fr.plus (Γ : Fr S) (D0 : Addr) : Fr S := ⟨fun a => Γ.M a ∨ a = D0, fun _ _ => True, fun _ _ => trivial, Γ.self⟩
def LnAct {Acc : Type} (Γ : Fr S) (K : W.Frag) (AR : ARep Acc) (ta : Addr → St → Hp → (Hp → Prop) → Prop) (step : Stepper S Acc) : Prop :=
  ∀ {M : Msk} {α : Nat → Addr} {σ : St} {H : Hp} {ρ : Env} {s : S} {D0 : Addr} {acc : Acc} {o : HO}, Ok (Γ.plus D0) K M α σ H ρ → ¬ Γ.M D0 → (∀ i, ¬ ownAt ρ i) → Γ.st s H → H D0 = some o → AR acc D0 (cut (mask M α ρ) H) o → ∀ (QD : Acc → S → Prop) (Nx : Hp → Prop), step ρ s acc QD →
    (∀ H' acc' s' o', Stp (Γ.plus D0) H H' → Γ.st s' H' → H' D0 = some o' → AR acc' D0 (cut (mask M α ρ) H') o' → QD acc' s' → Nx H') → ta D0 σ H Nx
variable {Acc : Type} {Γ : Fr S} {K : W.Frag} {E : XK} {g : TG} {gd : GD} {ts : List Nat} {tt : TT} {C : TB S} {AR : ARep Acc} {ta : Addr → St → Hp → (Hp → Prop) → Prop} {step : Stepper S Acc} {wi : TI} {I : TL S} {vs : List Nat}
def Mono (AR : ARep Acc) : Prop := ∀ {acc : Acc} {D0 : Addr} {G G' : Hp} {o : HO}, Same G G' → AR acc D0 G o → AR acc D0 G' o
theorem Ok.less {M : Msk} {α : Nat → Addr} {σ : St} {H : Hp} {ρ : Env} {D0 : Addr} (ok : Ok (Γ.plus D0) K M α σ H ρ) (no : ∀ i, ¬ ownAt ρ i) : Ok Γ K M α σ H ρ := by
  refine ⟨fun a z => ok.sub a (.inl z), ok.trk, ok.out, ok.inj, ok.len, fun j sl e => ?_, ok.sf⟩
  have q := ok.slot j sl e
  cases sl with
  | no => trivial
  | d y => exact q
  | bor y =>
    obtain ⟨v, e1, r⟩ := q
    refine ⟨v, e1, ?_⟩
    rcases r with r | ⟨a, c, e2, e3, n, r⟩
    · exact .inl r
    · exact .inr ⟨a, c, e2, e3, ⟨n.1, fun z => n.2 (.inl z)⟩, r⟩
  | own y => exact (no j ⟨_, e, rfl⟩).elim
theorem Stp.more {D0 : Addr} {H H' : Hp} (p : Stp Γ H H') : Stp (Γ.plus D0) H H' := ⟨fun a o n e => p.keep a o (fun z => n (.inl z)) e, p.trk⟩
theorem Ok.innerD {M : Msk} {α : Nat → Addr} {σ : St} {H H' : Hp} {ρ : Env} {D0 : Addr} (ok : Ok Γ K M α σ H ρ) (hD : H D0 = none) (hD' : H' D0 ≠ none) (p : Stp (Γ.plus D0) H H') :
    Ok (Γ.plus D0) K (fun b => mask M α ρ b ∨ b = D0) α (L2.wipe σ vs) H' (inE ρ vs) ∧ (∀ i, ¬ ownAt (inE ρ vs) i) := by
  obtain ⟨okI, no⟩ := ok.inner (vs := vs) hD hD' (fun a o n ne e => p.keep a o (fun z => z.elim n ne) e) p.trk
  refine ⟨⟨fun a z => z.elim (fun z => .inl (ok.msub a z)) .inr, okI.trk, okI.out, okI.inj, okI.len, fun j sl e => ?_, okI.sf⟩, no⟩
  have mm : ∀ a, mask (fun b => mask M α ρ b ∨ b = D0) α (inE ρ vs) a → mask M α ρ a ∨ a = D0 := by
    rintro a (z | ⟨i, o, _⟩)
    · exact z
    · exact absurd o (no i)
  have c : Same (cut (mask M α ρ) H) (cut (mask (fun b => mask M α ρ b ∨ b = D0) α (inE ρ vs)) H') := fun b o e => by
    obtain ⟨n, e⟩ := of_cut e
    have ne : b ≠ D0 := ne_of_none e hD
    rw [cut_out fun z => (mm b z).elim n ne]
    exact p.keep b o (fun z => z.elim (fun z => n (ok.msub b z)) ne) e
  unfold inE at e
  rw [List.getElem?_map] at e
  cases q : (wipeE ρ vs)[j]? with
  | none => rw [q] at e; cases e
  | some u =>
    rw [q] at e
    cases e
    rcases wipeE_at q with rfl | ⟨nj, q⟩
    · trivial
    · rw [wipe_ne nj]
      have sl' := ok.slot j u q
      cases u with
      | no => trivial
      | d y => obtain ⟨v, e1, r⟩ := sl'; exact ⟨v, e1, R.same c r⟩
      | bor y =>
        obtain ⟨v, e1, r⟩ := sl'
        refine ⟨v, e1, ?_⟩
        rcases r with r | ⟨a, k, e2, e3, n, r⟩
        · exact .inl (R.same c r)
        · have na : a ≠ D0 := fun z => by
            obtain ⟨o, eo⟩ := r.some
            rw [z, hD] at eo
            cases eo
          exact .inr ⟨a, k, e2, e3, ⟨.inl (.inl n.1), fun z => z.elim n.2 na⟩, r.move c fun u e => p.keep a u (fun z => z.elim n.2 na) e⟩
      | own y =>
        have oj : ownAt ρ j := ⟨_, q, rfl⟩
        have ng : ¬ Γ.M (α j) := fun z => ok.out j oj (ok.sub _ z)
        have na : α j ≠ D0 := fun z => by
          obtain ⟨o, eo⟩ := sl'.2.some
          rw [z, hD] at eo
          cases eo
        exact ⟨_, sl'.1, .inr ⟨α j, y, rfl, rfl, ⟨.inl (.inr ⟨j, oj, rfl⟩), fun z => z.elim ng na⟩, sl'.2.move c fun o e => p.keep _ _ (fun z => z.elim ng na) e⟩⟩
theorem Ok.wipe {M : Msk} {α : Nat → Addr} {σ : St} {H : Hp} {ρ : Env} (ok : Ok Γ K M α σ H ρ) (no : ∀ i, ¬ ownAt ρ i) : Ok Γ K M α (L2.wipe σ vs) H (wipeE ρ vs) ∧ ∀ i, ¬ ownAt (wipeE ρ vs) i := by
  have no' : ∀ j, ¬ ownAt (wipeE ρ vs) j := by
    rintro j ⟨sl, e, o⟩
    rcases wipeE_at e with rfl | ⟨_, e⟩
    · cases o
    · exact no j ⟨sl, e, o⟩
  have mm : ∀ a, mask M α (wipeE ρ vs) a → mask M α ρ a := by
    rintro a (z | ⟨i, o, _⟩)
    · exact .inl z
    · exact (no' i o).elim
  refine ⟨⟨ok.sub, ok.trk, fun i o => (no' i o).elim, fun i j o _ _ => (no' i o).elim, by rw [wipe_length, wipeE_len]; exact ok.len, fun j sl e => ?_, ok.sf⟩, no'⟩
  rcases wipeE_at e with rfl | ⟨nj, e⟩
  · trivial
  · rw [wipe_ne nj]
    have q := ok.slot j sl e
    have c : Same (cut (mask M α ρ) H) (cut (mask M α (wipeE ρ vs)) H) := cut_mono mm
    cases sl with
    | no => trivial
    | d y => obtain ⟨v, e1, r⟩ := q; exact ⟨v, e1, R.same c r⟩
    | bor y =>
      obtain ⟨v, e1, r⟩ := q
      exact ⟨v, e1, RBo.carry c (fun _ _ _ _ e => e) r⟩
    | own y => exact (no j ⟨_, e, rfl⟩).elim
/-- how a loop stands -/
structure CoW (Γ : Fr S) (K : W.Frag) (AR : ARep Acc) (gd : GD) (C : TB S) (step : Stepper S Acc) (QA : Acc → S → Prop) (ρ : Env) (m0 : Msk) (D0 : Addr) (H1 : Hp) (ds : List D) (i m : Nat) (H : Hp) : Prop where
  m : m = ds.length - i
  le : i ≤ ds.length
  ex : ∃ acc o s', H D0 = some o ∧ AR acc D0 (cut m0 H) o ∧ Γ.st s' H ∧ Stp (Γ.plus D0) H1 H ∧ coT gd C step QA ρ (ds.drop i) acc s'
/-- one loop's turns -/
theorem co_turns {M : Msk} {α : Nat → Addr} {σ : St} {H1 : Hp} {ρ : Env} {D0 : Addr} {J : It} {ds : List D} {Qf : Hp → Prop} {QA : Acc → S → Prop}
    (hm : Mono AR) (hts : ts.all (fun i => vs.contains i) = true) (hg : ∀ Γ : Fr S, LnG Γ K ts g gd) (hc : LnT Γ K E0 tt C) (hact : LnAct Γ K AR ta step)
    (okw : ∀ {H : Hp}, Stp (Γ.plus D0) H1 H → H D0 ≠ none → Ok (Γ.plus D0) K M α (L2.wipe σ vs) H ρ) (no : ∀ i, ¬ ownAt ρ i) (gD : ¬ Γ.M D0)
    (jgo : ∀ i H, i < ds.length → Stp (Γ.plus D0) H1 H → J.go i H) (jstop : ∀ H, Stp (Γ.plus D0) H1 H → J.stop ds.length H)
    (jyld : ∀ (i : Nat) (H : Hp) (x : V) (H' : Hp) (d : D), ds[i]? = some d → Stp (Γ.plus D0) H1 H → (∀ a, mask M α ρ a → H a ≠ none) → J.yld i H x H' → Same H H' ∧ R K (cut (mask M α ρ) H') x d)
    (fin : ∀ H' acc s' o, Stp (Γ.plus D0) H1 H' → Γ.st s' H' → H' D0 = some o → AR acc D0 (cut (mask M α ρ) H') o → QA acc s' → Qf H') :
    ∀ i m H, CoW Γ K AR gd C step QA ρ (mask M α ρ) D0 H1 ds i m H →
      (J.stop i H ∧ Qf H) ∨ (J.go i H ∧ ∃ Nx : Hp → Prop, (∀ H', Nx H' → ∃ m', m' < m ∧ CoW Γ K AR gd C step QA ρ (mask M α ρ) D0 H1 ds (i + 1) m' H') ∧
        ∀ x H', J.yld i H x H' → g x (L2.wipe σ vs) H' fun σ2 H2 => L2.wipe σ2 vs = L2.wipe σ vs ∧ tt σ2 H2 fun b H3 => if b = true then ta D0 σ2 H3 Nx else Nx H3) := by
  have tsv : ∀ i ∈ ts, i ∈ vs := fun i z => by
    have := List.all_eq_true.mp hts i z
    simpa using this
  rintro i m H' ⟨rfl, hi', acc, o, s', hD', ra, st', kp, z⟩
  by_cases lt : i < ds.length
  · have e : ds.drop i = ds[i] :: ds.drop (i + 1) := List.drop_eq_getElem_cons lt
    rw [e] at z
    unfold coT at z
    obtain ⟨ρ1, e1, z⟩ := opt_ex z
    have okI := okw kp (by rw [hD']; exact fun z => by cases z)
    refine .inr ⟨jgo i H' lt kp, _, fun H2 w => ⟨ds.length - (i + 1), by omega, rfl, lt, w⟩, fun x H2 y => ?_⟩
    obtain ⟨sm, rx⟩ := jyld i H' x H2 ds[i] (List.getElem?_eq_getElem lt) kp okI.mtrk y
    have pI := Stp.of (Γ := Γ) sm
    refine hg (Γ.plus D0) (okI.step pI.more) rx e1 _ fun σ2 ok2 mm ww pw => ⟨(pw vs tsv).trans wipe_wipe, ?_⟩
    have no2 : ∀ i, ¬ ownAt ρ1 i := fun j oj => by
      have q : wmask (Γ.plus D0) α ρ1 (α j) := .inr ⟨j, oj, rfl⟩
      rcases ww _ q with q | ⟨l, ol, _⟩
      · exact ok2.out j oj (ok2.sub _ q)
      · exact no l ol
    have m1 : ∀ a, mask M α ρ1 a → M a := fun a q => q.elim id fun ⟨l, ol, _⟩ => (no2 l ol).elim
    have m0 : ∀ a, mask M α ρ a → M a := fun a q => q.elim id fun ⟨l, ol, _⟩ => (no l ol).elim
    have mE : ∀ {G : Hp}, Same (cut (mask M α ρ) G) (cut (mask M α ρ1) G) := cut_mono fun a q => .inl (m1 a q)
    have mE' : ∀ {G : Hp}, Same (cut (mask M α ρ1) G) (cut (mask M α ρ) G) := cut_mono fun a q => .inl (m0 a q)
    have gM : ∀ a, Γ.M a → mask M α ρ a := fun a z => .inl (okI.sub a (.inl z))
    have frt : ∀ a, Γ.M a → H' a ≠ none := fun a z => okI.trk a (okI.sub a (.inl z))
    refine hc (Ok.less ok2 no2) (Fr.same frt sm st') _ _ _ z (fun b H3 s3 p3 st3 z => ?_) (fun c dx H' x s' p st' r z => z.elim)
    have p3' := pI.trans p3
    have D3 : H3 D0 = some o := p3'.keep _ _ gD hD'
    have ra3 : AR acc D0 (cut (mask M α ρ) H3) o := hm (p3'.cut gM) ra
    cases b with
    | true =>
      rw [if_pos rfl] at z ⊢
      refine hact (ok2.step p3.more) gD no2 st3 D3 (hm mE ra3) _ _ z fun H4 acc' s4 o' k4 st4 D4 r4 z => ?_
      exact ⟨acc', o', s4, D4, hm mE' r4, st4, kp.trans (p3'.more.trans k4), z⟩
    | false =>
      rw [if_neg (by decide)] at z ⊢
      exact ⟨acc, o, s3, D3, ra3, st3, kp.trans p3'.more, z⟩
  · have e : i = ds.length := by omega
    subst e
    rw [List.drop_length] at z
    exact .inl ⟨jstop H' kp, fin H' acc s' o kp st' hD' ra z⟩
/-- the first clause -/
theorem co_first {o0 : Addr → HO} {acc0 : Acc} {M : Msk} {α : Nat → Addr} {σ : St} {H : Hp} {ρ : Env} {s : S} {QA : Acc → S → Prop} {QX : Exn → S → Prop} {Q : VK}
    (hm : Mono AR) (h0 : ∀ D0 G, AR acc0 D0 G (o0 D0)) (hts : ts.all (fun i => vs.contains i) = true) (hi : LnI Γ K E false wi I) (hg : ∀ Γ : Fr S, LnG Γ K ts g gd) (hc : LnT Γ K E0 tt C) (hact : LnAct Γ K AR ta step)
    (ok : Ok Γ K M α σ H ρ) (st : Γ.st s H) (q : I ρ s (fun ds s1 => coT gd C step QA (inE ρ vs) ds acc0 s1) QX)
    (k : ∀ D0 H' acc s' o, H D0 = none → H' D0 = some o → AR acc D0 (cut (fun b => mask M α ρ b ∨ b = D0) H') o → Stp Γ H H' → Γ.st s' H' → QA acc s' → Q (.ref D0) H')
    (kx : ∀ c dx H' x s', Stp Γ H H' → Γ.st s' H' → XR K (mask M α ρ) H' c dx x → QX x s' → E c dx H') : tCo o0 wi g tt ta vs σ H Q := by
  refine hi ok st _ QX _ q (fun J H1 ds s1 p1 st1 jok q1 => ?_) kx
  intro D0 nD
  have ok1 := ok.step p1
  have gD : ¬ Γ.M D0 := fun z => ok1.frt D0 z nD
  have hne : ∀ {H'' : Hp}, Stp (Γ.plus D0) H1 H'' → Keep Γ.M H1 H'' := fun kp a o n e => kp.keep a o (fun z => z.elim n (ne_of_none e nD)) e
  have p0 : Stp Γ H1 (upd H1 D0 (o0 D0)) := Stp.of (same_upd nD)
  obtain ⟨_, no⟩ := ok1.innerD (vs := vs) (H' := upd H1 D0 (o0 D0)) nD (by rw [upd_same]; exact fun z => by cases z) p0.more
  have mI : ∀ b, mask (fun b => mask M α ρ b ∨ b = D0) α (inE ρ vs) b → mask M α ρ b ∨ b = D0 := by
    rintro a (z | ⟨i, o, _⟩)
    · exact z
    · exact absurd o (no i)
  refine ⟨CoW Γ K AR gd C step QA (inE ρ vs) (mask (fun b => mask M α ρ b ∨ b = D0) α (inE ρ vs)) D0 H1 ds, ⟨ds.length - 0, rfl, Nat.zero_le _, acc0, o0 D0, s1, upd_same, h0 _ _, Fr.same ok1.frt (same_upd nD) st1, p0.more, q1⟩, ?_⟩
  refine co_turns hm hts hg hc hact (fun kp n => (ok1.innerD (vs := vs) nD n kp).1) no gD (fun i H lt kp => jok.go i H lt (hne kp)) (fun H kp => jok.stop H (hne kp)) (fun i H' x H2 d e kp mt y => ?_) (fun H' acc s' o kp st' hD' ra z => ?_)
  · exact jok.yld i H' x H2 d _ e (hne kp) (fun b z => (mI b z).imp id fun e => by rw [e]; exact nD) mt y
  · refine k D0 H' acc s' o (Classical.byContradiction fun q => p1.trk D0 q nD) hD' (hm (cut_mono fun a z => .inl z) ra) ⟨fun a o n e => hne kp a o n (p1.keep a o n e), fun a z => kp.trk a (p1.trk a z)⟩ st' z
end
end L2.DL
namespace L2.DL
open L2 L2.My NdefX PySem PySem.Spec PyProof.Rows
/-- the whole dict -/
theorem DT0.full {P : Program} {w : World} {h : Heap} {a : Addr} {L : List (List Int × Addr)} (d : DT0 h a L) (ht : ∀ q ∈ L, IsT P w h q.1 q.2) : ∃ xs : List (List Int × Addr × Value), L = xs.map (fun x => (x.1, x.2.1)) ∧ h.DictOfH (TK P w) a xs := by
  obtain ⟨p1, p2, o, es, ep, xs, e, ex, da, rows, eL, nd⟩ := d
  refine ⟨xs, eL, o, es, ep, e, ex, da, rows, fun x hx => ?_, nd⟩
  exact ht (x.1, x.2.1) (by rw [eL]; exact List.mem_map_of_mem (f := fun x : List Int × Addr × Value => (x.1, x.2.1)) hx)
section
variable {X : Cx} {pins : List (Addr × Obj)} {σ : L2.St} {H : Hp} {s : Shared} {A : Around} {E : Value → Shared → Prop}
theorem dto_at (I : Inv X pins σ H s) {a : Addr} {L : List (List Int × Addr)} (h : H a = some (DTO a L)) (hs : ∀ q ∈ L, SqT X.K H q.2 (q.1.map V.int)) : DT0 s.heap a L ∧ ∃ xs : List (List Int × Addr × Value), L = xs.map (fun x => (x.1, x.2.1)) ∧ s.heap.DictOfH (TK X.prog X.w) a xs := by
  have d : DT0 s.heap a L := (I.hok a _ h).1
  exact ⟨d, d.full fun q hq => I.isT (hs q hq)⟩
end
end L2.DL
namespace L2.DL
open L2 L2.My NdefX PySem PySem.Spec PyProof.Rows
def asKey : D → Option Key
  | .v (.int i) => some (.inl i)
  | .v (.str x) => some (.inr x)
  | _ => none
theorem asKey_eq {d : D} {k : Key} (h : asKey d = some k) : d = .v (kV k) := by
  unfold asKey at h
  split at h
  · cases h; rfl
  · cases h; rfl
  · cases h
def asTI : D → Option (List Int)
  | .tup ds => asIs ds
  | _ => none
theorem asTI_eq {d : D} {k : List Int} (h : asTI d = some k) : ∃ ds, d = .tup ds ∧ asIs ds = some k := by
  unfold asTI at h
  split at h
  · exact ⟨_, rfl, h⟩
  · cases h
def putDk (kvs : List (Key × D)) (k : Key) (d : D) : List (Key × D) :=
  if (kvs.any fun kv => decide (kv.1 = k)) = true then kvs.map (fun kv => if kv.1 = k then (kv.1, d) else kv) else kvs ++ [(k, d)]
section
variable {K : W.Frag} {G : Hp}
theorem RKv.app : ∀ {vs us : List (Key × V)} {ds es : List (Key × D)}, RKv K G vs ds → RKv K G us es → RKv K G (vs ++ us) (ds ++ es)
  | _, _, _, _, .nil, h => h
  | _, _, _, _, .cons h t, h' => .cons h (RKv.app t h')
theorem RKv.any {k : Key} : ∀ {vs : List (Key × V)} {ds : List (Key × D)}, RKv K G vs ds → (vs.any fun kv => decide (kv.1 = k)) = ds.any fun kv => decide (kv.1 = k)
  | _, _, .nil => rfl
  | _, _, .cons _ t => by rw [List.any_cons, List.any_cons, RKv.any t]
theorem RKv.repl {k : Key} {v : V} {d : D} (r : R K G v d) : ∀ {vs : List (Key × V)} {ds : List (Key × D)}, RKv K G vs ds → RKv K G (vs.map fun kv => if kv.1 = k then (kv.1, v) else kv) (ds.map fun kv => if kv.1 = k then (kv.1, d) else kv)
  | _, _, .nil => .nil
  | _, _, @RKv.cons _ _ k' _ _ _ _ h t => by
    rw [List.map_cons, List.map_cons]
    by_cases e : k' = k
    · simp only [e, if_true]
      exact .cons r (RKv.repl r t)
    · simp only [e, if_false]
      exact .cons h (RKv.repl r t)
theorem RKv.put {k : Key} {v : V} {d : D} {vs : List (Key × V)} {ds : List (Key × D)} (h : RKv K G vs ds) (r : R K G v d) : RKv K G (putK vs k v) (putDk ds k d) := by
  unfold putK putDk
  rw [RKv.any h]
  by_cases e : (ds.any fun kv => decide (kv.1 = k)) = true
  · rw [if_pos e, if_pos e]
    exact RKv.repl r h
  · rw [if_neg e, if_neg e]
    exact RKv.app h (.cons r .nil)
end
def rInX (K : W.Frag) (b : Bool) : R2 := fun x y H Q => rInP K b x y H Q ∨ (∃ a o, y = .ref a ∧ DGet H a x o ∧ Q (.bl (b == o.isSome)) H) ∨
  ∃ a p k L, x = .ref p ∧ y = .ref a ∧ SqT K H p (k.map V.int) ∧ H a = some (DTO a L) ∧ (∀ q ∈ L, SqT K H q.2 (q.1.map V.int)) ∧ Q (.bl (b == decide (k ∈ L.map (·.1)))) H
section
variable {X : Cx}
theorem dto_has {h : Heap} {P : Program} {w : World} {xs : List (List Int × Addr × Value)} {L : List (List Int × Addr)} {k : List Int} (eL : L = xs.map (fun x => (x.1, x.2.1))) : (atKey xs k).isSome = decide (k ∈ L.map (·.1)) := by
  rw [eL, List.map_map]
  unfold atKey
  rw [Option.isSome_map, Bool.eq_iff_iff, List.find?_isSome, decide_eq_true_eq]
  constructor
  · rintro ⟨x, hx, e⟩
    exact List.mem_map.mpr ⟨x, hx, by simpa using e⟩
  · intro h
    obtain ⟨x, hx, e⟩ := List.mem_map.mp h
    exact ⟨x, hx, by simpa using e⟩
theorem op_inX (hu : X.A.units + 64 < cLine) : OpR X (compareOp .In) (rInX X.K true) := by
  intro pins s σ H x y v u Q I rx ry h
  rcases h with h | ⟨a, o, rfl, g, q⟩ | ⟨a, p, k, L, rfl, rfl, hk, hL, hs, q⟩
  · exact op_inP hu pins s σ H x y v u Q I rx ry h
  · cases (show u = Value.ref a from ry)
    refine d_in (by omega) I g rx fun s' I' => ⟨.bl o.isSome, H, I', rfl, by simpa using q⟩
  · cases (show u = Value.ref a from ry)
    cases (show v = Value.ref p from rx)
    obtain ⟨d, xs, eL, dd⟩ := dto_at I hL hs
    refine wpAny_in_heap (knd := TK X.prog X.w) (k := k) (tupleKind_room_in1 (by omega)) (I.isT hk) d.ns dd ⟨.bl _, H, I.tok _, rfl, ?_⟩
    rw [dto_has (h := s.heap) (P := X.prog) (w := X.w) eL]
    simpa using q
theorem op_notInX (hu : X.A.units + 64 < cLine) : OpR X (compareOp .NotIn) (rInX X.K false) := by
  intro pins s σ H x y v u Q I rx ry h
  have eb : ∀ b : Bool, (false == b) = !b := by decide
  rcases h with h | ⟨a, o, rfl, g, q⟩ | ⟨a, p, k, L, rfl, rfl, hk, hL, hs, q⟩
  · exact op_notInP hu pins s σ H x y v u Q I rx ry h
  · cases (show u = Value.ref a from ry)
    refine d_notIn (by omega) I g rx fun s' I' => ⟨.bl (!o.isSome), H, I', rfl, by rw [← eb]; exact q⟩
  · cases (show u = Value.ref a from ry)
    cases (show v = Value.ref p from rx)
    obtain ⟨d, xs, eL, dd⟩ := dto_at I hL hs
    refine wpAny_notIn_heap (knd := TK X.prog X.w) (k := k) (tupleKind_room_in1 (by omega)) (I.isT hk) d.ns dd ⟨.bl _, H, I.tok _, rfl, ?_⟩
    rw [dto_has (h := s.heap) (P := X.prog) (w := X.w) eL, ← eb]
    exact q
end
def inX (b : Bool) (x y : D) : Option D := match y with
  | .dct kvs => (asKey x).map fun k => dB (b == kvs.any fun kv => decide (kv.1 = k))
  | .dtp ks => (asTI x).map fun k => dB (b == decide (k ∈ ks))
  | _ => inD b x y
section
variable {K : W.Frag}
theorem rb_tint {g m : Msk} {H : Hp} {v : V} {d : D} {k : List Int} (r : RB K g m H v d) (e : asTI d = some k) : ∃ p, v = .ref p ∧ SqT K H p (k.map V.int) := by
  obtain ⟨ds, rfl, e⟩ := asTI_eq e
  obtain ⟨a, xs, rfl, h1, h2⟩ := RBo.tup r
  exact ⟨a, rfl, by rw [← asIs_rel h2 e]; exact h1⟩
theorem rb_dtp {g m : Msk} {H : Hp} {v : V} {ks : List (List Int)} (r : RB K g m H v (.dtp ks)) : ∃ a L, v = .ref a ∧ H a = some (DTO a L) ∧ (∀ q ∈ L, SqT K H q.2 (q.1.map V.int)) ∧ ks = L.map (·.1) := by
  rcases r with r | ⟨_, c, _, e, _⟩
  · cases r with
    | dtp h1 h2 h3 => exact ⟨_, _, rfl, cut_le _ _ h1, fun q hq => SqT.same cut_le (h2 q hq), h3⟩
  · cases c <;> cases e
theorem p2_inX {b : Bool} : P2 K .s (rInX K b) (inX b) := by
  intro g m H v u d c e Q hm r1 r2 he k
  unfold inX at he
  split at he
  · rename_i kvs
    obtain ⟨key, ek, e2⟩ := Option.map_eq_some_iff.mp he
    subst e2
    obtain ⟨a, ws, rfl, h1, h2⟩ := RBo.dct r2
    have := asKey_eq ek
    subst this
    obtain rfl := RBo.sc r1
    refine .inr (.inl ⟨a, _, rfl, DGet.k h1, ?_⟩)
    rw [← valV_any, RKv.any h2]
    exact k _ H (Same.refl _) (.v _)
  · rename_i ks
    obtain ⟨key, ek, e2⟩ := Option.map_eq_some_iff.mp he
    subst e2
    obtain ⟨p, rfl, hp⟩ := rb_tint r1 ek
    obtain ⟨a, L, rfl, h1, h2, rfl⟩ := rb_dtp r2
    exact .inr (.inr ⟨a, p, key, L, rfl, rfl, hp, h1, h2, k _ H (Same.refl _) (.v _)⟩)
  · exact .inl (p2_in hm r1 r2 he k)
end
section
variable {S : Type} {Γ : Fr S} {K : W.Frag} {E : XK} {ta tb tk tv : TE} {A B : TX S} {g : TG} {gd : GD} {ts : List Nat} {tt : TT} {C : TB S} {wi : TI} {I : TL S} {vs : List Nat}
def isO (ρ : Env) (i : Nat) : Prop := ∃ c, ρ[i]? = some (.own c)
section
variable {M : Msk} {α : Nat → Addr} {σ : L2.St} {H : Hp} {ρ : Env} {s : S} {D0 : Addr} {o : HO}
theorem stp_D0 : Stp (Γ.plus D0) H (upd H D0 o) := ⟨fun a u n e => by rw [upd_ne fun z => n (.inr z)]; exact e, fun a z => by
  by_cases ne : a = D0
  · rw [ne, upd_same]; exact fun q => by cases q
  · rw [upd_ne ne]; exact z⟩
end
end
end L2.DL
namespace L2.DL
open L2 L2.My NdefX PySem PySem.Spec PyProof.Rows
section
variable {S : Type} {Γ : Fr S} {K : W.Frag} {E : XK} {ta tb : TE} {A B : TX S} {g : TG} {gd : GD} {ts : List Nat} {mo : Mo}
/-- what is new is one's own -/
theorem Ok.get {M : Msk} {α : Nat → Addr} {σ : L2.St} {H H' : Hp} {ρ : Env} {i : Nat} {a : Addr} {c : Cell} (ok : Ok Γ K M α σ H ρ) (hi : i ≠ 0) (na : H a = none) (p : Stp Γ H H') (hc : CellR K (cut (fun b => mask M α ρ b ∨ b = a) H') H' a c) :
    Ok Γ K M (fun l => if l = i then a else α l) (σ.set i (some (.ref a))) H' (ρ.set i (.own c)) ∧ ∀ b, mask M (fun l => if l = i then a else α l) (ρ.set i (.own c)) b → mask M α ρ b ∨ b = a := by
  have nM : ¬ M a := fun z => ok.trk a z na
  have nO : ∀ j, ownAt ρ j → α j ≠ a := fun j o e => ok.mtrk (α j) (.inr ⟨j, o, rfl⟩) (by rw [e]; exact na)
  have sub : ∀ b, mask M (fun l => if l = i then a else α l) (ρ.set i (.own c)) b → mask M α ρ b ∨ b = a := by
    rintro b (z | ⟨l, o, rfl⟩)
    · exact .inl (.inl z)
    · by_cases hl : l = i
      · exact .inr (by simp [hl])
      · rcases own_set o with ⟨e, _⟩ | ⟨_, o⟩
        · exact absurd e hl
        · exact .inl (.inr ⟨l, o, by simp [hl]⟩)
  refine ⟨ok.put (a := a) rfl (.inr hi) p.trk (fun b o e => ?_) (fun b o n _ e => p.keep b o n e) (fun _ => ⟨nM, fun j _ o => nO j o⟩) fun _ => ⟨rfl, hc.move (cut_mono sub) fun _ e => e⟩, sub⟩
  obtain ⟨n, e⟩ := of_cut e
  have nb : b ≠ a := fun q => by rw [q, na] at e; cases e
  rw [cut_out fun z => (sub b z).elim n nb]
  exact p.keep b o (fun z => n (ok.msub b z)) e
variable {ρ ρ' : Env} {s : S} {U : TP S} {P : Post S} {i j : Nat} {d e k : D} {xs : List D}
end
end L2.DL
namespace L2.DL
open L2 L2.My NdefX PySem PySem.Spec PyProof.Rows
end L2.DL
namespace L2.DL
open L2 L2.My NdefX PySem PySem.Spec PyProof.Rows
noncomputable def fnOf {ι : Type} (arg : ι → List D) (val : ι → Except Exn D) : Fn := fun ds => open Classical in if h : ∃ i, arg i = ds then some (val h.choose) else none
theorem le_line {n : Nat} (h : n ≤ 1000) : n ≤ sizeLine := by have := sizeLine_eq; omega
abbrev Pr := Int × Int
abbrev lI (ns : List Int) : D := .lst (ns.map dI)
section
variable {S : Type} {Γ : Fr S} {K : W.Frag} {E : XK} {t : TS} {T : TP S}
theorem ls_end (h : LnS Γ K E t T) : LnS Γ K E t (pSeq T pNext) := fun ok st P Dn q kn kb kc kr kx => h ok st P Dn q kn kb kc kr kx
end
end L2.DL
namespace L2.DL
open L2 L2.My NdefX PySem PySem.Spec PyProof.Rows
class PM (m : Type → Type) where
  ok : {α : Type} → α → m α
  er : {α : Type} → Exn → m α
  no : {α : Type} → m α
  bnd : {α β : Type} → m α → (α → m β) → m β
  nox : {α : Type} → m α → m α
class LM (m : Type → Type) [PM m] : Prop where
  ok_bnd : ∀ {α β : Type} (a : α) (f : α → m β), PM.bnd (PM.ok a) f = f a
  er_bnd : ∀ {α β : Type} (x : Exn) (f : α → m β), PM.bnd (PM.er x) f = PM.er x
  no_bnd : ∀ {α β : Type} (f : α → m β), PM.bnd (PM.no) f = PM.no
  nox_ok : ∀ {α : Type} (a : α), PM.nox (PM.ok a : m α) = PM.ok a
  nox_no : ∀ {α : Type}, PM.nox (PM.no : m α) = PM.no
  assoc : ∀ {α β γ : Type} (x : m α) (f : α → m β) (g : β → m γ), PM.bnd (PM.bnd x f) g = PM.bnd x fun a => PM.bnd (f a) g
class WM (m : Type → Type) [PM m] (S : Type) where
  wp : {α : Type} → m α → S → (α → S → Prop) → (Exn → S → Prop) → Prop
  wp_ok : ∀ {α : Type} {a : α} {s : S} {Q : α → S → Prop} {X : Exn → S → Prop}, wp (PM.ok a) s Q X → Q a s
  ok_wp : ∀ {α : Type} {a : α} {s : S} {Q : α → S → Prop} {X : Exn → S → Prop}, Q a s → wp (PM.ok a) s Q X
  wp_er : ∀ {α : Type} {x : Exn} {s : S} {Q : α → S → Prop} {X : Exn → S → Prop}, wp (PM.er x) s Q X → X x s
  wp_no : ∀ {α : Type} {s : S} {Q : α → S → Prop} {X : Exn → S → Prop}, wp PM.no s Q X → False
  wp_bnd : ∀ {α β : Type} {x : m α} {f : α → m β} {s : S} {Q : β → S → Prop} {X : Exn → S → Prop}, wp (PM.bnd x f) s Q X → wp x s (fun a s1 => wp (f a) s1 Q X) X
  bnd_wp : ∀ {α β : Type} {x : m α} {f : α → m β} {s : S} {Q : β → S → Prop} {X : Exn → S → Prop}, wp x s (fun a s1 => wp (f a) s1 Q X) X → wp (PM.bnd x f) s Q X
  wp_nox : ∀ {α : Type} {x : m α} {s : S} {Q : α → S → Prop} {X : Exn → S → Prop}, wp (PM.nox x) s Q X → wp x s Q fun _ _ => False
  wp_mono : ∀ {α : Type} {x : m α} {s : S} {Q Q' : α → S → Prop} {X X' : Exn → S → Prop}, wp x s Q X → (∀ a s1, Q a s1 → Q' a s1) → (∀ e s1, X e s1 → X' e s1) → wp x s Q' X'
open PM
section
variable {m : Type → Type} [PM m] [LM m] {α β γ : Type}
@[simp] theorem ok_bnd (a : α) (f : α → m β) : bnd (ok a : m α) f = f a := LM.ok_bnd a f
@[simp] theorem er_bnd (x : Exn) (f : α → m β) : bnd (er x : m α) f = er x := LM.er_bnd x f
@[simp] theorem no_bnd (f : α → m β) : bnd (no : m α) f = no := LM.no_bnd f
@[simp] theorem bnd_bnd (x : m α) (f : α → m β) (g : β → m γ) : bnd (bnd x f) g = bnd x fun a => bnd (f a) g := LM.assoc x f g
@[simp] theorem nox_okk (a : α) : nox (ok a : m α) = ok a := LM.nox_ok a
@[simp] theorem nox_noo : nox (no : m α) = no := LM.nox_no
end
/-- data alone -/
inductive Om (α : Type) where
  | ok (a : α)
  | er (x : Exn)
  | no
def Om.bnd {α β : Type} (x : Om α) (f : α → Om β) : Om β := match x with
  | .ok a => f a
  | .er x => .er x
  | .no => .no
def Om.nox {α : Type} (x : Om α) : Om α := match x with
  | .ok a => .ok a
  | _ => .no
instance : PM Om := ⟨Om.ok, Om.er, Om.no, Om.bnd, Om.nox⟩
instance : LM Om := ⟨fun _ _ => rfl, fun _ _ => rfl, fun _ => rfl, fun _ => rfl, rfl, fun x _ _ => by cases x <;> rfl⟩
def Om.wp {α S : Type} (x : Om α) (s : S) (Q : α → S → Prop) (X : Exn → S → Prop) : Prop := match x with
  | .ok a => Q a s
  | .er x => X x s
  | .no => False
instance (S : Type) : WM Om S where
  wp := Om.wp
  wp_ok h := h
  wp_er h := h
  wp_no h := h
  ok_wp h := h
  wp_bnd {_ _ x f s Q X} h := by cases x <;> exact h
  bnd_wp {_ _ x f s Q X} h := by cases x <;> exact h
  wp_nox {_ x s Q X} h := by
    cases x with
    | ok a => exact h
    | er x => exact h
    | no => exact h
  wp_mono {_ x s Q Q' X X'} h k kx := by
    cases x with
    | ok a => exact k a s h
    | er x => exact kx x s h
    | no => exact h
/-- data and draws -/
inductive Tm (α : Type) where
  | ok (a : α)
  | er (x : Exn)
  | no
  | dr (many : Int) (k : Int → Tm α)
def Tm.bnd {α β : Type} (x : Tm α) (f : α → Tm β) : Tm β := match x with
  | .ok a => f a
  | .er x => .er x
  | .no => .no
  | .dr n k => .dr n fun d => Tm.bnd (k d) f
theorem Tm.bnd_assoc {α β γ : Type} (f : α → Tm β) (g : β → Tm γ) : ∀ x : Tm α, Tm.bnd (Tm.bnd x f) g = Tm.bnd x fun a => Tm.bnd (f a) g
  | .ok a => rfl
  | .er x => rfl
  | .no => rfl
  | .dr n k => congrArg (Tm.dr n) (funext fun d => Tm.bnd_assoc f g (k d))
def Tm.nox {α : Type} (x : Tm α) : Tm α := match x with
  | .ok a => .ok a
  | .dr n k => .dr n fun d => Tm.nox (k d)
  | _ => .no
instance : PM Tm := ⟨Tm.ok, Tm.er, Tm.no, Tm.bnd, Tm.nox⟩
instance : LM Tm := ⟨fun _ _ => rfl, fun _ _ => rfl, fun _ => rfl, fun _ => rfl, rfl, fun x f g => Tm.bnd_assoc f g x⟩
def Tm.wp {α : Type} (x : Tm α) (n : Nat) (Q : α → Nat → Prop) (X : Exn → Nat → Prop) : Prop := match x with
  | .ok a => Q a n
  | .er x => X x n
  | .no => False
  | .dr many k => 0 < many ∧ many.natAbs < 2 ^ 200 ∧ n < 100000 ∧ ∀ (d : Int) (n2 : Nat), 0 ≤ d → d < many → n ≤ n2 → n2 ≤ n + 1 → Tm.wp (k d) n2 Q X
theorem Tm.wp_bnd {α β : Type} (f : α → Tm β) (Q : β → Nat → Prop) (X : Exn → Nat → Prop) : ∀ (x : Tm α) (n : Nat), Tm.wp (Tm.bnd x f) n Q X → Tm.wp x n (fun a n1 => Tm.wp (f a) n1 Q X) X
  | .ok _, _, h => h
  | .er _, _, h => h
  | .no, _, h => h
  | .dr _ k, _, ⟨h1, h2, h3, h4⟩ => ⟨h1, h2, h3, fun d n2 a b c e => Tm.wp_bnd f Q X (k d) n2 (h4 d n2 a b c e)⟩
theorem Tm.wp_bnd' {α β : Type} (f : α → Tm β) (Q : β → Nat → Prop) (X : Exn → Nat → Prop) : ∀ (x : Tm α) (n : Nat), Tm.wp x n (fun a n1 => Tm.wp (f a) n1 Q X) X → Tm.wp (Tm.bnd x f) n Q X
  | .ok _, _, h => h
  | .er _, _, h => h
  | .no, _, h => h
  | .dr _ k, _, ⟨h1, h2, h3, h4⟩ => ⟨h1, h2, h3, fun d n2 a b c e => Tm.wp_bnd' f Q X (k d) n2 (h4 d n2 a b c e)⟩
theorem Tm.wp_mono {α : Type} {Q Q' : α → Nat → Prop} {X X' : Exn → Nat → Prop} (k : ∀ a s1, Q a s1 → Q' a s1) (kx : ∀ e s1, X e s1 → X' e s1) : ∀ (x : Tm α) (n : Nat), Tm.wp x n Q X → Tm.wp x n Q' X'
  | .ok a, n, h => k a n h
  | .er x, n, h => kx x n h
  | .no, _, h => h
  | .dr _ q, _, ⟨h1, h2, h3, h4⟩ => ⟨h1, h2, h3, fun d n2 a b c e => Tm.wp_mono k kx (q d) n2 (h4 d n2 a b c e)⟩
theorem Tm.wp_nox {α : Type} {Q : α → Nat → Prop} {X : Exn → Nat → Prop} : ∀ (x : Tm α) (n : Nat), Tm.wp (Tm.nox x) n Q X → Tm.wp x n Q fun _ _ => False
  | .ok a, n, h => h
  | .er x, n, h => h
  | .no, _, h => h
  | .dr _ q, _, ⟨h1, h2, h3, h4⟩ => ⟨h1, h2, h3, fun d n2 a b c e => Tm.wp_nox (q d) n2 (h4 d n2 a b c e)⟩
instance : WM Tm Nat where
  wp_nox {_ x s Q X} h := Tm.wp_nox x s h
  wp := Tm.wp
  wp_ok h := h
  wp_er h := h
  wp_no h := h
  ok_wp h := h
  wp_bnd {_ _ x f s Q X} h := Tm.wp_bnd f Q X x s h
  bnd_wp {_ _ x f s Q X} h := Tm.wp_bnd' f Q X x s h
  wp_mono {_ x s Q Q' X X'} h k kx := Tm.wp_mono k kx x s h
/-- all that can be drawn: at most c draws on each way, and what each way ends with -/
def Tm.All {α : Type} (c : Nat) (P : α → Prop) (x : Tm α) : Prop := match x with
  | .ok a => P a
  | .er _ => False
  | .no => False
  | .dr many k => 0 < many ∧ many.natAbs < 2 ^ 200 ∧ ∃ c', c = c' + 1 ∧ ∀ d : Int, 0 ≤ d → d < many → Tm.All c' P (k d)
theorem Tm.All.imp {α : Type} {P P' : α → Prop} : ∀ {x : Tm α} {c c' : Nat}, c ≤ c' → (∀ a, P a → P' a) → Tm.All c P x → Tm.All c' P' x
  | .ok a, _, _, _, k, h => k a h
  | .er _, _, _, _, _, h => h
  | .no, _, _, _, _, h => h
  | .dr _ q, _, c', l, k, ⟨h1, h2, c1, e, h3⟩ => ⟨h1, h2, c' - 1, by omega, fun d a b => Tm.All.imp (by omega) k (h3 d a b)⟩
theorem Tm.All.bnd {α β : Type} {P : α → Prop} {P' : β → Prop} {f : α → Tm β} {c2 : Nat} (k : ∀ a, P a → Tm.All c2 P' (f a)) : ∀ {x : Tm α} {c : Nat}, Tm.All c P x → Tm.All (c + c2) P' (Tm.bnd x f)
  | .ok a, _, h => Tm.All.imp (by omega) (fun _ z => z) (k a h)
  | .er _, _, h => h
  | .no, _, h => h
  | .dr _ q, _, ⟨h1, h2, c1, e, h3⟩ => ⟨h1, h2, c1 + c2, by omega, fun d a b => Tm.All.bnd k (h3 d a b)⟩
theorem Tm.All.nox {α : Type} {P : α → Prop} : ∀ {x : Tm α} {c : Nat}, Tm.All c P x → Tm.All c P (Tm.nox x)
  | .ok a, _, h => h
  | .er _, _, h => h
  | .no, _, h => h
  | .dr _ q, _, ⟨h1, h2, c1, e, h3⟩ => ⟨h1, h2, c1, e, fun d a b => Tm.All.nox (h3 d a b)⟩
theorem Tm.All.wp {α : Type} {P : α → Prop} {Q : α → Nat → Prop} {X : Exn → Nat → Prop} : ∀ {x : Tm α} {c n : Nat}, Tm.All c P x → n + c ≤ 100000 → (∀ a n2, P a → n ≤ n2 → n2 ≤ n + c → Q a n2) → Tm.wp x n Q X
  | .ok a, _, n, h, _, k => k a n h (by omega) (by omega)
  | .er _, _, _, h, _, _ => h.elim
  | .no, _, _, h, _, _ => h
  | .dr _ q, _, _, ⟨h1, h2, c1, e, h3⟩, l, k => ⟨h1, h2, by omega, fun d n2 a b c e => Tm.All.wp (h3 d a b) (by omega) fun z n3 p q r => k z n3 p (by omega) (by omega)⟩
/-- from data alone -/
def lft {m : Type → Type} [PM m] {α : Type} (x : Om α) : m α := match x with
  | .ok a => ok a
  | .er x => er x
  | .no => no
def lif {m : Type → Type} [PM m] {α : Type} (x : Option α) : m α := match x with
  | some a => ok a
  | none => no
@[simp] theorem lif_some {m : Type → Type} [PM m] {α : Type} (a : α) : (lif (some a) : m α) = ok a := rfl
@[simp] theorem lif_none {m : Type → Type} [PM m] {α : Type} : (lif (none : Option α) : m α) = no := rfl
@[simp] theorem lft_ok {m : Type → Type} [PM m] {α : Type} (a : α) : (lft (ok a : Om α) : m α) = ok a := rfl
@[simp] theorem lft_er {m : Type → Type} [PM m] {α : Type} (x : Exn) : (lft (er x : Om α) : m α) = er x := rfl
@[simp] theorem lft_no {m : Type → Type} [PM m] {α : Type} : (lft (no : Om α) : m α) = no := rfl
def toF (x : Om D) : Option (Except Exn D) := match x with
  | .ok a => some (.ok a)
  | .er x => some (.error x)
  | .no => none
section
variable {m : Type → Type} [PM m] {S : Type} [WM m S] {α β : Type}
theorem wp_lif {o : Option α} {s : S} {Q : α → S → Prop} {X : Exn → S → Prop} (h : WM.wp (lif o : m α) s Q X) : opt o fun a => Q a s := by
  cases o with
  | none => exact WM.wp_no h
  | some a => exact (WM.wp_ok h :)
theorem wp_lft {o : Om D} {s : S} {Q : D → S → Prop} {X : Exn → S → Prop} (h : WM.wp (lft o : m D) s Q X) : opt (toF o) fun r => match r with
    | .ok d => Q d s
    | .error x => X x s := by
  cases o with
  | ok a => exact (WM.wp_ok h :)
  | er x => exact WM.wp_er h
  | no => exact WM.wp_no h
end
inductive Ot (β γ : Type) where
  | nx (b : β)
  | rt (d : D)
  | bk (c : γ)
  | ct (c : γ)
section
variable {m : Type → Type} [PM m]
def thK {α β γ : Type} (k : α → m (Ot β γ)) : Ot α γ → m (Ot β γ)
  | .nx b => k b
  | .rt d => ok (.rt d)
  | .bk c => ok (.bk c)
  | .ct c => ok (.ct c)
def thV {α β γ : Type} (x : m (Ot α γ)) (k : α → m (Ot β γ)) : m (Ot β γ) := bnd x (thK k)
/-- a loop over data -/
def forV {β γ : Type} (body : D → β → m (Ot β β)) : List D → β → m (Ot β γ)
  | [], b => ok (.nx b)
  | d :: r, b => bnd (body d b) fun o => match o with
    | .nx b' => forV body r b'
    | .ct b' => forV body r b'
    | .bk b' => ok (.nx b')
    | .rt d => ok (.rt d)
def whiV {β γ : Type} (c : β → m Bool) (body : β → m (Ot β β)) : Nat → β → m (Ot β γ)
  | 0, _ => no
  | n + 1, b => bnd (c b) fun z => if z = true then bnd (body b) fun o => match o with
    | .nx b' => whiV c body n b'
    | .ct b' => whiV c body n b'
    | .bk b' => ok (.nx b')
    | .rt d => ok (.rt d)
    else ok (.nx b)
def retV {β γ : Type} (x : m (Ot β γ)) : m D := bnd x fun o => match o with
  | .nx _ => ok dN
  | .rt d => ok d
  | _ => no
/-- expressions -/
def op1 (f : D → Option D) (a : m D) : m D := bnd a fun x => lif (f x)
def op2 (f : D → D → Option D) (a b : m D) : m D := bnd a fun x => bnd b fun y => lif (f x y)
def op3 (f : D → Option Int → Option Int → Option D) (a : m D) (b c : m (Option Int)) : m D := bnd a fun x => bnd b fun y => bnd c fun z => lif (f x y z)
def seqV : List (m D) → m (List D)
  | [] => ok []
  | a :: r => bnd a fun x => bnd (seqV r) fun xs => ok (x :: xs)
def tupV (a : List (m D)) : m D := bnd (seqV a) fun xs => ok (.tup xs)
def lstV (a : List (m D)) : m D := bnd (seqV a) fun xs => ok (.lst xs)
def tst (a : m D) : m Bool := bnd a fun x => lif (asB x)
def andB (a b : m Bool) : m Bool := bnd a fun c => if c = true then b else ok false
def orB (a b : m Bool) : m Bool := bnd a fun c => if c = true then ok true else b
def notB (a : m Bool) : m Bool := bnd a fun c => ok (!c)
def andX (a b : m D) : m D := bnd a fun x => bnd (lif (asB x)) fun c => if c = true then b else ok (dB false)
def orX (a b : m D) : m D := bnd a fun x => bnd (lif (asB x)) fun c => if c = true then ok (dB true) else b
def notX (a : m D) : m D := bnd a fun x => bnd (lif (asB x)) fun c => ok (dB (!c))
def ifV {α : Type} (c : m Bool) (a b : m α) : m α := bnd c fun z => if z = true then a else b
def chnX (f g : D → D → Option D) (a b c : m D) : m D := bnd a fun x => bnd b fun y => bnd (lif (f x y)) fun d => bnd (lif (asB d)) fun q => if q = true then bnd c fun z => lif (g y z) else ok (dB false)
def intV (a : m D) : m (Option Int) := bnd a fun x => bnd (lif (asI x)) fun i => ok (some i)
def itV (a : m D) : m (List D) := bnd a fun x => lif (asIt x)
def rng1 (a : m D) : m (List D) := bnd a fun x => match x with
  | .v (.int j) => if inR j = true then ok (rngD 0 j) else no
  | _ => no
def asLs (a : m D) : m (List D) := bnd a fun x => match x with
  | .lst xs => ok xs
  | _ => no
def asDc (a : m D) : m (List (Key × D)) := bnd a fun x => match x with
  | .dct xs => ok xs
  | _ => no
def appV (xs : List D) (a : m D) : m (List D) := bnd a fun d => if xs.length < sizeLine then ok (xs ++ [d]) else no
def un2 {α : Type} (d : D) (k : D → D → m α) : m α := match d with
  | .tup [a, b] => k a b
  | _ => no
def un3 {α : Type} (d : D) (k : D → D → D → m α) : m α := match d with
  | .tup [a, b, c] => k a b c
  | _ => no
def un4 {α : Type} (d : D) (k : D → D → D → D → m α) : m α := match d with
  | .tup [a, b, c, e] => k a b c e
  | _ => no
def un5 {α : Type} (d : D) (k : D → D → D → D → D → m α) : m α := match d with
  | .tup [a, b, c, e, f] => k a b c e f
  | _ => no
/-- one turn of a comprehension -/
def stp (c : m Bool) (a : m D) : m (Option D) := bnd c fun z => if z = true then bnd a fun x => ok (some x) else ok none
def lcG (step : D → m (Option D)) : List D → m (List D)
  | [] => ok []
  | d :: r => bnd (nox (step d)) fun o => bnd (lcG step r) fun xs => match o with
    | some x => ok (x :: xs)
    | none => ok xs
def lcV (l : m (List D)) (step : D → m (Option D)) : m D := bnd l fun ds => if ds.length ≤ sizeLine then bnd (lcG step ds) fun xs => ok (.lst xs) else no
end
def drw (a : Tm D) : Tm D := Tm.bnd a fun x => match x with
  | .v (.int many) => .dr many fun d => .ok (dI d)
  | _ => .no
section
variable {m : Type → Type} [PM m] {S : Type} [WM m S]
structure RD (A : TX S) (ρ : Env) (x : m D) : Prop where
  go : ∀ s Q X, WM.wp x s Q X → A ρ s Q X
structure RB' (A : TB S) (ρ : Env) (x : m Bool) : Prop where
  go : ∀ s Q X, WM.wp x s Q X → A ρ s Q X
structure RL (A : TL S) (ρ : Env) (x : m (List D)) : Prop where
  go : ∀ s Q X, WM.wp x s Q X → A ρ s Q X
structure RO (A : TOx S) (ρ : Env) (x : m (Option Int)) : Prop where
  go : ∀ s Q X, WM.wp x s Q X → A ρ s Q X
def poS {β γ : Type} (P : Post S) (Rn : β → Env → Prop) (Rl : γ → Env → Prop) : Ot β γ → S → Prop
  | .nx b, s => ∀ ρ', Rn b ρ' → P.nx ρ' s
  | .rt d, s => P.rt d s
  | .bk c, s => ∀ ρ', Rl c ρ' → P.bk ρ' s
  | .ct c, s => ∀ ρ', Rl c ρ' → P.ct ρ' s
structure RS {β γ : Type} (T : TP S) (ρ : Env) (Rn : β → Env → Prop) (Rl : γ → Env → Prop) (x : m (Ot β γ)) : Prop where
  go : ∀ s P, WM.wp x s (poS P Rn Rl) P.ex → T ρ s P
variable {A B C : TX S} {ρ : Env} {a b c : m D} {d x y : D} {i j : Nat} {L : TL S} {l : m (List D)} {U V : TB S} {u v : m Bool}
theorem rd_mono (h : RD A ρ a) {s : S} {Q Q' : D → S → Prop} {X X' : Exn → S → Prop} (w : WM.wp a s Q X) (k : ∀ x s1, Q x s1 → Q' x s1) (kx : ∀ e s1, X e s1 → X' e s1) : A ρ s Q' X' := h.go _ _ _ (WM.wp_mono w k kx)
theorem rd_c : RD (xC d : TX S) ρ (ok d : m D) := ⟨fun _ _ _ w => (WM.wp_ok w :)⟩
theorem rd_v (e : ρ[i]? = some (.d x)) : RD (xVar .s i : TX S) ρ (ok x : m D) := ⟨fun _ _ _ w => by unfold xVar; rw [e]; exact (WM.wp_ok w :)⟩
theorem rd_vb (e : ρ[i]? = some (.d x)) : RD (xVar .b i : TX S) ρ (ok x : m D) := ⟨fun _ _ _ w => by unfold xVar; rw [e]; exact (WM.wp_ok w :)⟩
theorem rd_vB (e : ρ[i]? = some (.bor x)) : RD (xVar .b i : TX S) ρ (ok x : m D) := ⟨fun _ _ _ w => by unfold xVar; rw [e]; exact (WM.wp_ok w :)⟩
theorem rd_un {f : D → Option D} (h : RD A ρ a) : RD (xUn f A) ρ (op1 f a) := ⟨fun _ _ _ w => rd_mono h (WM.wp_bnd w) (fun _ _ q => wp_lif q) fun _ _ q => q⟩
theorem rd_op {f : D → D → Option D} (h : RD A ρ a) (k : RD B ρ b) : RD (xOp f A B) ρ (op2 f a b) := ⟨fun _ _ _ w => rd_mono h (WM.wp_bnd w) (fun _ _ q => rd_mono k (WM.wp_bnd q) (fun _ _ q => wp_lif q) fun _ _ q => q) fun _ _ q => q⟩
theorem ro_none : RO (oNone : TOx S) ρ (ok none : m (Option Int)) := ⟨fun _ _ _ w => (WM.wp_ok w :)⟩
theorem ro_some (h : RD A ρ a) : RO (oSome A) ρ (intV a) := ⟨fun _ _ _ w => rd_mono h (WM.wp_bnd w) (fun _ _ q => by
  obtain ⟨i, e, q⟩ := opt_ex (wp_lif (WM.wp_bnd q))
  rw [e]
  exact (WM.wp_ok q :)) fun _ _ q => q⟩
theorem rd_sl {f : D → Option Int → Option Int → Option D} {lo hi : TOx S} {p q : m (Option Int)} (h : RD A ρ a) (h1 : RO lo ρ p) (h2 : RO hi ρ q) : RD (xSl f A lo hi) ρ (op3 f a p q) :=
  ⟨fun _ _ _ w => rd_mono h (WM.wp_bnd w) (fun _ _ z => h1.go _ _ _ (WM.wp_mono (WM.wp_bnd z) (fun _ _ z => h2.go _ _ _ (WM.wp_mono (WM.wp_bnd z) (fun _ _ z => wp_lif z) fun _ _ z => z)) fun _ _ z => z)) fun _ _ z => z⟩
/-- displays, arguments -/
theorem wp_len {Q : List D → S → Prop} {X : Exn → S → Prop} : ∀ {l : List (m D)} {s : S}, WM.wp (seqV l) s Q X → WM.wp (seqV l) s (fun xs s1 => xs.length = l.length ∧ Q xs s1) X
  | [], s, w => WM.ok_wp ⟨rfl, (WM.wp_ok w :)⟩
  | a :: l, s, w => by
    refine WM.bnd_wp (WM.wp_mono (WM.wp_bnd w) (fun x s1 q => ?_) fun _ _ q => q)
    refine WM.bnd_wp (WM.wp_mono (wp_len (WM.wp_bnd q)) (fun xs s2 z => ?_) fun _ _ q => q)
    exact WM.ok_wp ⟨by rw [List.length_cons, List.length_cons, z.1], (WM.wp_ok z.2 :)⟩
structure RA (L : TL S) (ρ : Env) (l : List (m D)) : Prop where
  go : ∀ s Q X, WM.wp (seqV l) s Q X → L ρ s Q X
theorem ra_nil : RA (xNil : TL S) ρ ([] : List (m D)) := ⟨fun _ _ _ w => (WM.wp_ok w :)⟩
theorem ra_cons {l : List (m D)} (h : RD A ρ a) (k : RA L ρ l) : RA (xCons A L) ρ (a :: l) := ⟨fun s Q X w => by
  refine rd_mono h (WM.wp_bnd w) (fun x s1 q => ?_) fun _ _ q => q
  exact k.go _ _ _ (WM.wp_mono (WM.wp_bnd q) (fun xs s2 z => (WM.wp_ok z :)) fun _ _ q => q)⟩
theorem rd_tup {l : List (m D)} (h : RA L ρ l) (hl : l.length ≤ 1000) : RD (xTup L) ρ (tupV l) := ⟨fun s Q X w => h.go _ _ _ (WM.wp_mono (wp_len (WM.wp_bnd w)) (fun xs s1 z => ⟨le_line (by rw [z.1]; exact hl), (WM.wp_ok z.2 :)⟩) fun _ _ q => q)⟩
theorem rd_lst {l : List (m D)} (h : RA L ρ l) (hl : l.length ≤ 1000) : RD (xLst L) ρ (lstV l) := ⟨fun s Q X w => h.go _ _ _ (WM.wp_mono (wp_len (WM.wp_bnd w)) (fun xs s1 z => ⟨le_line (by rw [z.1]; exact hl), (WM.wp_ok z.2 :)⟩) fun _ _ q => q)⟩
/-- tests -/
theorem rb_mono (h : RB' U ρ u) {s : S} {Q Q' : Bool → S → Prop} {X X' : Exn → S → Prop} (w : WM.wp u s Q X) (k : ∀ x s1, Q x s1 → Q' x s1) (kx : ∀ e s1, X e s1 → X' e s1) : U ρ s Q' X' := h.go _ _ _ (WM.wp_mono w k kx)
theorem rb_test (h : RD A ρ a) : RB' (bTest A) ρ (tst a) := ⟨fun _ _ _ w => rd_mono h (WM.wp_bnd w) (fun _ _ q => wp_lif q) fun _ _ q => q⟩
theorem rb_yes : RB' (bYes : TB S) ρ (ok true : m Bool) := ⟨fun _ _ _ w => (WM.wp_ok w :)⟩
theorem rb_not (h : RB' U ρ u) : RB' (bNot U) ρ (notB u) := ⟨fun _ _ _ w => rb_mono h (WM.wp_bnd w) (fun _ _ q => (WM.wp_ok q :)) fun _ _ q => q⟩
theorem rb_and (h : RB' U ρ u) (k : RB' V ρ v) : RB' (bAnd U V) ρ (andB u v) := ⟨fun _ _ _ w => rb_mono h (WM.wp_bnd w) (fun z _ q => by
  cases z with
  | true => exact k.go _ _ _ q
  | false => exact (WM.wp_ok q :)) fun _ _ q => q⟩
theorem rb_or (h : RB' U ρ u) (k : RB' V ρ v) : RB' (bOr U V) ρ (orB u v) := ⟨fun _ _ _ w => rb_mono h (WM.wp_bnd w) (fun z _ q => by
  cases z with
  | false => exact k.go _ _ _ q
  | true => exact (WM.wp_ok q :)) fun _ _ q => q⟩
theorem rd_not (h : RD A ρ a) : RD (xNot A) ρ (notX a) := ⟨fun _ _ _ w => rd_mono h (WM.wp_bnd w) (fun x _ q => by
  obtain ⟨z, e, q⟩ := opt_ex (wp_lif (WM.wp_bnd q))
  rw [e]
  exact (WM.wp_ok q :)) fun _ _ q => q⟩
theorem rd_and (h : RD A ρ a) (k : RD B ρ b) : RD (xAnd A B) ρ (andX a b) := ⟨fun _ _ _ w => rd_mono h (WM.wp_bnd w) (fun x _ q => by
  obtain ⟨z, e, q⟩ := opt_ex (wp_lif (WM.wp_bnd q))
  rw [e]
  show if z = true then _ else _
  cases z with
  | true => exact k.go _ _ _ q
  | false => exact (WM.wp_ok q :)) fun _ _ q => q⟩
theorem rd_if (hc : RB' U ρ u) (h : RD A ρ a) (k : RD B ρ b) : RD (xIf U A B) ρ (ifV u a b) := ⟨fun _ _ _ w => rb_mono hc (WM.wp_bnd w) (fun z _ q => by
  cases z with
  | true => exact h.go _ _ _ q
  | false => exact k.go _ _ _ q) fun _ _ q => q⟩
theorem rd_chn {f g : D → D → Option D} (h : RD A ρ a) (k : RD B ρ b) (n : RD C ρ c) : RD (xChain f g A B C) ρ (chnX f g a b c) := ⟨fun _ _ _ w => rd_mono h (WM.wp_bnd w) (fun x _ q => rd_mono k (WM.wp_bnd q) (fun y _ q => by
  obtain ⟨d, e, q⟩ := opt_ex (wp_lif (WM.wp_bnd q))
  obtain ⟨z, e2, q⟩ := opt_ex (wp_lif (WM.wp_bnd q))
  rw [e]
  show opt (asB d) _
  rw [e2]
  show if z = true then _ else _
  cases z with
  | true => exact rd_mono n (WM.wp_bnd q) (fun _ _ q => wp_lif q) fun _ _ q => q
  | false => exact (WM.wp_ok q :)) fun _ _ q => q) fun _ _ q => q⟩
/-- what is gone through -/
theorem rl_mono (h : RL L ρ l) {s : S} {Q Q' : List D → S → Prop} {X X' : Exn → S → Prop} (w : WM.wp l s Q X) (k : ∀ x s1, Q x s1 → Q' x s1) (kx : ∀ e s1, X e s1 → X' e s1) : L ρ s Q' X' := h.go _ _ _ (WM.wp_mono w k kx)
theorem rl_seq (h : RD A ρ a) : RL (xSeq A) ρ (itV a) := ⟨fun _ _ _ w => rd_mono h (WM.wp_bnd w) (fun _ _ q => wp_lif q) fun _ _ q => q⟩
theorem rl_seqd (e : ρ[i]? = some (.d x)) : RL (xSeqP i : TL S) ρ (itV (ok x : m D)) := ⟨fun _ _ _ w => by
  unfold xSeqP; rw [e]
  exact wp_lif (WM.wp_ok (WM.wp_bnd w) :)⟩
theorem rl_rng1 (h : RD A ρ a) : RL (xRng1 A) ρ (rng1 a) := ⟨fun _ _ _ w => rd_mono h (WM.wp_bnd w) (fun x _ q => by
  split at q
  · split at q
    · rename_i z; exact ⟨z, (WM.wp_ok q :)⟩
    · exact (WM.wp_no q).elim
  · exact (WM.wp_no q).elim) fun _ _ q => q⟩
/-- targets, then what is done with them -/
def RT {γ : Type} (gd : GD) (d : D) (ρ : Env) (x : m γ) (J : Env → m γ → Prop) : Prop := x = no ∨ ∃ ρ1, gd d ρ = some ρ1 ∧ J ρ1 x
theorem rt_n {γ : Type} {x : m γ} {J : Env → m γ → Prop} (h : J (ρ.set i (.d d)) x) : RT (gdN i) d ρ x J := .inr ⟨_, rfl, h⟩
theorem rt_2 {γ : Type} {k : D → D → m γ} {J : Env → m γ → Prop} (h : ∀ a b, J ((ρ.set i (.d a)).set j (.d b)) (k a b)) : RT (gdTup 2 (gdCons (gdN i) (gdCons (gdN j) gdNil))) d ρ (un2 d k) J := by
  unfold un2
  split
  · exact .inr ⟨_, rfl, h _ _⟩
  · exact .inl rfl
theorem rt_3 {γ : Type} {i3 : Nat} {k : D → D → D → m γ} {J : Env → m γ → Prop} (h : ∀ a b c, J (((ρ.set i (.d a)).set j (.d b)).set i3 (.d c)) (k a b c)) : RT (gdTup 3 (gdCons (gdN i) (gdCons (gdN j) (gdCons (gdN i3) gdNil)))) d ρ (un3 d k) J := by
  unfold un3
  split
  · exact .inr ⟨_, rfl, h _ _ _⟩
  · exact .inl rfl
theorem rt_4 {γ : Type} {i3 i4 : Nat} {k : D → D → D → D → m γ} {J : Env → m γ → Prop} (h : ∀ a b c e, J ((((ρ.set i (.d a)).set j (.d b)).set i3 (.d c)).set i4 (.d e)) (k a b c e)) : RT (gdTup 4 (gdCons (gdN i) (gdCons (gdN j) (gdCons (gdN i3) (gdCons (gdN i4) gdNil))))) d ρ (un4 d k) J := by
  unfold un4
  split
  · exact .inr ⟨_, rfl, h _ _ _ _⟩
  · exact .inl rfl
/-- comprehensions -/
structure RC (A : TX S) (U : TB S) (ρ : Env) (x : m (Option D)) : Prop where
  go : ∀ s (Q : Option D → S → Prop) X, WM.wp x s Q X → U ρ s (fun z s1 => if z = true then A ρ s1 (fun d s2 => Q (some d) s2) X else Q none s1) X
theorem rc_stp (h : RD A ρ a) (hc : RB' U ρ u) : RC A U ρ (stp u a) := ⟨fun s Q X w => rb_mono hc (WM.wp_bnd w) (fun z s1 q => by
  cases z with
  | true => exact rd_mono h (WM.wp_bnd q) (fun _ _ q => (WM.wp_ok q :)) fun _ _ q => q
  | false => exact (WM.wp_ok q :)) fun _ _ q => q⟩
theorem lcT_v {gd : GD} {st : D → m (Option D)} {Q : D → S → Prop} (h : ∀ d, RT gd d ρ (st d) fun ρ1 x => RC A U ρ1 x) : ∀ (ds acc : List D) (s : S) (X : Exn → S → Prop), acc.length + ds.length ≤ sizeLine → WM.wp (lcG st ds) s (fun xs s1 => Q (.lst (acc ++ xs)) s1) X → lcT gd U A ρ Q ds acc s
  | [], acc, s, X, _, w => by
    unfold lcT
    have q := (WM.wp_ok w :)
    rwa [List.append_nil] at q
  | d :: r, acc, s, X, l, w => by
    unfold lcT
    rw [List.length_cons] at l
    have w1 := WM.wp_nox (WM.wp_bnd w)
    rcases h d with e | ⟨ρ1, e, rc⟩
    · rw [e] at w1
      exact (WM.wp_no w1).elim
    · rw [e]
      refine rc.go s (fun o s1 => match o with
        | some y => acc.length < sizeLine ∧ lcT gd U A ρ Q r (acc ++ [y]) s1
        | none => lcT gd U A ρ Q r acc s1) (fun _ _ => False) (WM.wp_mono w1 (fun o s1 z => ?_) fun _ _ z => z)
      cases o with
      | some y =>
        refine ⟨by omega, lcT_v h r (acc ++ [y]) s1 X (by rw [List.length_append, List.length_cons, List.length_nil]; omega) ?_⟩
        refine WM.wp_mono (WM.wp_bnd z) (fun xs s2 q => ?_) fun _ _ q => q
        have q := (WM.wp_ok q :)
        rwa [List.append_assoc]
      | none => exact lcT_v h r acc s1 X (by omega) (WM.wp_mono (WM.wp_bnd z) (fun xs s2 q => (WM.wp_ok q :)) fun _ _ q => q)
theorem rd_lc {gd : GD} {vs : List Nat} {st : D → m (Option D)} (hl : RL L ρ l) (h : ∀ d, RT gd d (inE ρ vs) (st d) fun ρ1 x => RC A U ρ1 x) : RD (xLc L gd U A vs) ρ (lcV l st) := ⟨fun s Q X w => by
  refine rl_mono hl (WM.wp_bnd w) (fun ds s1 q => ?_) fun _ _ q => q
  split at q
  · rename_i hl
    refine lcT_v h ds [] s1 X (by simpa using hl) (WM.wp_mono (WM.wp_bnd q) (fun xs s2 z => (WM.wp_ok z :)) fun _ _ z => z)
  · exact (WM.wp_no q).elim⟩
variable {β γ δ : Type} {T U' V' : TP S} {Rn : β → Env → Prop} {Rl : γ → Env → Prop} {P : Post S} {x2 : m (Ot β γ)}
theorem rs_next {b : β} (h : Rn b ρ) : RS (pNext : TP S) ρ Rn Rl (ok (.nx b) : m (Ot β γ)) := ⟨fun s P w => (WM.wp_ok w :) ρ h⟩
theorem rs_assoc (h : RS (pSeq T (pSeq U' V')) ρ Rn Rl x2) : RS (pSeq (pSeq T U') V') ρ Rn Rl x2 := ⟨h.go⟩
theorem rs_skip (h : RS U' ρ Rn Rl x2) : RS (pSeq pNext U') ρ Rn Rl x2 := ⟨h.go⟩
theorem rs_set {k : D → m (Ot β γ)} (h : RD A ρ a) (hk : ∀ d, RS U' (ρ.set i (.d d)) Rn Rl (k d)) : RS (pSeq (pSet A i) U') ρ Rn Rl (bnd a k) := ⟨fun s P w => rd_mono h (WM.wp_bnd w) (fun d s1 q => (hk d).go s1 P q) fun _ _ q => q⟩
theorem rs_drop {k : D → m (Ot β γ)} (h : RD A ρ a) (hk : ∀ d, RS U' ρ Rn Rl (k d)) : RS (pSeq (pDrop A) U') ρ Rn Rl (bnd a k) := ⟨fun s P w => rd_mono h (WM.wp_bnd w) (fun d s1 q => (hk d).go s1 P q) fun _ _ q => q⟩
theorem rs_own {k : List D → m (Ot β γ)} (h : RD A ρ a) (hk : ∀ d, RS U' (ρ.set i (.own (.lst d))) Rn Rl (k d)) : RS (pSeq (pOwn A i) U') ρ Rn Rl (bnd (asLs a) k) := ⟨fun s P w => rd_mono h (WM.wp_bnd (WM.wp_bnd w)) (fun d s1 q => by
  split at q
  · exact (hk _).go s1 P (WM.wp_ok q :)
  · exact (WM.wp_no q).elim) fun _ _ q => q⟩
theorem rs_ret (h : RD A (frz ρ) a) : RS (pSeq (pRet A) U') ρ Rn Rl (bnd a fun d => ok (.rt d)) := ⟨fun s P w => rd_mono h (WM.wp_bnd w) (fun d s1 q => (WM.wp_ok q :)) fun _ _ q => q⟩
theorem rs_if {y2 : m (Ot β γ)} (hc : RB' U ρ u) (h : RS (pSeq T V') ρ Rn Rl x2) (k : RS (pSeq U' V') ρ Rn Rl y2) : RS (pSeq (pIf U T U') V') ρ Rn Rl (ifV u x2 y2) := ⟨fun s P w => rb_mono hc (WM.wp_bnd w) (fun z s1 q => by
  cases z with
  | true => exact h.go s1 P q
  | false => exact k.go s1 P q) fun _ _ q => q⟩
theorem rs_cut {Rj : δ → Env → Prop} {x3 y3 : m (Ot δ γ)} {k : δ → m (Ot β γ)} (hc : RB' U ρ u) (h : RS T ρ Rj Rl x3) (h2 : RS U' ρ Rj Rl y3) (hk : ∀ b ρ', Rj b ρ' → RS V' ρ' Rn Rl (k b)) : RS (pCut (pIf U T U') V') ρ Rn Rl (thV (ifV u x3 y3) k) := ⟨fun s P w => by
  refine ⟨fun ρ' s' => V' ρ' s' P, ?_, fun _ _ z => z⟩
  refine rb_mono hc (WM.wp_bnd (WM.wp_bnd w)) (fun z s1 q => ?_) fun _ _ q => q
  have fin : ∀ (o : Ot δ γ) (s2 : S), WM.wp (thK k o) s2 (poS P Rn Rl) P.ex → poS { P with nx := fun ρ' s' => V' ρ' s' P } Rj Rl o s2 := fun o s2 q => by
    cases o with
    | nx b => exact fun ρ' r => (hk b ρ' r).go s2 P q
    | rt d => exact (WM.wp_ok q :)
    | bk d => exact (WM.wp_ok q :)
    | ct d => exact (WM.wp_ok q :)
  cases z with
  | true => exact h.go s1 _ (WM.wp_mono q fin fun _ _ q => q)
  | false => exact h2.go s1 _ (WM.wp_mono q fin fun _ _ q => q)⟩
theorem rs_asg {gd : GD} {k : D → m (Ot β γ)} (h : RD A ρ a) (hk : ∀ d, RT gd d ρ (k d) fun ρ1 x => RS U' ρ1 Rn Rl x) : RS (pSeq (pAsg A gd) U') ρ Rn Rl (bnd a k) := ⟨fun s P w => rd_mono h (WM.wp_bnd w) (fun d s1 q => by
  rcases hk d with e | ⟨ρ1, e, r⟩
  · rw [e] at q
    exact (WM.wp_no q).elim
  · rw [e]
    exact r.go s1 P q) fun _ _ q => q⟩
theorem rs_par {k : D → D → m (Ot β γ)} (h : RD A ρ a) (h2 : RD B ρ b) (hk : ∀ x y, RS U' ((ρ.set i (.d x)).set j (.d y)) Rn Rl (k x y)) : RS (pSeq (pPar (xCons A (xCons B xNil)) i j) U') ρ Rn Rl (bnd a fun x => bnd b fun y => k x y) :=
  ⟨fun s P w => rd_mono h (WM.wp_bnd w) (fun x s1 q => rd_mono h2 (WM.wp_bnd q) (fun y s2 q => (hk x y).go s2 P q) fun _ _ q => q) fun _ _ q => q⟩
theorem rs_app {xs : List D} {k : List D → m (Ot β γ)} (e : ownL ρ i = some xs) (h : RD A ρ a) (hk : ∀ ys, RS U' (ρ.set i (.own (.lst ys))) Rn Rl (k ys)) : RS (pSeq (onOwn i (pApp i A)) U') ρ Rn Rl (bnd (appV xs a) k) := ⟨fun s P w => ⟨by rw [e]; rfl, rd_mono h (WM.wp_bnd (WM.wp_bnd w)) (fun d s1 q => by
  rw [e]
  split at q
  · rename_i z; exact ⟨z, (hk _).go s1 P (WM.wp_ok q :)⟩
  · exact (WM.wp_no q).elim) fun _ _ q => q⟩⟩
/-- a loop: R1 ties what is carried to the slots -/
theorem forT_v {gd : GD} {R1 : β → Env → Prop} {body : D → β → m (Ot β β)} {k : β → m (Ot δ γ)} {Rn : δ → Env → Prop}
    (turn : ∀ d b ρ, R1 b ρ → RT gd d ρ (body d b) fun ρ1 x => RS T ρ1 (fun c ρ' => ρ'.length = ρ.length ∧ R1 c (back ρ ρ')) (fun c ρ' => ρ'.length = ρ.length ∧ R1 c (back ρ ρ')) x)
    (hk : ∀ b ρ, R1 b ρ → RS U' ρ Rn Rl (k b)) (P : Post S) : ∀ (ds : List D) (b : β) (ρ : Env) (s : S), R1 b ρ → WM.wp (thV (forV body ds b) k) s (poS P Rn Rl) P.ex → forT gd T { P with nx := fun ρ' s' => U' ρ' s' P } ds ρ s
  | [], b, ρ, s, r, w => (hk b ρ r).go s P (WM.wp_ok (WM.wp_bnd w) :)
  | d :: ds, b, ρ, s, r, w => by
    unfold forT
    have w1 := WM.wp_bnd (WM.wp_bnd w)
    rcases turn d b ρ r with e | ⟨ρ1, e, rs⟩
    · rw [e] at w1
      exact (WM.wp_no w1).elim
    · rw [e]
      refine rs.go s _ (WM.wp_mono w1 (fun o s1 q => ?_) fun _ _ q => q)
      cases o with
      | nx c => exact fun ρ' z => ⟨z.1, forT_v turn hk P ds c _ s1 z.2 (WM.bnd_wp q)⟩
      | ct c => exact fun ρ' z => ⟨z.1, forT_v turn hk P ds c _ s1 z.2 (WM.bnd_wp q)⟩
      | bk c => exact fun ρ' z => ⟨z.1, (hk c _ z.2).go s1 P (WM.wp_ok q :)⟩
      | rt c => exact (WM.wp_ok (WM.wp_ok q :) :)
theorem rs_for {gd : GD} {R1 : β → Env → Prop} {body : D → β → m (Ot β β)} {b0 : β} {k : β → m (Ot δ γ)} {Rn : δ → Env → Prop} (hl : RL L ρ l) (h0 : R1 b0 ρ)
    (turn : ∀ d b ρ, R1 b ρ → RT gd d ρ (body d b) fun ρ1 x => RS T ρ1 (fun c ρ' => ρ'.length = ρ.length ∧ R1 c (back ρ ρ')) (fun c ρ' => ρ'.length = ρ.length ∧ R1 c (back ρ ρ')) x)
    (hk : ∀ b ρ, R1 b ρ → RS U' ρ Rn Rl (k b)) : RS (pSeq (pFor L gd T) U') ρ Rn Rl (bnd l fun ds => thV (forV body ds b0) k) :=
  ⟨fun s P w => rl_mono hl (WM.wp_bnd w) (fun ds s1 q => forT_v turn hk P ds b0 ρ s1 h0 q) fun _ _ q => q⟩
end
end L2.DL
namespace L2.DL
open L2 L2.My NdefX PySem PySem.Spec PyProof.Rows
open PM
@[simp] theorem lft_Om {α : Type} (x : Om α) : (lft x : Om α) = x := by cases x <;> rfl
section
variable {m : Type → Type} [PM m]
def ap0 (f : m D) : List D → m D
  | [] => f
  | _ => no
def ap1 (f : D → m D) : List D → m D
  | [a] => f a
  | _ => no
def ap2 (f : D → D → m D) : List D → m D
  | [a, b] => f a b
  | _ => no
def ap3 (f : D → D → D → m D) : List D → m D
  | [a, b, c] => f a b c
  | _ => no
def ap4 (f : D → D → D → D → m D) : List D → m D
  | [a, b, c, d] => f a b c d
  | _ => no
def ap5 (f : D → D → D → D → D → m D) : List D → m D
  | [a, b, c, d, e] => f a b c d e
  | _ => no
def ap6 (f : D → D → D → D → D → D → m D) : List D → m D
  | [a, b, c, d, e, g] => f a b c d e g
  | _ => no
def ap7 (f : D → D → D → D → D → D → D → m D) : List D → m D
  | [a, b, c, d, e, g, h] => f a b c d e g h
  | _ => no
@[simp] theorem ap0_at (f : m D) : ap0 f [] = f := rfl
@[simp] theorem ap1_at (f : D → m D) (a : D) : ap1 f [a] = f a := rfl
@[simp] theorem ap2_at (f : D → D → m D) (a b : D) : ap2 f [a, b] = f a b := rfl
@[simp] theorem ap3_at (f : D → D → D → m D) (a b c : D) : ap3 f [a, b, c] = f a b c := rfl
@[simp] theorem ap4_at (f : D → D → D → D → m D) (a b c d : D) : ap4 f [a, b, c, d] = f a b c d := rfl
@[simp] theorem ap5_at (f : D → D → D → D → D → m D) (a b c d e : D) : ap5 f [a, b, c, d, e] = f a b c d e := rfl
@[simp] theorem ap6_at (f : D → D → D → D → D → D → m D) (a b c d e g : D) : ap6 f [a, b, c, d, e, g] = f a b c d e g := rfl
@[simp] theorem ap7_at (f : D → D → D → D → D → D → D → m D) (a b c d e g h : D) : ap7 f [a, b, c, d, e, g, h] = f a b c d e g h := rfl
def calV (g : List D → Om D) (l : List (m D)) : m D := bnd (seqV l) fun ds => lft (g ds)
end
def penV (g : List D → Tm D) (l : List (Tm D)) : Tm D := Tm.bnd (seqV l) g
abbrev foF (g : List D → Om D) : Fn := fun ds => toF (g ds)
section
variable {m : Type → Type} [PM m] {S : Type} [WM m S] {L : TL S} {ρ : Env} {l : List (m D)} {g : List D → Om D}
theorem rd_call (h : RA L ρ l) : RD (xCall (foF g) L) ρ (calV g l) := ⟨fun s Q X w => h.go _ _ _ (WM.wp_mono (WM.wp_bnd w) (fun ds s1 q => wp_lft q) fun _ _ q => q)⟩
end
/-- what a body is to be, for a def over data alone -/
inductive DB {m : Type → Type} [PM m] {S : Type} [WM m S] (T : TP S) (ρ : Env) : m D → Prop
  | no : DB T ρ no
  | go {β γ : Type} {Rn : β → Env → Prop} {Rl : γ → Env → Prop} {b : m (Ot β γ)} (h : RS T ρ Rn Rl b) : DB T ρ (retV b)
section
variable {m : Type → Type} [PM m] {S : Type} [WM m S] {T : TP S} {ρ : List D → Env}
theorem db0 {f : m D} (h : DB T (ρ []) f) : ∀ ds, DB T (ρ ds) (ap0 f ds) := fun ds => match ds with
  | [] => h
  | _ :: _ => .no
theorem db1 {f : D → m D} (h : ∀ a, DB T (ρ [a]) (f a)) : ∀ ds, DB T (ρ ds) (ap1 f ds) := fun ds => match ds with
  | [a] => h a
  | [] | _ :: _ :: _ => .no
theorem db2 {f : D → D → m D} (h : ∀ a b, DB T (ρ [a, b]) (f a b)) : ∀ ds, DB T (ρ ds) (ap2 f ds) := fun ds => match ds with
  | [a, b] => h a b
  | [] | [_] | _ :: _ :: _ :: _ => .no
theorem db3 {f : D → D → D → m D} (h : ∀ a b c, DB T (ρ [a, b, c]) (f a b c)) : ∀ ds, DB T (ρ ds) (ap3 f ds) := fun ds => match ds with
  | [a, b, c] => h a b c
  | [] | [_] | [_, _] | _ :: _ :: _ :: _ :: _ => .no
theorem db4 {f : D → D → D → D → m D} (h : ∀ a b c d, DB T (ρ [a, b, c, d]) (f a b c d)) : ∀ ds, DB T (ρ ds) (ap4 f ds) := fun ds => match ds with
  | [a, b, c, d] => h a b c d
  | [] | [_] | [_, _] | [_, _, _] | _ :: _ :: _ :: _ :: _ :: _ => .no
end
section
variable {P : Program} {w : World} {K : W.Frag} {mg : Str → Option Value} {base : Heap} {x qual : Str} {st : Stmt} {f : Addr} {fd : FuncData} {N ps : List Str} {k : Nat} {os : List Mo}
/-- THE RULE for a def over data alone, by a function -/
theorem fn_V {g : List D → Om D} (Fd : Fun K x qual st f fd) (Sc : FnScope N ps (defScope st)) (hl : os.length = ps.length) (ho : os.all (fun o => match o with | .f => false | _ => true) = true)
    (hbody : ∀ (cdv : Value) (A : Around) (outer : List PySem.Env) (s : Shared) (H : Hp) (E : XK), Room k (A.deeper (envOfC qual (defScope st) s.heap.objs.size f cdv)) → Quiet (A.deeper (envOfC qual (defScope st) s.heap.objs.size f cdv)) →
      ∃ t, PSs (cxOf (L2.CX P w) P w K mg base N qual (defScope st) f cdv A outer s H E) (defBody st) t ∧
        ∀ (S : Type) (Γ : Fr S), ∃ T : TP S, LnS Γ K E t T ∧ ∀ ds, DB T (envD os N.length ds) (g ds)) :
    FnG P w K mg base (L2.CX P w) (k + 1) f fd ps (spF K os (foF g)) :=
  fn_data Fd Sc hl ho fun cdv A outer s H E hr hq => by
    obtain ⟨t, h1, h2⟩ := hbody cdv A outer s H E hr hq
    refine ⟨t, h1, fun S Γ => ?_⟩
    obtain ⟨T, l, m⟩ := h2 S Γ
    refine ⟨T, l, fun ds r s e => ?_⟩
    have q := m ds
    unfold foF at e
    generalize g ds = y at e q
    cases q with
    | no => cases e
    | @go β γ Rn Rl b h =>
      refine h.go s _ ?_
      change toF (Om.bnd b _) = _ at e
      cases b with
      | no => cases e
      | er x => cases e; exact ⟨rfl, rfl⟩
      | ok o =>
        cases o with
        | nx c => cases e; exact fun ρ' _ => ⟨rfl, rfl⟩
        | rt d => cases e; exact ⟨rfl, rfl⟩
        | bk c => cases e
        | ct c => cases e
end
section
variable {K : W.Frag} {E : XK} {p q : Addr} {ns : List Int} {tl : TA} {L : TL Nat} {os : List Mo}
def spT (K : W.Frag) (os : List Mo) (g : List D → Tm D) : Sp := fun vs H Q E => ∃ (p q : Addr) (ns : List Int) (M : Msk) (n : Nat) (ds : List D), (∀ a, (penFr p q ns).M a → M a) ∧ (∀ a, M a → H a ≠ none) ∧
  ARel K (penFr p q ns).M (.b :: os) M H H vs (.v (.ref p) :: ds) ∧ (penFr p q ns).st n H ∧
  Tm.wp (g ds) n (fun d n' => ∀ (v : V) (H' : Hp), Stp (penFr p q ns) H H' → (penFr p q ns).st n' H' → R K (cut M H') v d → Q v H') fun x n' => ∀ c dx H', Stp (penFr p q ns) H H' → (penFr p q ns).st n' H' → XR K M H' c dx x → E c dx H'
def xPenV (p : Addr) (g : List D → Tm D) (L : TL Nat) : TX Nat := fun ρ n Q X => L ρ n (fun ds n1 => match ds with
  | .v (.ref p') :: ds => p' = p ∧ Tm.wp (g ds) n1 Q X
  | _ => False) X
theorem ln_penV {g : List D → Tm D} (ho : os.all (fun o => match o with | .f => false | _ => true) = true) (h : LnA (penFr p q ns) K E (.b :: os) tl L) :
    Ln (penFr p q ns) K E .s (tCall (spT K os g) [] E tl) (xPenV p g L) := by
  have hno : ∀ o ∈ (Mo.b :: os), o ≠ Mo.f := fun o z e => by
    rcases List.mem_cons.mp z with z | z
    · rw [z] at e; cases e
    · have := List.all_eq_true.mp ho o z
      rw [e] at this
      cases this
  intro M α σ H ρ s ok st QD QX Q z k kx
  refine h ok st _ QX _ z (fun vs H1 ds n1 p1 st1 r z => ?_) kx
  split at z
  · rename_i p' ds
    obtain ⟨rfl, z2⟩ := z
    have ok1 := ok.step p1
    show spT K os g (vs ++ []) H1 Q E
    rw [List.append_nil]
    exact ⟨p', q, ns, mask M α ρ, n1, ds, ok.msub, ok1.mtrk, ARel.from hno r, st1, Tm.wp_mono (fun d n' q v H' p2 st2 r' => k v H' d n' (p1.trans p2) st2 r' q) (fun x n' q c dx H' p2 st2 r' => kx c dx H' x n' (p1.trans p2) st2 r' q) _ _ z2⟩
  · exact z.elim
theorem rd_pen {g : List D → Tm D} {A : TX Nat} {ρ : Env} {l : List (Tm D)} (h0 : RD A ρ (ok (.v (.ref p)) : Tm D)) (h : RA L ρ l) : RD (xPenV p g (xCons A L)) ρ (penV g l) := ⟨fun s Q X w => by
  refine h0.go s _ _ (WM.ok_wp (h.go s _ _ (WM.wp_mono (WM.wp_bnd w) (fun ds s1 q => ?_) fun _ _ q => q)))
  exact ⟨rfl, q⟩⟩
theorem rd_drw {A B : TX Nat} {ρ : Env} {b : Tm D} (h0 : RD A ρ (ok (.v (.ref p)) : Tm D)) (h : RD B ρ b) : RD (xDraw p (xCons A (xCons B xNil))) ρ (drw b) := ⟨fun s Q X w => by
  refine h0.go s _ _ (WM.ok_wp (h.go s _ _ (WM.wp_mono (WM.wp_bnd (m := Tm) w) (fun d s1 q => ?_) fun _ _ q => q)))
  show match [D.v (.ref p), d] with
    | [.v (.ref p'), .v (.int many)] => p' = p ∧ 0 < many ∧ many.natAbs < 2 ^ 200 ∧ s1 < 100000 ∧ ∀ (d : Int) (n2 : Nat), 0 ≤ d → d < many → s1 ≤ n2 → n2 ≤ s1 + 1 → Q (dI d) n2
    | _ => False
  split at q
  · exact ⟨rfl, q⟩
  · exact q.elim⟩
variable {P : Program} {w : World} {mg : Str → Option Value} {base : Heap} {x qual : Str} {st : Stmt} {f : Addr} {fd : FuncData} {N ps : List Str} {k : Nat}
theorem fn_T {g : List D → Tm D}
    (Fd : Fun K x qual st f fd) (Sc : FnScope N ps (defScope st)) (hl : os.length + 1 = ps.length) (ho : os.all (fun o => match o with | .f => false | _ => true) = true)
    (hbody : ∀ (cdv : Value) (A : Around) (outer : List PySem.Env) (s : Shared) (H : Hp) (E : XK), Room k (A.deeper (envOfC qual (defScope st) s.heap.objs.size f cdv)) → Quiet (A.deeper (envOfC qual (defScope st) s.heap.objs.size f cdv)) →
      ∃ t, PSs (cxOf (L2.CX P w) P w K mg base N qual (defScope st) f cdv A outer s H E) (defBody st) t ∧
        ∀ (p q : Addr) (ns : List Int), ∃ T : TP Nat, LnS (penFr p q ns) K E t T ∧ ∀ ds, DB T (envD (.b :: os) N.length (.v (.ref p) :: ds)) (g ds)) :
    FnG P w K mg base (L2.CX P w) (k + 1) f fd ps (spT K os g) := by
  have hno : ∀ o ∈ (Mo.b :: os), o ≠ Mo.f := fun o z e => by
    rcases List.mem_cons.mp z with z | z
    · rw [z] at e; cases e
    · have := List.all_eq_true.mp ho o z
      rw [e] at this
      cases this
  refine body_g Fd Sc (fun vs H Q E ⟨p, q, ns, M, n, ds, _, _, r, _⟩ => by rw [(ARel.len r).1, List.length_cons]; exact hl) ?_
  rintro cdv A outer s H vs Q E hr hq ⟨p, q, ns, M, n, ds, h1, h2, r, st0, z⟩
  obtain ⟨t, ht, hT⟩ := hbody cdv A outer s H E hr hq
  obtain ⟨T, lt, main⟩ := hT p q ns
  obtain ⟨ok, no⟩ := ok_start (N := N) rfl hno h1 h2 r
  have back' : ∀ {w : Msk} {H' : Hp}, StS (wmask (penFr p q ns) (fun _ => 0) (envD (.b :: os) N.length (.v (.ref p) :: ds))) w H H' → Stp (penFr p q ns) H H' := fun p => ⟨fun a o n e => p.keep a o (fun z => z.elim n fun ⟨j, o, _⟩ => no j o) e, p.trk⟩
  have m := main ds
  refine ⟨t, ht, ?_⟩
  generalize g ds = y at z m
  cases m with
  | no => exact z.elim
  | @go β γ Rn Rl b h =>
    have z2 := Tm.wp_bnd _ _ _ _ _ z
    refine lt ok st0 ⟨fun _ n' => ∀ (v : V) (H' : Hp), Stp (penFr p q ns) H H' → (penFr p q ns).st n' H' → R K (cut M H') v dN → Q v H', fun d n' => ∀ (v : V) (H' : Hp), Stp (penFr p q ns) H H' → (penFr p q ns).st n' H' → R K (cut M H') v d → Q v H', fun _ _ => False, fun _ _ => False, fun x n' => ∀ c dx H', Stp (penFr p q ns) H H' → (penFr p q ns).st n' H' → XR K M H' c dx x → E c dx H'⟩ _ (h.go n _ (Tm.wp_mono (fun o n' q => ?_) (fun _ _ q => q) _ _ z2)) (fun σ' H' ρ' s' α' ok' st' p z' => ?_) (fun _ _ _ _ _ _ _ _ z => z.elim) (fun _ _ _ _ _ _ _ _ z => z.elim) (fun v H' d s' p st' r' z' => ?_) (fun c dx H' x s' p st' r' z => ?_)
    · cases o with
      | nx c => exact fun ρ' _ => q
      | rt d => exact q
      | bk c => exact q.elim
      | ct c => exact q.elim
    · exact z' .non H' (back' p) st' (.v _)
    · exact z' v H' (back' p) st' r'
    · exact z c dx H' (back' p) st' r'
theorem fn_lawV {N : List Str} {r1 : Stmt} {rest : List Stmt} {g : Tm D} (Fd : Fun K "law" "law" st f fd) (Sc : FnScope N ["_law_script"] (defScope st)) (h2 : 2 ≤ N.length) (hst : defBody st = r1 :: rest)
    (hg : Tm.wp g 0 (fun d _ => d = dB true) fun _ _ => False)
    (hbody : ∀ (cdv : Value) (A : Around) (outer : List PySem.Env) (s : Shared) (H : Hp), Room k (A.deeper (envOfC "law" (defScope st) s.heap.objs.size f cdv)) → Quiet (A.deeper (envOfC "law" (defScope st) s.heap.objs.size f cdv)) →
      ∃ t, PS (cxOf CX0 P w K mg base N "law" (defScope st) f cdv A outer s H E0).nox r1 (tAsg (tCall (spPen K) [] E0 (tCons (tVar 0) tNil)) (gName 1)) ∧ PSs (cxOf CX0 P w K mg base N "law" (defScope st) f cdv A outer s H E0).nox rest t ∧
        ∀ (p q : Addr) (ns : List Int), ∃ T : TP Nat, LnS (penFr p q ns) K E0 t T ∧ DB T (lawE N.length p) g) :
    FnG P w K mg base CX0 (k + 1) f fd ["_law_script"] (spLaw K) :=
  fn_law Fd Sc h2 hst fun cdv A outer s H hr hq => by
    obtain ⟨t, h1, h3, h4⟩ := hbody cdv A outer s H hr hq
    refine ⟨t, h1, h3, fun p q ns => ?_⟩
    obtain ⟨T, l, b⟩ := h4 p q ns
    refine ⟨T, l, ⟨?_⟩⟩
    cases b with
    | no => exact hg.elim
    | go h =>
      refine h.go 0 postW (Tm.wp_mono (fun o n' q => ?_) (fun _ _ q => q) _ _ (Tm.wp_bnd _ _ _ _ _ hg))
      cases o with
      | nx c => exact absurd q (by intro z; cases z)
      | rt d => exact q
      | bk c => exact q.elim
      | ct c => exact q.elim
end
end L2.DL
namespace L2.DL
open L2 L2.My NdefX PySem PySem.Spec PyProof.Rows
open PM
section
variable {m : Type → Type} [PM m]
/-- a mark of something that is not to be gone into -/
structure Tg {α : Type} (k : α) : Type where
def pp2 {α : Type} (x : m (D × List D)) (k : D → List D → m α) : m α := bnd x fun z => k z.1 z.2
def coG {Acc : Type} (step : D → Acc → m Acc) : List D → Acc → m Acc
  | [], acc => ok acc
  | d :: r, acc => bnd (nox (step d acc)) fun acc' => coG step r acc'
variable {Acc α β γ : Type}
def bndL (x : m α) (k : α → m β) (_ : Tg k := ⟨⟩) : m β := bnd x k
def thL (x : m (Ot α γ)) (k : α → m (Ot β γ)) (_ : Tg k := ⟨⟩) : m (Ot β γ) := thV x k
def ifL (c : m Bool) (a b : m α) (_ : Tg a := ⟨⟩) (_ : Tg b := ⟨⟩) : m α := ifV c a b
def andL (a b : m Bool) (_ : Tg b := ⟨⟩) : m Bool := andB a b
def orL (a b : m Bool) (_ : Tg b := ⟨⟩) : m Bool := orB a b
def andXL (a b : m D) (_ : Tg b := ⟨⟩) : m D := andX a b
def orXL (a b : m D) (_ : Tg b := ⟨⟩) : m D := orX a b
def stpL (c : m Bool) (a : m D) (_ : Tg a := ⟨⟩) : m (Option D) := stp c a
def lcL (l : m (List D)) (st : D → m (Option D)) (_ : Tg st := ⟨⟩) : m D := lcV l st
def forL (body : D → β → m (Ot β β)) (ds : List D) (b : β) (_ : Tg body := ⟨⟩) : m (Ot β γ) := forV body ds b
def whiL (c : β → m Bool) (body : β → m (Ot β β)) (n : Nat) (b : β) (_ : Tg c := ⟨⟩) (_ : Tg body := ⟨⟩) (_ : Tg n := ⟨⟩) : m (Ot β γ) := whiV c body n b
def un2L (d : D) (k : D → D → m α) (_ : Tg k := ⟨⟩) : m α := un2 d k
def un3L (d : D) (k : D → D → D → m α) (_ : Tg k := ⟨⟩) : m α := un3 d k
def un4L (d : D) (k : D → D → D → D → m α) (_ : Tg k := ⟨⟩) : m α := un4 d k
def un5L (d : D) (k : D → D → D → D → D → m α) (_ : Tg k := ⟨⟩) : m α := un5 d k
def pp2L (x : m (D × List D)) (k : D → List D → m α) (_ : Tg k := ⟨⟩) : m α := pp2 x k
def chnL (f g : D → D → Option D) (a b c : m D) (_ : Tg c := ⟨⟩) : m D := chnX f g a b c
variable {S : Type} [WM m S]
variable {A B C : TX S} {ρ : Env} {a b c : m D} {d x y : D} {i j : Nat} {L : TL S} {l : m (List D)} {U V : TB S} {u v : m Bool} {T U' V' : TP S} {Rn : β → Env → Prop} {Rl : γ → Env → Prop} {P : Post S} {x2 : m (Ot β γ)}
structure RCA {Acc : Type} (st : Stepper S Acc) (U : TB S) (ρ : Env) (acc : Acc) (x : m Acc) : Prop where
  go : ∀ s Q, WM.wp x s Q (fun _ _ => False) → U ρ s (fun z s1 => if z = true then st ρ s1 acc Q else Q acc s1) fun _ _ => False
structure RK' {Acc : Type} (st : Stepper S Acc) (ρ : Env) (acc : Acc) (x : m Acc) : Prop where
  go : ∀ s Q, WM.wp x s Q (fun _ _ => False) → st ρ s acc Q
theorem rca {Acc : Type} {st : Stepper S Acc} {acc : Acc} {x : m Acc} (hc : RB' U ρ u) (h : RK' st ρ acc x) : RCA st U ρ acc (ifV u x (ok acc)) := ⟨fun s Q w => rb_mono hc (WM.wp_bnd w) (fun z s1 q => by
  cases z with
  | true => exact h.go s1 Q q
  | false => exact (WM.wp_ok q :)) fun _ _ q => q⟩
theorem coT_v {Acc : Type} {gd : GD} {step : Stepper S Acc} {st : D → Acc → m Acc} {Q : Acc → S → Prop} {X : Exn → S → Prop} (h : ∀ d acc, RT gd d ρ (st d acc) fun ρ1 x => RCA step U ρ1 acc x) : ∀ (ds : List D) (acc : Acc) (s : S), WM.wp (coG st ds acc) s Q X → coT gd U step Q ρ ds acc s
  | [], acc, s, w => (WM.wp_ok w :)
  | d :: r, acc, s, w => by
    unfold coT
    have w1 := WM.wp_nox (WM.wp_bnd w)
    rcases h d acc with e | ⟨ρ1, e, rc⟩
    · rw [e] at w1
      exact (WM.wp_no w1).elim
    · rw [e]
      exact rc.go s _ (WM.wp_mono w1 (fun acc' s1 q => coT_v h r acc' s1 q) fun _ _ q => q)
end
end L2.DL
namespace L2.DL
open L2 L2.My NdefX PySem PySem.Spec PyProof.Rows
open PM
abbrev ltV : D → D → Option D := cmpD (fun i j => decide (i < j)) (fun i j => decide (i < j))
abbrev leV : D → D → Option D := cmpD (fun i j => decide (i ≤ j)) (fun i j => !decide (j < i))
abbrev gtV : D → D → Option D := cmpD (fun i j => decide (j < i)) (fun i j => decide (j < i))
abbrev subV : D → D → Option D := ii fun i j => some (dI (i - j))
abbrev powV : D → D → Option D := ii fun i j => if powB i j = true then some (dI (i ^ j.toNat)) else none
def negD : D → Option D
  | .v (.int i) => some (dI (-i))
  | _ => none
theorem p1_neg {K : W.Frag} : P1 K .s (rU fun i => .int (-i)) negD := by
  intro g m H v d c Q hm r e k
  unfold negD at e
  split at e
  · cases e
    exact ⟨_, RBo.sc r, k _ H (Same.refl _) (.v _)⟩
  · cases e
def prm {β : Type} (pm : List Nat) (xs : List β) : List β := pm.filterMap fun i => xs[i]?
theorem vals_at {i : Nat} : ∀ {vs : List V} {us : List Value}, Vals vs us → (vs[i]? = none ∧ us[i]? = none) ∨ ∃ v u, vs[i]? = some v ∧ us[i]? = some u ∧ RelV v u := by
  intro vs us r
  induction r generalizing i with
  | nil => exact .inl ⟨by simp, by simp⟩
  | cons a r ih =>
    cases i with
    | zero => exact .inr ⟨_, _, rfl, rfl, a⟩
    | succ i => simpa using ih
theorem vals_prm {vs : List V} {us : List Value} (r : Vals vs us) : ∀ pm : List Nat, Vals (prm pm vs) (prm pm us)
  | [] => .nil
  | i :: pm => by
    unfold prm
    rcases vals_at (i := i) r with ⟨e1, e2⟩ | ⟨v, u, e1, e2, q⟩
    · rw [List.filterMap_cons_none e1, List.filterMap_cons_none e2]; exact vals_prm r pm
    · rw [List.filterMap_cons_some e1, List.filterMap_cons_some e2]; exact .cons q (vals_prm r pm)
/-- a def called with keywords alone -/
structure CalP (P : Program) (w : World) (K : W.Frag) (mg : Str → Option Value) (base : Heap) (CX : CXT) (k : Nat) (x : Str) (sp : Sp) (ks : List Str) (pm : List Nat) : Prop where
  ex : ∃ (f : Addr) (fd : FuncData) (ps : List Str), FnG P w K mg base CX k f fd ps sp ∧ mg x = some (.ref f) ∧ W.keepIn K (.ref f) = true ∧ (∀ (s : Shared) (ws : List Value), ws.length = ks.length → BindsTo s fd ⟨[], ks.zip ws⟩ (ps.zip (prm pm ws)))
def tPrm (n : Nat) (pm : List Nat) (t : TA) : TA := fun σ H Q => t σ H fun zs H1 => zs.length = n ∧ Q (prm pm zs) H1
section
variable {X : Cx} {CX : CXT} {k n : Nat} {f C : Addr} {fd : FuncData} {ps ks : List Str} {sp : Sp} {E : XK} {x : Str} {p pos : Pos} {e : Expr} {kws : List Keyword} {t : TA} {pm : List Nat}
theorem pe_kwp {j : Nat} (c : CalP X.prog X.w X.K X.mg X.base CX j x sp ks pm) (hr : Room k X.A) (hjk : j ≤ k) (hq : My.Quiet X.A) (hx : Passes CX X E) (hg : Gl X x) (hkw : PK X kws t)
    (hall : (backToKw pos (keywordEach kws X.env)).all (·.1.isSome) = true := by rfl) (hks : (backToKw pos (keywordEach kws X.env)).filterMap (·.1) = ks := by rfl) (hdb : (x == ("__debug__" : Str)) = false := by decide)
    (hpl : ((backTo pos (starEach [] X.env)).any (·.1) || (backToKw pos (keywordEach kws X.env)).any (·.1.isNone)) = false := by rfl) :
    PE X (.Call (.Name x p) [] kws pos) (tCall sp [] E (tPrm ks.length pm t)) := by
  obtain ⟨f, fd, ps, F, hm, hk, hb⟩ := c.ex
  constructor
  intro pins s σ H Q I h
  refine wpAny_Call_Name_kw (ld_glob I hg hm ?_ hdb)
  refine W.callWith_KW0 (h₀ := X.base) I.ok.mod.kin hk hall ?_ hpl
  refine thn (hkw.run pos pins s σ H _ I h) ?_
  rintro ws s1 ⟨vs, H1, I1, r, hl, q⟩
  refine ⟨I1.kIn, ?_⟩
  rw [hks]
  rw [List.append_nil] at q
  refine wpAny_call (codeAny_mono ((F.up hjk).runs X.A X.stack s1 H1 ⟨[], ks.zip ws⟩ _ _ Q E hr hq I1.env0 (hb s1 ws (r.length.symm.trans hl)) (vals_prm r pm) q) ?_)
  intro res s' z
  match res, z with
  | .error er, z => exact hx pins σ H1 s1 er s' I1 z
  | .ok (.ret u), z => exact I1.after z
end
section
variable {S : Type} {Γ : Fr S} {K : W.Frag} {E : XK} {tl : TA} {L : TL S} {os : List Mo}
def xPrm (pm : List Nat) (L : TL S) : TL S := fun ρ s Q X => L ρ s (fun ds s1 => Q (prm pm ds) s1) X
theorem arel_at {g m : Msk} {H0 H : Hp} {i : Nat} : ∀ {os : List Mo} {vs : List V} {ds : List D}, ARel K g os m H0 H vs ds → (os[i]? = none ∧ vs[i]? = none ∧ ds[i]? = none) ∨ ∃ o v d, os[i]? = some o ∧ vs[i]? = some v ∧ ds[i]? = some d ∧ RR K g o m H0 H v d := by
  induction i with
  | zero =>
    intro os vs ds r
    match os, vs, ds, r with
    | [], [], [], _ => exact .inl ⟨rfl, rfl, rfl⟩
    | o :: _, v :: _, d :: _, r => exact .inr ⟨o, v, d, rfl, rfl, rfl, r.1⟩
  | succ i ih =>
    intro os vs ds r
    match os, vs, ds, r with
    | [], [], [], _ => exact .inl ⟨rfl, rfl, rfl⟩
    | o :: _, v :: _, d :: _, r => simpa using ih r.2
theorem arel_prm {g m : Msk} {H0 H : Hp} {os : List Mo} {vs : List V} {ds : List D} (r : ARel K g os m H0 H vs ds) : ∀ pm : List Nat, ARel K g (prm pm os) m H0 H (prm pm vs) (prm pm ds)
  | [] => trivial
  | i :: pm => by
    unfold prm
    rcases arel_at (i := i) r with ⟨e1, e2, e3⟩ | ⟨o, v, d, e1, e2, e3, q⟩
    · rw [List.filterMap_cons_none e1, List.filterMap_cons_none e2, List.filterMap_cons_none e3]; exact arel_prm r pm
    · rw [List.filterMap_cons_some e1, List.filterMap_cons_some e2, List.filterMap_cons_some e3]; exact ⟨q, arel_prm r pm⟩
theorem ln_prm {n : Nat} {pm : List Nat} {os' : List Mo} (hn : os.length = n) (ho : prm pm os = os') (h : LnA Γ K E os tl L) : LnA Γ K E os' (tPrm n pm tl) (xPrm pm L) := by
  subst ho
  intro M α σ H ρ s ok st QD QX Q q k kx
  refine h ok st _ QX _ q (fun vs H1 ds s1 p1 st1 r z => ?_) kx
  exact ⟨by rw [(ARel.len r).1, hn], k _ H1 _ s1 p1 st1 (arel_prm r pm) z⟩
end
section
variable {m : Type → Type} [PM m]
def kwV (pm : List Nat) (g : List D → Om D) (l : List (m D)) : m D := bnd (seqV l) fun ds => lft (g (prm pm ds))
variable {S : Type} [WM m S] {L : TL S} {ρ : Env} {l : List (m D)} {g : List D → Om D}
theorem rd_kw {pm : List Nat} (h : RA L ρ l) : RD (xCall (foF g) (xPrm pm L)) ρ (kwV pm g l) := ⟨fun s Q X w => h.go _ _ _ (WM.wp_mono (WM.wp_bnd w) (fun ds s1 q => wp_lft q) fun _ _ q => q)⟩
end
mutual
def toQ : D → Option PyData
  | .v .non => some .none
  | .v (.bl b) => some (.bool b)
  | .v (.int i) => some (.int i)
  | .v (.str x) => some (.str x)
  | .v _ => none
  | .tup xs => (toQs xs).map .tuple
  | .lst xs => (toQs xs).map .list
  | .dct kvs => (toQk kvs).map .dict
  | .obj _ _ => none
  | .exc _ _ => none
  | .dtp _ => none
def toQs : List D → Option (List PyData)
  | [] => some []
  | x :: r => (toQ x).bind fun a => (toQs r).map fun b => a :: b
def toQk : List (Key × D) → Option (List (PyData × PyData))
  | [] => some []
  | (k, x) :: r => (toQ x).bind fun a => (toQk r).map fun b => (keyD k, a) :: b
end
section
variable {K : W.Frag} {G H : Hp}
mutual
theorem q_dq : ∀ {d : D} {v : V} {p : PyData}, R K G v d → toQ d = some p → Dq K G v p
  | .v x, _, p, .v _, e => by
    cases x with
    | non => simp only [toQ, Option.some.injEq] at e; subst e; exact .non
    | bl b => simp only [toQ, Option.some.injEq] at e; subst e; exact .bl b
    | int i => simp only [toQ, Option.some.injEq] at e; subst e; exact .int i
    | str x => simp only [toQ, Option.some.injEq] at e; subst e; exact .str x
    | byt _ => simp [toQ] at e
    | flt _ => simp [toQ] at e
    | ref _ => simp [toQ] at e
    | ty _ => simp [toQ] at e
  | .tup xs, _, p, .tup h1 h2, e => by
    simp only [toQ, Option.map_eq_some_iff] at e
    obtain ⟨ps, e, rfl⟩ := e
    exact .tup h1 (q_dqs h2 e)
  | .lst xs, _, p, .lst h1 h2, e => by
    simp only [toQ, Option.map_eq_some_iff] at e
    obtain ⟨ps, e, rfl⟩ := e
    exact .lst (.inl (.inl h1)) (q_dqs h2 e)
  | .dct xs, _, p, .dct h1 h2, e => by
    simp only [toQ, Option.map_eq_some_iff] at e
    obtain ⟨ps, e, rfl⟩ := e
    exact .dic h1 (q_dqk h2 e)
  | .obj _ _, _, _, _, e => by simp [toQ] at e
  | .exc _ _, _, _, _, e => by simp [toQ] at e
  | .dtp _, _, _, _, e => by simp [toQ] at e
theorem q_dqs : ∀ {ds : List D} {vs : List V} {ps : List PyData}, RAll K G vs ds → toQs ds = some ps → DqAll K G vs ps
  | [], _, _, .nil, e => by simp only [toQs, Option.some.injEq] at e; subst e; exact .nil
  | d :: ds, _, _, .cons h t, e => by
    simp only [toQs, Option.bind_eq_some_iff, Option.map_eq_some_iff] at e
    obtain ⟨a, ea, b, eb, rfl⟩ := e
    exact .cons (q_dq h ea) (q_dqs t eb)
theorem q_dqk : ∀ {ds : List (Key × D)} {vs : List (Key × V)} {ps : List (PyData × PyData)}, RKv K G vs ds → toQk ds = some ps → DqKv K G vs ps
  | [], _, _, .nil, e => by simp only [toQk, Option.some.injEq] at e; subst e; exact .nil
  | (k, d) :: ds, _, _, .cons h t, e => by
    simp only [toQk, Option.bind_eq_some_iff, Option.map_eq_some_iff] at e
    obtain ⟨a, ea, b, eb, rfl⟩ := e
    exact .cons (q_dq h ea) (q_dqk t eb)
end
mutual
theorem Dq.same (s : Same G H) : ∀ {v : V} {p : PyData}, Dq K G v p → Dq K H v p
  | _, _, .non => .non
  | _, _, .bl b => .bl b
  | _, _, .int i => .int i
  | _, _, .str x => .str x
  | _, _, .lst h t => .lst (SqL.same s h) (DqAll.same s t)
  | _, _, .tup h t => .tup (SqT.same s h) (DqAll.same s t)
  | _, _, .dic h t => .dic (s _ _ h) (DqKv.same s t)
theorem DqAll.same (s : Same G H) : ∀ {v : List V} {p : List PyData}, DqAll K G v p → DqAll K H v p
  | _, _, .nil => .nil
  | _, _, .cons h t => .cons (Dq.same s h) (DqAll.same s t)
theorem DqKv.same (s : Same G H) : ∀ {v : List (Key × V)} {p : List (PyData × PyData)}, DqKv K G v p → DqKv K H v p
  | _, _, .nil => .nil
  | _, _, .cons h t => .cons (Dq.same s h) (DqKv.same s t)
end
theorem rb_dq {g m : Msk} {v : V} {d : D} {p : PyData} (r : RB K g m H v d) (e : toQ d = some p) : Dq K H v p := by
  rcases r with r | ⟨a, c, rfl, rfl, n, r⟩
  · exact Dq.same cut_le (q_dq r e)
  · cases c with
    | lst xs =>
      obtain ⟨vs, h, t⟩ := r
      simp only [Cell.toD, toQ, Option.map_eq_some_iff] at e
      obtain ⟨ps, e, rfl⟩ := e
      exact .lst (.inl (.inl h)) (DqAll.same cut_le (q_dqs t e))
    | dct xs =>
      obtain ⟨vs, h, t⟩ := r
      simp only [Cell.toD, toQ, Option.map_eq_some_iff] at e
      obtain ⟨ps, e, rfl⟩ := e
      exact .dic h (DqKv.same cut_le (q_dqk t e))
    | obj C xs => simp [Cell.toD, toQ] at e
end
def reprX (RF : Addr → Option Fn) (d : D) : Option D := match d with
  | .obj C _ => (RF C).bind fun F => resS (F [d])
  | _ => (toQ d).bind fun p => if p.showable = true ∧ p.depth ≤ 60 ∧ p.shown.length ≤ sizeLine then some (dS p.shown) else none
theorem p1_reprX {K : W.Frag} {RF : Addr → Option Fn} : P1 K .s (fun v => rReprA K (DRp K RF) [v]) (reprX RF) := by
  intro g m H v d e Q hm r he k
  unfold reprX at he
  split at he
  · rename_i C fs
    obtain ⟨F, eF, he⟩ := Option.bind_eq_some_iff.mp he
    obtain ⟨y, ey, rfl⟩ := resS_ex he
    obtain ⟨a, dx, vs, rfl, h1, _⟩ := RBo.obj r
    refine .inr ⟨a, C, dx, vs, _, rfl, h1, ⟨F, eF, rfl⟩, spF_one hm r ey fun v' H' s r' => ?_⟩
    cases r'
    exact ⟨y, rfl, k _ H' s (.v _)⟩
  · obtain ⟨p, ep, he⟩ := Option.bind_eq_some_iff.mp he
    split at he
    · rename_i hp
      cases he
      exact .inl ⟨v, p, rfl, rb_dq r ep, hp.1, hp.2.1, hp.2.2, k _ H (Same.refl _) (.v _)⟩
    · cases he
theorem call_reprN {X : Cx} {n : Nat} {m : Str → Option Value} (hs : X.base.Ns sysModules m) (hq : My.Quiet X.A) (hr : Room (n + 1) X.A) : CallR X (.builtin "repr") (rReprA X.K (DRp X.K fun _ => none)) :=
  call_reprA hs hq hr fun C sp h => by
    obtain ⟨F, e, _⟩ := h
    cases e
/-- where no instance is shown -/
abbrev reprQ : D → Option D := reprX fun _ => none
end L2.DL
namespace L2.DL
open L2 L2.My NdefX PySem PySem.Spec PyProof.Rows
open PM
section
variable {X : Cx}
def ddI (ns : List Int) : Nat := (PyProof.Rows.firstMet (fun i => ns.getD i 0) ns.length).length
def rLenSet (K : PySem.W.Frag) : V → Hp → VK → Prop := fun x H Q => ∃ (l : Addr) (ns : List Int), x = .ref l ∧ SqL K H l (ns.map V.int) ∧ ns.length ≤ 4000 ∧ Q (.int (ddI ns : Nat)) H
end
def lsetD : D → Option D
  | .lst ds => (asIs ds).bind fun ns => if ns.length ≤ 4000 then some (dI (ddI ns : Nat)) else none
  | _ => none
section
variable {K : W.Frag}
theorem p1_lset : P1 K .s (rLenSet K) lsetD := by
  intro g m H v d c Q hm r e k
  unfold lsetD at e
  split at e
  · obtain ⟨ns, en, e⟩ := Option.bind_eq_some_iff.mp e
    split at e
    · rename_i hl
      cases e
      obtain ⟨a, rfl, h1⟩ := rb_ints r en
      exact ⟨a, ns, rfl, h1, hl, k _ H (Same.refl _) (.v _)⟩
    · cases e
  · cases e
variable {S : Type} {Γ : Fr S} {E : XK} {ta : TE} {A : TX S}
end
end L2.DL
namespace L2.DL
open L2 L2.My NdefX PySem PySem.Spec PyProof.Rows
open PM
/-- where the law's text is: the classes by their names -/
class Zd where
  K : W.Frag
  c : Str → Addr
open Classical in
noncomputable def fldD (K : W.Frag) (f : Str) (d : D) : Option D := match d with
  | .obj C fs => if Att K C f then fs.lookup f else none
  | _ => none
def fmtV (r : Bool) (d : D) : Option D := (fmtD r d).map dS
def toFG {α : Type} (x : Om α) : Option (Except Exn α) := match x with
  | .ok a => some (.ok a)
  | .er x => some (.error x)
  | .no => none
section
variable {m : Type → Type} [PM m]
def jsV : List (m D) → Str → m D
  | [], acc => ok (dS acc)
  | a :: r, acc => bnd a fun d => match d with
    | .v (.str y) => if (acc ++ y).length ≤ sizeLine then jsV r (acc ++ y) else no
    | _ => no
def joinV (a b : m D) : m D := bnd a fun d => match d with
  | .v (.str _) => bnd b fun c => lif (joinD d c)
  | _ => no
def raiV {α : Type} (C : Addr) (fs : List Str) (l : List (m D)) : m α := bnd (seqV l) fun ds => if ds.length = fs.length ∧ ds.length ≤ 1000 then er ⟨C, some (fs.zip ds).reverse⟩ else no
open Classical in
noncomputable def setFV (K : W.Frag) (C : Addr) (f : Str) (fs : List (Str × D)) (a : m D) : m (List (Str × D)) := bnd a fun d => if Att K C f ∧ fs.length < 1000 then ok (putD f d fs) else no
def supV (g : Addr → List D → Om (List (Str × D))) (C : Addr) (l : List (m D)) : m (List (Str × D)) := bnd (seqV l) fun ds => lft (g C ds)
def mkV (C : Addr) (g : Addr → List D → Om (List (Str × D))) (l : List (m D)) : m D := bnd (supV g C l) fun fs => ok (.obj C fs)
def retI {β γ : Type} (x : m (Ot β γ)) : m β := bnd x fun o => match o with
  | .nx b => ok b
  | _ => no
def ag1 {α : Type} (f : D → m α) : List D → m α
  | [a] => f a
  | _ => no
def ag2 {α : Type} (f : D → D → m α) : List D → m α
  | [a, b] => f a b
  | _ => no
def ag3 {α : Type} (f : D → D → D → m α) : List D → m α
  | [a, b, c] => f a b c
  | _ => no
@[simp] theorem ag1_at {α : Type} (f : D → m α) (a : D) : ag1 f [a] = f a := rfl
@[simp] theorem ag2_at {α : Type} (f : D → D → m α) (a b : D) : ag2 f [a, b] = f a b := rfl
@[simp] theorem ag3_at {α : Type} (f : D → D → D → m α) (a b c : D) : ag3 f [a, b, c] = f a b c := rfl
end
def foI (g : Addr → List D → Om (List (Str × D))) : IniF := fun C ds => toFG (g C ds)
section
variable {m : Type → Type} [PM m] {S : Type} [WM m S] {A B : TX S} {L : TL S} {ρ : Env} {a b : m D} {l : List (m D)} {K : W.Frag} {i : Nat}
theorem wp_lftG {α : Type} {o : Om α} {s : S} {Q : α → S → Prop} {X : Exn → S → Prop} (h : WM.wp (lft o : m α) s Q X) : opt (toFG o) fun r => match r with
    | .ok d => Q d s
    | .error x => X x s := by
  cases o with
  | ok a => exact (WM.wp_ok h :)
  | er x => exact WM.wp_er h
  | no => exact WM.wp_no h
theorem rd_fld {f : Str} (h : RD A ρ a) : RD (xFld K f A) ρ (op1 (fldD K f) a) := ⟨fun s Q X w => rd_mono h (WM.wp_bnd w) (fun d s1 q => by
  have q := wp_lif q
  unfold fldD at q
  cases d with
  | obj C fs =>
    simp only at q ⊢
    split at q
    · rename_i z; exact ⟨z, q⟩
    · exact q.elim
  | _ => exact q.elim) fun _ _ q => q⟩
theorem rd_fmt {r : Bool} (h : RD A ρ a) : RD (xFmt r A) ρ (op1 (fmtV r) a) := ⟨fun s Q X w => rd_mono h (WM.wp_bnd w) (fun d s1 q => by
  have q := wp_lif q
  unfold fmtV at q
  obtain ⟨x, e, q⟩ := opt_ex q
  obtain ⟨y, e1, rfl⟩ := Option.map_eq_some_iff.mp e
  rw [e1]
  exact q) fun _ _ q => q⟩
inductive RJ {m : Type → Type} [PM m] {S : Type} [WM m S] (ρ : Env) : List (TX S) → List (m D) → Prop
  | nil : RJ ρ [] []
  | cons {A : TX S} {As : List (TX S)} {a : m D} {l : List (m D)} (h : RD A ρ a) (r : RJ ρ As l) : RJ ρ (A :: As) (a :: l)
theorem rj_go {As : List (TX S)} {l : List (m D)} (h : RJ ρ As l) : ∀ (acc : Str) (s : S) (Q : D → S → Prop) (X : Exn → S → Prop), WM.wp (jsV l acc) s Q X → xJs As acc ρ s (fun y s1 => Q (dS y) s1) X := by
  induction h with
  | nil => exact fun acc s Q X w => (WM.wp_ok w :)
  | cons h _ ih =>
    intro acc s Q X w
    refine rd_mono h (WM.wp_bnd w) (fun d s1 q => ?_) fun _ _ q => q
    split at q
    · split at q
      · rename_i z; exact ⟨z, ih _ _ _ _ q⟩
      · exact (WM.wp_no q).elim
    · exact (WM.wp_no q).elim
theorem rd_joined {As : List (TX S)} (h : RJ ρ As l) : RD (xJoined As) ρ (jsV l Str.empty) := ⟨fun s Q X w => rj_go h _ s Q X w⟩
theorem rd_join (h : RD A ρ a) (k : RD B ρ b) : RD (fun ρ s Q X => A ρ s (fun d s1 => (∃ a, d = dS a) ∧ B ρ s1 (fun c s2 => opt (joinD d c) fun e => Q e s2) X) X) ρ (joinV a b) := ⟨fun s Q X w => rd_mono h (WM.wp_bnd w) (fun d s1 q => by
  split at q
  · exact ⟨⟨_, rfl⟩, rd_mono k (WM.wp_bnd q) (fun c s2 q => wp_lif q) fun _ _ q => q⟩
  · exact (WM.wp_no q).elim) fun _ _ q => q⟩
theorem rd_mk {C : Addr} {g : Addr → List D → Om (List (Str × D))} (h : RA L ρ l) : RD (xMk C (foI g) L) ρ (mkV C g l) := ⟨fun s Q X w => h.go _ _ _ (WM.wp_mono (WM.wp_bnd (WM.wp_bnd w)) (fun ds s1 q => by
  obtain ⟨y, e, q⟩ := opt_ex (wp_lftG q)
  unfold foI
  rw [e]
  cases y with
  | ok fs => exact (WM.wp_ok q :)
  | error x => exact q) fun _ _ q => q)⟩
variable {β γ : Type} {T U : TP S} {Rn : β → Env → Prop} {Rl : γ → Env → Prop}
theorem rs_raise {C : Addr} {fs : List Str} (h : RA L (frz ρ) l) : RS (pSeq (pRaise C fs L) U) ρ Rn Rl (raiV C fs l : m (Ot β γ)) := ⟨fun s P w => h.go _ _ _ (WM.wp_mono (WM.wp_bnd w) (fun ds s1 q => by
  split at q
  · rename_i z; exact ⟨z.1, z.2, WM.wp_er q⟩
  · exact (WM.wp_no q).elim) fun _ _ q => q)⟩
theorem rs_fld {C : Addr} {f : Str} {fs : List (Str × D)} {k : List (Str × D) → m (Ot β γ)} (e : ownO ρ i = some (C, fs)) (h : RD A ρ a) (hk : ∀ fs', RS U (ρ.set i (.own (.obj C fs'))) Rn Rl (k fs')) : RS (pSeq (pFld K f i A) U) ρ Rn Rl (bnd (setFV K C f fs a) k) := ⟨fun s P w => rd_mono h (WM.wp_bnd (WM.wp_bnd w)) (fun d s1 q => by
  rw [e]
  split at q
  · rename_i z; exact ⟨z.1, z.2, (hk _).go s1 P (WM.wp_ok q :)⟩
  · exact (WM.wp_no q).elim) fun _ _ q => q⟩
end
inductive DI {S : Type} (T : TP S) (ρ : Env) (C : Addr) : Om (List (Str × D)) → Prop
  | no : DI T ρ C no
  | go {γ : Type} {Rl : γ → Env → Prop} {b : Om (Ot (List (Str × D)) γ)} (h : RS T ρ (fun fs ρ' => ownO ρ' 0 = some (C, fs)) Rl b) : DI T ρ C (retI b)
inductive DS {S : Type} (L : TL S) (T : TP S) (ρ : Env) (gP : Addr → List D → Om (List (Str × D))) (C : Addr) : Om (List (Str × D)) → Prop
  | no : DS L T ρ gP C no
  | go {γ : Type} {Rl : γ → Env → Prop} {l : List (Om D)} {b : List (Str × D) → Om (Ot (List (Str × D)) γ)} (ha : RA L ρ l) (h : ∀ fs, RS T (ρ.set 0 (.own (.obj C fs))) (fun fs' ρ' => ownO ρ' 0 = some (C, fs')) Rl (b fs)) : DS L T ρ gP C (retI (bnd (supV gP C l) b))
section
variable {Pr : Om (List (Str × D)) → Prop}
theorem dg1 {Pr : List D → Om (List (Str × D)) → Prop} (n : ∀ ds, Pr ds no) {f : D → Om (List (Str × D))} (h : ∀ a, Pr [a] (f a)) : ∀ ds, Pr ds (ag1 f ds) := fun ds => match ds with
  | [a] => h a
  | [] | _ :: _ :: _ => n _
theorem dg2 {Pr : List D → Om (List (Str × D)) → Prop} (n : ∀ ds, Pr ds no) {f : D → D → Om (List (Str × D))} (h : ∀ a b, Pr [a, b] (f a b)) : ∀ ds, Pr ds (ag2 f ds) := fun ds => match ds with
  | [a, b] => h a b
  | [] | [_] | _ :: _ :: _ :: _ => n _
theorem dg3 {Pr : List D → Om (List (Str × D)) → Prop} (n : ∀ ds, Pr ds no) {f : D → D → D → Om (List (Str × D))} (h : ∀ a b c, Pr [a, b, c] (f a b c)) : ∀ ds, Pr ds (ag3 f ds) := fun ds => match ds with
  | [a, b, c] => h a b c
  | [] | [_] | [_, _] | _ :: _ :: _ :: _ :: _ => n _
end
theorem wp_same {α S : Type} {x : Om α} {s : S} {Q : α → S → Prop} {X : Exn → S → Prop} (w : WM.wp x s Q X) : WM.wp x s (fun a s1 => s1 = s ∧ Q a s) (fun e s1 => s1 = s ∧ X e s) := by
  cases x with
  | ok a => exact ⟨rfl, w⟩
  | er e => exact ⟨rfl, w⟩
  | no => exact w
section
variable {P : Program} {w : World} {K : W.Frag} {mg : Str → Option Value} {base : Heap} {xn qual self : Str} {st : Stmt} {f : Addr} {fd : FuncData} {N ps : List Str} {k : Nat} {os osP : List Mo} {CC CCP : Addr → Prop} {g gP : Addr → List D → Om (List (Str × D))}
theorem post_ini {S : Type} {C : Addr} {s : S} {b : Om (Ot (List (Str × D)) γ)} {Rl : γ → Env → Prop} {y : Om (List (Str × D))} {r : Except Exn (List (Str × D))} (ey : y = retI b) (e : toFG y = some r) : WM.wp b s (poS (postI C s r) (fun fs ρ' => ownO ρ' 0 = some (C, fs)) Rl) (postI C s r).ex := by
  subst ey
  change toFG (Om.bnd b _) = _ at e
  cases b with
  | no => cases e
  | er x => cases e; exact ⟨rfl, rfl⟩
  | ok o =>
    cases o with
    | nx c => cases e; exact fun ρ' h => ⟨rfl, c, rfl, h⟩
    | rt d => cases e
    | bk c => cases e
    | ct c => cases e
theorem fn_iniV (Fd : Fun K xn qual st f fd) (Sc : FnScope N (self :: ps) (defScope st)) (hl : os.length = ps.length) (ho : os.all (fun o => match o with | .f => false | _ => true) = true)
    (hbody : ∀ (cdv : Value) (A : Around) (outer : List PySem.Env) (s : Shared) (H : Hp) (E : XK), Room k (A.deeper (envOfC qual (defScope st) s.heap.objs.size f cdv)) → Quiet (A.deeper (envOfC qual (defScope st) s.heap.objs.size f cdv)) →
      ∃ t, PSs (cxOf (L2.CX P w) P w K mg base N qual (defScope st) f cdv A outer s H E) (defBody st) t ∧
        ∀ (S : Type) (Γ : Fr S) (x : Addr), ∃ T : TP S, LnS (Γ.mk' x) K E t T ∧ ∀ (C : Addr), CC C → ∀ (ds : List D), DI T (iniE os N.length C ds) C (g C ds)) :
    FnG P w K mg base (L2.CX P w) (k + 1) f fd (self :: ps) (spI K os CC (foI g)) :=
  fn_ini Fd Sc hl ho fun cdv A outer s H E hr hq => by
    obtain ⟨t, h1, h2⟩ := hbody cdv A outer s H E hr hq
    refine ⟨t, h1, fun S Γ x => ?_⟩
    obtain ⟨T, l, m⟩ := h2 S Γ x
    refine ⟨T, l, fun C ds r s hc e => ?_⟩
    have q := m C hc ds
    unfold foI at e
    generalize hy : g C ds = y at e q
    cases q with
    | no => cases e
    | go h => exact h.go s _ (post_ini rfl e)
theorem fn_supV {c cc Dc : Addr} {e : Expr} {es : List Expr} {rest : List Stmt} {p0 p1 apos pos pos2 : Pos} {ar : Arg}
    (Fd : FunS P K xn qual st f fd c cc Dc) (Sc : NScope N (self :: ps) ["__class__"] (defScope st)) (hst : defBody st = .Expr (.Call (.Attribute (.Call (.Name "super" p0) [] [] p1) "__init__" apos) (e :: es) [] pos) pos2 :: rest)
    (hpar : ((defArgs st).posonlyargs ++ (defArgs st).args).head? = some ar) (har : ar.arg = self) (hks : (defScope st).names.lookup ("super" : Str) = some .globalImplicit) (m_super : mg "super" = none) (hop : W.nsIn K cStatics "thirdparty.any" = some none)
    (he : ∀ env : PySem.Env, starEach (e :: es) env = (false, eval e env) :: starEach es env) (hpl : ∀ env : PySem.Env, (backTo pos (starEach es env)).any (·.1) = false)
    (hev : ∀ env : PySem.Env, ∃ pl, eval (.Call (.Attribute (.Call (.Name "super" p0) [] [] p1) "__init__" apos) (e :: es) [] pos) env = (do
        let ov ← attributeBase (.Call (.Name "super" p0) [] [] p1) "__init__" env (eval (.Call (.Name "super" p0) [] [] p1) env)
        standAt apos.atName
        let (f, first) ← holding [ov] (getMethod ov "__init__" pl)
        callWith pos f first (backTo pos (starEach (e :: es) env)) []))
    (hsw : ∀ env : PySem.Env, swapsWith (.Call (.Attribute (.Call (.Name "super" p0) [] [] p1) "__init__" apos) (e :: es) [] pos) none pos2.line env = pure false)
    (hl : os.length = ps.length) (ho : os.all (fun o => match o with | .f => false | _ => true) = true) (hoP : osP.all (fun o => match o with | .s => true | _ => false) = true)
    {fP : Addr} {fdP : FuncData} {psP : List Str} (hC : ∀ C, CC C → W.mroIn K C (.ref Dc) = some true ∧ W.ks_superIn K C Dc "__init__" = some (some (.ref fP)) ∧ CCP C) (htP : W.typeIn K (.ref fP) = some (.type "function")) (hfP : W.fnIn K fP = true)
    (FF : FnG P w K mg base (L2.CX P w) k fP fdP psP (spI K osP CCP (foI gP))) (bP : Binds K fdP psP [])
    (hbody : ∀ (A : Around) (outer : List PySem.Env) (s : Shared) (H : Hp) (E : XK), Room k (A.deeper (envF (nfS xn qual st c cc) f s.heap.objs.size)) → Quiet (A.deeper (envF (nfS xn qual st c cc) f s.heap.objs.size)) →
      ∃ (ta : TA) (t : TS), PA (ncx (L2.CX P w) P w K mg base N (nfS xn qual st c cc) f A outer s H E) (e :: es) ta ∧ PSs (ncx (L2.CX P w) P w K mg base N (nfS xn qual st c cc) f A outer s H E) rest t ∧
        Passes (L2.CX P w) (ncx (L2.CX P w) P w K mg base N (nfS xn qual st c cc) f A outer s H E) E ∧
        ∀ (S : Type) (Γ : Fr S) (x : Addr), ∃ (L : TL S) (T : TP S), LnA (Γ.mk' x) K E osP ta L ∧ LnS (Γ.mk' x) K E t T ∧ ∀ (C : Addr), CC C → ∀ (ds : List D), DS L T (iniE os N.length C ds) gP C (g C ds)) :
    FnG P w K mg base (L2.CX P w) (k + 1) f fd (self :: ps) (spI K os CC (foI g)) :=
  fn_sup Fd Sc hst hpar har hks m_super hop he hpl hev hsw hl ho hoP hC htP hfP FF bP fun A outer s H E hr hq => by
    obtain ⟨ta, t, h1, h2, h3, h4⟩ := hbody A outer s H E hr hq
    refine ⟨ta, t, h1, h2, h3, fun S Γ x => ?_⟩
    obtain ⟨L, T, la, l, m⟩ := h4 S Γ x
    refine ⟨L, T, la, l, fun C ds r s hc e => ?_⟩
    have q := m C hc ds
    unfold foI at e
    generalize hy : g C ds = y at e q
    cases q with
    | no => cases e
    | @go γ Rl l b ha h =>
      have w := post_ini (C := C) (s := s) (Rl := Rl) rfl e
      refine ha.go s _ _ (WM.wp_mono (wp_same (WM.wp_bnd (WM.wp_bnd w))) (fun ds s1 q => ⟨q.1, ?_⟩) fun x s1 q => ?_)
      · obtain ⟨y, e1, q⟩ := opt_ex (wp_lftG q.2)
        unfold foI
        rw [e1]
        cases y with
        | ok fs => exact (h fs).go s _ q
        | error x => exact q.1
      · exact ⟨q.2.1, q.1⟩
end
end L2.DL
namespace L2.DL
open L2 L2.My NdefX PySem PySem.Spec PyProof.Rows
open PM
structure NmC (mg : Str → Option Value) (x : Str) (C : Addr) : Prop where
  nm : mg x = some (.ref C)
structure BelowV (P : Program) (w : World) (K : W.Frag) (mg : Str → Option Value) (base : Heap) (k : Nat) (Dc : Addr) (psP : List Str) (osP : List Mo) (CCP : Addr → Prop) (gP : Addr → List D → Om (List (Str × D))) : Prop where
  m1 : W.mroIn K Dc (.ref Dc) = some true
  cp : CCP Dc
  up : ∃ (fP : Addr) (fdP : FuncData), W.ks_superIn K Dc Dc "__init__" = some (some (.ref fP)) ∧ W.typeIn K (.ref fP) = some (.type "function") ∧ W.fnIn K fP = true ∧ FnG P w K mg base (L2.CX P w) k fP fdP psP (spI K osP CCP (foI gP)) ∧ Binds K fdP psP []
end L2.DL
namespace L2.My
open PySem PySem.Spec PyProof.Rows
/-- args are bound as told, and the state goes from s to s2 -/
def BindsAt (s s2 : Shared) (fd : FuncData) (args : Args) (binds : List (Str × Value)) : Prop := ∀ (M : Model) (A' : Around) (Q : List (Str × Value) → Shared → Prop) (Ex : Value → Shared → Prop), Q binds s2 → wpAny M A' (bindArgs fd args) Q Ex s
structure FnB (P : Program) (w : World) (K : W.Frag) (mg : Str → Option Value) (base : Heap) (CX : CXT) (k : Nat) (f : Addr) (fd : FuncData) (ps : List Str) (sp : Sp) : Prop where
  many : ∀ vs H Q E, sp vs H Q E → vs.length = ps.length
  runs : ∀ (A : Around) (outer : List Env) (s s2 : Shared) (H H2 : Hp) (args : Args) (us : List Value) (vs : List V) (Q : VK) (E : XK),
    Room k A → Quiet A → Env0 P w K mg base A outer s H → Env0 P w K mg base A outer s2 H2 → Un (frs outer) [] H H2 s.heap s2.heap → s2.os = s.os → (∀ e s', CX outer H2 s2 E e s' → CX outer H s E e s') →
    BindsAt s s2 fd args (ps.zip us) → Vals vs us → sp vs H2 Q E → codeAny (model P w) A (.call (.ref f) args) (CR CX outer P w H s Q E) s
theorem body_b {CX : CXT} {P : Program} {w : World} {K : W.Frag} {mg : Str → Option Value} {base : Heap} {x qual : Str} {st : Stmt} {f : Addr} {fd : FuncData} {N ps : List Str} {k : Nat} {sp : Sp}
    (F : Fun K x qual st f fd) (S : FnScope N ps (defScope st)) (many : ∀ vs H Q E, sp vs H Q E → vs.length = ps.length)
    (hbody : ∀ (cdv : Value) (A : Around) (outer : List Env) (s : Shared) (H : Hp) (vs : List V) (Q : VK) (E : XK), Room k (A.deeper (envOfC qual (defScope st) s.heap.objs.size f cdv)) → Quiet (A.deeper (envOfC qual (defScope st) s.heap.objs.size f cdv)) → sp vs H Q E →
      ∃ t, PSs (cxOf CX P w K mg base N qual (defScope st) f cdv A outer s H E) (defBody st) t ∧ t { nx := fun _ H' => Q .non H', rt := Q } (start N vs) H) :
    FnB P w K mg base CX (k + 1) f fd ps sp := by
  obtain ⟨oc, od, kV, doc, pm, an, cdv, ct, osl, rfl, lk, hcd⟩ := F.ex
  refine ⟨many, ?_⟩
  intro A outer s s2 H H2 args us vs Q E hr hq e0 e2 un ho hx hb r hsp
  have KX : K.In s.heap := e0.mod.kin.keeps fun b o e => (e0.bs b o e).1
  have lim : s2.heap.NoLimit := e0.mod.nolimit.keeps fun b o e => (e2.bs b o e).1
  have hkind : ∀ y ∈ ps.zip us, (defScope st).names.lookup y.1 = some .local ∨ ((defScope st).names.lookup y.1 = some .cell ∧ ((cellsFrom (s2.heap.objs.size + 1) (defScope st).names []).lookup y.1).isSome = true) := by
    rintro ⟨n, v⟩ hy
    cases S.par n (List.of_mem_zip hy).1 with
    | inl q => exact .inl q
    | inr q => exact .inr ⟨q, W.cellsFrom_some _ _ _ (.inl q)⟩
  refine codeAny_call_function hr.depth (KX _ _ lk) rfl S.co S.gen rfl (W.codeRec_of KX hcd) (hb _ _ _ _ (wpAny_newFunctionEnv_cells (s := s2) S.kind hkind ?_))
  rintro env rfl s1 x
  refine ⟨lim.keeps x.toInCall.keep, codeAny_func ?_⟩
  obtain ⟨t, ht, hq'⟩ := hbody cdv A outer s2 H2 vs Q E (hr.deeper _) hq hsp
  have I := inv_start (CX := CX) (E := E) S hr.hd e2 (many _ _ _ _ hsp) r x
  refine wpAny_mono (ht.run [] s1 (start N vs) H2 _ I hq') ?_ (fun e s' hs => wpAny_mono hs (fun _ s'' z => hx e s'' z) fun e' s'' z => hx e' s'' z)
  intro fl s' hs
  match fl, hs with
  | .ret u, ⟨v, σ', H', J, rv, q⟩ => exact (⟨v, H', J.os.trans ho, J.bare, un.trans J.base, J.hok, rv, q⟩ : CE outer P w H s Q u s')
  | .next, ⟨σ', H', J, q⟩ => exact (⟨.non, H', J.os.trans ho, J.bare, un.trans J.base, J.hok, rfl, q⟩ : CE outer P w H s Q .none s')
  | .brk, ⟨_, _, _, q⟩ => exact q.elim
  | .cont, ⟨_, _, _, q⟩ => exact q.elim
/-- a tuple of what is left over, laid while binding -/
theorem FnB.star {P : Program} {w : World} {K : W.Frag} {mg : Str → Option Value} {base : Heap} {k : Nat} {f : Addr} {fd : FuncData} {ps : List Str} {pv : Str} {sp : Sp} (F : FnB P w K mg base (L2.CX P w) k f fd (ps ++ [pv]) sp)
    {A : Around} {outer : List Env} {s : Shared} {H : Hp} {args : Args} {us rest : List Value} {vs xs : List V} {Q : VK} {E : XK} (hr : Room k A) (hq : Quiet A) (e0 : Env0 P w K mg base A outer s H)
    (hb : bindArgs fd args = (newTuple rest >>= fun t => pure (ps.zip us ++ [(pv, t)]))) (r : Vals vs us) (rx : Vals xs rest) (hl : vs.length = ps.length) (hz : xs.length ≤ sizeLine)
    (h : ∀ p, H p = none → sp (vs ++ [.ref p]) (upd H p (.tup xs)) Q E) : codeAny (model P w) A (.call (.ref f) args) (CR (L2.CX P w) outer P w H s Q E) s := by
  have hn : H s.heap.objs.size = none := e0.hok.fresh (Nat.le_refl _)
  have hz2 : rest.length ≤ sizeLine := by rw [← rx.length]; exact hz
  have hlu : us.length = ps.length := by rw [← r.length]; exact hl
  have new : ObjOk P w (upd H s.heap.objs.size (.tup xs)) (s.heap.push ({ cls := .type "tuple", data := .seq rest.toArray } : Obj)) s.heap.objs.size (.tup xs) := ⟨hz, rest, rx, ⟨_, Heap.get?_push_size _ rfl, rfl, _, rfl⟩⟩
  have un := StX.un_laid (fs := frs outer) (s := s) (o := ({ cls := .type "tuple", data := .seq rest.toArray } : Obj)) (u := .tup xs) hn
  refine F.runs A outer s { s with heap := s.heap.push ({ cls := .type "tuple", data := .seq rest.toArray } : Obj) } H (upd H s.heap.objs.size (.tup xs)) args (us ++ [Value.ref s.heap.objs.size]) (vs ++ [V.ref s.heap.objs.size]) Q E hr hq e0 (StX.env0_laid e0 new) un rfl
    (fun e s' => StX.cxUp outer s H _ _ E e s' un (fun b o q => Heap.get?_push_of_some _ q) rfl) (fun M A' Q' Ex q => ?_) (r.append (.cons rfl .nil)) (h _ hn)
  rw [hb]
  refine wpAny_bind (wpAny_newTuple (wpAny_pure ?_) hz2)
  rw [List.zip_append hlu.symm] at q
  exact q
end L2.My
namespace L2.My
open PySem PySem.Spec PyProof.Rows
section
variable {M : Model} {A : Around} {E : Value → Shared → Prop} {s : Shared}
theorem ev_starkw {f : Value} {x : Sem Value} {pos : Pos} {kw : List (Option Str × Sem Value)} {Q : Args → Shared → Prop} (hall : kw.all (·.1.isSome) = true)
    (h : wpAny M A x (fun v s₁ => wpAny M A (evalAll (kw.map (·.2))) (fun ks s₂ => W.StarOf M A E v (fun vs s₃ => Q ⟨vs, (kw.filterMap (·.1)).zip ks⟩ s₃) s₂) E s₁) E s) :
    wpAny M A (evalArgs f true [(true, (do let v ← x; standAt pos; pure v))] kw) Q E s := by
  unfold evalArgs
  refine wpAny_bind (wpAny_bind (wpAny_mono h (fun v s₁ h₁ => wpAny_bind (wpAny_standAt (wpAny_pure (wpAny_bind (wpAny_pure ?_))))) fun _ _ x => x))
  refine wpAny_holding ?_
  dsimp only
  rw [if_pos hall]
  refine wpAny_bind (wpAny_mono h₁ (fun ks s₂ h₂ => ?_) fun _ _ x => x)
  unfold W.StarOf at h₂
  refine wpAny_bind (wpAny_bind (wpAny_mono h₂ (fun b s₃ h₃ => ?_) fun _ _ x => x))
  obtain ⟨rfl, h₃⟩ := h₃
  rw [if_neg (by decide)]
  exact wpAny_holding (wpAny_mono h₃ (fun vs s₄ h₄ => wpAny_pure h₄) fun _ _ x => x)
theorem call_st {f : Value} {first : List Value} {pos : Pos} {Q : Value → Shared → Prop} {P : Heap → Prop} {args : List (Bool × Sem Value)} {kw : List (Option Str × Sem Value)} (hst : args.any (·.1) = true)
    (hk : ∀ h, P h → ∃ k, (k = Keeper.frame ∨ k = Keeper.machine ∨ k = Keeper.boundFrame) ∧ W.Looks M h (keeperOf f) k)
    (h : wpAny M A (evalArgs f true args kw) (fun a s₁ => P s₁.heap ∧ wpAny M A (call f (first ++ a.pos) a.kw) Q E s₁) E s) : wpAny M A (callWith pos f first args kw) Q E s := by
  unfold callWith
  refine wpAny_bind (wpAny_holding (wpAny_mono h (fun a s₁ h₁ => wpAny_bind (wpAny_standAt ?_)) fun _ _ x => x))
  obtain ⟨k, hk', L⟩ := hk _ h₁.1
  simp only [hst, Bool.true_or]
  refine wpAny_bind (L.here ?_)
  have tail : ∀ {t : Sem Value}, wpAny M A t Q E s₁ → wpAny M A (t >>= fun r => holding [r] point >>= fun _ => pure r) Q E s₁ :=
    fun ht => wpAny_bind (wpAny_mono ht (fun r s₂ hr => wpAny_bind (wpAny_holding (wpAny_point (wpAny_pure hr)))) fun _ _ x => x)
  have marked (mk : Value) : wpAny M A (callMarked mk f (first ++ a.pos) a.kw) Q E s₁ := by unfold callMarked; exact Calls.wpAny_keep h₁.2
  rcases hk' with rfl | rfl | rfl <;> dsimp only <;> first | exact tail (marked _) | exact tail (wpAny_operating h₁.2)
end
/-- C( *xs, k = z, ..): the instance and its dict, the tuple, then __init__ -/
def mkS (C : Addr) (sp : Sp) (E : XK) (xs zs : List V) (H : Hp) (Q : VK) : Prop := ∀ x dx p, H x = none → H dx = none → dx ≠ x → upd (upd H dx (.own x)) x (.ins C dx []) p = none →
  sp ((V.ref x :: zs) ++ [.ref p]) (upd (upd (upd H dx (.own x)) x (.ins C dx [])) p (.tup xs)) (fun v H2 => v = .non ∧ Q (.ref x) H2) E
/-- C(e, .., k = v, ..) or C( *e, k = v, ..), C a local of this def -/
def tMkS (K : W.Frag) (C : Addr) (sp : Sp) (E : XK) (n : Nat) (tf te : TE) (tk : TA) : TE := fun σ H Q => tf σ H fun y H0 => y = .ref C ∧ te σ H0 fun x H1 => tk σ H1 fun zs H2 => zs.length = n ∧
  ∃ a xs, x = .ref a ∧ (SqT K H2 a xs ∨ SqL K H2 a xs) ∧ xs.length ≤ sizeLine ∧ mkS C sp E xs zs H2 Q
/-- how a def with a star parameter binds: the first, what is left over, keywords ks -/
def BindsS (fd : FuncData) (ks : List Str) (pv : Str) : Prop := ∀ (self : Value) (rest ws : List Value), ws.length = ks.length →
  bindArgs fd ⟨self :: rest, ks.zip ws⟩ = (newTuple rest >>= fun t => pure ((("self" : Str) :: ks).zip (self :: ws) ++ [(pv, t)]))
structure MkS (P : Program) (w : World) (K : W.Frag) (mg : Str → Option Value) (base : Heap) (k : Nat) (C : Addr) (ks : List Str) (pv : Str) (sp : Sp) : Prop where
  ex : ∃ (f : Addr) (fd : FuncData), Mk K C f ∧ FnB P w K mg base (L2.CX P w) k f fd ((("self" : Str) :: ks) ++ [pv]) sp ∧ BindsS fd ks pv
section
variable {X : Cx} {k : Nat} {f C : Addr} {fd : FuncData} {ks : List Str} {pv : Str} {sp : Sp} {E : XK}
theorem run_mkS {pins : List (Addr × Obj)} {σ : St} {H : Hp} {s : Shared} {Q : VK} {us ws : List Value} {xs zs : List V} (M : Mk X.K C f) (F : FnB X.prog X.w X.K X.mg X.base (L2.CX X.prog X.w) k f fd ((("self" : Str) :: ks) ++ [pv]) sp) (hr : Room (k + 1) X.A) (hq : Quiet X.A)
    (hb : BindsS fd ks pv) (hx : Passes (L2.CX X.prog X.w) X E) (I : Inv X pins σ H s) (r : Vals xs us) (rz : Vals zs ws) (l2 : zs.length = ks.length) (hz : xs.length ≤ sizeLine) (h : mkS C sp E xs zs H Q) :
    wpAny (model X.prog X.w) X.A (call (.ref C) us (ks.zip ws)) (EP X pins σ Q) X.xe s := by
  have h' := fun p => h (s.heap.objs.size + 1) s.heap.objs.size p (I.hok.fresh (Nat.le_succ _)) (I.hok.fresh (Nat.le_refl _)) (Nat.ne_of_lt (Nat.lt_succ_self _))
  have I2 := Inv.made (C := C) I
  have hq2 : Quiet (X.A.under (.builtin "type.__call__" ⟨.ref C :: us, ks.zip ws⟩)) := by
    unfold Quiet Around.under
    rw [show X.A.guards = some [] from hq]
    rfl
  refine wpAny_call (make_map (f := f) I.kIn M.makes M.init (beq_iff_eq.mp M.fn) (codeAny_mono (F.star (hr.make C us (ks.zip ws)) hq2 (I2.env0.make C us (ks.zip ws)) (hb (Value.ref (s.heap.objs.size + 1)) us ws (rz.length.symm.trans l2)) (Paired.cons (a := V.ref (s.heap.objs.size + 1)) rfl rz) r (by rw [List.length_cons, List.length_cons, l2]) hz h') ?_))
  intro res s' z
  match res, z with
  | .error er, z => exact hx pins σ _ _ er s' I2 z
  | .ok (.ret u), z =>
    obtain ⟨v, H', I3, rv, rfl, q⟩ := I2.after z
    exact ⟨rv, .ref (s.heap.objs.size + 1), H', I3, rfl, q⟩
variable {n : Nat} {x : Str} {e : Expr} {kws : List Keyword} {tf te : TE} {tk : TA} {p q pos : Pos}
theorem pe_mkS (c : MkS X.prog X.w X.K X.mg X.base k C ks pv sp) (kp : W.keepIn X.K (.ref C) = true) (hr : Room n X.A) (hkn : k + 1 ≤ n) (hq : Quiet X.A) (hx : Passes (L2.CX X.prog X.w) X E) (hf : PE X (.Name x p) tf) (he : PE X e te) (hkw : PK X kws tk)
    (hall : (backToKw pos (keywordEach kws X.env)).all (·.1.isSome) = true := by rfl) (hks : (backToKw pos (keywordEach kws X.env)).filterMap (·.1) = ks := by rfl)
    (hst : starEach [.Starred e q] X.env = [(true, eval e X.env)] := by rfl) :
    PE X (.Call (.Name x p) [.Starred e q] kws pos) (tMkS X.K C sp E ks.length tf te tk) := by
  obtain ⟨f, fd, M, F, hb⟩ := c.ex
  constructor
  intro pins s σ H Q I h
  refine wpAny_Call_Name_kw (thn (hf.run pins s σ H _ I h) ?_)
  rintro u0 s0 ⟨y, H0, I0, r0, rfl, h⟩
  obtain rfl : u0 = Value.ref C := r0
  rw [hst]
  refine call_st (P := fun h => X.K.In h) rfl (W.keeps_K kp) (ev_starkw hall (thn (he.run pins s0 σ H0 _ I0 h) ?_))
  rintro u1 s1 ⟨v1, H1, I1, r1, h⟩
  refine thn (hkw.run pos pins s1 σ H1 _ I1 h) ?_
  rintro ws s2 ⟨zs, H2, I2, rz, l2, a, xs, rfl, hsq, hz, h⟩
  obtain rfl : u1 = Value.ref a := r1
  refine StX.star_any I2 hsq fun us s3 I3 r => ⟨I3.kIn, ?_⟩
  rw [hks, List.nil_append]
  exact run_mkS M F (hr.mono hkn) hq hb hx I3 r rz l2 hz h
end
end L2.My
namespace L2.DL
open L2 L2.My NdefX PySem PySem.Spec PyProof.Rows
/-- what a class must have that o.m(..) runs as told -/
structure MetC (P : Program) (w : World) (K : W.Frag) (mg : Str → Option Value) (base : Heap) (k : Nat) (C : Addr) (m : Str) (sp : Sp) : Prop where
  cl : Cls K C
  ex : ∃ (f : Addr) (fd : FuncData) (ps : List Str), Meth K C m f ∧ FnG P w K mg base (L2.CX P w) k f fd ps sp ∧ Binds K fd ps []
def tMetV (C : Addr) (m : Str) (sp : Sp) (E : XK) (ta : TE) (t : TA) : TE := fun σ H Q => ta σ H fun x H1 => ∃ a dx fs, x = .ref a ∧ H1 a = some (.ins C dx fs) ∧ fs.lookup m = none ∧ t σ H1 fun vs H2 => sp (x :: vs) H2 Q E
/-- a classmethod reached through its class: n values behind the class, ks the keywords, pm the parameters' order -/
structure ClmC (P : Program) (w : World) (K : W.Frag) (mg : Str → Option Value) (base : Heap) (k : Nat) (C : Addr) (m : Str) (n : Nat) (ks : List Str) (pm : List Nat) (sp : Sp) : Prop where
  ex : ∃ (mc : Value) (p g : Addr) (fd : FuncData) (ps : List Str), ClX.CRead K C mc ∧ ClX.CMet K C mc m p g ∧ FnG P w K mg base (L2.CX P w) k g fd ps sp ∧
    (∀ (s : Shared) (us ws : List Value), K.In s.heap → us.length = n → ws.length = ks.length → BindsTo s fd ⟨.ref C :: us, ks.zip ws⟩ (ps.zip (.ref C :: prm pm (us ++ ws))))
def tApp (n m : Nat) (t tk : TA) : TA := fun σ H Q => t σ H fun vs H1 => tk σ H1 fun zs H2 => vs.length = n ∧ zs.length = m ∧ Q (vs ++ zs) H2
def tClm (C : Addr) (sp : Sp) (E : XK) (ta : TE) (t : TA) : TE := fun σ H Q => ta σ H fun x H1 => x = .ref C ∧ t σ H1 fun vs H2 => sp (.ref C :: vs) H2 Q E
section
variable {X : Cx} {k n j : Nat} {C : Addr} {m : Str} {ks : List Str} {pm : List Nat} {sp : Sp} {E : XK} {o e : Expr} {es : List Expr} {kws : List Keyword} {ta : TE} {t tk : TA} {pos apos : Pos} {pl : Sem Bool}
theorem pe_met (c : MetC X.prog X.w X.K X.mg X.base j C m sp) (hr : Room k X.A) (hjk : j ≤ k) (hq : My.Quiet X.A) (hx : Passes (L2.CX X.prog X.w) X E) (he : PE X o ta) (ha : PA X (e :: es) t)
    (hst : starEach (e :: es) X.env = (false, eval e X.env) :: starEach es X.env := by rfl) (hpl : (backTo pos (starEach es X.env)).any (·.1) = false := by rfl)
    (ht : eval (.Call (.Attribute o m apos) (e :: es) [] pos) X.env = (do
      let ov ← eval o X.env
      standAt apos.atName
      let (f, first) ← holding [ov] (getMethod ov m pl)
      callWith pos f first (backTo pos (starEach (e :: es) X.env)) (backToKw pos (keywordEach [] X.env))) := by rfl) :
    PE X (.Call (.Attribute o m apos) (e :: es) [] pos) (tMetV C m sp E ta t) := by
  obtain ⟨f, fd, ps, hm, F, hb⟩ := c.ex
  constructor
  intro pins s σ H Q I h
  refine W.methodCall_KW (pl := pl) (thn (he.run pins s σ H _ I h) ?_) ht
  rintro u s1 ⟨x, H1, I1, rx, a, dx, fs, rfl, ea, l, h⟩
  obtain rfl : u = Value.ref a := rx
  refine getmeth_ok I1 ea c.cl hm l ?_
  refine W.callWith_K (first := [.ref a]) (h₀ := X.base) I.ok.mod.kin hm.kp (thn (ha.run pos pins s1 σ H1 _ I1 h) ?_) hst hpl
  rintro us s2 ⟨vs, H2, I2, r, h⟩
  exact ⟨I2.kIn, goes (F.up hjk) hr hq hb hx I2 (.cons (a := V.ref a) rfl r) h⟩
theorem pe_clm (c : ClmC X.prog X.w X.K X.mg X.base j C m (es.length + 1) ks pm sp) (hr : Room k X.A) (hjk : j ≤ k) (hq : My.Quiet X.A) (hx : Passes (L2.CX X.prog X.w) X E) (he : PE X o ta) (ha : PA X (e :: es) t) (hkw : PK X kws tk)
    (hall : (backToKw pos (keywordEach kws X.env)).all (·.1.isSome) = true := by rfl) (hks : (backToKw pos (keywordEach kws X.env)).filterMap (·.1) = ks := by rfl)
    (hst : starEach (e :: es) X.env = (false, eval e X.env) :: starEach es X.env := by rfl) (hpl : ((backTo pos (starEach (e :: es) X.env)).any (·.1) || (backToKw pos (keywordEach kws X.env)).any (·.1.isNone)) = false := by rfl)
    (ht : eval (.Call (.Attribute o m apos) (e :: es) kws pos) X.env = (do
      let ov ← eval o X.env
      standAt apos.atName
      let (f, first) ← holding [ov] (getMethod ov m pl)
      callWith pos f first (backTo pos (starEach (e :: es) X.env)) (backToKw pos (keywordEach kws X.env))) := by rfl) :
    PE X (.Call (.Attribute o m apos) (e :: es) kws pos) (tClm C sp E ta (tPrm (es.length + 1 + ks.length) pm (tApp (es.length + 1) ks.length t tk))) := by
  obtain ⟨mc, p, g, fd, ps, r0, cm, F, hb⟩ := c.ex
  constructor
  intro pins s σ H Q I h
  refine W.methodCall_KW (pl := pl) (thn (he.run pins s σ H _ I h) ?_) ht
  rintro u s1 ⟨x, H1, I1, rx, rfl, h⟩
  obtain rfl : u = Value.ref C := rx
  refine ClX.getmethcm_ok I1 r0 cm fun s2 I2 => ?_
  refine W.callWith_of (P := fun h => W.MethP X.K s1.heap.objs.size g (.ref C) h) hpl (W.keeps_M cm.fi) (evalArgs_kw2 hall (thn (ha.run pos _ s2 σ H1 _ I2 h) ?_) hst)
  rintro us s3 ⟨vs, H2, I3, rv, h⟩
  refine thn (hkw.run pos _ s3 σ H2 _ I3 h) ?_
  rintro ws s4 ⟨zs, H3, I4, rz, l1, l2, hl, h⟩
  refine ⟨⟨ClX.pin_at I4, I4.kIn⟩, ?_⟩
  rw [hks, List.nil_append]
  have z : wpAny (model X.prog X.w) X.A (call (.ref s1.heap.objs.size) us (ks.zip ws)) (EP X ((s1.heap.objs.size, W.methodObj (.ref g) (.ref C)) :: pins) σ Q) X.xe s4 := by
    refine wpAny_call (W.method_call (ClX.pin_at I4) ?_)
    refine codeAny_mono ((F.up hjk).runs X.A X.stack s4 H3 ⟨.ref C :: us, ks.zip ws⟩ _ (V.ref C :: prm pm (vs ++ zs)) Q E hr hq I4.env0 (hb s4 us ws I4.kIn (rv.length.symm.trans l1) (rz.length.symm.trans l2)) (.cons rfl (vals_prm (rv.append rz) pm)) h) ?_
    intro res s' z
    match res, z with
    | .error er, z => exact hx _ σ H3 s4 er s' I4 z
    | .ok (.ret u), z => exact I4.after z
  exact thn z fun _ _ y => ClX.unpinE y
end
end L2.DL
namespace L2.DL
open L2 L2.My NdefX PySem PySem.Spec PyProof.Rows
open PM
theorem RFs.look0 {K : W.Frag} {G : Hp} {f : Str} : ∀ {vs : List (Str × V)} {ds : List (Str × D)}, RFs K G vs ds → ds.lookup f = none → vs.lookup f = none
  | _, _, .nil, _ => rfl
  | _, _, .cons (k := k) h t, e => by
    rw [List.lookup_cons] at e ⊢
    split at e
    · cases e
    · exact RFs.look0 t e
/-- an instance of the class at C, which has no attribute m of its own -/
def isOb (C : Addr) (m : Str) : D → Bool
  | .obj C' fs => C' == C && (fs.lookup m).isNone
  | _ => false
theorem isOb_ex {C : Addr} {m : Str} {d : D} (h : isOb C m d = true) : ∃ fs, d = .obj C fs ∧ fs.lookup m = none := by
  unfold isOb at h
  split at h
  · simp only [Bool.and_eq_true, beq_iff_eq, Option.isNone_iff_eq_none] at h
    obtain ⟨rfl, h⟩ := h
    exact ⟨_, rfl, h⟩
  · cases h
section
variable {S : Type} {Γ : Fr S} {K : W.Frag} {E : XK} {ta tb tf : TE} {A B : TX S} {os os2 : List Mo} {tl tk : TA} {L L2 : TL S}
def xMet (C : Addr) (m : Str) (F : Fn) (A : TX S) (L : TL S) : TX S := fun ρ s Q X => A ρ s (fun d s1 => isOb C m d = true ∧ L ρ s1 (fun ds s2 => opt (F (d :: ds)) fun r => match r with
  | .ok y => Q y s2
  | .error x => X x s2) X) X
theorem ln_met {C : Addr} {m : Str} {F : Fn} (ho : os.all (fun o => match o with | .f => false | _ => true) = true) (ha : Ln Γ K E .b ta A) (h : LnA Γ K E os tl L) : Ln Γ K E .s (tMetV C m (spF K (.b :: os) F) E ta tl) (xMet C m F A L) := by
  have hno : ∀ o ∈ (Mo.b :: os), o ≠ Mo.f := fun o z e => by
    rcases List.mem_cons.mp z with z | z
    · rw [z] at e; cases e
    · have := List.all_eq_true.mp ho o z
      rw [e] at this
      cases this
  intro M α σ H ρ s ok st QD QX Q q k kx
  refine ha ok st _ QX _ q (fun v H1 d s1 p1 st1 rv z => ?_) kx
  obtain ⟨hd, z⟩ := z
  obtain ⟨fs, rfl, hl⟩ := isOb_ex hd
  obtain ⟨a, dx, vs, rfl, h1, rf⟩ := RBo.obj rv
  refine ⟨a, dx, vs, rfl, h1, RFs.look0 rf hl, ?_⟩
  refine h (ok.step p1) st1 _ QX _ z (fun us H2 ds s2 p2 st2 ra z => ?_) (fun c dx H' x s' p st' r z => kx c dx H' x s' (p1.trans p) st' r z)
  obtain ⟨y, e, z⟩ := opt_ex z
  have p := p1.trans p2
  have ok2 := ok.step p
  have one : RB K Γ.M (mask M α ρ) H2 (.ref a) (.obj C fs) := RBo.step ok.msub p2.keep rv
  refine ⟨S, Γ, mask M α ρ, s2, .obj C fs :: ds, ok.msub, ok2.mtrk, ⟨one, ARel.from (fun o z => hno o (List.mem_cons_of_mem _ z)) ra⟩, st2, ?_⟩
  rw [e]
  cases y with
  | ok d => exact fun v H' p3 st' r => k v H' d s2 (p.trans p3) st' r z
  | error x => exact fun c dx H' p3 st' r => kx c dx H' x s2 (p.trans p3) st' r z
def xApp (L L2 : TL S) : TL S := fun ρ s Q X => L ρ s (fun ds s1 => L2 ρ s1 (fun es s2 => Q (ds ++ es) s2) X) X
theorem ARel.app {g m : Msk} {H0 H : Hp} : ∀ {os os2 : List Mo} {vs ws : List V} {ds es : List D}, ARel K g os m H0 H vs ds → ARel K g os2 m H0 H ws es → ARel K g (os ++ os2) m H0 H (vs ++ ws) (ds ++ es)
  | [], _, [], _, [], _, _, h => h
  | _ :: _, _, _ :: _, _, _ :: _, _, ⟨h1, h2⟩, h => ⟨h1, ARel.app h2 h⟩
theorem ln_app (ho : (os ++ os2).all (fun o => match o with | .f => false | _ => true) = true) (h : LnA Γ K E os tl L) (h2 : LnA Γ K E os2 tk L2) : LnA Γ K E (os ++ os2) (tApp os.length os2.length tl tk) (xApp L L2) := by
  have hno : ∀ o ∈ os ++ os2, o ≠ Mo.f := fun o z e => by
    have := List.all_eq_true.mp ho o z
    rw [e] at this
    cases this
  intro M α σ H ρ s ok st QD QX Q q k kx
  refine h ok st _ QX _ q (fun vs H1 ds s1 p1 st1 r1 z => ?_) kx
  refine h2 (ok.step p1) st1 _ QX _ z (fun ws H2 es s2 p2 st2 r2 z => ?_) (fun c dx H' x s' p st' r z => kx c dx H' x s' (p1.trans p) st' r z)
  refine ⟨(ARel.len r1).1, (ARel.len r2).1, k _ H2 _ s2 (p1.trans p2) st2 (ARel.app (ARel.step ok.msub p2.keep (fun o z => hno o (List.mem_append_left _ z)) r1) (ARel.from (fun o z => hno o (List.mem_append_right _ z)) r2)) z⟩
def xClm (C : Addr) (F : Fn) (A : TX S) (L : TL S) : TX S := fun ρ s Q X => A ρ s (fun d s1 => d = .v (.ref C) ∧ L ρ s1 (fun ds s2 => opt (F (.v (.ref C) :: ds)) fun r => match r with
  | .ok y => Q y s2
  | .error x => X x s2) X) X
theorem ln_clm {C : Addr} {F : Fn} {mo0 : Mo} (h0 : mo0 ≠ .f) (ho : os.all (fun o => match o with | .f => false | _ => true) = true) (ha : Ln Γ K E .b ta A) (h : LnA Γ K E os tl L) : Ln Γ K E .s (tClm C (spF K (mo0 :: os) F) E ta tl) (xClm C F A L) := by
  have hno : ∀ o ∈ os, o ≠ Mo.f := fun o z e => by
    have := List.all_eq_true.mp ho o z
    rw [e] at this
    cases this
  intro M α σ H ρ s ok st QD QX Q q k kx
  refine ha ok st _ QX _ q (fun v H1 d s1 p1 st1 rv z => ?_) kx
  obtain ⟨rfl, z⟩ := z
  refine ⟨RBo.sc rv, ?_⟩
  refine h (ok.step p1) st1 _ QX _ z (fun us H2 ds s2 p2 st2 ra z => ?_) (fun c dx H' x s' p st' r z => kx c dx H' x s' (p1.trans p) st' r z)
  obtain ⟨y, e, z⟩ := opt_ex z
  have p := p1.trans p2
  have ok2 := ok.step p
  refine ⟨S, Γ, mask M α ρ, s2, .v (.ref C) :: ds, ok.msub, ok2.mtrk, ⟨?_, ARel.from hno ra⟩, st2, ?_⟩
  · cases mo0 with
    | b => exact .inl (.v _)
    | s => exact .v _
    | f => exact absurd rfl h0
  · rw [e]
    cases y with
    | ok d => exact fun v H' p3 st' r => k v H' d s2 (p.trans p3) st' r z
    | error x => exact fun c dx H' p3 st' r => kx c dx H' x s2 (p.trans p3) st' r z
def xMkS (C : Addr) (F : IniF) (A B : TX S) (L : TL S) : TX S := fun ρ s Q X => A ρ s (fun c s0 => c = .v (.ref C) ∧ B ρ s0 (fun d s1 => L ρ s1 (fun zs s2 => opt (asSeq d) fun xs => xs.length ≤ sizeLine ∧ opt (F C (zs ++ [.tup xs])) fun r => match r with
  | .ok fs => Q (.obj C fs) s2
  | .error x => X x s2) X) X) X
theorem RBo.seq {g o m : Msk} {H : Hp} {v : V} {d : D} {xs : List D} (h : RBo K g o m H v d) (e : asSeq d = some xs) : ∃ a vs, v = .ref a ∧ (SqT K H a vs ∨ SqL K H a vs) ∧ RAll K (cut m H) vs xs := by
  unfold asSeq at e
  split at e
  · cases e
    obtain ⟨a, vs, rfl, h1, h2⟩ := RBo.lst h
    exact ⟨a, vs, rfl, .inr (.inl (.inl h1)), h2⟩
  · cases e
    obtain ⟨a, vs, rfl, h1, h2⟩ := RBo.tup h
    exact ⟨a, vs, rfl, .inl h1, h2⟩
  · cases e
theorem ln_mkS {CC : Addr → Prop} {C : Addr} {F : IniF} {n : Nat} (hn : os.length = n) (hs : os.all (fun o => match o with | .s => true | _ => false) = true) (hC : CC C) (hf : Ln Γ K E .b tf A) (hb : Ln Γ K E .b tb B) (h : LnA Γ K E os tk L) :
    Ln Γ K E .f (tMkS K C (spI K (os ++ [.s]) CC F) E n tf tb tk) (xMkS C F A B L) := by
  have hnS : ∀ o ∈ os, o = Mo.s := fun o z => by
    have := List.all_eq_true.mp hs o z
    cases o <;> first | rfl | cases this
  intro M α σ H ρ s ok st QD QX Q q k kx
  refine hf ok st _ QX _ q (fun v0 H0 c s0 p0 st0 r0 z => ?_) kx
  obtain ⟨rfl, z⟩ := z
  refine ⟨RBo.sc r0, ?_⟩
  refine hb (ok.step p0) st0 _ QX _ z (fun v1 H1 d s1 p1 st1 r1 z => ?_) (fun c dx H' x s' p st' r z => kx c dx H' x s' (p0.trans p) st' r z)
  refine h (ok.step (p0.trans p1)) st1 _ QX _ z (fun ws H2 zs s2 p2 st2 r2 z => ?_) (fun c dx H' x s' p st' r z => kx c dx H' x s' ((p0.trans p1).trans p) st' r z)
  obtain ⟨xs, ex, hz, z⟩ := opt_ex z
  obtain ⟨y, e, z⟩ := opt_ex z
  have rd : RB K Γ.M (mask M α ρ) H2 v1 d := RBo.step ok.msub p2.keep r1
  obtain ⟨a, vs, rfl, hsq, rxs⟩ := RBo.seq rd ex
  have rr := ARel.strict hnS r2
  have pp := (p0.trans p1).trans p2
  have ok1 := ok.step pp
  refine ⟨by rw [(ARel.len r2).1, hn], a, vs, rfl, hsq, by rw [RAll.len rxs]; exact hz, fun x dx t nx nd ne nt => ?_⟩
  have ntx : t ≠ x := fun q => by rw [q, upd_same] at nt; cases nt
  have ntd : t ≠ dx := fun q => by rw [q, upd_ne ne, upd_same] at nt; cases nt
  have nt2 : H2 t = none := by rwa [upd_ne ntx, upd_ne ntd] at nt
  have step : ∀ a o, H2 a = some o → a ≠ x ∧ upd (upd (upd H2 dx (.own x)) x (.ins C dx [])) t (.tup vs) a = some o := fun a o q => by
    have h1 := ne_of_none q nx
    have h2 := ne_of_none q nd
    have h3 := ne_of_none q nt2
    exact ⟨h1, by rw [upd_ne h3, upd_ne h1, upd_ne h2]; exact q⟩
  have trk : ∀ a, H2 a ≠ none → upd (upd (upd H2 dx (.own x)) x (.ins C dx [])) t (.tup vs) a ≠ none := fun a q => by
    cases e : H2 a with
    | none => exact absurd e q
    | some o => rw [(step a o e).2]; exact fun z => by cases z
  have nm : ¬ mask M α ρ x := fun z => ok1.mtrk x z nx
  have nmt : ¬ mask M α ρ t := fun z => ok1.mtrk t z nt2
  have nH : H x = none := Classical.byContradiction fun q => pp.trk x q nx
  have sm : Same (cut (mask M α ρ) H2) (cut (mask M α ρ) (del (upd (upd (upd H2 dx (.own x)) x (.ins C dx [])) t (.tup vs)) x)) := cut_step fun a o _ q => by
    rw [del_ne (step a o q).1]
    exact (step a o q).2
  refine ⟨S, Γ, mask M α ρ, s2, x, C, dx, ws ++ [.ref t], zs ++ [.tup xs], rfl, ok.msub, fun a z => trk a (ok1.mtrk a z), nm, by rw [upd_ne ntx.symm, upd_same], ?_, Fr.same ok1.frt (fun a o q => (step a o q).2) st2, hC, ?_⟩
  · refine ARel.app (ARel.ofS (ARel.len r2).1.symm hnS (RAll.same sm rr)) ⟨?_, trivial⟩
    exact .tup (.inl (.inl (by rw [cut_out nmt, del_ne ntx, upd_same]))) (RAll.same sm rxs)
  · rw [e]
    cases y with
    | error x2 => exact fun c dx H' sx st' rx => kx c dx H' x2 s2 ⟨fun a o n e => sx.keep a o n (step a o (pp.keep a o n e)).1 (step a o (pp.keep a o n e)).2, fun a q => sx.trk a (trk a (pp.trk a q))⟩ st' rx z
    | ok fs => exact fun H' sx st' cx => ⟨rfl, k _ H' _ s2 ⟨fun a o n e => sx.keep a o n (step a o (pp.keep a o n e)).1 (step a o (pp.keep a o n e)).2, fun a q => sx.trk a (trk a (pp.trk a q))⟩ st' ⟨x, .obj C fs, rfl, rfl, nH, cx⟩ z⟩
end
section
variable {m : Type → Type} [PM m]
def metV (C : Addr) (x : Str) (g : List D → Om D) (a : m D) (l : List (m D)) : m D := bnd a fun d => if isOb C x d = true then bnd (seqV l) fun ds => lft (g (d :: ds)) else no
def clmV (C : Addr) (pm : List Nat) (g : List D → Om D) (a : m D) (l k : List (m D)) : m D := bnd a fun c => match c with
  | .v (.ref C') => if C' = C then bnd (seqV l) fun ds => bnd (seqV k) fun es => lft (g (.v (.ref C) :: prm pm (ds ++ es))) else no
  | _ => no
def mkSV (C : Addr) (g : Addr → List D → Om (List (Str × D))) (a b : m D) (l : List (m D)) : m D := bnd a fun c => match c with
  | .v (.ref C') => if C' = C then bnd b fun d => bnd (seqV l) fun zs => match asSeq d with
    | some xs => if xs.length ≤ sizeLine then bnd (lft (g C (zs ++ [.tup xs]))) fun fs => ok (.obj C fs) else no
    | none => no
    else no
  | _ => no
variable {S : Type} [WM m S] {A B : TX S} {L Lk : TL S} {ρ : Env} {a b : m D} {l k : List (m D)}
theorem rd_met {C : Addr} {x : Str} {g : List D → Om D} (h : RD A ρ a) (hl : RA L ρ l) : RD (xMet C x (foF g) A L) ρ (metV C x g a l) := ⟨fun s Q X w => rd_mono h (WM.wp_bnd w) (fun d s1 q => by
  split at q
  · rename_i z
    exact ⟨z, hl.go _ _ _ (WM.wp_mono (WM.wp_bnd q) (fun ds s2 q => wp_lft q) fun _ _ q => q)⟩
  · exact (WM.wp_no q).elim) fun _ _ q => q⟩
theorem rd_clm {C : Addr} {pm : List Nat} {g : List D → Om D} (h : RD A ρ a) (hl : RA L ρ l) (hk : RA Lk ρ k) : RD (xClm C (foF g) A (xPrm pm (xApp L Lk))) ρ (clmV C pm g a l k) := ⟨fun s Q X w => rd_mono h (WM.wp_bnd w) (fun d s1 q => by
  split at q
  · split at q
    · rename_i z
      subst z
      exact ⟨rfl, hl.go _ _ _ (WM.wp_mono (WM.wp_bnd q) (fun ds s2 q => hk.go _ _ _ (WM.wp_mono (WM.wp_bnd q) (fun es s3 q => wp_lft q) fun _ _ q => q)) fun _ _ q => q)⟩
    · exact (WM.wp_no q).elim
  · exact (WM.wp_no q).elim) fun _ _ q => q⟩
theorem rd_mkS {C : Addr} {g : Addr → List D → Om (List (Str × D))} (h : RD A ρ a) (hb : RD B ρ b) (hl : RA L ρ l) : RD (xMkS C (foI g) A B L) ρ (mkSV C g a b l) := ⟨fun s Q X w => rd_mono h (WM.wp_bnd w) (fun c s0 q => by
  split at q
  · split at q
    · rename_i z
      subst z
      refine ⟨rfl, rd_mono hb (WM.wp_bnd q) (fun d s1 q => hl.go _ _ _ (WM.wp_mono (WM.wp_bnd q) (fun zs s2 q => ?_) fun _ _ q => q)) fun _ _ q => q⟩
      split at q
      · rename_i xs ex
        rw [ex]
        split at q
        · rename_i hz
          obtain ⟨y, e, q⟩ := opt_ex (wp_lftG (WM.wp_bnd q))
          refine ⟨hz, ?_⟩
          unfold foI
          rw [e]
          cases y with
          | ok fs => exact (WM.wp_ok q :)
          | error x => exact q
        · exact (WM.wp_no q).elim
      · exact (WM.wp_no q).elim
    · exact (WM.wp_no q).elim
  · exact (WM.wp_no q).elim) fun _ _ q => q⟩
end
end L2.DL
namespace L2.DL
open L2 L2.My NdefX PySem PySem.Spec PyProof.Rows
open PM
section
variable {P : Program} {w : World} {K : W.Frag} {mg : Str → Option Value} {base : Heap} {xn qual self : Str} {st : Stmt} {f : Addr} {fd : FuncData} {N ps : List Str} {k : Nat} {os : List Mo} {CC : Addr → Prop} {g : Addr → List D → Om (List (Str × D))}
theorem fn_iniBV (Fd : Fun K xn qual st f fd) (Sc : FnScope N (self :: ps) (defScope st)) (hl : os.length = ps.length) (ho : os.all (fun o => match o with | .f => false | _ => true) = true)
    (hbody : ∀ (cdv : Value) (A : Around) (outer : List PySem.Env) (s : Shared) (H : Hp) (E : XK), Room k (A.deeper (envOfC qual (defScope st) s.heap.objs.size f cdv)) → Quiet (A.deeper (envOfC qual (defScope st) s.heap.objs.size f cdv)) →
      ∃ t, PSs (cxOf (L2.CX P w) P w K mg base N qual (defScope st) f cdv A outer s H E) (defBody st) t ∧
        ∀ (S : Type) (Γ : Fr S) (x : Addr), ∃ T : TP S, LnS (Γ.mk' x) K E t T ∧ ∀ (C : Addr), CC C → ∀ (ds : List D), DI T (iniE os N.length C ds) C (g C ds)) :
    FnB P w K mg base (L2.CX P w) (k + 1) f fd (self :: ps) (spI K os CC (foI g)) := by
  have hno : ∀ o ∈ os, o ≠ Mo.f := fun o z e => by
    have := List.all_eq_true.mp ho o z
    rw [e] at this
    cases this
  refine body_b Fd Sc (fun vs H Q E ⟨S, Γ, M, s, x, C, dx, us, ds, e, _, _, _, _, r, _⟩ => by rw [e, List.length_cons, List.length_cons, (ARel.len r).1, hl]) ?_
  rintro cdv A outer s H vs Q E hr hq ⟨S, Γ, M, s0, x, C, dx, us, ds, rfl, h1, h2, h3, hx, r, st0, hC, q⟩
  obtain ⟨t, ht, hT⟩ := hbody cdv A outer s H E hr hq
  obtain ⟨T, lt, main⟩ := hT S Γ x
  obtain ⟨y, e, q⟩ := opt_ex q
  have m := main C hC ds
  have main' : T (iniE os N.length C ds) s0 (postI C s0 y) := by
    unfold foI at e
    generalize hy : g C ds = z at e m
    cases m with
    | no => cases e
    | go h => exact h.go s0 _ (post_ini rfl e)
  obtain ⟨ok, own⟩ := ini_start (n := N.length) (tl := List.replicate (N.length - (us.length + 1)) none) hno h1 h2 h3 hx r (by rw [List.length_replicate]; omega)
  refine ⟨t, ht, lt ok st0 _ _ main' (fun σ' H' ρ' s' α' ok' st' p z => ?_) (fun _ _ _ _ _ _ _ _ z => z.elim) (fun _ _ _ _ _ _ _ _ z => z.elim) (fun v H' d s' p st' r' z => z.elim) (fun c dx H' x s' p st' r' z => ?_)⟩
  · obtain ⟨rfl, fs, rfl, ef⟩ := z
    exact q H' (stX_of own p) st' (ini_cell ok' ef)
  · obtain ⟨rfl, rfl⟩ := z
    exact q c dx H' (stX_of own p) st' r'
end
end L2.DL
namespace L2.DL
open L2 L2.My NdefX PySem PySem.Spec PyProof.Rows
open PM
def rIsiS (K : W.Frag) : List V → Hp → VK → Prop := fun xs H Q => ∃ (x : V) (tp : Addr) (cs : List V) (t : Value) (us : List Value) (b : Bool), xs = [x, .ref tp] ∧ SqT K H tp cs ∧ Paired ClsV cs us ∧ TyX K H x t ∧ W.kitAny K t us = some b ∧ Q (.bl b) H
section
variable {X : Cx}
theorem call_isiS : CallR X (.builtin "isinstance") (rIsiS X.K) := by
  intro pins s σ H xs us Q I r h
  obtain ⟨x, tp, cs, t, ws, b, rfl, hT, k, ty, e, q⟩ := h
  obtain ⟨u1, u2, rfl, r1, r2⟩ := vals2 r
  cases (show u2 = Value.ref tp from r2)
  obtain ⟨P, Z, p, hx⟩ := kit_of I r1 ty
  obtain ⟨its, rv, ⟨o, h1, h2, n, h3⟩, _⟩ := I.tuple hT
  have e3 := ClsV.all k rv
  subst e3
  obtain ⟨oc, od, dt, sl⟩ := o
  simp only at h2 h3
  subst h2 h3
  exact W.kia_tup Z I.kIn p h1 e hx fun tk => ⟨.bl b, H, I.tok tk, rfl, q⟩
end
def clsVs : List D → Option (List Value)
  | [] => some []
  | d :: r => (clsV d).bind fun u => (clsVs r).map (u :: ·)
open Classical in
noncomputable def tyW (K : W.Frag) : D → Option Value
  | .obj C _ => if ClsI K C then some (.ref C) else none
  | .exc _ _ => none
  | d => (tyD d).map .type
noncomputable def isiT (K : W.Frag) (d c : D) : Option D := match c with
  | .tup cs => (tyW K d).bind fun t => (clsVs cs).bind fun us => (W.kitAny K t us).map dB
  | _ => none
theorem clsVs_of {K : W.Frag} {G : Hp} : ∀ {cs : List D} {vs : List V} {us : List Value}, RAll K G vs cs → clsVs cs = some us → Paired ClsV vs us
  | [], _, _, .nil, e => by cases e; exact .nil
  | d :: cs, _, _, .cons (v := v) r t, e => by
    unfold clsVs at e
    obtain ⟨u, e1, e⟩ := Option.bind_eq_some_iff.mp e
    obtain ⟨us, e2, rfl⟩ := Option.map_eq_some_iff.mp e
    refine .cons ?_ (clsVs_of t e2)
    unfold clsV at e1
    split at e1
    · cases e1; cases r; exact .ty _
    · cases e1; cases r; exact .own _
    · cases e1
theorem p2_isiT {K : W.Frag} (G : ExA K) : P2 K .s (fun v u => rIsiS K [v, u]) (isiT K) := by
  intro g m H v u d c e Q hm r1 r2 he k
  unfold isiT at he
  split at he
  · rename_i cs
    simp only [Option.bind_eq_some_iff, Option.map_eq_some_iff] at he
    obtain ⟨t, et, us, ec, b, eb, rfl⟩ := he
    obtain ⟨a, vs, rfl, hT, rr⟩ := RBo.tup r2
    refine ⟨v, a, vs, t, us, b, rfl, hT, clsVs_of rr ec, ?_, eb, k _ H (Same.refl _) (.v _)⟩
    unfold tyW at et
    split at et
    · rename_i C fs
      split at et
      · rename_i hC
        cases et
        obtain ⟨a, dx, vs, rfl, h1, _⟩ := RBo.obj r1
        exact .base (.ins h1 hC.cl hC.ci G.gt G.tk hC.ob)
      · cases et
    · cases et
    · rw [Option.map_eq_some_iff] at et
      obtain ⟨a, ea, rfl⟩ := et
      exact rb_ty r1 ea
  · cases he
end L2.DL
namespace L2.DL
open L2 L2.My NdefX PySem PySem.Spec PyProof.Rows
open PM
abbrev oSetK0 (P : Program) (w : World) (D : Addr) : HO := SetK P w D (fun _ => false) 0
theorem setK_fresh {P : Program} {w : World} {h : Heap} : (h.push (newSetO w)).SetOf (mixKind P w) h.objs.size (fun _ => false) 0 :=
  ⟨_, #[], 0, _, Heap.get?_push_size _ rfl, ⟨rfl, rfl, rfl⟩, rfl, (fun e he => by simp at he), (fun k => by simp), (by decide), (by rfl), rfl⟩
def rLenSK (P : Program) (w : World) : List V → Hp → VK → Prop := fun xs H Q => ∃ (a : Addr) (S : Key → Bool) (n : Nat), xs = [.ref a] ∧ H a = some (SetK P w a S n) ∧ Q (.int n) H
section
variable {X : Cx}
theorem cr_lenSK : CallR X (.builtin "len") (rLenSK X.prog X.w) := by
  intro pins s σ H xs us Q I r h
  obtain ⟨a, S, n, rfl, ha, q⟩ := h
  rw [Vals.ref1 r]
  obtain ⟨o, es, ep, t, ho, hex, hd, _, _, hsz, hf, hn⟩ := setK_get I ha
  refine call_len_set ho hex hd hf (by have : scanBound < 2 ^ 63 := by decide
                                       omega) ⟨.int n, H, I.tok _, ⟨_, by rw [hn]⟩, q⟩
theorem pe_setK {elt tg iter : Expr} {ifs : List Expr} {scope : Scope} {pos : Pos} {own : List (Str × Nat)} {wi : TI} {g : TG} {tt : TT} {te : TE} (hc : X.calm = true) (hN : X.N.Nodup) (hi : PI X tg iter wi) (ok : BlkOk X.N X.env.scope scope own)
    (hg : ∀ (s : Shared) (H : Hp) (C : Addr) (cl : List (Str × Addr)) (fp : List Addr), PG (X.blk s H scope (compEnvC scope cl C X.env) fp) tg g) (ht : ∀ (s : Shared) (H : Hp) (C : Addr) (cl : List (Str × Addr)) (fp : List Addr), PTs (X.blk s H scope (compEnvC scope cl C X.env) fp) ifs tt)
    (he : ∀ (s : Shared) (H : Hp) (C : Addr) (cl : List (Str × Addr)) (fp : List Addr), PE (X.blk s H scope (compEnvC scope cl C X.env) fp) elt te)
    (hs : ∀ x, foldedSetIterable iter X.env x = pure x := by intro _; rfl) :
    PE X (.SetComp elt [⟨tg, iter, ifs, 0⟩] scope pos) (tCo (oSetK0 X.prog X.w) wi g tt (taAdd (rSAddK X.prog X.w) te) (own.map (·.2))) :=
  pe_co (vs1 := []) (sort_set1 (fun _ _ => setK_new setK_fresh) hs) hc hN hi ok (fun _ z => nomatch z) hg ht fun s H C cl fp D => pac_add (Y := X.blk s H scope (compEnvC scope cl C X.env) fp) (fun _ _ z => z) mt_saddK (he s H C cl fp)
end
def hasK (acc : List Key) (k : Key) : Bool := acc.any fun j => decide (j = k)
theorem hasK_app {acc : List Key} {n k : Key} : hasK (acc ++ [n]) k = (hasK acc k || decide (n = k)) := by simp [hasK]
theorem hasK_self {acc : List Key} {j k : Key} (h : hasK acc k = true) (e : j = k) : hasK acc j = true := by rw [e]; exact h
def arKy (P : Program) (w : World) : ARep (List Key) := fun acc D0 _ o => ∃ Sf, o = SetK P w D0 Sf acc.length ∧ ∀ k, Sf k = hasK acc k
theorem arKy_mono {P : Program} {w : World} : Mono (arKy P w) := fun _ h => h
def addK (acc : List Key) (k : Key) : List Key := if hasK acc k = true then acc else acc ++ [k]
section
variable {S : Type} {Γ : Fr S} {K : W.Frag} {E : XK} {g : TG} {gd : GD} {ts : List Nat} {tt : TT} {C : TB S} {wi : TI} {I : TL S} {vs : List Nat} {ta : TE} {A : TX S} {P : Program} {w : World}
def stAddK (A : TX S) : Stepper S (List Key) := fun ρ s acc QD => A ρ s (fun y s1 => opt (asKey y) fun k => acc.length < 1000 ∧ QD (addK acc k) s1) (fun _ _ => False)
theorem la_addK (ha : Ln Γ K E0 .b ta A) : LnAct Γ K (arKy P w) (taAdd (rSAddK P w) ta) (stAddK A) := by
  intro M α σ H ρ s D0 acc o ok gD no st hD ra QD Nx q k
  refine ha (Ok.less ok no) st _ _ _ q (fun v H1 d s1 p1 st1 r z => ?_) (fun c dx H' x s' p st' r z => z.elim)
  obtain ⟨n, en, zz⟩ := opt_ex z
  clear z
  have := asKey_eq en
  subst this
  obtain rfl := RBo.sc r
  obtain ⟨Sf, rfl, hS⟩ := ra
  have hD1 : H1 D0 = some (SetK P w D0 Sf acc.length) := p1.keep _ _ gD hD
  refine ⟨D0, n, Sf, acc.length, rfl, rfl, hD1, by have := zz.1; unfold scanBound; omega, ?_⟩
  refine k _ _ s1 _ (p1.more.trans stp_D0) (Γ.loc (fun a y => by rw [upd_ne fun e => gD (by rw [← e]; exact y)]) st1) upd_same ⟨fun j => Sf j || decide (j = n), ?_, fun j => ?_⟩ zz.2
  · unfold addK
    rw [hS n]
    cases h : hasK acc n with
    | true => rw [if_pos rfl, if_pos rfl]
    | false => rw [if_neg (by decide), if_neg (by decide), List.length_append, List.length_cons, List.length_nil]
  · unfold addK
    show (Sf j || decide (j = n)) = _
    rw [hS j]
    cases h : hasK acc n with
    | true =>
      rw [if_pos rfl]
      by_cases e : j = n
      · rw [hasK_self h e]; rfl
      · rw [decide_eq_false e, Bool.or_false]
    | false =>
      rw [if_neg (by decide), hasK_app]
      congr 1
      exact decide_eq_decide.mpr eq_comm
def xLsK (I : TL S) (gd : GD) (C : TB S) (step : Stepper S (List Key)) (vs : List Nat) : TX S := fun ρ s Q X => I ρ s (fun ds s1 => coT gd C step (fun acc s' => Q (dI acc.length) s') (inE ρ vs) ds [] s1) X
theorem ln_lsK {tact : Addr → L2.St → Hp → (Hp → Prop) → Prop} {step : Stepper S (List Key)} (hts : ts.all (fun i => vs.contains i) = true) (hi : LnI Γ K E false wi I) (hg : ∀ Γ : Fr S, LnG Γ K ts g gd) (hc : LnT Γ K E0 tt C) (ha : LnAct Γ K (arKy P w) tact step) :
    Ln Γ K E .s (tCB (rLenSK P w) (tCons (tCo (oSetK0 P w) wi g tt tact vs) tNil)) (xLsK I gd C step vs) := by
  intro M α σ H ρ s ok st QD QX Q q k kx
  show tCo (oSetK0 P w) wi g tt tact vs σ H fun v H' => rLenSK P w [v] H' Q
  refine co_first (QX := QX) (AR := arKy P w) (acc0 := []) (o0 := oSetK0 P w) arKy_mono (fun _ _ => ⟨fun _ => false, rfl, fun j => rfl⟩) hts hi hg hc ha ok st q (fun D0 H' acc s' o nD hD ra p st' z => ?_) kx
  obtain ⟨Sf, rfl, hS⟩ := ra
  exact ⟨D0, Sf, acc.length, rfl, hD, k _ H' _ s' p st' (.v _) z⟩
end
section
variable {m : Type → Type} [PM m]
def addKV (acc : List Key) (a : m D) : m (List Key) := bnd a fun y => lif ((asKey y).bind fun k => if acc.length < 1000 then some (addK acc k) else none)
def lsKV (l : m (List D)) (st : D → List Key → m (List Key)) : m D := bnd l fun ds => bnd (coG st ds []) fun acc => ok (dI acc.length)
def lsKL (l : m (List D)) (st : D → List Key → m (List Key)) (_ : Tg st := ⟨⟩) : m D := lsKV l st
variable {S : Type} [WM m S] {A : TX S} {L : TL S} {U : TB S} {ρ : Env} {a : m D} {l : m (List D)}
theorem rk_addK {acc : List Key} (h : RD A ρ a) : RK' (stAddK A) ρ acc (addKV acc a) := ⟨fun s Q w => rd_mono h (WM.wp_bnd w) (fun y s1 q => by
  obtain ⟨ys, ey, q⟩ := opt_ex (wp_lif q)
  obtain ⟨k, ek, ey⟩ := Option.bind_eq_some_iff.mp ey
  rw [ek]
  split at ey
  · rename_i hl; cases ey; exact ⟨hl, q⟩
  · cases ey) fun _ _ q => q⟩
theorem rd_lsK {gd : GD} {vs : List Nat} {step : Stepper S (List Key)} {st : D → List Key → m (List Key)} (hl : RL L ρ l) (h : ∀ d acc, RT gd d (inE ρ vs) (st d acc) fun ρ1 x => RCA step U ρ1 acc x) : RD (xLsK L gd U step vs) ρ (lsKL l st) :=
  ⟨fun s Q X w => rl_mono hl (WM.wp_bnd w) (fun ds s1 q => coT_v h ds [] s1 (WM.wp_mono (WM.wp_bnd q) (fun acc s2 q => (WM.wp_ok q :)) fun _ _ q => q)) fun _ _ q => q⟩
end
end L2.DL
namespace L2.DL
open L2 L2.My NdefX PySem PySem.Spec PyProof.Rows
/-- a constant of a class: X.f is v -/
structure CvC (K : W.Frag) (mg : Str → Option Value) (x f : Str) (C : Addr) (v : V) : Prop where
  nm : mg x = some (.ref C)
  ex : ∃ (mc u : Value), ClX.CRead K C mc ∧ ClX.CVal K C mc f v u
theorem pe_cv {X : Cx} {x f : Str} {C : Addr} {v : V} {p pos : Pos} (c : CvC X.K X.mg x f C v) (hg : Gl X x) (hd : (x == ("__debug__" : Str)) = false := by decide)
    (hb : attributeBase (.Name x p) f X.env (eval (.Name x p) X.env) = eval (.Name x p) X.env := by rfl) : PE X (.Attribute (.Name x p) f pos) (tC v) := by
  obtain ⟨mc, u, r, k⟩ := c.ex
  refine ⟨fun pins s σ H Q I h => ?_⟩
  exact (ClX.pe_cval (pe_gref hg c.nm hd) hb).run pins s σ H Q I ⟨C, mc, v, u, rfl, r, k, h⟩
end L2.DL
namespace L2.My
open PySem PySem.Spec PyProof.Rows
section
variable {P : Program} {w : World} {A : Around} {E : Value → Shared → Prop} {s : Shared} {K : W.Frag} {x C f : Addr} {ox : Obj} {od : Option Obj} {y : Value}
theorem own_contains {Q : Bool → Shared → Prop} (X : K.In s.heap) (I : W.InstAt s.heap x ox C od) (hs : W.findIn K (.ref C) "__contains__" = some (some (.ref f))) (hf : W.isFn K (.ref f) = true)
    (h : wpAny (model P w) A (call (.ref f) [.ref x, y]) (fun v s' => ∃ b, v = .bool b ∧ Q b s') E s) : wpAny (model P w) A (contains (.ref x) y) Q E s := by
  unfold contains
  refine wpAny_holding ?_
  rw [show stdlibNamesSay? (.ref x) y = none from rfl]
  refine wpAny_bind (wpAny_bind (I.type.here ((W.looks_findIn X hs).here ?_)))
  show wpAny _ A (if (some (Value.ref f) == some Value.none) = true then _ else _) Q E s
  rw [if_neg (by simp)]
  refine wpAny_bind ?_
  unfold callSpecialUnlessNone?
  refine wpAny_bind (wpAny_bind (I.type.here ((W.looks_findIn X hs).here ?_)))
  refine wpAny_holding (wpAny_bind ((W.bind_fn X _ (beq_iff_eq.mp hf)).here ?_))
  show wpAny _ A (if (Value.ref f == Value.none) = true then _ else _) _ E s
  rw [if_neg (by simp)]
  refine wpAny_bind (wpAny_mono h (fun v s' hv => ?_) fun _ _ z => z)
  obtain ⟨b, rfl, q⟩ := hv
  exact wpAny_pure (wpAny_pure q)
end
structure DunDef (P : Program) (w : World) (K : W.Frag) (mg : Str → Option Value) (base : Heap) (n : Nat) (m : Str) (C : Addr) (sp : Sp) : Prop where
  ex : ∃ (f : Addr) (fd : FuncData) (ps : List Str), W.findIn K (.ref C) m = some (some (.ref f)) ∧ W.isFn K (.ref f) = true ∧ FnG P w K mg base (L2.CX P w) n f fd ps sp ∧ Binds K fd ps []
def rInC (C : Addr) (sp : Sp) (pos : Bool) : R2 := fun x y H Q => ∃ (a dx : Addr) (fs : List (Str × V)), y = .ref a ∧ H a = some (.ins C dx fs) ∧ sp [y, x] H (BoolQ pos Q) E0
def rStrC (C : Addr) (sp : Sp) : List V → Hp → VK → Prop := fun xs H Q => ∃ (a dx : Addr) (fs : List (Str × V)), xs = [.ref a] ∧ H a = some (.ins C dx fs) ∧ sp [.ref a] H (fun v H' => ∃ y, v = .str y ∧ Q (.str y) H') E0
section
variable {X : Cx} {n k : Nat} {C : Addr} {sp : Sp}
theorem op_ninC (c : DunDef X.prog X.w X.K X.mg X.base n "__contains__" C sp) (hr : Room k X.A) (hk : n ≤ k) (hq : Quiet X.A) : OpR X (compareOp .NotIn) (rInC C sp false) := by
  intro pins s σ H x y v u Q I rx ry h
  obtain ⟨a, dx, fs, rfl, ha, q⟩ := h
  obtain rfl : u = Value.ref a := ry
  obtain ⟨mA, J, _⟩ := ins_get I.hok ha
  obtain ⟨od, J, _⟩ := J.look
  obtain ⟨f, fd, ps, hs, hf, F, hb⟩ := c.ex
  show wpAny (model X.prog X.w) X.A (do return Value.bool (!(← contains (.ref a) v))) (EP X pins σ Q) X.xe s
  refine wpAny_bind (own_contains I.kIn J hs hf (wpAny_mono (run_at (F.up hk) hb hr hq I I.env0 (.cons (a := V.ref a) rfl (.cons rx .nil)) q) (fun r s' z => ?_) fun _ _ e => e))
  obtain ⟨z', H', I', rz, b, rfl, q2⟩ := z
  obtain rfl : r = Value.bool b := rz
  exact ⟨b, rfl, wpAny_pure ⟨.bl (!b), H', I', rfl, by cases b <;> exact q2⟩⟩
theorem call_strC (c : DunDef X.prog X.w X.K X.mg X.base n "__str__" C sp) (hr : Room k X.A) (hk : n + 2 ≤ k) (hq : Quiet X.A) : CallR X (.type "str") (rStrC C sp) := by
  intro pins s σ H xs us Q I r h
  obtain ⟨a, dx, fs, rfl, ha, q⟩ := h
  rw [Vals.ref1 r]
  obtain ⟨mA, J, _⟩ := ins_get I.hok ha
  obtain ⟨od, J, _⟩ := J.look
  obtain ⟨f, fd, ps, hs, hf, F, hb⟩ := c.ex
  have hr1 : Room n X.A.in1.in1 := (hr.mono hk).in1.in1
  have hq1 : Quiet X.A.in1.in1 := hq
  refine W.kso_call hr1.units0 I.kIn J hs hf (wpAny_mono (run_at (vs := [.ref a]) F hb hr1 hq1 I I.env0.in1.in1 (.cons rfl .nil) q) (fun v s' z => ?_) fun _ _ e => e)
  obtain ⟨z', H', I', rz, y, rfl, q2⟩ := z
  obtain ⟨t, e⟩ := (show ∃ t, v = Value.str y t from rz)
  subst e
  exact ⟨.str y, H', I', ⟨t, rfl⟩, q2⟩
end
end L2.My
namespace L2.DL
open L2 L2.My NdefX PySem PySem.Spec PyProof.Rows
def inC (C : Addr) (F : Fn) (pos : Bool) (d c : D) : Option D := match c with
  | .obj C' _ => if C' = C then resB pos (F [c, d]) else none
  | _ => none
def strC (C : Addr) (F : Fn) (d : D) : Option D := match d with
  | .obj C' _ => if C' = C then resS (F [d]) else none
  | _ => none
theorem p2_inC {K : W.Frag} {C : Addr} {F : Fn} {pos : Bool} : P2 K .s (rInC C (spF K [.b, .b] F) pos) (inC C F pos) := by
  intro g m H v u d c e Q hm r1 r2 he k
  unfold inC at he
  split at he
  · rename_i C' fs
    split at he
    · rename_i hc
      subst hc
      obtain ⟨b, eb, rfl⟩ := resB_ex he
      obtain ⟨a, dx, vs, rfl, h1, _⟩ := RBo.obj r2
      refine ⟨a, dx, vs, rfl, h1, spF_two hm r2 r1 eb fun v' H' s r => ?_⟩
      cases r
      exact ⟨b, rfl, k _ H' s (.v _)⟩
    · cases he
  · cases he
theorem p1_strC {K : W.Frag} {C : Addr} {F : Fn} : P1 K .s (fun v => rStrC C (spF K [.b] F) [v]) (strC C F) := by
  intro g m H v d e Q hm r he k
  unfold strC at he
  split at he
  · rename_i C' fs
    split at he
    · rename_i hc
      subst hc
      obtain ⟨y, ey, rfl⟩ := resS_ex he
      obtain ⟨a, dx, vs, rfl, h1, _⟩ := RBo.obj r
      refine ⟨a, dx, vs, rfl, h1, spF_one hm r ey fun v' H' s r' => ?_⟩
      cases r'
      exact ⟨y, rfl, k _ H' s (.v _)⟩
    · cases he
  · cases he
end L2.DL
namespace L2.DL
open L2 L2.My NdefX PySem PySem.Spec PyProof.Rows
open PM
section
variable {S : Type} {Γ : Fr S} {K : W.Frag} {E : XK} {ta : TE} {A : TX S} {tl : TA} {L : TL S}
def LnR (Γ : Fr S) (K : W.Frag) (E : XK) (t : TA) (T : TL S) : Prop :=
  ∀ {M : Msk} {α : Nat → Addr} {σ : St} {H : Hp} {ρ : Env} {s : S}, Ok Γ K M α σ H ρ → Γ.st s H → ∀ (QD : List D → S → Prop) (QX : Exn → S → Prop) (Q : List V → Hp → Prop), T ρ s QD QX →
    (∀ vs H' ds s', Stp Γ H H' → Γ.st s' H' → RAll K (cut (mask M α ρ) H') vs ds → QD ds s' → Q vs H') →
    (∀ c dx H' x s', Stp Γ H H' → Γ.st s' H' → XR K (mask M α ρ) H' c dx x → QX x s' → E c dx H') → t σ H Q
theorem lr_nil : LnR Γ K E tNil (xNil : TL S) := fun _ st _ _ _ q k _ => k [] _ [] _ (Stp.of (Same.refl _)) st .nil q
theorem lr_cons (ha : Ln Γ K E .s ta A) (h : LnR Γ K E tl L) : LnR Γ K E (tCons ta tl) (xCons A L) := by
  intro M α σ H ρ s ok st QD QX Q q k kx
  refine ha ok st _ QX _ q (fun vx H1 x s1 p1 st1 rx q1 => ?_) kx
  refine h (ok.step p1) st1 _ QX _ q1 (fun vs H2 ds s2 p2 st2 ry q2 => ?_) (fun c dx H' x s' p st' r z => kx c dx H' x s' (p1.trans p) st' r z)
  exact k _ H2 (x :: ds) s2 (p1.trans p2) st2 (.cons (R.same (p2.cut ok.msub) rx) ry) q2
def xStar (A : TX S) (L : TL S) : TL S := fun ρ s Q X => A ρ s (fun d s1 => opt (asSeq d) fun ys => L ρ s1 (fun xs s2 => Q (ys ++ xs) s2) X) X
theorem lr_star (ha : Ln Γ K E .b ta A) (h : LnR Γ K E tl L) : LnR Γ K E (StX.tStar K ta tl) (xStar A L) := by
  intro M α σ H ρ s ok st QD QX Q q k kx
  refine ha ok st _ QX _ q (fun vx H1 x s1 p1 st1 rx q1 => ?_) kx
  obtain ⟨ys, ey, q1⟩ := opt_ex q1
  obtain ⟨a, vs, rfl, hsq, rr⟩ := RBo.seq rx ey
  refine ⟨a, vs, rfl, hsq, ?_⟩
  refine h (ok.step p1) st1 _ QX _ q1 (fun ws H2 ds s2 p2 st2 ry q2 => ?_) (fun c dx H' x s' p st' r z => kx c dx H' x s' (p1.trans p) st' r z)
  exact k _ H2 (ys ++ ds) s2 (p1.trans p2) st2 (RAll.app (RAll.same (p2.cut ok.msub) rr) ry) q2
theorem ln_lstR (h : LnR Γ K E tl L) : Ln Γ K E .f (tLst tl) (xLst L) := by
  intro M α σ H ρ s ok st QD QX Q q k kx
  refine h ok st _ QX _ q (fun vs H1 ds s1 p1 st1 ra ⟨le, q1⟩ => ?_) kx
  refine ⟨by rw [RAll.len ra]; exact le, fun p hp => ?_⟩
  have ok1 := ok.step p1
  have sm := same_upd (o := .lst vs) hp
  exact k _ _ _ s1 (p1.trans (Stp.of sm)) (Fr.same ok1.frt sm st1) (RR.from (mo := .f) (g := Γ.M) p1.trk (lay_lst ok1.mtrk hp ra)) q1
end
section
variable {m : Type → Type} [PM m]
/-- pieces of a display: values, starred values -/
def seqSV : List (Bool × m D) → m (List D)
  | [] => ok []
  | (false, a) :: r => bnd a fun x => bnd (seqSV r) fun xs => ok (x :: xs)
  | (true, a) :: r => bnd a fun d => match asSeq d with
    | some ys => bnd (seqSV r) fun xs => ok (ys ++ xs)
    | none => no
def lstSV (l : List (Bool × m D)) : m D := bnd (seqSV l) fun xs => if xs.length ≤ sizeLine then ok (.lst xs) else no
variable {S : Type} [WM m S] {A : TX S} {L : TL S} {ρ : Env} {a : m D} {l : List (Bool × m D)}
structure RZ (L : TL S) (ρ : Env) (l : List (Bool × m D)) : Prop where
  go : ∀ s Q X, WM.wp (seqSV l) s Q X → L ρ s Q X
theorem rz_nil : RZ (xNil : TL S) ρ ([] : List (Bool × m D)) := ⟨fun _ _ _ w => (WM.wp_ok w :)⟩
theorem rz_cons (h : RD A ρ a) (k : RZ L ρ l) : RZ (xCons A L) ρ ((false, a) :: l) := ⟨fun s Q X w => by
  refine rd_mono h (WM.wp_bnd w) (fun x s1 q => ?_) fun _ _ q => q
  exact k.go _ _ _ (WM.wp_mono (WM.wp_bnd q) (fun xs s2 z => (WM.wp_ok z :)) fun _ _ q => q)⟩
theorem rz_star (h : RD A ρ a) (k : RZ L ρ l) : RZ (xStar A L) ρ ((true, a) :: l) := ⟨fun s Q X w => by
  refine rd_mono h (WM.wp_bnd w) (fun x s1 q => ?_) fun _ _ q => q
  split at q
  · rename_i ys ey
    rw [ey]
    exact k.go _ _ _ (WM.wp_mono (WM.wp_bnd q) (fun xs s2 z => (WM.wp_ok z :)) fun _ _ q => q)
  · exact (WM.wp_no q).elim⟩
theorem rd_lstR (h : RZ L ρ l) : RD (xLst L) ρ (lstSV l) := ⟨fun s Q X w => h.go _ _ _ (WM.wp_mono (WM.wp_bnd w) (fun xs s1 z => by
  split at z
  · rename_i hl; exact ⟨hl, (WM.wp_ok z :)⟩
  · exact (WM.wp_no z).elim) fun _ _ q => q)⟩
end
/-- a name of the module stands for data of the written part -/
structure KnD (K : W.Frag) (mg : Str → Option Value) (x : Str) (a : Addr) (d : D) : Prop where
  nm : mg x = some (.ref a)
  rd : ∀ G, R K G (.ref a) d
theorem pe_kd {X : Cx} {x : Str} {a : Addr} {d : D} {pos : Pos} (h : KnD X.K X.mg x a d) (hg : Gl X x) (hd : (x == ("__debug__" : Str)) = false := by decide) : PE X (.Name x pos) (tC (.ref a)) := pe_gref hg h.nm hd
theorem ln_kd {S : Type} {Γ : Fr S} {K : W.Frag} {E : XK} {a : Addr} {d : D} (h : ∀ G, R K G (.ref a) d) : Ln Γ K E .s (tC (.ref a)) (xC d : TX S) := by
  intro M α σ H ρ s ok st QD QX Q q k kx
  exact k _ H d s (Stp.of (Same.refl _)) st (h _) q
/-- a written dict of text keys: what its keys stand for -/
structure KnT (K : W.Frag) (w : World) (mg : Str → Option Value) (x : Str) (a : Addr) (kvs : List (Str × D)) : Prop where
  nm : mg x = some (.ref a)
  get : ∀ y d, kvs.lookup y = some d → ∃ v, KDct K w a y v ∧ ∀ G, R K G v d
def kixD (kvs : List (Str × D)) (d : D) : Option D := match d with
  | .v (.str y) => kvs.lookup y
  | _ => none
theorem ln_kix {S : Type} {Γ : Fr S} {K : W.Frag} {w : World} {E : XK} {a : Addr} {kvs : List (Str × D)} {tb : TE} {B : TX S} (h : ∀ y d, kvs.lookup y = some d → ∃ v, KDct K w a y v ∧ ∀ G, R K G v d) (hb : Ln Γ K E .b tb B) :
    Ln Γ K E .s (tOp (rIxD K w) (tC (.ref a)) tb) (xUn (kixD kvs) B) := by
  intro M α σ H ρ s ok st QD QX Q q k kx
  refine hb ok st _ QX _ q (fun v H' d s' p st' r z => ?_) kx
  obtain ⟨e, he, zz⟩ := opt_ex z
  clear z
  unfold kixD at he
  split at he
  · rename_i y
    obtain ⟨u, hk, hr⟩ := h y e he
    obtain rfl := RBo.sc r
    exact ⟨a, y, u, rfl, rfl, hk, k u H' e s' p st' (hr _) zz⟩
  · cases he
end L2.DL
namespace L2.DL
open L2 L2.My NdefX PySem PySem.Spec PyProof.Rows
open PM
def vsOf : List D → Option (List V)
  | [] => some []
  | .v x :: r => (vsOf r).map (x :: ·)
  | _ => none
theorem vsOf_eq : ∀ {ds : List D} {vs : List V}, vsOf ds = some vs → ds = vs.map D.v
  | [], _, e => by cases e; rfl
  | d :: r, vs, e => by
    cases d with
    | v x =>
      unfold vsOf at e
      obtain ⟨ws, e1, rfl⟩ := Option.map_eq_some_iff.mp e
      rw [vsOf_eq e1]; rfl
    | _ => cases e
def idxD (d c : D) : Option D := match d, c with
  | .lst ds, .v y => (vsOf ds).bind fun ys => if flatV y = true ∧ ys.all flatV = true then (ys.findIdx? (fun z => eqV z y)).map (fun (j : Nat) => dI (j : Int)) else none
  | _, _ => none
section
variable {S : Type} {Γ : Fr S} {K : W.Frag} {E : XK} {ta tb : TE} {A B : TX S}
theorem ln_idx (ha : Ln Γ K E .b ta A) (hb : Ln Γ K E .b tb B) : Ln Γ K E .s (tBM K "list" (rIndex K) ta (tCons tb tNil)) (fun ρ s Q X => A ρ s (fun d s1 => (∃ xs, d = .lst xs) ∧ B ρ s1 (fun c s2 => opt (idxD d c) fun e => Q e s2) X) X) := by
  intro M α σ H ρ s ok st QD QX Q q k kx
  refine ha ok st _ QX _ q (fun v H1 d s1 p1 st1 r1 z => ?_) kx
  obtain ⟨⟨xs, rfl⟩, z⟩ := z
  obtain ⟨a, vs, rfl, h1, h2⟩ := RBo.lst r1
  refine ⟨tyV_lst h1, ?_⟩
  refine hb (ok.step p1) st1 _ QX _ z (fun u H2 c s2 p2 st2 r2 z => ?_) fun c dx H' x s' p st' r z => kx c dx H' x s' (p1.trans p) st' r z
  obtain ⟨e, he, zz⟩ := opt_ex z
  clear z
  unfold idxD at he
  split at he
  · rename_i ds y e1
    cases e1
    obtain ⟨ys, ey, he⟩ := Option.bind_eq_some_iff.mp he
    split at he
    · rename_i hf
      obtain ⟨j, ej, rfl⟩ := Option.map_eq_some_iff.mp he
      have rd := RBo.step ok.msub p2.keep r1
      obtain ⟨a', ws, ea, h3, h4⟩ := RBo.lst rd
      cases ea
      rw [vsOf_eq ey] at h4
      obtain rfl := RAll.vs h4
      obtain rfl := RBo.sc r2
      obtain ⟨hj, e2, e3⟩ := List.findIdx?_eq_some_iff_getElem.mp ej
      refine ⟨a, ws, _, j, ws[j], rfl, rfl, .inl (.inl h3), hf.1, hf.2, List.getElem?_eq_getElem hj, e2, fun m z' hm em => ?_, k _ H2 _ s2 (p1.trans p2) st2 (.v _) zz⟩
      obtain ⟨hl, em⟩ := List.getElem?_eq_some_iff.mp em
      rw [← em]
      simpa using e3 m hm
    · cases he
  · cases he
end
section
variable {m : Type → Type} [PM m]
def idxV (a b : m D) : m D := bnd a fun d => match d with
  | .lst xs => bnd b fun c => lif (idxD (.lst xs) c)
  | _ => no
variable {S : Type} [WM m S] {A B : TX S} {ρ : Env} {a b : m D}
theorem rd_idx (h : RD A ρ a) (k : RD B ρ b) : RD (fun ρ s Q X => A ρ s (fun d s1 => (∃ xs, d = .lst xs) ∧ B ρ s1 (fun c s2 => opt (idxD d c) fun e => Q e s2) X) X) ρ (idxV a b) := ⟨fun s Q X w => rd_mono h (WM.wp_bnd w) (fun d s1 q => by
  split at q
  · exact ⟨⟨_, rfl⟩, rd_mono k (WM.wp_bnd q) (fun c s2 q => wp_lif q) fun _ _ q => q⟩
  · exact (WM.wp_no q).elim) fun _ _ q => q⟩
end
end L2.DL
namespace L2.DL
open L2 L2.My NdefX PySem PySem.Spec PyProof.Rows
open PM
/-- what a text gives or raises -/
class CM (m : Type → Type) [PM m] where
  cat : {α : Type} → m α → m (Except Exn α)
class CW (m : Type → Type) [PM m] [CM m] (S : Type) [WM m S] : Prop where
  wp_cat : ∀ {α : Type} {x : m α} {s : S} {Q : Except Exn α → S → Prop} {X : Exn → S → Prop}, WM.wp (CM.cat x) s Q X → WM.wp x s (fun a s1 => Q (.ok a) s1) (fun e s1 => Q (.error e) s1)
def Om.cat {α : Type} (x : Om α) : Om (Except Exn α) := match x with
  | .ok a => .ok (.ok a)
  | .er x => .ok (.error x)
  | .no => .no
def Tm.cat {α : Type} (x : Tm α) : Tm (Except Exn α) := match x with
  | .ok a => .ok (.ok a)
  | .er x => .ok (.error x)
  | .no => .no
  | .dr n k => .dr n fun d => Tm.cat (k d)
instance : CM Om := ⟨Om.cat⟩
instance : CM Tm := ⟨Tm.cat⟩
instance (S : Type) : CW Om S := ⟨fun {_ x s Q X} h => by
  cases x with
  | ok a => exact h
  | er x => exact h
  | no => exact h⟩
theorem Tm.wp_cat {α : Type} {Q : Except Exn α → Nat → Prop} {X : Exn → Nat → Prop} : ∀ (x : Tm α) (n : Nat), Tm.wp (Tm.cat x) n Q X → Tm.wp x n (fun a s1 => Q (.ok a) s1) (fun e s1 => Q (.error e) s1)
  | .ok a, n, h => h
  | .er x, n, h => h
  | .no, _, h => h
  | .dr _ q, _, ⟨h1, h2, h3, h4⟩ => ⟨h1, h2, h3, fun d n2 a b c e => Tm.wp_cat (q d) n2 (h4 d n2 a b c e)⟩
instance : CW Tm Nat := ⟨fun {_ x s Q X} h => Tm.wp_cat x s h⟩
section
variable {m : Type → Type} [PM m] [CM m]
@[simp] theorem cat_ok_Om {α : Type} (a : α) : CM.cat (ok a : Om α) = ok (.ok a) := rfl
@[simp] theorem cat_er_Om {α : Type} (x : Exn) : CM.cat (er x : Om α) = ok (.error x) := rfl
@[simp] theorem cat_no_Om {α : Type} : CM.cat (no : Om α) = no := rfl
@[simp] theorem cat_ok_Tm {α : Type} (a : α) : CM.cat (ok a : Tm α) = ok (.ok a) := rfl
@[simp] theorem cat_er_Tm {α : Type} (x : Exn) : CM.cat (er x : Tm α) = ok (.error x) := rfl
@[simp] theorem cat_no_Tm {α : Type} : CM.cat (no : Tm α) = no := rfl
end
end L2.DL
namespace L2.My
open PySem PySem.Spec PyProof.Rows
end L2.My
namespace L2.DL
open L2 L2.My NdefX PySem PySem.Spec PyProof.Rows
end L2.DL
namespace L2.DL
open L2 L2.My NdefX PySem PySem.Spec PyProof.Rows
open PM
theorem pe_clmN {X : Cx} {k j : Nat} (n1 n2 N : Nat) {C : Addr} {m : Str} {ks : List Str} {pm : List Nat} {sp : Sp} {E : XK} {o e : Expr} {es : List Expr} {kws : List Keyword} {ta : TE} {t tk : TA} {pos apos : Pos} {pl : Sem Bool}
    (c : ClmC X.prog X.w X.K X.mg X.base j C m n1 ks pm sp) (hr : Room k X.A) (hjk : j ≤ k) (hq : My.Quiet X.A) (hx : Passes (L2.CX X.prog X.w) X E) (he : PE X o ta) (ha : PA X (e :: es) t) (hkw : PK X kws tk)
    (h1 : es.length + 1 = n1 := by rfl) (h2 : ks.length = n2 := by rfl) (h3 : n1 + n2 = N := by rfl)
    (hall : (backToKw pos (keywordEach kws X.env)).all (·.1.isSome) = true := by rfl) (hks : (backToKw pos (keywordEach kws X.env)).filterMap (·.1) = ks := by rfl)
    (hst : starEach (e :: es) X.env = (false, eval e X.env) :: starEach es X.env := by rfl) (hpl : ((backTo pos (starEach (e :: es) X.env)).any (·.1) || (backToKw pos (keywordEach kws X.env)).any (·.1.isNone)) = false := by rfl)
    (ht : eval (.Call (.Attribute o m apos) (e :: es) kws pos) X.env = (do
      let ov ← eval o X.env
      standAt apos.atName
      let (f, first) ← holding [ov] (getMethod ov m pl)
      callWith pos f first (backTo pos (starEach (e :: es) X.env)) (backToKw pos (keywordEach kws X.env))) := by rfl) :
    PE X (.Call (.Attribute o m apos) (e :: es) kws pos) (tClm C sp E ta (tPrm N pm (tApp n1 n2 t tk))) := by
  subst h1 h2 h3
  exact pe_clm c hr hjk hq hx he ha hkw hall hks hst hpl ht
theorem ln_appN {S : Type} {Γ : Fr S} {K : W.Frag} {E : XK} {os os2 os3 : List Mo} {tl tk : TA} {L L2 : TL S} (n1 n2 : Nat) (h1 : os.length = n1) (h2 : os2.length = n2) (h3 : os ++ os2 = os3) (ho : (os ++ os2).all (fun o => match o with | .f => false | _ => true) = true) (h : LnA Γ K E os tl L) (hk : LnA Γ K E os2 tk L2) : LnA Γ K E os3 (tApp n1 n2 tl tk) (xApp L L2) := by
  subst h1 h2 h3
  exact ln_app ho h hk
end L2.DL
namespace L2.DL
open L2 L2.My NdefX PySem PySem.Spec PyProof.Rows
open PM
end L2.DL
namespace L2.DL
open L2 L2.My NdefX PySem PySem.Spec PyProof.Rows
end L2.DL
namespace L2.DL
open L2 L2.My NdefX PySem PySem.Spec PyProof.Rows
end L2.DL
namespace L2.NK
open PySem PySem.Spec PyProof.Rows L2
/-- a key: a text and a number -/
abbrev TN := Str × Int
def nk (q : TN) : NestedKey := .tup [.text q.1, .num q.2]
theorem nk_inj {p q : TN} (h : nk p = nk q) : p = q := by
  unfold nk at h
  injection h with h
  injection h with h1 h
  injection h with h2 _
  injection h1 with h1
  injection h2 with h2
  exact Prod.ext h1 h2
def hsh (w : World) (q : TN) : Int := (nk q).hash w
/-- the tuple at b is the key q -/
structure KAt (h : Heap) (q : TN) (b : Addr) : Prop where
  ex : ∃ (o : Obj) (n : Nat) (t1 t2 : Tok), h.get? b = some o ∧ o.cls = .type "tuple" ∧ o.data = .seq #[.str q.1 t1, .int q.2 t2] n
variable {h h' : Heap} {q q' : TN} {b c a : Addr}
theorem KAt.nested (x : KAt h q b) : NestedIs h (nk q) (.ref b) := by
  obtain ⟨o, n, t1, t2, e1, e2, e3⟩ := x.ex
  exact .tup e1 e2 e3 (.cons (.text _ _) (.cons (.int _ _) .nil))
theorem KAt.inj (x : KAt h q b) (y : KAt h q' b) : q = q' := nk_inj (NestedIs.inj _ _ _ x.nested y.nested)
theorem KAt.keep (x : KAt h q b) (k : ∀ c o, h.get? c = some o → h'.get? c = some o) : KAt h' q b := by
  obtain ⟨o, n, t1, t2, e1, e2⟩ := x.ex
  exact ⟨o, n, t1, t2, k b o e1, e2⟩
theorem KAt.but {o : Obj} {es : Array (Int × Value)} {ep : Nat} {t : SetTable} (x : KAt h q b) (ho : h.get? a = some o) (hd : o.data = .set es ep t) (s : Heap.SameBut a h h') : KAt h' q b := by
  obtain ⟨o2, n, t1, t2, e1, e2, e3⟩ := x.ex
  have ne : b ≠ a := fun z => by
    subst z
    rw [ho] at e1
    cases e1
    rw [hd] at e3
    cases e3
  exact ⟨o2, n, t1, t2, by rw [s.2 b ne]; exact e1, e2, e3⟩
section
variable {P : Program} {w : World} {A : Around} {E : Value → Shared → Prop} {s : Shared}
theorem hash_at {Q : Int → Shared → Prop} (x : KAt s.heap q b) (hu : A.units + 1 < cLine) (go : Q (hsh w q) { s with toks := s.toks + 3 }) : wpAny (model P w) A (pyHash (.ref b)) Q E s := by
  have e : (nk q).draws = 3 := rfl
  have d : (nk q).depth = 1 := rfl
  exact pyHash_key (nk q) _ A s Q x.nested (by rw [d]; exact hu) (by rw [e]; exact go)
theorem eq_at {Q : Bool → Shared → Prop} (x : KAt s.heap q b) (y : KAt s.heap q' c) (hu : A.units + 1 < cLine) (go : Q (decide (q = q')) s) : wpAny (model P w) A (eqBool (.ref b) (.ref c)) Q E s := by
  have d : (nk q).depth = 1 := rfl
  have d2 : (nk q').depth = 1 := rfl
  have e : NestedKey.beq (nk q) (nk q') = decide (q = q') := by
    rw [← NestedKey.decide_eq]
    by_cases z : q = q'
    · rw [z, decide_eq_true rfl, decide_eq_true rfl]
    · rw [decide_eq_false z, decide_eq_false fun y => z (nk_inj y)]
  exact eqAt_key (nk q) (nk q') A s _ _ x.nested y.nested (by rw [d, d2]; omega) _ _ _ _ (by rw [e]; exact go)
theorem quiet_at {Q : Bool → Shared → Prop} (x : KAt s.heap q b) (go : Q true s) : wpAny (model P w) A (eqIsQuiet 8 (.ref b)) Q E s := quiet_key (nk q) _ 8 s x.nested (show (1 : Nat) ≤ 8 by decide) A E Q go
theorem two_items {α : Type} {f : Value → α → Sem (ForInStep α)} {x y : Value} {r : α} {Q : α → Shared → Prop} (h : wpAny (model P w) A (f x r) (fun z s1 => ∃ r1, z = .yield r1 ∧ wpAny (model P w) A (f y r1) (fun z s2 => ∃ r2, z = .yield r2 ∧ Q r2 s2) E s1) E s) : wpAny (model P w) A (forIn [x, y] r f) Q E s := by
  rw [List.forIn_cons]
  refine wpAny_bind (wpAny_mono h ?_ fun _ _ z => z)
  rintro z s1 ⟨r1, rfl, h1⟩
  simp only
  rw [List.forIn_cons]
  refine wpAny_bind (wpAny_mono h1 ?_ fun _ _ z => z)
  rintro z s2 ⟨r2, rfl, h2⟩
  exact wpAny_pure h2
theorem cls_at {Q : Bool → Shared → Prop} (x : KAt s.heap q b) (go : Q false s) : wpAny (model P w) A (ofAClassStatement 8 (.ref b)) Q E s := by
  obtain ⟨o, n, t1, t2, e1, e2, e3⟩ := x.ex
  have i1 : ofAClassStatement 7 (.str q.1 t1) = pure false := rfl
  have i2 : ofAClassStatement 7 (.int q.2 t2) = pure false := rfl
  unfold ofAClassStatement
  refine wpAny_bind (wpAny_typeOf ⟨o, e1, e2⟩ ?_)
  have same : (("tuple" : String) == "tuple") = true := rfl
  simp only [same, if_true, Bool.not_true, Bool.false_eq_true, if_false]
  try refine wpAny_bind (wpAny_pure ?_)
  show wpAny _ _ (bind (seqItems? (.ref b)) _) _ _ s
  refine wpAny_bind (wpAny_seqItems e1 e3 ?_)
  dsimp only
  refine wpAny_bind ?_
  rw [← Array.forIn_toList]
  refine two_items ?_
  rw [i1, i2]
  refine wpAny_bind (wpAny_pure (wpAny_pure ⟨_, rfl, wpAny_bind (wpAny_pure (wpAny_pure ⟨_, rfl, ?_⟩))⟩))
  exact wpAny_pure go
theorem byv_at {Q : Bool → Shared → Prop} (x : KAt s.heap q b) (go : Q false s) : wpAny (model P w) A (hashByValue 8 (.ref b)) Q E s := by
  obtain ⟨o, n, t1, t2, e1, e2, e3⟩ := x.ex
  have i1 : hashByValue 7 (.str q.1 t1) = pure false := by unfold hashByValue; rfl
  unfold hashByValue
  refine wpAny_bind (wpAny_specialOf ⟨o, e1, e2⟩ F.slot_tuple_hash.lookup ?_)
  show wpAny _ _ (bind (seqItems? (.ref b)) _) _ _ s
  refine wpAny_bind (wpAny_seqItems e1 e3 ?_)
  refine wpAny_bind ?_
  rw [← Array.forIn_toList]
  show wpAny _ _ (forIn [Value.str q.1 t1, Value.int q.2 t2] _ _) _ _ s
  rw [List.forIn_cons]
  refine wpAny_bind ?_
  rw [i1]
  refine wpAny_bind (wpAny_pure ?_)
  simp only [Bool.not_false, if_true]
  exact wpAny_pure (wpAny_pure (wpAny_pure go))
/-- a search among such keys can't be seen -/
theorem seen_at {Q : Bool → Shared → Prop} (x : KAt s.heap q b) : ∀ (ys : List Value), (∀ y ∈ ys, ∃ c q', y = Value.ref c ∧ KAt s.heap q' c) → Q false s → wpAny (model P w) A (searchCouldBeSeen (.ref b) ys) Q E s := by
  intro ys hy go
  unfold searchCouldBeSeen
  refine wpAny_bind (wpAny_forIn_list _ (fun l r s1 => s1 = s ∧ r.1 = none ∧ ∀ y ∈ l, ∃ c q', y = Value.ref c ∧ KAt s.heap q' c) _ ?turn ?last _ _ ⟨rfl, rfl, hy⟩)
  case turn =>
    rintro y l ⟨r1, r2⟩ s1 ⟨rfl, e, all⟩
    obtain ⟨c, q', rfl, kc⟩ := all y List.mem_cons_self
    have more : ∀ z ∈ l, ∃ c q', z = Value.ref c ∧ KAt s1.heap q' c := fun z hz => all z (List.mem_cons_of_mem _ hz)
    dsimp only
    cases v : (b == c || (carriedByValue (.ref b) && carriedByValue (.ref c))) with
    | true => exact wp_if_pos rfl (wpAny_pure ⟨rfl, rfl, more⟩)
    | false =>
      refine wp_if_neg Bool.false_ne_true (wpAny_bind (quiet_at x ?_))
      simp only [Bool.not_true, Bool.false_eq_true, if_false]
      refine wpAny_bind (quiet_at kc (?_ : _))
      simp only [Bool.not_true, Bool.false_eq_true, if_false]
      refine wpAny_bind (cls_at x (?_ : _))
      simp only [Bool.false_eq_true, if_false]
      refine wpAny_bind (cls_at kc (?_ : _))
      simp only [Bool.false_eq_true, if_false]
      exact wpAny_pure ⟨rfl, rfl, more⟩
  case last =>
    rintro ⟨r1, r2⟩ s1 ⟨rfl, e, _⟩
    have e : r1 = none := e
    rw [e]
    exact wpAny_pure go
abbrev Ent := List (Addr × TN)
def ents (w : World) (L : Ent) : List (Int × Value) := L.map fun z => (hsh w z.2, Value.ref z.1)
structure Small (w : World) (h : Heap) (a : Addr) (L : Ent) (es : Array (Int × Value)) (ep : Nat) (t : SetTable) : Prop where
  here : ∃ o : Obj, h.get? a = some o ∧ o.ExactSet ∧ o.data = .set es ep t
  list : es.toList = ents w L
  tab : TabOk t (L.map fun z => hsh w z.2)
  once : (L.map fun z => z.2).Nodup
  keys : ∀ z ∈ L, KAt h z.2 z.1
  led : w.params.followText "set-order" = true ∨ t.led = true
  m7 : t.mask = 7
variable {L : Ent} {es : Array (Int × Value)} {ep : Nat} {t : SetTable}
theorem Small.size (R : Small w s.heap a L es ep t) : es.size = L.length := by
  have z := congrArg List.length R.list
  simpa [ents] using z
theorem Small.psize (R : Small w s.heap a L es ep t) : t.place.size = L.length := by
  have z := R.tab.sz
  rwa [List.length_map] at z
theorem Small.fit (R : Small w s.heap a L es ep t) (few : L.length ≤ 7) : t.fits es.size = true := by
  have z := R.psize
  unfold SetTable.fits SetTable.fill
  rw [R.tab.dm, R.size, z, R.m7, Bool.and_eq_true, beq_self_eq_true, decide_eq_true_eq]
  exact ⟨rfl, few⟩
theorem Small.ent (R : Small w s.heap a L es ep t) {i : Nat} {z : Addr × TN} (e : L[i]? = some z) : es[i]? = some (hsh w z.2, Value.ref z.1) := by
  have y : es.toList[i]? = some (hsh w z.2, Value.ref z.1) := by
    rw [R.list]
    unfold ents
    rw [List.getElem?_map, e]
    rfl
  rwa [Array.getElem?_toList] at y
theorem Small.whole (R : Small w s.heap a L es ep t) : ¬ t.gaveWay = true := by
  unfold SetTable.gaveWay
  rw [R.m7]
  decide
/-- the walk along the way of a hash: from its c-th place on; Z is its first free place -/
theorem walk_on (R : Small w s.heap a L es ep t) (few : L.length ≤ 7) {x : Addr} {k : TN} (hx : KAt s.heap k x) (hu : A.units + 1 < cLine) {Z : Nat} (zb : Z < 10 * SetTable.turns t.mask)
    (zf : way t.mask (hsh w k) Z ∉ t.place.toList) (zo : ∀ c, c < Z → way t.mask (hsh w k) c ∈ t.place.toList) {Q : SetFound → Shared → Prop} (yes : k ∈ L.map (fun z => z.2) → Q (.there none) s) (no' : k ∉ L.map (fun z => z.2) → Q (.free (way t.mask (hsh w k) Z) false) s) :
    ∀ (f c : Nat) (st : Option SetTable.Probe), st.getD (t.probeStart (hsh w k)) = nth t.mask (runAt t.mask (SetTable.bits (hsh w k) % (t.mask + 1)) (SetTable.bits (hsh w k))) c → c ≤ Z → Z < c + f →
      (∀ (i : Nat) z, L[i]? = some z → z.2 = k → ∃ d, c ≤ d ∧ d < Z ∧ t.place.toList[i]? = some (way t.mask (hsh w k) d)) → wpAny (model P w) A (setSearchFrom a (.ref x) (hsh w k) true f st) Q E s := by
  obtain ⟨o, ho, hex, hd⟩ := R.here
  have fit := R.fit few
  obtain ⟨S0, eS⟩ : ∃ p, p = runAt t.mask (SetTable.bits (hsh w k) % (t.mask + 1)) (SetTable.bits (hsh w k)) := ⟨_, rfl⟩
  have wy : ∀ c, way t.mask (hsh w k) c = (nth t.mask S0 c).j := fun c => by rw [eS]
  rw [← eS]
  have nodummy : ∀ (n : Nat) (p : SetTable.Probe), p.dummy = none → (nth t.mask p n).dummy = none := by
    intro n
    induction n with
    | zero => exact fun p e => e
    | succ n ih => exact fun p e => ih (adv t.mask p) (by unfold adv; split <;> exact e)
  have nd0 : S0.dummy = none := by rw [eS]; rfl
  intro f
  induction f with
  | zero => intro c st _ h1 h2 _; exact absurd h2 (by omega)
  | succ f ih =>
    intro c st est cz cf place
    rw [setSearchFrom_succ]
    refine wpAny_bind (wpAny_setState_of ho hd fit ?_)
    dsimp only
    refine wp_if_neg R.whole ?_
    try refine wpAny_bind (wpAny_pure ?_)
    have shift : ∀ d, nth t.mask (nth t.mask S0 c) d = nth t.mask S0 (c + d) := fun d => (nth_add t.mask c S0 d).symm
    have jj : ∀ d, (nth t.mask (nth t.mask S0 c) d).j = way t.mask (hsh w k) (c + d) := fun d => by rw [shift, wy]
    have end_ : c + (Z - c) = Z := by omega
    have hashOf : ∀ (i : Nat) z, L[i]? = some z → (es[i]?.map (·.1)).getD 0 = hsh w z.2 := fun i z e => by rw [R.ent e, Option.map_some, Option.getD_some]
    rcases go_spec t R.tab.ris R.tab.dm (fun i => (es[i]?.map (·.1)).getD 0) (hsh w k) (10 * SetTable.turns t.mask) (Z - c) (nth t.mask S0 c) (nodummy c S0 nd0) (by omega)
      (fun d hd => by rw [jj]; exact zo (c + d) (by omega)) (by rw [jj, end_]; exact zf) with ⟨d, i, dz, pi, hi, before, met⟩ | ⟨before, met⟩
    · -- one of equal hash
      rw [jj] at pi
      have met2 : t.probe (fun i => (es[i]?.map (·.1)).getD 0) (hsh w k) (st.getD (t.probeStart (hsh w k))) = some (.candidate (way t.mask (hsh w k) (c + d)) i (nth t.mask S0 (c + (d + 1)))) := by
        rw [est, ← jj, ← shift]
        exact met
      rw [met2]
      dsimp only
      obtain ⟨z, ez⟩ : ∃ z, L[i]? = some z := by
        have l1 : i < t.place.toList.length := (List.getElem?_eq_some_iff.mp pi).1
        rw [Array.length_toList, R.psize] at l1
        exact ⟨L[i], List.getElem?_eq_getElem l1⟩
      have mz := List.mem_of_getElem? ez
      have rest : wpAny (model P w) A (searchRest a (.ref x) (hsh w k) true f es t (way t.mask (hsh w k) (c + d)) i (nth t.mask S0 (c + (d + 1)))) Q E s := by
        unfold searchRest
        rw [R.ent ez]
        dsimp only
        refine wpAny_bind (wpAny_holding (eq_at (R.keys z mz) hx hu ?_))
        refine wpAny_bind (wpAny_setState_of ho hd fit ?_)
        dsimp only
        by_cases same : z.2 = k
        · rw [decide_eq_true same]
          exact wp_if_pos rfl (wpAny_pure (yes (List.mem_map.mpr ⟨z, mz, same⟩)))
        · rw [decide_eq_false same]
          refine wp_if_neg Bool.false_ne_true ?_
          try refine wpAny_bind (wpAny_pure ?_)
          rw [sameMem]
          have live : t.slot (way t.mask (hsh w k) (c + d)) = .live i := slot_live R.tab.ris pi
          simp only [if_true, live, R.ent ez]
          refine wpAny_bind (wpAny_isSame_ref_self (wpAny_bind (wpAny_pure ?_)))
          simp only [if_true, Bool.false_eq_true, if_false]
          refine ih (c + (d + 1)) _ rfl (by omega) (by omega) fun i2 z2 e2 k2 => ?_
          obtain ⟨d2, h1, h2, h3⟩ := place i2 z2 e2 k2
          refine ⟨d2, ?_, h2, h3⟩
          rcases Nat.lt_trichotomy d2 (c + d) with lt | eq | gt
          · refine absurd ((hashOf i2 z2 e2).trans (congrArg (hsh w) k2)) (before (d2 - c) i2 (by omega) ?_)
            rw [jj, show c + (d2 - c) = d2 by omega]
            exact h3
          · rw [eq] at h3
            have two := slot_live R.tab.ris h3
            rw [live] at two
            injection two with two
            rw [← two, ez] at e2
            cases e2
            exact absurd k2 same
          · omega
      cases tl : t.led with
      | true =>
        refine wp_if_neg (by simp) ?_
        try refine wpAny_bind (wpAny_pure ?_)
        exact rest
      | false =>
        refine wp_if_pos (by simp) (wpAny_bind (seen_at hx _ (fun y hy => ?_) ?_))
        · obtain ⟨e, he, rfl⟩ := List.mem_map.mp hy
          have in1 : e ∈ es.toList := by
            have : e ∈ es ∧ e.1 = hsh w k := by simpa using he
            simpa using this.1
          rw [R.list] at in1
          obtain ⟨z2, m2, rfl⟩ := List.mem_map.mp in1
          exact ⟨z2.1, z2.2, rfl, R.keys z2 m2⟩
        · refine wp_if_neg Bool.false_ne_true ?_
          try refine wpAny_bind (wpAny_pure ?_)
          exact rest
    · -- a free slot
      rw [jj, end_] at met
      have met2 : t.probe (fun i => (es[i]?.map (·.1)).getD 0) (hsh w k) (st.getD (t.probeStart (hsh w k))) = some (.empty (way t.mask (hsh w k) Z) none) := by
        rw [est]
        exact met
      rw [met2]
      dsimp only
      refine wpAny_pure (no' fun mem => ?_)
      obtain ⟨z, mz, ek⟩ := List.mem_map.mp mem
      obtain ⟨i, li, ei⟩ := List.getElem_of_mem mz
      have ez : L[i]? = some z := by rw [List.getElem?_eq_getElem li, ei]
      obtain ⟨d, h1, h2, h3⟩ := place i z ez ek
      refine absurd ((hashOf i z ez).trans (congrArg (hsh w) ek)) (before (d - c) i (by omega) ?_)
      rw [jj, show c + (d - c) = d by omega]
      exact h3
theorem look_at (R : Small w s.heap a L es ep t) (few : L.length ≤ 6) {x : Addr} {k : TN} (hx : KAt s.heap k x) (hu : A.units + 1 < cLine) {Q : SetFound → Shared → Prop} (yes : k ∈ L.map (fun z => z.2) → Q (.there none) s)
    (no' : ∀ Z, k ∉ L.map (fun z => z.2) → way t.mask (hsh w k) Z ∉ t.place.toList → (∀ c, c < Z → way t.mask (hsh w k) c ∈ t.place.toList) → Q (.free (way t.mask (hsh w k) Z) false) s) : wpAny (model P w) A (setSearch a (.ref x) (hsh w k) true) Q E s := by
  obtain ⟨Z, zb, zf, zo⟩ := R.tab.first (by rw [List.length_map, R.m7]; omega) (hsh w k)
  have zs : Z < 100000 := by
    have : 10 * SetTable.turns t.mask ≤ 1420 := by
      rw [R.m7]
      decide
    omega
  unfold setSearch
  refine walk_on R (by omega) hx hu zb zf zo yes (fun n => no' Z n zf zo) 100000 0 none rfl (Nat.zero_le _) (by omega) fun i z ez ek => ?_
  have h1 : (L.map fun z => hsh w z.2)[i]? = some (hsh w k) := by rw [List.getElem?_map, ez, ← ek]; rfl
  have l1 : i < t.place.toList.length := by
    rw [Array.length_toList, R.psize]
    exact (List.getElem?_eq_some_iff.mp ez).1
  obtain ⟨d, dz, e⟩ := R.tab.before zf h1 (List.getElem?_eq_getElem l1)
  exact ⟨d, Nat.zero_le _, dz, by rw [e]; exact List.getElem?_eq_getElem l1⟩
theorem TabOk.off {t : SetTable} {hs : List Int} (T : TabOk t hs) (b : Bool) : TabOk { t with plain := b } hs := ⟨T.ris, T.dm, T.sz, T.mok, T.bd, T.reach⟩
theorem ents_ins (L : Ent) (n : Nat) (z : Addr × TN) : ents w (L.take n ++ z :: L.drop n) = (ents w L).take n ++ (hsh w z.2, Value.ref z.1) :: (ents w L).drop n := by
  simp only [ents, List.map_append, List.map_cons, List.map_take, List.map_drop]
/-- one more key -/
theorem put_at (R : Small w s.heap a L es ep t) (few : L.length ≤ 3) {x : Addr} {k : TN} (hx : KAt s.heap k x) (hu : A.units + 1 < cLine) {Q : Bool → Shared → Prop}
    (go : ∀ b h' L' es' ep' t', Heap.SameBut a s.heap h' → Small w h' a L' es' ep' t' → (k ∈ L.map (fun z => z.2) → L' = L) → (k ∉ L.map (fun z => z.2) → L'.Perm ((x, k) :: L)) → Q b { s with heap := h' }) :
    wpAny (model P w) A (setAddHashed a (.ref x) (hsh w k)) Q E s := by
  obtain ⟨o, ho, hex, hd⟩ := R.here
  have fit := R.fit (by omega)
  unfold setAddHashed
  refine wpAny_holding ?_
  rw [show (100000 : Nat) = 99999 + 1 from rfl, setAddHashedIn_succ]
  refine wpAny_bind (wpAny_setState_of ho hd fit ?_)
  dsimp only
  refine wp_if_neg (by simp [byScan, Value.scannable]) ?_
  try refine wpAny_bind (wpAny_pure ?_)
  refine wpAny_bind (look_at R (by omega) hx hu (fun mem => ?_) fun Z out zf zo => ?_)
  · dsimp only
    exact wpAny_pure (go false s.heap L es ep t (Heap.SameBut.refl a s.heap) R (fun _ => rfl) fun z => absurd mem z)
  · dsimp only
    refine wpAny_bind (wpAny_setState_of ho hd fit ?_)
    dsimp only
    obtain ⟨p1, p2, p3, p4, p5, p6, p7, p8, p9⟩ := R.tab.put zf zo
    generalize t.put (way t.mask (hsh w k) Z) = pt at p1 p3 p4 p5 p6 p7 p8 p9 ⊢
    obtain ⟨t1, n⟩ := pt
    dsimp only at p1 p3 p4 p5 p6 p7 p8 p9 ⊢
    generalize SetTable.below t.place (way t.mask (hsh w k) Z) = m at p1 p2 p3
    subst p1
    have e1 : (SetTable.insertAt es n (hsh w k, Value.ref x)).toList = ents w (L.take n ++ (x, k) :: L.drop n) := by rw [SetTable.toList_insertAt, ents_ins, R.list]
    have e2 : (L.map fun z => hsh w z.2).take n ++ hsh w k :: (L.map fun z => hsh w z.2).drop n = (L.take n ++ (x, k) :: L.drop n).map fun z => hsh w z.2 := by simp only [List.map_append, List.map_cons, List.map_take, List.map_drop]
    rw [e2] at p3
    have pm : (L.take n ++ (x, k) :: L.drop n).Perm ((x, k) :: L) := put_perm L n (x, k)
    generalize L.take n ++ (x, k) :: L.drop n = L1 at e1 p3 pm
    have len1 : L1.length = L.length + 1 := pm.length_eq
    have sz1 : (SetTable.insertAt es n (hsh w k, Value.ref x)).size = L.length + 1 := by
      have z := congrArg List.length e1
      rw [Array.length_toList, ents, List.length_map, len1] at z
      exact z
    generalize SetTable.insertAt es n (hsh w k, Value.ref x) = es1 at e1 sz1 ⊢
    have room : ¬ (!false && t1.tooFull) = true := by
      unfold SetTable.tooFull
      rw [p9, p4, R.m7, List.length_map]
      simp only [Bool.not_false, Bool.true_and, decide_eq_true_eq]
      omega
    have fin : ∀ pl : Bool, wpAny (model P w) A (do
        storeSet a es1 { t1 with plain := pl }
        if !false && ({ t1 with plain := pl } : SetTable).tooFull then setRelay a (SetTable.grown (es.size + 1))
        return true) Q E s := by
      intro pl
      refine wpAny_bind (wpAny_storeSet_of ho hd ?_ (by rw [sz1, sizeLine_eq]; omega))
      have sb : Heap.SameBut a s.heap (s.heap.update a (Obj.putSet es1 { t1 with plain := pl })) := Heap.SameBut.update ..
      have here := store_at (es' := es1) (t' := { t1 with plain := pl }) ho hd
      refine wp_if_neg (by show ¬ (!false && t1.tooFull) = true; exact room) ?_
      try refine wpAny_bind (wpAny_pure ?_)
      refine wpAny_pure (go true _ L1 es1 (ep + 1) { t1 with plain := pl } sb ⟨⟨_, here, ⟨hex.1, hex.2.1, hex.2.2⟩, rfl⟩, e1, TabOk.off p3 pl, ?_, fun z hz => ?_, by show _ ∨ t1.led = true; rw [p5]; exact R.led, by show t1.mask = 7; rw [p4]; exact R.m7⟩ (fun z => absurd z out) fun _ => pm)
      · refine (pm.map fun z => z.2).nodup_iff.mpr ?_
        rw [List.map_cons]
        exact List.nodup_cons.mpr ⟨out, R.once⟩
      · rcases List.mem_cons.mp (pm.mem_iff.mp hz) with e | hz
        · rw [e]; exact hx.but ho hd sb
        · exact (R.keys z hz).but ho hd sb
    cases hp : t1.plain with
    | true =>
      first
        | (refine wpAny_bind ?_; refine wp_if_pos rfl ?_; refine byv_at hx ?_)
        | refine wp_if_pos rfl (wpAny_bind (byv_at hx ?_))
      simp only [Bool.false_eq_true, if_false]
      exact fin false
    | false =>
      first
        | (refine wpAny_bind ?_; refine wp_if_neg Bool.false_ne_true ?_; refine wpAny_pure ?_)
        | refine wp_if_neg Bool.false_ne_true (wpAny_bind (wpAny_pure ?_))
      simp only [if_true]
      have := fin t1.plain
      exact this
end
end L2.NK
namespace L2.NK
open PySem PySem.Spec PyProof.Rows L2
section
variable {P : Program} {w : World} {A : Around} {E : Value → Shared → Prop} {s : Shared} {a : Addr} {L : Ent} {es : Array (Int × Value)} {ep : Nat} {t : SetTable}
theorem Small.stay {h h' : Heap} (R : Small w h a L es ep t) (ha : ∀ o, h.get? a = some o → h'.get? a = some o) (hk : ∀ z ∈ L, KAt h' z.2 z.1) : Small w h' a L es ep t := by
  obtain ⟨o, e, r⟩ := R.here
  exact ⟨⟨o, ha o e, r⟩, R.list, R.tab, R.once, hk, R.led, R.m7⟩
def newT (w : World) : SetTable := .fresh 0 0 (!w.params.followText "set-order")
def newO (w : World) : Obj := { cls := .type "set", dict := none, data := .set #[] 0 (newT w) }
theorem small_new {h : Heap} (e : h.get? a = some (newO w)) : Small w h a [] #[] 0 (newT w) where
  here := ⟨_, e, ⟨rfl, rfl, rfl⟩, rfl⟩
  list := rfl
  tab := ⟨List.Pairwise.nil, rfl, rfl, .inl rfl, fun _ hx => (nomatch hx), fun i h j e => by simp at e⟩
  once := List.nodup_nil
  keys := fun _ hz => nomatch hz
  led := by
    show _ ∨ (!w.params.followText "set-order") = true
    cases w.params.followText "set-order" <;> simp
  m7 := rfl
/-- what the set holds of the first i things -/
structure Has (ks : Ent) (i : Nat) (L : Ent) : Prop where
  from_ : ∀ z ∈ L, z ∈ ks.take i
  every : ∀ z ∈ ks.take i, z.2 ∈ L.map (fun z => z.2)
  few : L.length ≤ i
theorem take_one {α : Type} {l : List α} {i : Nat} {x : α} (h : l[i]? = some x) : l.take (i + 1) = l.take i ++ [x] := by
  rw [List.take_succ, h]
  rfl
theorem Has.next {ks L L' : Ent} {i : Nat} {z : Addr × TN} (g : Has ks i L) (e : ks[i]? = some z) (h1 : z.2 ∈ L.map (fun z => z.2) → L' = L) (h2 : z.2 ∉ L.map (fun z => z.2) → L'.Perm (z :: L)) : Has ks (i + 1) L' := by
  have tk := take_one e
  by_cases c : z.2 ∈ L.map fun z => z.2
  · rw [h1 c]
    refine ⟨fun y hy => ?_, fun y hy => ?_, Nat.le_succ_of_le g.few⟩
    · rw [tk]; exact List.mem_append_left _ (g.from_ y hy)
    · rw [tk] at hy
      rcases List.mem_append.mp hy with hy | hy
      · exact g.every y hy
      · rw [List.mem_singleton.mp hy]; exact c
  · have pm := h2 c
    refine ⟨fun y hy => ?_, fun y hy => ?_, by rw [pm.length_eq]; exact Nat.succ_le_succ g.few⟩
    · rw [tk]
      rcases List.mem_cons.mp (pm.mem_iff.mp hy) with rfl | hy
      · exact List.mem_append_right _ List.mem_cons_self
      · exact List.mem_append_left _ (g.from_ y hy)
    · rw [tk] at hy
      rw [(pm.map fun z => z.2).mem_iff, List.map_cons]
      rcases List.mem_append.mp hy with hy | hy
      · exact List.mem_cons_of_mem _ (g.every y hy)
      · rw [List.mem_singleton.mp hy]; exact List.mem_cons_self
/-- the set's filling, from the i-th thing on -/
theorem fill {I S : Addr} {fp wr : List Addr} {G : Array GenState → Array GenState → Prop} {n : Nat} {Pv : Nat → Value → Prop} {St : Nat → Shared → Prop} {R : Result → Shared → Prop} (W : WalksS P w A.in1 I fp wr G n Pv St) (off : S ∉ fp) (ks : Ent) (nk' : n = ks.length) (four : ks.length ≤ 4)
    (val : ∀ i v, Pv i v → ∃ z, ks[i]? = some z ∧ v = .ref z.1) (h0 : Heap) (hk : ∀ z ∈ ks, KAt h0 z.2 z.1) (S0 : h0.get? S = none) (w0 : ∀ b ∈ wr, h0.get? b = none) (hu : A.in1.units + 1 < cLine) :
    ∀ (m i : Nat) (s : Shared), n - i = m → i ≤ n → St i s → (∀ b o, h0.get? b = some o → s.heap.get? b = some o) → (∃ L es ep t, Small w s.heap S L es ep t ∧ Has ks i L) →
      (∀ s' L es ep t, Moved (S :: wr) G s s' → Small w s'.heap S L es ep t → Has ks n L → (∀ b o, h0.get? b = some o → s'.heap.get? b = some o) → R (.ok (.ret .none)) s') → codeAny (model P w) A (.builtin "set.update.loop" ⟨[.ref S, .ref I], []⟩) R s := by
  have Swr : S ∉ wr := fun z => off (W.sub _ z)
  have up : ∀ b ∈ wr, b ∈ S :: wr := fun b z => List.mem_cons_of_mem _ z
  have held : ∀ {s1 s2 : Shared}, Moved wr G s1 s2 → (∀ b o, h0.get? b = some o → s1.heap.get? b = some o) → ∀ b o, h0.get? b = some o → s2.heap.get? b = some o := fun mv k b o e => by
    refine mv.heap b o (fun z => ?_) (k b o e)
    rw [w0 b z] at e
    cases e
  intro m
  induction m with
  | zero =>
    intro i s em le st kp ⟨L, es, ep, t, R0, g⟩ fin
    obtain rfl : i = n := by omega
    refine codeAny_builtin F.entry_set_update_loop ?_
    rw [Around.under_plainId F.plain_set_update_loop _]
    show wpAny _ A.in1 (bind (pyNext (.ref I)) _) _ _ s
    refine wpAny_bind (W.done s _ _ st fun s2 mv => ?_)
    show wpAny _ A.in1 (ret Value.none) _ _ s2
    have kp2 := held mv kp
    exact wpAny_pure (fin s2 L es ep t (mv.mono up) (R0.stay (fun o e => mv.heap S o Swr e) fun z hz => (hk z (List.mem_of_mem_take (g.from_ z hz))).keep kp2) g kp2)
  | succ m ih =>
    intro i s em le st kp ⟨L, es, ep, t, R0, g⟩ fin
    have lt : i < n := by omega
    refine codeAny_builtin F.entry_set_update_loop ?_
    rw [Around.under_plainId F.plain_set_update_loop _]
    show wpAny _ A.in1 (bind (pyNext (.ref I)) _) _ _ s
    refine wpAny_bind (W.item i s _ _ lt st fun v s2 pv st2 mv => ?_)
    obtain ⟨z, ez, rfl⟩ := val i v pv
    have kp2 := held mv kp
    have R2 : Small w s2.heap S L es ep t := R0.stay (fun o e => mv.heap S o Swr e) fun y hy => (hk y (List.mem_of_mem_take (g.from_ y hy))).keep kp2
    have kz : KAt s2.heap z.2 z.1 := (hk z (List.mem_of_getElem? ez)).keep kp2
    show wpAny _ A.in1 (bind (holding [Value.ref z.1] (setAdd S (.ref z.1))) _) _ _ s2
    refine wpAny_bind (wpAny_holding ?_)
    unfold setAdd
    refine wpAny_holding (wpAny_bind (hash_at kz hu ?_))
    refine put_at (s := { s2 with toks := s2.toks + 3 }) R2 (by have := g.few; omega) kz hu fun b h3 L3 es3 ep3 t3 sb R3 c1 c2 => ?_
    have kp3 : ∀ b o, h0.get? b = some o → h3.get? b = some o := fun b o e => by
      refine (sb.2 b fun z => ?_).trans (kp2 b o e)
      rw [z, S0] at e
      cases e
    have st3 := W.frame _ s2 h3 (s2.toks + 3) st2 (Nat.le_add_right _ _) fun b hb o e => by
      rw [sb.2 b fun z : b = S => off (by rw [← z]; exact hb)]
      exact e
    refine wpAny_pure ⟨plainId_quiet F.plain_set_update_loop _, ih (i + 1) _ (by omega) lt st3 kp3 ⟨L3, es3, ep3, t3, R3, g.next ez c1 c2⟩ fun s4 L4 es4 ep4 t4 mv4 R4 g4 kp4 => ?_⟩
    refine fin s4 L4 es4 ep4 t4 (Moved.trans W.gtrans ((mv.mono up).then_heap (Nat.le_add_right _ _) fun b o hb e => ?_) mv4) R4 g4 kp4
    rw [sb.2 b fun z : b = S => hb (by rw [z]; exact List.mem_cons_self)]
    exact e
/-- set(xs), xs a list of at most four such tuples -/
theorem call_set4 {l : Addr} {items : Array Value} (ks : Ent) {Q : Value → Shared → Prop} (calm : A.handled = none) (isl : s.heap.IsList l items) (it : items.toList = ks.map fun z => Value.ref z.1) (hk : ∀ z ∈ ks, KAt s.heap z.2 z.1) (four : ks.length ≤ 4) (hu : A.units + 4 < cLine)
    (go : ∀ (h' : Heap) (tk : Nat) L es ep t, Small w h' s.heap.objs.size L es ep t → Has ks ks.length L → (∀ b o, s.heap.get? b = some o → h'.get? b = some o) → Q (.ref s.heap.objs.size) { s with heap := h', toks := tk }) :
    wpAny (model P w) A (call (.type "set") [.ref l]) Q E s := by
  have many : items.size = ks.length := by
    have z := congrArg List.length it
    rwa [Array.length_toList, List.length_map] at z
  obtain ⟨cc, tl, mro⟩ := F.called_set.mro
  have made := F.called_set.made
  have sub := F.called_set.sub
  have nott := F.called_set.notType
  have can := F.called_set.canCreate
  have tyc := F.typeCall_set_1 (.ref l)
  refine wpAny_call (codeAny_of_tree (show wpAny _ _ (callAny (.type "set") _) _ _ _ from wpAny_pure ⟨Code.quiet_builtin _ (by decide +kernel), codeAny_builtin F.entry_type_call ?_⟩))
  rw [Around.under_plain (weight_type_call_type "set" [.ref l] []) rfl]
  repeat (any_goals (first | assumption | wp_step))
  refine codeAny_mono (code_set_led1 (.ref l) (E := E) (Q₁ := fun ob s1 => ob = .ref s.heap.objs.size ∧ s1 = { s with heap := s.heap.push (newO w) }) ⟨rfl, rfl⟩) ?_
  intro r1 s1 hr1
  match r1, hr1 with
  | .error e, hr1 => exact hr1
  | .ok (.ret ob), ⟨e1, e2⟩ =>
    subst e1 e2
    have isS : (s.heap.push (newO w)).get? s.heap.objs.size = some (newO w) := Heap.get?_push_size _ rfl
    have tyS : Shared.TypeIs { s with heap := s.heap.push (newO w) } (.ref s.heap.objs.size) "set" := ⟨_, isS, rfl⟩
    have li := F.called_set.init.lookup
    have bi := F.called_set.init.bind (.ref s.heap.objs.size)
    repeat (any_goals (first | assumption | wp_step))
    refine codeAny_mono (codeAny_call_builtin (R := wants (fun v s2 => v = .none ∧ ∃ h' tk L es ep t, s2 = { s with heap := h', toks := tk } ∧ Small w h' s.heap.objs.size L es ep t ∧ Has ks ks.length L ∧ (∀ b o, s.heap.get? b = some o → h'.get? b = some o)) E) F.called_set.init.plain F.entry_set_init (check_set_init_1 tyS ?_)) ?_
    · obtain ⟨⟨lc, ldc, ldt, lsl⟩, el, ec, nl, ed⟩ := isl
      simp only at ec ed
      subst ec ed
      have el2 : (s.heap.push (newO w)).get? l = some { cls := .type "list", dict := ldc, data := .seq items nl, slots := lsl } := Heap.get?_push_of_some _ el
      have s1 := F.sub_list_set
      have s2 := F.sub_list_frozenset
      have s3 : (Value.type "list" == Value.type "dict") = false := by decide
      have isl2 : (s.heap.push (newO w)).IsList l items := ⟨_, el2, rfl, nl, rfl⟩
      have ll : l < s.heap.objs.size := Heap.lt_size el
      have free : ∀ b, s.heap.objs.size ≤ b → s.heap.get? b = none := fun b hb => by
        cases z : s.heap.get? b with
        | none => rfl
        | some o => exact absurd (Heap.lt_size z) (Nat.not_lt.mpr hb)
      unfold Builtin.«set.__init__» noKeywords Builtin.Frozenset.updateFrom
      generalize hPI : pyIter = PI
      wp_walk
      subst hPI
      refine wpAny_pyIter_list isl2 (wpAny_bind (wpAny_runValue ?_))
      have sz : (s.heap.push (newO w)).objs.size = s.heap.objs.size + 1 := Heap.size_push ..
      have lI : l ≠ (s.heap.push (newO w)).objs.size := by rw [sz]; exact Nat.ne_of_lt (Nat.lt_succ_of_lt ll)
      have offS : s.heap.objs.size ∉ [(s.heap.push (newO w)).objs.size, l] := by
        rw [sz]
        simp only [List.mem_cons, List.not_mem_nil, or_false, not_or]
        exact ⟨Nat.ne_of_lt (Nat.lt_succ_self _), Nat.ne_of_gt ll⟩
      have calm3 : A.in1.in1.in1.handled = none := by simp [calm]
      refine fill ((Walks.list calm3 _ l lI items).toS) offS ks many four (fun i v hv => ?vals) s.heap hk (free _ (Nat.le_refl _)) (fun b hb => free b (by rw [List.mem_singleton.mp hb, sz]; omega)) (show A.units + 4 < cLine from hu) (items.size - 0) 0 _ (by omega) (Nat.zero_le _) ⟨⟨_, Heap.get?_push_size _ rfl, rfl, rfl⟩, isl2.push _⟩
        (fun b o e => Heap.get?_push_of_some _ (Heap.get?_push_of_some _ e)) ⟨[], #[], 0, _, small_new (Heap.get?_push_of_some _ isS), ⟨fun _ hz => (nomatch hz), fun _ hz => (by simp at hz), Nat.le_refl _⟩⟩ ?fin
      case vals =>
        have z : items.toList[i]? = some v := by rw [Array.getElem?_toList]; exact hv
        rw [it, List.getElem?_map] at z
        obtain ⟨y, ey, e⟩ := Option.map_eq_some_iff.mp z
        exact ⟨y, ey, e.symm⟩
      case fin =>
        rintro ⟨h2, g2, d2, tk2, o2⟩ L es ep t mv R2 g kp
        obtain rfl : g2 = s.gens := mv.gens
        obtain rfl : d2 = s.drawn := mv.drawn
        obtain rfl : o2 = s.os := mv.os
        rw [many] at g
        show wpAny _ _ _ _ _ _
        refine wpAny_pure ?_
        show wpAny _ _ (ret Value.none) _ _ _
        exact wpAny_pure ⟨rfl, h2, tk2, L, es, ep, t, rfl, R2, g, kp⟩
    · intro r2 s2 hr2
      match r2, hr2 with
      | .error e, hr2 => exact hr2
      | .ok (.ret v), ⟨ev, h2, tk2, L, es, ep, t, es2, R2, g, kp⟩ =>
        subst ev es2
        repeat (any_goals (first | assumption | wp_step))
        exact go _ _ _ _ _ _ R2 g kp
      | .ok .next, hr2 => exact hr2.elim
      | .ok .brk, hr2 => exact hr2.elim
      | .ok .cont, hr2 => exact hr2.elim
  | .ok .next, hr1 => exact hr1.elim
  | .ok .brk, hr1 => exact hr1.elim
  | .ok .cont, hr1 => exact hr1.elim
end
end L2.NK
namespace L2.NK
open PySem PySem.Spec PyProof.Rows L2
def ddT (l : List TN) : Nat := (l.foldl (fun (acc : List TN) q => if q ∈ acc then acc else acc ++ [q]) []).length
theorem dd_fold : ∀ (l acc : List TN), acc.Nodup → (l.foldl (fun (acc : List TN) q => if q ∈ acc then acc else acc ++ [q]) acc).Nodup ∧ ∀ q, q ∈ l.foldl (fun (acc : List TN) q => if q ∈ acc then acc else acc ++ [q]) acc ↔ q ∈ acc ∨ q ∈ l
  | [], acc, h => ⟨h, fun q => by simp⟩
  | x :: l, acc, h => by
    rw [List.foldl_cons]
    by_cases c : x ∈ acc
    · rw [if_pos c]
      obtain ⟨h1, h2⟩ := dd_fold l acc h
      refine ⟨h1, fun q => ?_⟩
      rw [h2, List.mem_cons]
      constructor
      · rintro (z | z)
        · exact .inl z
        · exact .inr (.inr z)
      · rintro (z | z | z)
        · exact .inl z
        · rw [z]; exact .inl c
        · exact .inr z
    · rw [if_neg c]
      obtain ⟨h1, h2⟩ := dd_fold l (acc ++ [x]) (List.nodup_append.mpr ⟨h, List.nodup_cons.mpr ⟨List.not_mem_nil, List.nodup_nil⟩, fun a ha b hb e => by
        rw [List.mem_singleton.mp hb] at e
        exact c (e ▸ ha)⟩)
      refine ⟨h1, fun q => ?_⟩
      rw [h2]
      simp only [List.mem_append, List.mem_cons, List.not_mem_nil, or_false]
      constructor
      · rintro ((z | z) | z)
        · exact .inl z
        · exact .inr (.inl z)
        · exact .inr (.inr z)
      · rintro (z | z | z)
        · exact .inl (.inl z)
        · exact .inl (.inr z)
        · exact .inr z
theorem dd_len {l m : List TN} (h : m.Nodup) (e : ∀ q, q ∈ m ↔ q ∈ l) : m.length = ddT l := by
  obtain ⟨h1, h2⟩ := dd_fold l [] List.nodup_nil
  refine List.Perm.length_eq ((List.perm_ext_iff_of_nodup h h1).mpr fun q => ?_)
  rw [h2, e]
  simp
section
variable {X : Cx} {pins : List (Addr × Obj)} {σ : St} {H : Hp} {s : Shared}
theorem tn_key (I : Inv X pins σ H s) {b : Addr} {q : TN} (h : SqT X.K H b [.str q.1, .int q.2]) : KAt s.heap q b := by
  obtain ⟨its, r, ⟨o, e1, e2, n, e3⟩, _⟩ := I.tuple h
  cases r with
  | cons r1 r =>
    cases r with
    | cons r2 r =>
      cases r
      obtain ⟨t1, rfl⟩ := r1
      obtain ⟨t2, rfl⟩ := r2
      exact ⟨o, n, t1, t2, e1, e2, e3⟩
theorem refs_val : ∀ {ks : Ent} {us : List Value}, Vals (ks.map fun z => V.ref z.1) us → us = ks.map fun z => Value.ref z.1
  | [], _, .nil => rfl
  | z :: ks, _, .cons r t => by
    cases r
    rw [List.map_cons, ← refs_val t]
end
end L2.NK
namespace L2.DL
open L2 L2.My L2.NK NdefX PySem PySem.Spec PyProof.Rows
def rLenSetT (K : W.Frag) : V → Hp → VK → Prop := fun x H Q => ∃ (l : Addr) (ks : Ent), x = .ref l ∧ SqL K H l (ks.map fun z => V.ref z.1) ∧ (∀ z ∈ ks, SqT K H z.1 [.str z.2.1, .int z.2.2]) ∧ ks.length ≤ 4 ∧ Q (.int (ddT (ks.map fun z => z.2) : Nat)) H
section
variable {X : Cx}
theorem units8 {n : Nat} (h : n + 64 < cLine) : n + 8 < cLine := by omega
theorem pe_lenSetW {a : Expr} {ta : TE} {p p2 q pos : Pos} (hu : X.A.units + 8 < cLine) (hc : X.calm = true) (hg : Gl X "len") (hm : X.mg "len" = none) (hg2 : Gl X "set") (hm2 : X.mg "set" = none) (ha : PE X a ta)
    (na : starEach [a] X.env = (false, eval a X.env) :: starEach [] X.env := by rfl) : PE X (.Call (.Name "len" p) [.Call (.Name "set" p2) [a] [] q] [] pos) (tUn (fun x H Q => rLenSet X.K x H Q ∨ rLenSetT X.K x H Q) ta) := by
  refine ⟨fun pins s σ H Q I h => ?_⟩
  refine Call_ (ld_blt I hg hm PySem.boot_len (PyProof.Rows.callWith_builtin1 (PyProof.Rows.args_cons ?_ rfl) rfl rfl))
  refine Call_ (ld_blt I hg2 hm2 PyProof.Rows.boot_set (PyProof.Rows.callWith_type1 (PyProof.Rows.args_cons (L2.thn (ha.run pins s σ H _ I h) fun v s1 ⟨x, H1, I1, r1, q1⟩ => PyProof.Rows.args_nil ?_) na) na rfl))
  rcases q1 with ⟨l, ns, rfl, hq, hl, q1⟩ | ⟨l, ks, rfl, hq, hk, four, q1⟩
  · cases r1
    obtain ⟨its, r, pl, hz⟩ := I1.list hq
    have hlen : its.toArray.size = ns.length := by rw [List.size_toArray, ← r.length, List.length_map]
    refine call_set_list (I1.ok.hd hc) pl.isList (ns := ns) (by simpa using r.ints) (by rw [hlen]; unfold scanBound; omega) fun h' tk hS keep => PyProof.Rows.args_nil ?_
    rw [hlen] at hS
    have hb := PyProof.Rows.firstMet_length_le (fun i => ns.getD i 0) ns.length
    obtain ⟨o, es, ep, t, ho, hex, hd, _, _, _, hf, hn⟩ := hS
    have I2 : Inv X pins σ H1 { s1 with heap := h', toks := tk } := I1.kept fun b o e => keep b o (Heap.lt_size e) e
    exact call_len_set ho hex hd hf (by rw [hn] <;> omega) ⟨.int (ddI ns : Nat), H1, I2.tok _, ⟨_, by unfold ddI; rw [hn]⟩, q1⟩
  · cases r1
    obtain ⟨its, r, pl, hz⟩ := I1.list hq
    refine call_set4 ks (I1.ok.hd hc) pl.isList (by simpa using refs_val r) (fun z hz => tn_key I1 (hk z hz)) four (show X.A.units + 4 < cLine by omega) fun h' tk L es ep t R g keep => PyProof.Rows.args_nil ?_
    obtain ⟨o, ho, hex, hd⟩ := R.here
    have I2 : Inv X pins σ H1 { s1 with heap := h', toks := tk } := I1.kept keep
    have sz : es.size = ddT (ks.map fun z => z.2) := by
      have z := congrArg List.length R.list
      rw [Array.length_toList, ents, List.length_map] at z
      rw [z, ← List.length_map (as := L) (f := fun z => z.2)]
      refine dd_len R.once fun y => ⟨fun hy => ?_, fun hy => ?_⟩
      · obtain ⟨e, he, rfl⟩ := List.mem_map.mp hy
        exact List.mem_map.mpr ⟨e, List.mem_of_mem_take (g.from_ e he), rfl⟩
      · obtain ⟨e, he, rfl⟩ := List.mem_map.mp hy
        exact g.every e (by rw [List.take_length]; exact he)
    have few := g.few
    have fit : t.fits es.size = true := Small.fit (s := { s1 with heap := h', toks := tk }) R (by omega)
    have le : es.size ≤ 4 := by
      have z := congrArg List.length R.list
      rw [Array.length_toList, ents, List.length_map] at z
      omega
    exact call_len_set (s := { s1 with heap := h', toks := tk }) ho hex hd fit (by omega) ⟨.int (ddT (ks.map fun z => z.2) : Nat), H1, I2.tok _, ⟨_, by rw [sz]⟩, q1⟩
end
/-- the keys of a list of such tuples -/
def asTN : D → Option TN
  | .tup [.v (.str x), .v (.int i)] => some (x, i)
  | _ => none
def asTNs : List D → Option (List TN)
  | [] => some []
  | d :: r => match asTN d, asTNs r with
    | some q, some qs => some (q :: qs)
    | _, _ => none
def lsetX (d : D) : Option D := match d with
  | .lst ds => (match asTNs ds with
    | some qs => if qs.length ≤ 4 then some (dI (ddT qs : Nat)) else none
    | none => lsetD d)
  | _ => lsetD d
theorem asTN_ok {d : D} {q : TN} (e : asTN d = some q) : d = .tup [dS q.1, dI q.2] := by
  unfold asTN at e
  split at e
  · cases e; rfl
  · cases e
theorem ents_of {K : W.Frag} {G H : Hp} (le : Same G H) : ∀ {xs : List V} {ds : List D} {qs : List TN}, RAll K G xs ds → asTNs ds = some qs → ∃ ks : Ent, xs = ks.map (fun z => V.ref z.1) ∧ qs = ks.map (fun z => z.2) ∧ ∀ z ∈ ks, SqT K H z.1 [.str z.2.1, .int z.2.2]
  | _, _, _, .nil, e => by
    cases e
    exact ⟨[], rfl, rfl, fun z hz => nomatch hz⟩
  | _, d :: ds, qs, .cons (v := v) r rs, e => by
    unfold asTNs at e
    split at e
    · rename_i q qs2 e1 e2
      cases e
      obtain ⟨ks, h1, h2, h3⟩ := ents_of le rs e2
      have ed := asTN_ok e1
      subst ed
      cases r with
      | @tup a xs _ hs ra =>
        have ex : xs = [.str q.1, .int q.2] := by
          cases ra with
          | cons r1 ra =>
            cases ra with
            | cons r2 ra =>
              cases ra
              cases r1
              cases r2
              rfl
        subst ex
        refine ⟨(a, q) :: ks, by rw [List.map_cons, ← h1], by rw [List.map_cons, ← h2], fun z hz => ?_⟩
        rcases List.mem_cons.mp hz with e | hz
        · rw [e]; exact SqT.same le hs
        · exact h3 z hz
    · cases e
theorem p1_lsetX {K : W.Frag} : P1 K .s (fun x H Q => rLenSet K x H Q ∨ rLenSetT K x H Q) lsetX := by
  intro g m H v d c Q hm r e k
  unfold lsetX at e
  split at e
  · rename_i ds
    split at e
    · rename_i qs eq
      split at e
      · rename_i four
        cases e
        obtain ⟨a, xs, rfl, h1, h2⟩ := RBo.lst r
        obtain ⟨ks, rfl, rfl, h3⟩ := ents_of cut_le h2 eq
        exact .inr ⟨a, ks, rfl, .inl (.inl h1), h3, by simpa using four, k _ H (Same.refl _) (.v _)⟩
      · cases e
    · exact .inl (p1_lset hm r e k)
  · exact .inl (p1_lset hm r e k)
end L2.DL
namespace L2.DL
open L2 L2.My NdefX PySem PySem.Spec PyProof.Rows
open PM
end L2.DL
namespace L2.DL
open L2 L2.My NdefX PySem PySem.Spec PyProof.Rows
def rSg (b : Bool) : R2 := fun x y H Q => ∃ (c : Nat) (z : Str), x = .str ⟨#[c]⟩ ∧ y = .str z ∧ Q (.bl (b == decide (c ∈ z.cps.toList))) H
section
variable {X : Cx}
theorem op_notInSg : OpR X (compareOp .NotIn) (rSg false) := by
  intro pins s σ H x y v u Q I rx ry h
  obtain ⟨c, z, rfl, rfl, q⟩ := h
  have e : ∀ b : Bool, (false == b) = !b := by decide
  exact op_notIn_sign pins s σ H _ _ v u Q I rx ry ⟨c, z, rfl, rfl, by rw [← e]; exact q⟩
end
def sgn (a : Str) : Option Nat := match a.cps.toList with
  | [c] => some c
  | _ => none
theorem sgn_eq {a : Str} {c : Nat} (h : sgn a = some c) : a = ⟨#[c]⟩ := by
  unfold sgn at h
  split at h
  · rename_i d e
    cases h
    obtain ⟨p⟩ := a
    congr 1
    exact Array.toList_inj.mp e
  · cases h
def inSg (b : Bool) (x y : D) : Option D := match x, y with
  | .v (.str a), .v (.str z) => (sgn a).map fun c => dB (b == decide (c ∈ z.cps.toList))
  | _, _ => none
theorem p2_inSg {K : W.Frag} {b : Bool} : P2 K .s (rSg b) (inSg b) := by
  intro g m H v u d c e Q hm r1 r2 he k
  unfold inSg at he
  split at he
  · obtain ⟨n, en, rfl⟩ := Option.map_eq_some_iff.mp he
    cases sgn_eq en
    exact ⟨n, _, RBo.sc r1, RBo.sc r2, k _ H (Same.refl _) (.v _)⟩
  · cases he
end L2.DL
namespace L2.DL
open L2 L2.My NdefX PySem PySem.Spec PyProof.Rows
/-- one sign, many times -/
theorem mul_one {c : Nat} {k : Nat} (h : 2 ≤ k) : (Txt.mul ⟨#[c]⟩ (k : Int)).cps.toList = List.replicate k c := by
  unfold Txt.mul
  have e1 : ((k : Int) == 1 || (⟨#[c]⟩ : Str).length == 0) = false := by
    have : ¬ (k : Int) = 1 := by omega
    have e : ((k : Int) == 1) = false := by simpa using this
    rw [e]
    rfl
  rw [if_neg (by omega), e1, if_neg (by decide), Int.toNat_natCast]
  have f0 : ∀ (m : Nat) (acc : Array Nat), (List.foldl (fun x1 x2 => x1 ++ x2) acc (List.replicate m #[c])).toList = acc.toList ++ List.replicate m c := by
    intro m
    induction m with
    | zero => intro acc; simp
    | succ m ih =>
      intro acc
      rw [List.replicate_succ, List.foldl_cons, ih, Array.toList_append, List.replicate_succ]
      simp
  have := f0 k #[]
  simpa using this
end L2.DL
namespace PySem
open Sem (wp)
open PySem.MeetsSeq AutoSeq1
theorem str_eq_declines_dct_str (b : Str) (u : Tok) (l : Addr) (es : Array DictEntry) (n : Nat) (dd : Option Addr) (sl : Array (Option Value)) :
    Meets (Builtin.«str.__eq__» ⟨[.str b u, .ref l], []⟩) (fun _ R s => s.heap.get? l = some { cls := .type "dict", dict := dd, data := .dict es n, slots := sl } ∧ R (.ok (.ret .notImplemented)) s) :=
  .of_wp fun prog w A R s h => by obtain ⟨hp, g, d, tk, os⟩ := s; obtain ⟨hl, h⟩ := h; wp_walk using wpAny_loadPart' hl, wpAny_load hl; exact ⟨_, rfl, h⟩
theorem dict_eq_declines_str (l : Addr) (es : Array DictEntry) (n : Nat) (dd : Option Addr) (sl : Array (Option Value)) (b : Str) (u : Tok) :
    Meets (Builtin.«dict.__eq__» ⟨[.ref l, .str b u], []⟩) (fun _ R s => s.heap.get? l = some { cls := .type "dict", dict := dd, data := .dict es n, slots := sl } ∧ R (.ok (.ret .notImplemented)) s) :=
  .of_wp fun prog w A R s h => by obtain ⟨hp, g, d, tk, os⟩ := s; obtain ⟨hl, h⟩ := h; have f1 := F.sub_str_dict; wp_walk using wpAny_loadPart' hl; exact ⟨_, rfl, h⟩
namespace SeqAt
section
variable {A : Around} {s : Shared}
theorem RcAt.str_dct {l : Addr} {es : Array DictEntry} {n : Nat} {dd : Option Addr} {sl : Array (Option Value)} (b : Str) (u : Tok) (ho : s.heap.get? l = some { cls := .type "dict", dict := dd, data := .dict es n, slots := sl }) (hu : A.units < cLine) : RcAt A s (.str b u) (.ref l) false := fun prog w E Q h =>
  rc_eq_decline_or (k := false) (typeIs_str s b u) ⟨_, ho, rfl⟩ (by decide) F.sub_dict_str F.slot_str_eq F.slot_dict_eq_refl
    (fun _ hq => call_meets F.slot_str_eq (typeIs_str s b u) F.entry_str_eq (F.args_str_eq_2 _ _) (str_eq_declines_dct_str b u l es n dd sl) ⟨ho, hq⟩)
    (fun _ hq => call_meets F.slot_dict_eq_refl ⟨_, ho, rfl⟩ F.entry_dict_eq (F.args_dict_eq_2 _ _) (dict_eq_declines_str l es n dd sl b u) ⟨ho, hq⟩)
    (fun _ hq => wpAny_of_eq (rfl : isSame (.str b u) (.ref l) = pure false) hq) (.inr hu) h
theorem EqAt.str_dct {l : Addr} {es : Array DictEntry} {n : Nat} {dd : Option Addr} {sl : Array (Option Value)} (b : Str) (u : Tok) (ho : s.heap.get? l = some { cls := .type "dict", dict := dd, data := .dict es n, slots := sl }) (hu : A.units < cLine) : EqAt A s (.str b u) (.ref l) false := fun prog w E Q h => by
  unfold eqBool
  refine wpAny_holding ?_
  refine wpAny_ite_split (fun hab => absurd (eq_of_beq hab) nofun) (fun _ => ?_)
  exact wpAny_bind (RcAt.str_dct b u ho hu prog w E _ (wpAny_truthy_bool h))
theorem all_strs {h : Heap} : ∀ {vs : List Value} {ds : List PyData} {as : List Addr}, ReadsAll h vs ds as → (∀ d ∈ ds, ∃ x, d = PyData.str x) → ∀ v ∈ vs, ∃ x t, v = Value.str x t
  | [], _, _, _, _, v, hv => nomatch hv
  | v :: vs, ds, _, r0, hd, x, hx => by
    cases r0 with | cons r rs => ?_
    rename_i d _ _ _
    rcases List.mem_cons.mp hx with rfl | hx
    · obtain ⟨y, rfl⟩ := hd d List.mem_cons_self
      cases r
      exact ⟨_, _, rfl⟩
    · exact all_strs rs (fun d h => hd d (List.mem_cons_of_mem _ h)) x hx
end
end SeqAt
end PySem
namespace L2.DL
open L2 L2.My NdefX PySem PySem.Spec PyProof.Rows
def rInE (K : W.Frag) (b : Bool) : R2 := fun x y H Q => rInX K b x y H Q ∨ ∃ a kvs es, x = .ref a ∧ H a = some (.dK kvs) ∧ Dp K H y (.list es) ∧ (∀ d ∈ es, ∃ x, d = PyData.str x) ∧ Q (.bl (b == false)) H
section
variable {X : Cx}
theorem inE_items {pins : List (Addr × Obj)} {s : Shared} {σ : St} {H : Hp} {y : V} {v u : Value} {a : Addr} {kvs : List (Key × V)} {es : List PyData} (hu : X.A.units + 64 < cLine) (I : Inv X pins σ H s) (rx : RelV (.ref a) v) (ry : RelV y u)
    (ha : H a = some (.dK kvs)) (hy : Dp X.K H y (.list es)) (hs : ∀ d ∈ es, ∃ x, d = PyData.str x) : ∃ l items, v = .ref a ∧ u = .ref l ∧ s.heap.IsList l items ∧ ∀ z, z ∈ items → SeqAt.EqAt X.A.in1 s z v false := by
  cases (show v = Value.ref a from rx)
  obtain ⟨bs, r⟩ := Dp.reads I _ y u hy ry
  cases r with
  | list h1 h2 h3 h4 =>
    obtain ⟨_, _, _, _, o, es', ep, ho, hx, hd, _⟩ := dk_of I.hok ha
    refine ⟨_, _, rfl, rfl, ⟨_, h1, h2, _, h3⟩, fun z hz => ?_⟩
    obtain ⟨x, t, rfl⟩ := SeqAt.all_strs h4 hs z (by simpa using hz)
    obtain ⟨cls, dd, data, sl⟩ := o
    cases hd
    have hc : cls = .type "dict" := hx.1
    subst hc
    exact SeqAt.EqAt.str_dct x t ho (by show X.A.units + 1 < cLine; omega)
theorem op_inE (hu : X.A.units + 64 < cLine) : OpR X (compareOp .In) (rInE X.K true) := by
  intro pins s σ H x y v u Q I rx ry h
  rcases h with h | ⟨a, kvs, es, rfl, ha, hy, hs, q⟩
  · exact op_inX hu pins s σ H x y v u Q I rx ry h
  · obtain ⟨l, items, rfl, rfl, hl, he⟩ := inE_items hu I rx ry ha hy hs
    refine SeqAt.in_listAt (fun _ => false) hl he ⟨.bl false, H, I, ?_, by simpa using q⟩
    show Value.bool _ = Value.bool _
    simp
theorem op_notInE (hu : X.A.units + 64 < cLine) : OpR X (compareOp .NotIn) (rInE X.K false) := by
  intro pins s σ H x y v u Q I rx ry h
  rcases h with h | ⟨a, kvs, es, rfl, ha, hy, hs, q⟩
  · exact op_notInX hu pins s σ H x y v u Q I rx ry h
  · obtain ⟨l, items, rfl, rfl, hl, he⟩ := inE_items hu I rx ry ha hy hs
    refine SeqAt.notIn_listAt (fun _ => false) hl he ⟨.bl true, H, I, ?_, by simpa using q⟩
    show Value.bool _ = Value.bool _
    simp
end
def strD? : D → Bool
  | .v (.str _) => true
  | _ => false
def inDE (b : Bool) (x y : D) : Option D := match x, y with
  | .dct _, .lst ys => if ys.all strD? then some (dB (b == false)) else none
  | _, _ => inX b x y
theorem toPy_strD : ∀ {ys : List D}, ys.all strD? = true → ∃ es, toPyAll ys = some es ∧ ∀ d ∈ es, ∃ x, d = PyData.str x
  | [], _ => ⟨[], rfl, fun _ h => nomatch h⟩
  | y :: ys, h => by
    rw [List.all_cons, Bool.and_eq_true] at h
    obtain ⟨es, e, q⟩ := toPy_strD h.2
    have h1 := h.1
    unfold strD? at h1
    split at h1
    · rename_i x
      refine ⟨.str x :: es, by rw [toPyAll, e]; rfl, fun d hd => ?_⟩
      rcases List.mem_cons.mp hd with rfl | hd
      · exact ⟨x, rfl⟩
      · exact q d hd
    · cases h1
theorem p2_inE {K : W.Frag} {b : Bool} : P2 K .s (rInE K b) (inDE b) := by
  intro g m H v u d c e Q hm r1 r2 he k
  unfold inDE at he
  split at he
  · rename_i kvs ys
    split at he
    · rename_i l
      cases he
      obtain ⟨a, ws, rfl, h1, h2⟩ := RBo.dct r1
      obtain ⟨es, e3, q⟩ := toPy_strD l
      exact .inr ⟨a, _, es, rfl, h1, rb_dp r2 (by simp [toPy, e3]), q, k _ H (Same.refl _) (.v _)⟩
    · cases he
  · exact .inl (p2_inX hm r1 r2 he k)
end L2.DL
namespace L2.DL
open L2 L2.My NdefX PySem PySem.Spec PyProof.Rows
def rEqN (K : W.Frag) (b : Bool) : R2 := fun x y H Q => rEqP K b x y H Q ∨ ∃ a c xs, x = .ref a ∧ y = .ref c ∧ H a = some (.lst xs) ∧ H c = some (.lst []) ∧ Q (.bl (b == xs.isEmpty)) H
section
variable {X : Cx}
theorem two_lists {pins : List (Addr × Obj)} {s : Shared} {σ : St} {H : Hp} {v u : Value} {a c : Addr} {xs : List V} (I : Inv X pins σ H s) (rx : RelV (.ref a) v) (ry : RelV (.ref c) u)
    (ha : H a = some (.lst xs)) (hc : H c = some (.lst [])) : ∃ items : Array Value, v = .ref a ∧ u = .ref c ∧ s.heap.IsList a items ∧ s.heap.IsList c #[] ∧ xs.length = items.size := by
  cases (show v = Value.ref a from rx)
  cases (show u = Value.ref c from ry)
  obtain ⟨_, its, n, r, hl, e⟩ := I.lstM ha
  obtain ⟨_, its2, n2, r2, hl2, e2⟩ := I.lstM hc
  cases its2 with
  | nil => exact ⟨its.toArray, rfl, rfl, ⟨_, e, rfl, _, rfl⟩, ⟨_, e2, rfl, _, rfl⟩, by simpa using hl⟩
  | cons z its2 => cases hl2
theorem op_eqN (hu : X.A.units + 64 < cLine) : OpR X (compareOp .Eq) (rEqN X.K true) := by
  intro pins s σ H x y v u Q I rx ry h
  rcases h with h | ⟨a, c, xs, rfl, rfl, ha, hc, q⟩
  · exact op_eqP hu pins s σ H x y v u Q I rx ry h
  · obtain ⟨items, rfl, rfl, h1, h2, hl⟩ := two_lists I rx ry ha hc
    cases xs with
    | nil =>
      have hz : items.size = (#[] : Array Value).size := by rw [← hl]; rfl
      refine SeqAt.eq_listAt (e := fun _ => true) h1 h2 hz (by omega) (fun j hj _ => by rw [← hl] at hj; exact absurd hj (Nat.not_lt_zero j)) ⟨.bl true, H, I, ?_, q⟩
      show Value.bool _ = Value.bool _
      simp
    | cons x xs =>
      refine SeqAt.eq_list_lengthsAt h1 h2 (by rw [← hl]; simp) (by omega) ⟨.bl false, H, I, rfl, q⟩
theorem op_neN (hu : X.A.units + 64 < cLine) : OpR X (compareOp .NotEq) (rEqN X.K false) := by
  intro pins s σ H x y v u Q I rx ry h
  rcases h with h | ⟨a, c, xs, rfl, rfl, ha, hc, q⟩
  · exact op_neP hu pins s σ H x y v u Q I rx ry h
  · obtain ⟨items, rfl, rfl, h1, h2, hl⟩ := two_lists I rx ry ha hc
    cases xs with
    | nil =>
      have hz : items.size = (#[] : Array Value).size := by rw [← hl]; rfl
      refine SeqAt.RcNeAt.lists (e := fun _ => true) h1 h2 hz (by omega) (fun j hj _ => by rw [← hl] at hj; exact absurd hj (Nat.not_lt_zero j)) _ _ _ _ ⟨.bl false, H, I, ?_, q⟩
      show Value.bool _ = Value.bool _
      simp
    | cons x xs =>
      exact SeqAt.RcNeAt.lists_lengths h1 h2 (by rw [← hl]; simp) (by omega) _ _ _ _ ⟨.bl true, H, I, rfl, q⟩
end
def eqN (b : Bool) (x y : D) : Option D := match x, y with
  | .lst xs, .lst [] => some (dB (b == xs.isEmpty))
  | _, _ => eqD b x y
theorem p2_eqN {K : W.Frag} {b : Bool} : P2 K .s (rEqN K b) (eqN b) := by
  intro g m H v u d c e Q hm r1 r2 he k
  unfold eqN at he
  split at he
  · rename_i xs
    cases he
    obtain ⟨a, ws, rfl, h1, q1⟩ := RBo.lst r1
    obtain ⟨c, us, rfl, h2, q2⟩ := RBo.lst r2
    have e2 : us = [] := List.eq_nil_of_length_eq_zero (RAll.len q2)
    subst e2
    refine .inr ⟨a, c, ws, rfl, rfl, h1, h2, ?_⟩
    have : ws.isEmpty = xs.isEmpty := by
      have := RAll.len q1
      cases ws <;> cases xs <;> simp_all
    rw [this]
    exact k _ H (Same.refl _) (.v _)
  · exact .inl (p2_eq hm r1 r2 he k)
end L2.DL
namespace L2.DL
open L2 L2.My NdefX PySem PySem.Spec PyProof.Rows
open PM
section
variable {m : Type → Type} [PM m] [LM m] {α β γ δ : Type}
@[simp] theorem okL (a : α) (f : α → m β) (t : Tg f) : bndL (ok a : m α) f t = f a := ok_bnd a f
@[simp] theorem erL (x : Exn) (f : α → m β) (t : Tg f) : bndL (er x : m α) f t = er x := er_bnd x f
@[simp] theorem noL (f : α → m β) (t : Tg f) : bndL (no : m α) f t = no := no_bnd f
@[simp] theorem thK_nx (k : α → m (Ot β γ)) (b : α) : thK k (.nx b) = k b := rfl
@[simp] theorem thK_rt (k : α → m (Ot β γ)) (d : D) : thK k (.rt d) = ok (.rt d) := rfl
@[simp] theorem thK_bk (k : α → m (Ot β γ)) (d : γ) : thK k (.bk d) = ok (.bk d) := rfl
@[simp] theorem thK_ct (k : α → m (Ot β γ)) (d : γ) : thK k (.ct d) = ok (.ct d) := rfl
@[simp] theorem thV_ok (k : α → m (Ot β γ)) (o : Ot α γ) (t : Tg k) : thL (ok o) k t = thK k o := ok_bnd _ _
@[simp] theorem thV_no (k : α → m (Ot β γ)) (t : Tg k) : thL no k t = no := no_bnd _
@[simp] theorem thV_er (k : α → m (Ot β γ)) (x : Exn) (t : Tg k) : thL (er x) k t = er x := er_bnd _ _
@[simp] theorem retV_nx (b : β) : retV (ok (.nx b : Ot β γ) : m (Ot β γ)) = ok dN := ok_bnd _ _
@[simp] theorem retV_rt (d : D) : retV (ok (.rt d : Ot β γ) : m (Ot β γ)) = ok d := ok_bnd _ _
@[simp] theorem retV_er (x : Exn) : retV (er x : m (Ot β γ)) = er x := er_bnd _ _
@[simp] theorem retV_no : retV (no : m (Ot β γ)) = no := no_bnd _
@[simp] theorem forV_nil (body : D → β → m (Ot β β)) (b : β) (t : Tg body) : (forL body [] b t : m (Ot β γ)) = ok (.nx b) := rfl
/-- one turn -/
def turnV (body : D → β → m (Ot β β)) (r : List D) : Ot β β → m (Ot β γ)
  | .nx b' => forL body r b'
  | .ct b' => forL body r b'
  | .bk b' => ok (.nx b')
  | .rt d => ok (.rt d)
theorem forV_cons (body : D → β → m (Ot β β)) (d : D) (r : List D) (b : β) (t : Tg body) : (forL body (d :: r) b t : m (Ot β γ)) = bndL (body d b) (turnV body r) := by
  show bnd (body d b) _ = _
  refine congrArg (bnd (body d b)) (funext fun o => ?_)
  cases o <;> rfl
@[simp] theorem turnV_nx (body : D → β → m (Ot β β)) (r : List D) (b : β) : (turnV body r (.nx b) : m (Ot β γ)) = forL body r b := rfl
@[simp] theorem turnV_ct (body : D → β → m (Ot β β)) (r : List D) (b : β) : (turnV body r (.ct b) : m (Ot β γ)) = forL body r b := rfl
@[simp] theorem turnV_bk (body : D → β → m (Ot β β)) (r : List D) (b : β) : (turnV body r (.bk b) : m (Ot β γ)) = ok (.nx b) := rfl
@[simp] theorem turnV_rt (body : D → β → m (Ot β β)) (r : List D) (d : D) : (turnV body r (.rt d) : m (Ot β γ)) = ok (.rt d) := rfl
def turnW (c : β → m Bool) (body : β → m (Ot β β)) (n : Nat) : Ot β β → m (Ot β γ)
  | .nx b' => whiL c body n b'
  | .ct b' => whiL c body n b'
  | .bk b' => ok (.nx b')
  | .rt d => ok (.rt d)
@[simp] theorem turnW_nx (c : β → m Bool) (body : β → m (Ot β β)) (n : Nat) (b : β) : (turnW c body n (.nx b) : m (Ot β γ)) = whiL c body n b := rfl
@[simp] theorem turnW_ct (c : β → m Bool) (body : β → m (Ot β β)) (n : Nat) (b : β) : (turnW c body n (.ct b) : m (Ot β γ)) = whiL c body n b := rfl
@[simp] theorem turnW_bk (c : β → m Bool) (body : β → m (Ot β β)) (n : Nat) (b : β) : (turnW c body n (.bk b) : m (Ot β γ)) = ok (.nx b) := rfl
@[simp] theorem turnW_rt (c : β → m Bool) (body : β → m (Ot β β)) (n : Nat) (d : D) : (turnW c body n (.rt d) : m (Ot β γ)) = ok (.rt d) := rfl
@[simp] theorem op1_ok (f : D → Option D) (x : D) : op1 f (ok x : m D) = lif (f x) := ok_bnd _ _
@[simp] theorem op2_ok (f : D → D → Option D) (x y : D) : op2 f (ok x : m D) (ok y) = lif (f x y) := by unfold op2; rw [ok_bnd, ok_bnd]
@[simp] theorem op3_ok (f : D → Option Int → Option Int → Option D) (x : D) (a b : Option Int) : op3 f (ok x : m D) (ok a) (ok b) = lif (f x a b) := by unfold op3; rw [ok_bnd, ok_bnd, ok_bnd]
@[simp] theorem seqV_nil : seqV ([] : List (m D)) = ok [] := rfl
@[simp] theorem seqV_cons (a : D) (r : List (m D)) : seqV (ok a :: r) = bnd (seqV r) fun xs => ok (a :: xs) := ok_bnd _ _
@[simp] theorem tst_ok (b : Bool) : tst (ok (dB b) : m D) = ok b := ok_bnd _ _
@[simp] theorem andB_ok (a : Bool) (b : m Bool) (t : Tg b) : andL (ok a) b t = if a = true then b else ok false := ok_bnd _ _
@[simp] theorem orB_ok (a : Bool) (b : m Bool) (t : Tg b) : orL (ok a) b t = if a = true then ok true else b := ok_bnd _ _
@[simp] theorem notB_ok (a : Bool) : notB (ok a : m Bool) = ok (!a) := ok_bnd _ _
@[simp] theorem andX_ok (a : Bool) (b : m D) (t : Tg b) : andXL (ok (dB a)) b t = if a = true then b else ok (dB false) := by unfold andXL andX; rw [ok_bnd]; exact ok_bnd _ _
@[simp] theorem orX_ok (a : Bool) (b : m D) (t : Tg b) : orXL (ok (dB a)) b t = if a = true then ok (dB true) else b := by unfold orXL orX; rw [ok_bnd]; exact ok_bnd _ _
@[simp] theorem notX_ok (a : Bool) : notX (ok (dB a) : m D) = ok (dB !a) := by unfold notX; rw [ok_bnd]; exact ok_bnd _ _
@[simp] theorem ifV_ok (c : Bool) (a b : m α) (t : Tg a) (t2 : Tg b) : ifL (ok c) a b t t2 = if c = true then a else b := ok_bnd _ _
@[simp] theorem intV_ok (i : Int) : intV (ok (dI i) : m D) = ok (some i) := by unfold intV; rw [ok_bnd]; exact ok_bnd _ _
@[simp] theorem itV_ok (x : D) : itV (ok x : m D) = lif (asIt x) := ok_bnd _ _
@[simp] theorem asLs_ok (xs : List D) : asLs (ok (.lst xs) : m D) = ok xs := ok_bnd _ _
@[simp] theorem asDc_ok (xs : List (Key × D)) : asDc (ok (.dct xs) : m D) = ok xs := ok_bnd _ _
theorem appV_ok {xs : List D} (d : D) (h : xs.length < sizeLine) : appV xs (ok d : m D) = ok (xs ++ [d]) := by unfold appV; rw [ok_bnd, if_pos h]
@[simp] theorem rng1_ok {j : Int} (h : inR j = true) : rng1 (ok (dI j) : m D) = ok (rngD 0 j) := by unfold rng1; rw [ok_bnd]; exact if_pos h
@[simp] theorem pp2_ok (x : D) (ys : List D) (k : D → List D → m α) (t : Tg k) : pp2L (ok (x, ys)) k t = k x ys := ok_bnd _ _
@[simp] theorem un2_ok (a b : D) (k : D → D → m α) (t : Tg k) : un2L (.tup [a, b]) k t = k a b := rfl
@[simp] theorem un3_ok (a b c : D) (k : D → D → D → m α) (t : Tg k) : un3L (.tup [a, b, c]) k t = k a b c := rfl
@[simp] theorem un4_ok (a b c d : D) (k : D → D → D → D → m α) (t : Tg k) : un4L (.tup [a, b, c, d]) k t = k a b c d := rfl
@[simp] theorem un5_ok (a b c d e : D) (k : D → D → D → D → D → m α) (t : Tg k) : un5L (.tup [a, b, c, d, e]) k t = k a b c d e := rfl
@[simp] theorem stp_ok (c : Bool) (a : m D) (t : Tg a) : stpL (ok c) a t = if c = true then bnd a fun x => ok (some x) else ok none := ok_bnd _ _
@[simp] theorem asIt_l (xs : List D) : asIt (.lst xs) = some xs := rfl
@[simp] theorem asIt_t (xs : List D) : asIt (.tup xs) = some xs := rfl
@[simp] theorem asIt_s (z : Str) : asIt (dS z) = some (z.cps.toList.map fun c => dS ⟨#[c]⟩) := rfl
@[simp] theorem prm3 (a b c : D) : prm [2, 1, 0] [a, b, c] = [c, b, a] := rfl
end
theorem atI_nat {α : Type} {xs : List α} {k : Int} {x : α} (hk : 0 ≤ k) (h : xs[k.toNat]? = some x) : atI xs k = some x := by
  unfold atI ixN
  have l : k.toNat < xs.length := (List.getElem?_eq_some_iff.mp h).1
  rw [if_pos hk, if_pos (by omega)]
  exact h
theorem ixD_t {xs : List D} {k : Int} {x : D} (hk : 0 ≤ k) (h : xs[k.toNat]? = some x) : ixD (.tup xs) (dI k) = some x := atI_nat hk h
theorem ixD_l {xs : List D} {k : Int} {x : D} (hk : 0 ≤ k) (h : xs[k.toNat]? = some x) : ixD (.lst xs) (dI k) = some x := atI_nat hk h
@[simp] theorem ixD_t0 {x : D} {r : List D} : ixD (.tup (x :: r)) (dI 0) = some x := ixD_t (by decide) rfl
@[simp] theorem ixD_t1 {x y : D} {r : List D} : ixD (.tup (x :: y :: r)) (dI 1) = some y := ixD_t (by decide) rfl
@[simp] theorem ixD_t2 {x y z : D} {r : List D} : ixD (.tup (x :: y :: z :: r)) (dI 2) = some z := ixD_t (by decide) rfl
@[simp] theorem ixD_t3 {x y z u : D} {r : List D} : ixD (.tup (x :: y :: z :: u :: r)) (dI 3) = some u := ixD_t (by decide) rfl
@[simp] theorem ixD_l0 {x : D} {r : List D} : ixD (.lst (x :: r)) (dI 0) = some x := ixD_l (by decide) rfl
@[simp] theorem ixD_l1 {x y : D} {r : List D} : ixD (.lst (x :: y :: r)) (dI 1) = some y := ixD_l (by decide) rfl
@[simp] theorem ixD_l2 {x y z : D} {r : List D} : ixD (.lst (x :: y :: z :: r)) (dI 2) = some z := ixD_l (by decide) rfl
@[simp] theorem isD_n {b : Bool} : isD b dN dN = some (dB b) := by cases b <;> rfl
@[simp] theorem isD_b {b x : Bool} : isD b (dB x) dN = some (dB !b) := by cases b <;> rfl
@[simp] theorem isD_i {b : Bool} {x : Int} : isD b (dI x) dN = some (dB !b) := by cases b <;> rfl
@[simp] theorem isD_s {b : Bool} {x : Str} : isD b (dS x) dN = some (dB !b) := by cases b <;> rfl
@[simp] theorem isD_t {b : Bool} {x : List D} : isD b (.tup x) dN = some (dB !b) := by cases b <;> rfl
@[simp] theorem isD_l {b : Bool} {x : List D} : isD b (.lst x) dN = some (dB !b) := by cases b <;> rfl
@[simp] theorem isD_d {b : Bool} {x : List (Key × D)} : isD b (.dct x) dN = some (dB !b) := by cases b <;> rfl
@[simp] theorem isD_o {b : Bool} {C : Addr} {x : List (Str × D)} : isD b (.obj C x) dN = some (dB !b) := by cases b <;> rfl
@[simp] theorem isD_x {b : Bool} {C : Addr} {x : List (Str × D)} : isD b (.exc C x) dN = some (dB !b) := by cases b <;> rfl
@[simp] theorem isD_bb {b x y : Bool} : isD b (dB x) (dB y) = some (dB (b == decide (x = y))) := rfl
@[simp] theorem addD_i {i j : Int} : addD (dI i) (dI j) = some (dI (i + j)) := rfl
@[simp] theorem subV_i {i j : Int} : subV (dI i) (dI j) = some (dI (i - j)) := rfl
theorem addD_t {xs ys : List D} (h : xs.length + ys.length ≤ 1000) : addD (.tup xs) (.tup ys) = some (.tup (xs ++ ys)) := if_pos (le_line h)
theorem addD_l {xs ys : List D} (h : xs.length + ys.length ≤ 1000) : addD (.lst xs) (.lst ys) = some (.lst (xs ++ ys)) := if_pos (le_line h)
@[simp] theorem lenD_l' {xs : List D} : lenD (.lst xs) = some (dI xs.length) := rfl
@[simp] theorem lenD_t' {xs : List D} : lenD (.tup xs) = some (dI xs.length) := rfl
@[simp] theorem cmpD_i' {p : Int → Int → Bool} {q : List Nat → List Nat → Bool} {i j : Int} : cmpD p q (dI i) (dI j) = some (dB (p i j)) := rfl
@[simp] theorem eqD_s' {b : Bool} {x y : Str} : eqD b (dS x) (dS y) = some (dB (b == (x == y))) := eqD_s
@[simp] theorem eqD_i' {b : Bool} {x y : Int} : eqD b (dI x) (dI y) = some (dB (b == (x == y))) := eqD_i
@[simp] theorem eqD_b' {b x y : Bool} : eqD b (dB x) (dB y) = some (dB (b == (x == y))) := eqD_b
@[simp] theorem eqD_n' {b : Bool} : eqD b dN dN = some (dB b) := eqD_n
@[simp] theorem eqD_in' {b : Bool} {x : Int} : eqD b (dI x) dN = some (dB !b) := eqD_in
@[simp] theorem eqD_ni' {b : Bool} {x : Int} : eqD b dN (dI x) = some (dB !b) := eqD_ni
@[simp] theorem eqD_sn' {b : Bool} {x : Str} : eqD b (dS x) dN = some (dB !b) := eqD_sn
@[simp] theorem eqD_ns' {b : Bool} {x : Str} : eqD b dN (dS x) = some (dB !b) := eqD_ns
section
variable {m : Type → Type} [PM m] [LM m] {α β γ δ : Type}
/-- comprehensions: what is gone through is told by e, what is kept by g -/
theorem lcG_map {ι : Type} (e : ι → D) (g : ι → Option D) (st : D → m (Option D)) : ∀ (xs : List ι), (∀ x ∈ xs, st (e x) = ok (g x)) → lcG st (xs.map e) = ok (xs.filterMap g)
  | [], _ => rfl
  | x :: r, h => by
    rw [List.map_cons, lcG, h x List.mem_cons_self, nox_okk, ok_bnd, lcG_map e g st r fun y hy => h y (List.mem_cons_of_mem _ hy), ok_bnd]
    cases q : g x with
    | none => rw [List.filterMap_cons_none q]
    | some d => rw [List.filterMap_cons_some q]
theorem lcV_map {ι : Type} (e : ι → D) (g : ι → Option D) {st : D → m (Option D)} {xs : List ι} (hl : xs.length ≤ sizeLine) (h : ∀ x ∈ xs, st (e x) = ok (g x)) : lcL (ok (xs.map e)) st = ok (.lst (xs.filterMap g)) := by
  unfold lcL lcV
  rw [ok_bnd, if_pos (by rw [List.length_map]; exact hl), lcG_map e g st xs h, ok_bnd]
theorem filterMap_if {ι κ : Type} (p : ι → Bool) (f : ι → κ) : ∀ l : List ι, (l.filterMap fun x => if p x = true then some (f x) else none) = (l.filter p).map f
  | [] => rfl
  | x :: r => by
    cases q : p x with
    | true => rw [List.filterMap_cons_some (b := f x) (by rw [q]; rfl), List.filter_cons_of_pos (by rw [q]), List.map_cons, filterMap_if p f r]
    | false => rw [List.filterMap_cons_none (by rw [q]; rfl), List.filter_cons_of_neg (by rw [q]; decide), filterMap_if p f r]
theorem filterMap_all {ι κ : Type} (f : ι → κ) (l : List ι) : (l.filterMap fun x => some (f x)) = l.map f := by
  rw [← List.filterMap_eq_map]
  rfl
theorem lcV_if {ι : Type} (e : ι → D) (p : ι → Bool) (f : ι → D) {st : D → m (Option D)} {xs : List ι} (hl : xs.length ≤ sizeLine) (h : ∀ x ∈ xs, st (e x) = ok (if p x = true then some (f x) else none)) : lcL (ok (xs.map e)) st = ok (.lst ((xs.filter p).map f)) := by
  rw [lcV_map e _ hl h, filterMap_if]
theorem lcV_all {ι : Type} (e : ι → D) (f : ι → D) {st : D → m (Option D)} {xs : List ι} (hl : xs.length ≤ sizeLine) (h : ∀ x ∈ xs, st (e x) = ok (some (f x))) : lcL (ok (xs.map e)) st = ok (.lst (xs.map f)) := by
  rw [lcV_map e _ hl h, filterMap_all]
theorem lcV_stp {ι : Type} (e : ι → D) (p : ι → Bool) (f : ι → D) {c : D → m Bool} {a : D → m D} {xs : List ι} (hl : xs.length ≤ sizeLine) (h : ∀ x ∈ xs, c (e x) = ok (p x)) (h2 : ∀ x ∈ xs, p x = true → a (e x) = ok (f x)) : lcL (ok (xs.map e)) (fun d => stpL (c d) (a d)) = ok (.lst ((xs.filter p).map f)) :=
  lcV_if e p f hl fun x hx => by
    rw [h x hx, stp_ok]
    cases q : p x with
    | true => rw [if_pos rfl, if_pos rfl, h2 x hx q, ok_bnd]
    | false => rw [if_neg (by decide), if_neg (by decide)]
end
theorem cut_hi {β : Type} {xs : List β} {i : Int} (h : 0 ≤ i) : cutL xs none (some i) = xs.take i.toNat := by
  obtain ⟨k, rfl⟩ : ∃ k : Nat, i = k := ⟨i.toNat, by omega⟩
  unfold cutL
  rw [HT.sIx_none, HT.sIx_nat, List.drop_zero, Nat.sub_zero, Int.toNat_natCast, ← List.take_eq_take_min]
theorem cut_lo {β : Type} {xs : List β} {i : Int} (h : 0 ≤ i) : cutL xs (some i) none = xs.drop i.toNat := by
  obtain ⟨k, rfl⟩ : ∃ k : Nat, i = k := ⟨i.toNat, by omega⟩
  unfold cutL
  rw [HT.sIx_none, HT.sIx_nat, Int.toNat_natCast]
  by_cases hk : k ≤ xs.length
  · rw [Nat.min_eq_left hk, List.take_of_length_le (by rw [List.length_drop]; omega)]
  · rw [Nat.min_eq_right (by omega), Nat.sub_self, List.take_zero, List.drop_of_length_le (by omega)]
@[simp] theorem slD_th {xs : List D} {i : Int} (h : 0 ≤ i) : slD (.tup xs) none (some i) = some (.tup (xs.take i.toNat)) := congrArg (fun x => some (D.tup x)) (cut_hi h)
@[simp] theorem slD_tl {xs : List D} {i : Int} (h : 0 ≤ i) : slD (.tup xs) (some i) none = some (.tup (xs.drop i.toNat)) := congrArg (fun x => some (D.tup x)) (cut_lo h)
section
variable {α β γ : Type} {P P' : α → Prop}
theorem All_ok {c : Nat} {a : α} (h : P a) : Tm.All c P (ok a : Tm α) := h
theorem All_bndL {Q : β → Prop} {x : Tm α} {f : α → Tm β} {t : Tg f} (c1 c2 : Nat) {c : Nat} (P : α → Prop) (h : Tm.All c1 P x) (k : ∀ a, P a → Tm.All c2 Q (f a)) (hc : c1 + c2 ≤ c) : Tm.All c Q (bndL x f t) := Tm.All.imp hc (fun _ z => z) (Tm.All.bnd k h)
theorem All_bnd {Q : β → Prop} {x : Tm α} {f : α → Tm β} (c1 c2 : Nat) {c : Nat} (P : α → Prop) (h : Tm.All c1 P x) (k : ∀ a, P a → Tm.All c2 Q (f a)) (hc : c1 + c2 ≤ c) : Tm.All c Q (bnd x f) := Tm.All.imp hc (fun _ z => z) (Tm.All.bnd k h)
theorem All_imp {x : Tm α} {c c' : Nat} (h : Tm.All c P x) (hc : c ≤ c') (k : ∀ a, P a → P' a) : Tm.All c' P' x := Tm.All.imp hc k h
theorem All_drw {n : Int} (h : 0 < n) (h2 : n.natAbs < 2 ^ 200) : Tm.All 1 (fun d => ∃ i : Int, 0 ≤ i ∧ i < n ∧ d = dI i) (drw (ok (dI n))) := ⟨h, h2, 0, rfl, fun d h1 h2 => ⟨d, h1, h2, rfl⟩⟩
/-- a loop that draws: at most c draws a turn -/
theorem All_for {ι : Type} (e : ι → D) (c : Nat) (I : List ι → β → Prop) (body : D → β → Tm (Ot β β)) (h : ∀ x r b, I (x :: r) b → Tm.All c (fun o => ∃ b', o = .nx b' ∧ I r b') (body (e x) b)) : ∀ (xs : List ι) (b : β), I xs b → Tm.All (c * xs.length) (fun o => ∃ b', o = (.nx b' : Ot β γ) ∧ I [] b') (forL body (xs.map e) b)
  | [], b, i => ⟨b, rfl, i⟩
  | x :: r, b, i => by
    rw [List.map_cons, forV_cons]
    refine All_bndL c (c * r.length) _ (h x r b i) ?_ (by rw [List.length_cons, Nat.mul_add]; omega)
    rintro o ⟨b', rfl, i'⟩
    exact All_for e c I body h r b' i'
theorem All_wp {P : D → Prop} {x : Tm D} {c : Nat} (h : Tm.All c P x) (hc : c ≤ 100000) (k : ∀ d, P d → d = dB true) : Tm.wp x 0 (fun d _ => d = dB true) fun _ _ => False := Tm.All.wp h (by omega) fun d _ p _ _ => k d p
end
end L2.DL
namespace L2.DL
open L2 L2.My NdefX PySem PySem.Spec PyProof.Rows
open PM
/-- d can be shown: n bounds its text, h its depth -/
def Sh (n h : Nat) (d : D) : Prop := ∃ p, toQ d = some p ∧ p.showable = true ∧ p.depth ≤ h ∧ p.shown.length ≤ n
def Shs (n h : Nat) (ds : List D) : Prop := ∃ ps, toQs ds = some ps ∧ PyData.showableAll ps = true ∧ PyData.depthAll ps ≤ h ∧ piled (PyData.shownAll ps) ≤ n
theorem Sh.mono {n n' h h' : Nat} {d : D} (a : n ≤ n') (b : h ≤ h') (s : Sh n h d) : Sh n' h' d := by
  obtain ⟨p, e1, e2, e3, e4⟩ := s
  exact ⟨p, e1, e2, by omega, by omega⟩
theorem Shs.mono {n n' h h' : Nat} {d : List D} (a : n ≤ n') (b : h ≤ h') (s : Shs n h d) : Shs n' h' d := by
  obtain ⟨p, e1, e2, e3, e4⟩ := s
  exact ⟨p, e1, e2, by omega, by omega⟩
theorem Sh.tup {n h : Nat} {ds : List D} (a : Sh n h (.tup ds)) : ∃ h', h' + 1 = h ∧ Shs n h' ds := by
  obtain ⟨p, e1, e2, e3, e4⟩ := a
  rw [toQ] at e1
  obtain ⟨ps, e5, rfl⟩ := Option.map_eq_some_iff.mp e1
  rw [PyData.showable] at e2
  rw [PyData.depth] at e3
  rw [PyData.shown, tupleText, strLen_append, strLen_append] at e4
  refine ⟨h - 1, by omega, ps, e5, e2, by omega, ?_⟩
  have l1 : ("(" : Str).length = 1 := rfl
  have l2 : 1 ≤ ((if (PyData.shownAll ps).length == 1 then ",)" else ")" : String) : Str).length := by split <;> decide
  cases q : PyData.shownAll ps with
  | nil => exact Nat.zero_le _
  | cons t ts =>
    have := join_length_add (t :: ts) (by simp)
    rw [q] at e4 l2
    omega
theorem Sh.lst {n h : Nat} {ds : List D} (a : Sh n h (.lst ds)) : ∃ h', h' + 1 = h ∧ Shs n h' ds := by
  obtain ⟨p, e1, e2, e3, e4⟩ := a
  rw [toQ] at e1
  obtain ⟨ps, e5, rfl⟩ := Option.map_eq_some_iff.mp e1
  rw [PyData.showable] at e2
  rw [PyData.depth] at e3
  rw [PyData.shown, listText_eq_join, strLen_append, strLen_append] at e4
  refine ⟨h - 1, by omega, ps, e5, e2, by omega, ?_⟩
  have l1 : ("[" : Str).length = 1 := rfl
  have l2 : ("]" : Str).length = 1 := rfl
  cases q : PyData.shownAll ps with
  | nil => exact Nat.zero_le _
  | cons t ts =>
    have := join_length_add (t :: ts) (by simp)
    rw [q] at e4
    omega
theorem sh_bl {n h : Nat} {b : Bool} (hn : 5 ≤ n) : Sh n h (dB b) := ⟨.bool b, rfl, rfl, Nat.zero_le _, by cases b <;> (refine Nat.le_trans ?_ hn; decide)⟩
theorem repr_Sh {n h : Nat} {d : D} (s : Sh n h d) (hn : n ≤ sizeLine) (hh : h ≤ 60) : ∃ z, reprQ d = some (dS z) := by
  obtain ⟨p, e1, e2, e3, e4⟩ := s
  unfold reprQ reprX
  split
  · simp [toQ] at e1
  · rw [e1]
    exact ⟨p.shown, if_pos ⟨e2, by omega, by omega⟩⟩
end L2.DL
namespace L2.DL
open L2 L2.My NdefX PySem PySem.Spec PyProof.Rows
open PM
section
variable {α β γ : Type} {c1 c2 c : Nat}
theorem All_le {P : α → Prop} {x : Tm α} (h : Tm.All c1 P x) (hc : c1 ≤ c) : Tm.All c P x := Tm.All.imp hc (fun _ z => z) h
theorem All_to {P Q : α → Prop} {x : Tm α} (h : Tm.All c P x) (k : ∀ a, P a → Q a) : Tm.All c Q x := Tm.All.imp (Nat.le_refl _) k h
theorem All_drw' {n : Int} {x : Tm D} (e : x = ok (dI n)) (h : 0 < n) (h2 : n.natAbs < 2 ^ 200) : Tm.All 1 (fun d => ∃ i : Int, 0 ≤ i ∧ i < n ∧ d = dI i) (drw x) := e ▸ All_drw h h2
/-- how a block may end, for what is returned -/
def oRt (P : D → Prop) : Ot β γ → Prop
  | .nx _ => P dN
  | .rt d => P d
  | _ => False
theorem All_retV {P : D → Prop} {x : Tm (Ot β γ)} (h : Tm.All c (oRt P) x) : Tm.All c P (retV x) := by
  refine All_bnd c 0 _ h ?_ (Nat.le_refl _)
  rintro o p
  cases o with
  | nx b => exact p
  | rt d => exact p
  | bk b => exact p.elim
  | ct b => exact p.elim
theorem All_thL {I : α → Prop} {Q : Ot β γ → Prop} {x : Tm (Ot α γ)} {k : α → Tm (Ot β γ)} {t : Tg k} (c1 c2 : Nat) (h : Tm.All c1 (fun o => ∃ b, o = .nx b ∧ I b) x) (hk : ∀ b, I b → Tm.All c2 Q (k b)) (hc : c1 + c2 ≤ c) : Tm.All c Q (thL x k t) := by
  refine All_bnd c1 c2 _ h ?_ hc
  rintro o ⟨b, rfl, i⟩
  exact hk b i
theorem All_ifL {P : Bool → Prop} {Q : α → Prop} {u : Tm Bool} {a b : Tm α} {t1 : Tg a} {t2 : Tg b} (c1 c2 : Nat) (h : Tm.All c1 P u) (ht : P true → Tm.All c2 Q a) (hf : P false → Tm.All c2 Q b) (hc : c1 + c2 ≤ c) : Tm.All c Q (ifL u a b t1 t2) := by
  refine All_bnd c1 c2 _ h ?_ hc
  intro z p
  cases z with
  | true => exact ht p
  | false => exact hf p
theorem All_tst {P : D → Prop} {Q : Bool → Prop} {x : Tm D} (h : Tm.All c P x) (k : ∀ d, P d → ∃ b, asB d = some b ∧ Q b) : Tm.All c Q (tst x) := by
  refine All_bnd c 0 _ h ?_ (Nat.le_refl _)
  intro d p
  obtain ⟨b, e, q⟩ := k d p
  rw [e]
  exact q
theorem All_op1 {P Q : D → Prop} {f : D → Option D} {x : Tm D} (h : Tm.All c P x) (k : ∀ d, P d → ∃ b, f d = some b ∧ Q b) : Tm.All c Q (op1 f x) := by
  refine All_bnd c 0 _ h ?_ (Nat.le_refl _)
  intro d p
  obtain ⟨b, e, q⟩ := k d p
  rw [e]
  exact q
theorem All_op2 {P1 P2 Q : D → Prop} {f : D → D → Option D} {x y : Tm D} (c1 c2 : Nat) (h : Tm.All c1 P1 x) (h2 : Tm.All c2 P2 y) (k : ∀ d e, P1 d → P2 e → ∃ b, f d e = some b ∧ Q b) (hc : c1 + c2 ≤ c) : Tm.All c Q (op2 f x y) := by
  refine All_bnd c1 c2 _ h ?_ hc
  intro d p
  refine All_bnd c2 0 _ h2 ?_ (Nat.le_refl _)
  intro e q
  obtain ⟨b, eq, q⟩ := k d e p q
  rw [eq]
  exact q
/-- only the right, only the left operand is drawn -/
theorem All_op2r {P2 Q : D → Prop} {f : D → D → Option D} {x : D} {y : Tm D} (h2 : Tm.All c P2 y) (k : ∀ e, P2 e → ∃ b, f x e = some b ∧ Q b) : Tm.All c Q (op2 f (ok x) y) := All_op2 (P1 := fun d => d = x) 0 c rfl h2 (fun d e a b => a ▸ k e b) (by omega)
theorem All_op2l {P1 Q : D → Prop} {f : D → D → Option D} {x : Tm D} {y : D} (h : Tm.All c P1 x) (k : ∀ d, P1 d → ∃ b, f d y = some b ∧ Q b) : Tm.All c Q (op2 f x (ok y)) := All_op2 (P2 := fun d => d = y) c 0 h rfl (fun d e a b => b ▸ k d a) (by omega)
theorem All_rng1 {P : D → Prop} {Q : List D → Prop} {x : Tm D} (h : Tm.All c P x) (k : ∀ d, P d → ∃ j, d = dI j ∧ inR j = true ∧ Q (rngD 0 j)) : Tm.All c Q (rng1 x) := by
  refine All_bnd c 0 _ h ?_ (Nat.le_refl _)
  intro d p
  obtain ⟨j, rfl, e, q⟩ := k d p
  show Tm.All 0 Q (if inR j = true then ok (rngD 0 j) else no)
  rw [if_pos e]
  exact q
theorem All_appV {P : D → Prop} {Q : List D → Prop} {xs : List D} {x : Tm D} (h : Tm.All c P x) (hl : xs.length < sizeLine) (k : ∀ d, P d → Q (xs ++ [d])) : Tm.All c Q (appV xs x) := by
  refine All_bnd c 0 _ h ?_ (Nat.le_refl _)
  intro d p
  rw [if_pos hl]
  exact k d p
@[simp] theorem penV0 (f : Tm D) : penV (ap0 f) [] = f := by cases f <;> rfl
@[simp] theorem penV1 (f : D → Tm D) (a : D) : penV (ap1 f) [ok a] = f a := rfl
@[simp] theorem penV2 (f : D → D → Tm D) (a b : D) : penV (ap2 f) [ok a, ok b] = f a b := rfl
@[simp] theorem penV3 (f : D → D → D → Tm D) (a b c : D) : penV (ap3 f) [ok a, ok b, ok c] = f a b c := rfl
@[simp] theorem penV4 (f : D → D → D → D → Tm D) (a b c d : D) : penV (ap4 f) [ok a, ok b, ok c, ok d] = f a b c d := rfl
@[simp] theorem calV0 {m : Type → Type} [PM m] [LM m] (f : Om D) : calV (m := m) (ap0 f) [] = lft f := by simp [calV]
@[simp] theorem calV1 {m : Type → Type} [PM m] [LM m] (f : D → Om D) (a : D) : calV (m := m) (ap1 f) [ok a] = lft (f a) := by simp [calV]
@[simp] theorem calV2 {m : Type → Type} [PM m] [LM m] (f : D → D → Om D) (a b : D) : calV (m := m) (ap2 f) [ok a, ok b] = lft (f a b) := by simp [calV]
@[simp] theorem calV3 {m : Type → Type} [PM m] [LM m] (f : D → D → D → Om D) (a b c : D) : calV (m := m) (ap3 f) [ok a, ok b, ok c] = lft (f a b c) := by simp [calV]
@[simp] theorem calV4 {m : Type → Type} [PM m] [LM m] (f : D → D → D → D → Om D) (a b c d : D) : calV (m := m) (ap4 f) [ok a, ok b, ok c, ok d] = lft (f a b c d) := by simp [calV]
@[simp] theorem calV5 {m : Type → Type} [PM m] [LM m] (f : D → D → D → D → D → Om D) (a b c d e : D) : calV (m := m) (ap5 f) [ok a, ok b, ok c, ok d, ok e] = lft (f a b c d e) := by simp [calV]
/-- displays -/
@[simp] theorem tupV0 {m : Type → Type} [PM m] [LM m] : tupV (m := m) [] = ok (.tup []) := by simp [tupV]
@[simp] theorem lstV0 {m : Type → Type} [PM m] [LM m] : lstV (m := m) [] = ok (.lst []) := by simp [lstV]
@[simp] theorem tupV1 {m : Type → Type} [PM m] [LM m] (a : D) : tupV (m := m) [ok a] = ok (.tup [a]) := by simp [tupV]
@[simp] theorem lstV1 {m : Type → Type} [PM m] [LM m] (a : D) : lstV (m := m) [ok a] = ok (.lst [a]) := by simp [lstV]
@[simp] theorem tupV2 {m : Type → Type} [PM m] [LM m] (a b : D) : tupV (m := m) [ok a, ok b] = ok (.tup [a, b]) := by simp [tupV]
@[simp] theorem lstV2 {m : Type → Type} [PM m] [LM m] (a b : D) : lstV (m := m) [ok a, ok b] = ok (.lst [a, b]) := by simp [lstV]
@[simp] theorem tupV3 {m : Type → Type} [PM m] [LM m] (a b c : D) : tupV (m := m) [ok a, ok b, ok c] = ok (.tup [a, b, c]) := by simp [tupV]
@[simp] theorem lstV3 {m : Type → Type} [PM m] [LM m] (a b c : D) : lstV (m := m) [ok a, ok b, ok c] = ok (.lst [a, b, c]) := by simp [lstV]
@[simp] theorem tupV4 {m : Type → Type} [PM m] [LM m] (a b c d : D) : tupV (m := m) [ok a, ok b, ok c, ok d] = ok (.tup [a, b, c, d]) := by simp [tupV]
@[simp] theorem lstV4 {m : Type → Type} [PM m] [LM m] (a b c d : D) : lstV (m := m) [ok a, ok b, ok c, ok d] = ok (.lst [a, b, c, d]) := by simp [lstV]
theorem All_seqN {Q : List D → Prop} (h : Q []) : Tm.All c Q (seqV ([] : List (Tm D))) := h
theorem All_seqC {P : D → Prop} {Q : List D → Prop} {x : Tm D} {r : List (Tm D)} (c1 c2 : Nat) (h : Tm.All c1 P x) (k : ∀ d, P d → Tm.All c2 (fun xs => Q (d :: xs)) (seqV r)) (hc : c1 + c2 ≤ c) : Tm.All c Q (seqV (x :: r)) := by
  refine All_bnd c1 c2 _ h (fun d p => ?_) hc
  exact All_bnd c2 0 _ (k d p) (fun xs q => q) (Nat.le_refl _)
theorem All_tupV {Q : D → Prop} {l : List (Tm D)} (h : Tm.All c (fun xs => Q (.tup xs)) (seqV l)) : Tm.All c Q (tupV l) := All_bnd c 0 _ h (fun xs q => q) (Nat.le_refl _)
theorem All_lstV {Q : D → Prop} {l : List (Tm D)} (h : Tm.All c (fun xs => Q (.lst xs)) (seqV l)) : Tm.All c Q (lstV l) := All_bnd c 0 _ h (fun xs q => q) (Nat.le_refl _)
end
theorem rngD_nat (n : Nat) : rngD 0 (n : Int) = (List.range n).map fun (i : Nat) => dI (i : Int) := by
  unfold rngD
  simp
end L2.DL
namespace L2.HK
open L2 L2.My L2.DL NdefX PySem PySem.Spec PyProof.Rows
open He (ga ma eqO eqO_ok frG frG_in ba relB relB_ok relAll relAll_ok dicW dicW_ok keysIn)
def DefAt (K : W.Frag) (x : Str) (st : Stmt) : Prop := ∃ (f : Addr) (oc kV doc pm cdv ct : Value) (od an : Option Addr) (osl : Array (Option Value)), W.nsIn K mainGlobals x = some (some (.ref f)) ∧ K.lookup f = some ⟨oc, od, .func (W.fnOf x x (defArgs st) (defBody st) (defScope st) .none kV doc pm an cdv ct), osl⟩ ∧ W.codeIn K cdv x = true ∧ W.keepIn K (.ref f) = true
def MetAt (K : W.Frag) (C : Addr) (m q : Str) (st : Stmt) : Prop := ∃ (f : Addr) (oc kV doc pm cdv ct : Value) (od an : Option Addr) (osl : Array (Option Value)), W.findIn K (.ref C) m = some (some (.ref f)) ∧ W.isFn K (.ref f) = true ∧ K.lookup f = some ⟨oc, od, .func (W.fnOf m q (defArgs st) (defBody st) (defScope st) .none kV doc pm an cdv ct), osl⟩ ∧ W.codeIn K cdv q = true ∧ W.keepIn K (.ref f) = true
def SupAt (P : Program) (K : W.Frag) (C : Addr) (m q : Str) (st : Stmt) : Prop := ∃ (f c cc : Addr) (kV doc pm ct : Value) (an : Option Addr), W.findIn K (.ref C) m = some (some (.ref f)) ∧ W.isFn K (.ref f) = true ∧ FunS P K m q st f (supFn m q st kV doc pm an (.ref c) ct cc) c cc C
def ClmAt (K : W.Frag) (C : Addr) (m q : Str) (st : Stmt) : Prop := ∃ (mc : Value) (p f : Addr) (oc kV doc pm cdv ct : Value) (od an : Option Addr) (osl : Array (Option Value)), W.readsIn K C mc = true ∧ W.specialIn K (.ref C) "__getattribute__" = some (some (.builtin "type.__getattribute__")) ∧ W.findCls K (.ref C) mc m = some (.get (.builtin "classmethod.__get__") (.ref p) .none (.ref C)) ∧ (∃ rest, W.recIn K p "classmethod" = some (.ref f :: rest)) ∧ W.fnIn K f = true ∧ K.lookup f = some ⟨oc, od, .func (W.fnOf m q (defArgs st) (defBody st) (defScope st) .none kV doc pm an cdv ct), osl⟩ ∧ W.codeIn K cdv q = true ∧ W.keepIn K (.ref f) = true
def KdAt (K : W.Frag) (a : Addr) (vs : List V) : Prop := ∃ (o : Obj) (its : Array Value) (n : Nat), K.lookup a = some o ∧ o.cls = .type "tuple" ∧ o.data = .seq its n ∧ its.size ≤ sizeLine ∧ Vals vs its.toList
def KtAt (K : W.Frag) (P : Params) (a : Addr) (y : Str) (vs : List V) : Prop := ∃ (es : Array DictEntry) (n : Nat) (b : Addr), K.lookup a = some ⟨.type "dict", none, .dict es n, #[]⟩ ∧ W.KeysLit P es.toList ∧ W.nsIn K a y = some (some (.ref b)) ∧ KdAt K b vs
theorem KdAt.rd {K : W.Frag} {a : Addr} {vs : List V} (h : KdAt K a vs) {G : Hp} {ds : List D} (r : RAll K G vs ds) : R K G (.ref a) (.tup ds) := .tup (.inr h) r
theorem KtAt.get {K : W.Frag} {w : World} {a : Addr} {y : Str} {vs : List V} (h : KtAt K w.params a y vs) {ds : List D} (r : ∀ G, RAll K G vs ds) : ∃ v, KDct K w a y v ∧ ∀ G, R K G v (.tup ds) := by
  obtain ⟨es, n, b, h1, h2, h3, h4⟩ := h
  exact ⟨.ref b, ⟨es, n, _, h1, h2, h3, rfl⟩, fun G => h4.rd (r G)⟩
abbrev FnW : Type := Option (Str × Str × Arguments × FuncBody × Scope × Addr × Addr)
def fnW (K : W.Frag) (a : Addr) : FnW := match K.lookup a with
  | some ⟨_, _, .func fd, _⟩ => some (fd.name, fd.qualname, fd.params, fd.body, fd.scope, fd.globals, fd.builtins)
  | _ => none
def fnV (n q : Str) (st : Stmt) : FnW := some (n, q, defArgs st, .stmts (defBody st), defScope st, mainGlobals, builtinsNs)
def fnB (K : W.Frag) (a : Addr) (q : Str) : Bool := match K.lookup a with
  | some ⟨_, _, .func fd, _⟩ => (match fd.closure, fd.defaults with
    | [], .none => W.codeIn K fd.code q
    | _, _ => false)
  | _ => false
theorem fn_at {K : W.Frag} {a : Addr} {n q : Str} {st : Stmt} (e : fnW K a = fnV n q st) (c : fnB K a q = true) :
    ∃ (oc kV doc pm cdv ct : Value) (od an : Option Addr) (osl : Array (Option Value)), K.lookup a = some ⟨oc, od, .func (W.fnOf n q (defArgs st) (defBody st) (defScope st) .none kV doc pm an cdv ct), osl⟩ ∧ W.codeIn K cdv q = true := by
  unfold fnW at e
  unfold fnB at c
  cases z : K.lookup a with
  | none => rw [z] at e; cases e
  | some o =>
    obtain ⟨oc, od, dt, osl⟩ := o
    rw [z] at e c
    cases dt with
    | func fd =>
      obtain ⟨n1, n2, n3, n4, n5, n6, n7, n8, n9, n10, n11, n12, n13, n14, n15⟩ := fd
      have e2 : (some (n1, n2, n3, n4, n5, n6, n15) : FnW) = fnV n q st := e
      unfold fnV at e2
      simp only [Option.some.injEq, Prod.mk.injEq] at e2
      obtain ⟨h1, h2, h3, h4, h5, h6, h7⟩ := e2
      subst h1 h2 h3 h4 h5 h6 h7
      simp only at c
      split at c
      · exact ⟨oc, n9, n10, n11, n13, n14, od, n12, osl, rfl, c⟩
      · cases c
    | _ => cases e
def defB (K : W.Frag) (x : Str) : Bool := eqO (W.nsIn K mainGlobals x) (some (some (.ref (ga K x)))) && (W.keepIn K (.ref (ga K x)) && fnB K (ga K x) x)
theorem def_ok {K : W.Frag} {x : Str} {st : Stmt} (c : defB K x = true) (e : fnW K (ga K x) = fnV x x st) : DefAt K x st := by
  obtain ⟨c1, c⟩ := ba c
  obtain ⟨c2, c3⟩ := ba c
  obtain ⟨oc, kV, doc, pm, cdv, ct, od, an, osl, l, k⟩ := fn_at e c3
  exact ⟨ga K x, oc, kV, doc, pm, cdv, ct, od, an, osl, eqO_ok c1, l, k, c2⟩
def metB (K : W.Frag) (C : Addr) (m q : Str) : Bool := eqO (W.findIn K (.ref C) m) (some (some (.ref (ma K C m)))) && (W.isFn K (.ref (ma K C m)) && (W.keepIn K (.ref (ma K C m)) && fnB K (ma K C m) q))
theorem met_ok {K : W.Frag} {C : Addr} {m q : Str} {st : Stmt} (c : metB K C m q = true) (e : fnW K (ma K C m) = fnV m q st) : MetAt K C m q st := by
  obtain ⟨c1, c⟩ := ba c
  obtain ⟨c2, c⟩ := ba c
  obtain ⟨c3, c4⟩ := ba c
  obtain ⟨oc, kV, doc, pm, cdv, ct, od, an, osl, l, k⟩ := fn_at e c4
  exact ⟨ma K C m, oc, kV, doc, pm, cdv, ct, od, an, osl, eqO_ok c1, c2, l, k, c3⟩
/-- a method that calls super -/
def supB (K : W.Frag) (C : Addr) (m q file : Str) : Bool := eqO (W.findIn K (.ref C) m) (some (some (.ref (ma K C m)))) && (W.isFn K (.ref (ma K C m)) && (W.keepIn K (.ref (ma K C m)) && ((W.clsIn K C).isSome && (match K.lookup (ma K C m) with
  | some ⟨_, _, .func fd, _⟩ => (match fd.closure, fd.defaults, fd.code with
    | [(x, cc)], .none, .ref c => x == ("__class__" : Str) && (W.codeIn K (.ref c) q && ((match K.lookup cc with
      | some ⟨_, _, .cell (some (.ref C')), _⟩ => C' == C
      | _ => false) && (match K.lookup c with
      | some ⟨_, _, .fields vs, _⟩ => (match (vs[2]? : Option Value) with
        | some (.str fl _) => fl == file
        | _ => false)
      | _ => false)))
    | _, _, _ => false)
  | _ => false))))
theorem sup_ok {P : Program} {K : W.Frag} {C : Addr} {m q file : Str} {st : Stmt} (c : supB K C m q file = true) (e : fnW K (ma K C m) = fnV m q st) (hf : ((P.main.file : Str) == file) = true) (tp : (P.main.scope.names.lookup ("super" : Str)).isSome = false) : SupAt P K C m q st := by
  obtain ⟨c1, c⟩ := ba c
  obtain ⟨c2, c⟩ := ba c
  obtain ⟨c3, c⟩ := ba c
  obtain ⟨c4, c5⟩ := ba c
  unfold fnW at e
  cases z : K.lookup (ma K C m) with
  | none => rw [z] at e; cases e
  | some o =>
    obtain ⟨oc, od, dt, osl⟩ := o
    rw [z] at e c5
    cases dt with
    | func fd =>
      obtain ⟨n1, n2, n3, n4, n5, n6, n7, n8, n9, n10, n11, n12, n13, n14, n15⟩ := fd
      have e2 : (some (n1, n2, n3, n4, n5, n6, n15) : FnW) = fnV m q st := e
      unfold fnV at e2
      simp only [Option.some.injEq, Prod.mk.injEq] at e2
      obtain ⟨h1, h2, h3, h4, h5, h6, h7⟩ := e2
      subst h1 h2 h3 h4 h5 h6 h7
      simp only at c5
      split at c5
      · rename_i x cc c
        obtain ⟨d1, d⟩ := ba c5
        obtain ⟨d2, d⟩ := ba d
        obtain ⟨d3, d4⟩ := ba d
        have ex : x = ("__class__" : Str) := eq_of_beq d1
        subst ex
        refine ⟨ma K C n1, c, cc, n9, n10, n11, n14, n12, eqO_ok c1, c2, ⟨⟨oc, od, n9, n10, n11, n12, n14, osl, rfl, z, d2⟩, c3, ?_, ?_, tp, Option.isSome_iff_exists.mp c4⟩⟩
        · split at d3
          · rename_i cl cld C' csl z2
            exact ⟨cl, cld, csl, by rw [z2, eq_of_beq d3]⟩
          · cases d3
        · split at d4
          · rename_i ccl cdd vs ccs z2
            split at d4
            · rename_i fl tf z3
              exact ⟨ccl, cdd, vs, ccs, fl, tf, z2, z3, by rw [eq_of_beq d4]; exact hf⟩
            · cases d4
          · cases d4
      · cases c5
    | _ => cases e
/-- a classmethod -/
def cmA (K : W.Frag) (C : Addr) (m : Str) : Addr := match W.findCls K (.ref C) (.type "type") m with
  | some (.get _ (.ref p) _ _) => (match W.recIn K p "classmethod" with
    | some (.ref f :: _) => f
    | _ => 0)
  | _ => 0
def clmB (K : W.Frag) (C : Addr) (m q : Str) : Bool := W.readsIn K C (.type "type") && (eqO (W.specialIn K (.ref C) "__getattribute__") (some (some (.builtin "type.__getattribute__"))) && ((match W.findCls K (.ref C) (.type "type") m with
  | some (.get (.builtin s) (.ref p) .none (.ref C')) => s == "classmethod.__get__" && (C' == C && (match W.recIn K p "classmethod" with
    | some (.ref f :: _) => f == cmA K C m
    | _ => false))
  | _ => false) && (W.fnIn K (cmA K C m) && (W.keepIn K (.ref (cmA K C m)) && fnB K (cmA K C m) q))))
theorem clm_ok {K : W.Frag} {C : Addr} {m q : Str} {st : Stmt} (c : clmB K C m q = true) (e : fnW K (cmA K C m) = fnV m q st) : ClmAt K C m q st := by
  obtain ⟨c1, c⟩ := ba c
  obtain ⟨c2, c⟩ := ba c
  obtain ⟨c3, c⟩ := ba c
  obtain ⟨c4, c⟩ := ba c
  obtain ⟨c5, c6⟩ := ba c
  obtain ⟨oc, kV, doc, pm, cdv, ct, od, an, osl, l, k⟩ := fn_at e c6
  split at c3
  · rename_i s p C' z
    obtain ⟨d1, d⟩ := ba c3
    obtain ⟨d2, d3⟩ := ba d
    have e1 : s = "classmethod.__get__" := eq_of_beq d1
    have e2 : C' = C := eq_of_beq d2
    subst e1 e2
    split at d3
    · rename_i f rest z2
      have e3 : f = cmA K C' m := eq_of_beq d3
      subst e3
      exact ⟨.type "type", p, _, oc, kV, doc, pm, cdv, ct, od, an, osl, c1, eqO_ok c2, z, ⟨rest, z2⟩, c4, l, k, c5⟩
    · cases d3
  · cases c3
/-- a constant of a class -/
def cvB (K : W.Frag) (C : Addr) (f : Str) (v : V) : Bool := W.readsIn K C (.type "type") && (eqO (W.specialIn K (.ref C) "__getattribute__") (some (some (.builtin "type.__getattribute__"))) && (match W.findCls K (.ref C) (.type "type") f with
  | some (.val u) => relB v u
  | _ => false))
theorem cv_ok {K : W.Frag} {C : Addr} {f : Str} {v : V} (c : cvB K C f v = true) : ∃ (mc u : Value), ClX.CRead K C mc ∧ ClX.CVal K C mc f v u := by
  obtain ⟨c1, c⟩ := ba c
  obtain ⟨c2, c3⟩ := ba c
  split at c3
  · rename_i u z
    exact ⟨.type "type", u, ⟨c1, eqO_ok c2⟩, ⟨z, relB_ok c3⟩⟩
  · cases c3
/-- a constant of the module -/
def knB (K : W.Frag) (x : Str) (v : V) : Bool := match W.nsIn K mainGlobals x with
  | some (some u) => relB v u
  | _ => false
theorem kn_ok {K : W.Frag} {x : Str} {v : V} (c : knB K x v = true) : ∃ u, W.nsIn K mainGlobals x = some (some u) ∧ RelV v u := by
  unfold knB at c
  split at c
  · rename_i u z
    exact ⟨u, z, relB_ok c⟩
  · cases c
def kdB (K : W.Frag) (a : Addr) (vs : List V) : Bool := match K.lookup a with
  | some ⟨.type t, _, .seq its _, _⟩ => t == "tuple" && (Nat.ble its.size 1000 && relAll vs its.toList)
  | _ => false
theorem kd_ok {K : W.Frag} {a : Addr} {vs : List V} (c : kdB K a vs = true) : KdAt K a vs := by
  unfold kdB at c
  split at c
  · rename_i t od its n sl z
    obtain ⟨d1, d⟩ := ba c
    obtain ⟨d2, d3⟩ := ba d
    have e : t = "tuple" := eq_of_beq d1
    subst e
    exact ⟨_, its, n, z, rfl, rfl, le_line (Nat.le_of_ble_eq_true d2), relAll_ok d3⟩
  · cases c
def nrA (K : W.Frag) (a : Addr) (y : Str) : Addr := match W.nsIn K a y with
  | some (some (.ref b)) => b
  | _ => 0
def ktB (K : W.Frag) (a : Addr) (y : Str) (vs : List V) : Bool := eqO (W.nsIn K a y) (some (some (.ref (nrA K a y)))) && kdB K (nrA K a y) vs
theorem kt_ok {K : W.Frag} {w : World} {a : Addr} {y : Str} {vs : List V} (c : ktB K a y vs = true) (t : ∃ es n, KDict K w a es n) : KtAt K w.params a y vs := by
  obtain ⟨c1, c2⟩ := ba c
  obtain ⟨es, n, d⟩ := t
  exact ⟨es, n, nrA K a y, d.at_, d.lit, eqO_ok c1, kd_ok c2⟩
def clB (K : W.Frag) (C : Addr) : Bool := W.plainGet K C Str.empty && (W.hasDictIn K C && (W.plainOver K C && eqO (W.findIn K (.ref C) "__setattr__") (some (some (.builtin "object.__setattr__")))))
theorem cl_ok {K : W.Frag} {C : Addr} (c : clB K C = true) : Cls K C := by
  obtain ⟨c1, c⟩ := ba c
  obtain ⟨c2, c⟩ := ba c
  obtain ⟨c3, c4⟩ := ba c
  exact ⟨c1, c2, c3, eqO_ok c4⟩
/-- own exceptions: B whose maker makes them, bm2 what is above the base -/
def exB (K : W.Frag) (C : Addr) (B newId : String) (bm2 : List Value) : Bool := (match K.lookup C with
  | some ⟨.type t, _, .cls cd, sl⟩ => t == "type" && (match cd.mro, sl.toList with
    | .ref C' :: bm, [_, _, _, _, some (.builtin n), _] => C' == C && (n == newId && (!cd.hasDel && (bm.contains (.type B) && (!(bm.contains (.type "AttributeError")) && !(bm.contains (.type "NameError"))))))
    | _, _ => false)
  | _ => false) && (W.excOver K C bm2 && (eqO (W.findIn K (.ref C) "__setattr__") (some (some (.builtin "object.__setattr__"))) && (W.hasDictIn K C && (eqO (W.findIn K (.ref C) "__getattribute__") (some (some (.builtin "BaseException.__getattribute__"))) && (eqO (W.findIn K (.ref C) "__getattr__") (some none) && (decide (W.subIn K (.ref C) (.type "BaseException") = some true) && (eqO (W.findIn K (.ref C) "__class__") (some (some (.builtin "object.__class__"))) && (decide (W.mroIn K C (.type "object") = some true) && W.keepIn K (.ref C)))))))))
theorem ex_ok {K : W.Frag} {C : Addr} {B newId initId B2 : String} {bmB bm2 : List Value} (c : exB K C B newId bm2 = true) (F : ExcBaseFacts B newId initId bmB) (S : StoreFacts B2 bm2 "object.__setattr__" "object") : ExK K C := by
  obtain ⟨c0, c⟩ := ba c
  obtain ⟨c1, c⟩ := ba c
  obtain ⟨c2, c⟩ := ba c
  obtain ⟨c3, c⟩ := ba c
  obtain ⟨c4, c⟩ := ba c
  obtain ⟨c5, c⟩ := ba c
  obtain ⟨c6, c⟩ := ba c
  obtain ⟨c7, c⟩ := ba c
  obtain ⟨c8, c9⟩ := ba c
  refine ⟨?_, ⟨B2, bm2, S, c1⟩, eqO_ok c2, c3, eqO_ok c4, eqO_ok c5, of_decide_eq_true c6, eqO_ok c7, of_decide_eq_true c8, c9⟩
  split at c0
  · rename_i t dd cd sl z
    obtain ⟨d0, d⟩ := ba c0
    have et : t = "type" := eq_of_beq d0
    subst et
    split at d
    · rename_i C' bm k0 k1 k2 k3 n k5 z2 z3
      obtain ⟨d1, d⟩ := ba d
      obtain ⟨d2, d⟩ := ba d
      obtain ⟨d3, d⟩ := ba d
      obtain ⟨d4, d⟩ := ba d
      obtain ⟨d5, d6⟩ := ba d
      have e1 : C' = C := eq_of_beq d1
      have e2 : n = newId := eq_of_beq d2
      subst e1 e2
      obtain ⟨m1, m2, m3, m4, m5, m6, m7, m8, m9, m10, m11⟩ := cd
      obtain rfl : m3 = .ref C' :: bm := z2
      have e3 : m11 = false := by simpa using d3
      subst e3
      obtain ⟨sl⟩ := sl
      obtain rfl : sl = _ := z3
      exact ⟨B, n, initId, bmB, bm, m1, m5, m4, m2, m6, m7, m8, m9, m10, dd, k0, k1, k2, k3, k5, F, ⟨d4, by simpa using d5, by simpa using d6⟩, z⟩
    · cases d
  · cases c0
def exaB (K : W.Frag) : Bool := eqO (W.specialIn K (.builtin "object.__class__") "__get__") (some (some (.builtin "getset_descriptor.__get__"))) && decide (W.takesIn K (.builtin "object.__class__") = some true)
theorem exa_ok {K : W.Frag} (c : exaB K = true) : ExA K := ⟨eqO_ok (ba c).1, of_decide_eq_true (ba c).2⟩
def tyB (K : W.Frag) (C : Addr) (m : Str) : Bool := eqO (W.findIn K (.ref C) m) (some (some (.ref (ma K C m)))) && (decide (W.typeIn K (.ref (ma K C m)) = some (.type "function")) && W.fnIn K (ma K C m))
theorem ty2_ok {K : W.Frag} {C : Addr} {m : Str} (c : tyB K C m = true) : ∃ f, W.findIn K (.ref C) m = some (some (.ref f)) ∧ W.typeIn K (.ref f) = some (.type "function") := ⟨_, eqO_ok (ba c).1, of_decide_eq_true (ba (ba c).2).1⟩
theorem ty3_ok {K : W.Frag} {C : Addr} {m : Str} (c : tyB K C m = true) : ∃ f, W.findIn K (.ref C) m = some (some (.ref f)) ∧ W.typeIn K (.ref f) = some (.type "function") ∧ W.fnIn K f = true := ⟨_, eqO_ok (ba c).1, of_decide_eq_true (ba (ba c).2).1, (ba (ba c).2).2⟩
theorem Keys_store : StoreFacts "KeyError" [.type "KeyError", .type "LookupError", .type "Exception", .type "BaseException", .type "object"] "object.__setattr__" "object" :=
  ⟨by kernel_rfl,
   .of (n := "__setattr__") (owner := "object") (by rw [typeLookup_type]; rw [builtinLookup_eq_fast]; kernel_rfl) (by decide +kernel)
     (by decide +kernel) (by decide +kernel)
     (by first | exact Or.inl (by decide +kernel) | exact Or.inr (by decide +kernel)) (by rw [isSubtype_type] <;> kernel_rfl),
   PySem.F.entry_object_sa, by decide +kernel, by decide +kernel, by decide +kernel, fun _ _ _ => (by unfold argsOk; kernel_rfl), fun _ => (by kernel_rfl)⟩
abbrev Tab : Type := (W.Frag → Addr) × List Str
abbrev Al : Type := Bool × List FnW × List (Option (List (Option (Str × Int))))
def obsK (fl : List (W.Frag → Bool)) (fn : List (W.Frag → Addr)) (ts : List Tab) (K : W.Frag) : Al := (fl.all fun f => f K, fn.map fun f => fnW K (f K), ts.map fun t => dicW K (t.1 K))
def valK (vs : List FnW) (ts : List Tab) (w : World) : Al := (true, vs, ts.map fun t => some (keysIn w.params t.2))
def Says (fl : List (W.Frag → Bool)) (fn : List (W.Frag → Addr)) (vs : List FnW) (ts : List Tab) (w : World) (K : W.Frag) : Prop := obsK fl fn ts K = valK vs ts w
/-- the list, spelt out -/
def spine {α : Type} : W.Frag → (W.Frag → α) → α
  | [], k => k []
  | (a, o) :: r, k => HandSHeadRun.frNat a fun a => spine r fun q => k ((a, o) :: q)
theorem spine_eq {α : Type} : ∀ (l : W.Frag) (k : W.Frag → α), spine l k = k l
  | [], _ => rfl
  | (a, o) :: r, k => by
    unfold spine
    rw [HandSHeadRun.frNat_eq, spine_eq r]
def obsG (N : Nat) (fl : List (W.Frag → Bool)) (fn : List (W.Frag → Addr)) (ts : List Tab) (g : Addr → Option Obj) : Al := spine (frG g (List.range N)) fun K => obsK fl fn ts K
def hk (N : Nat) (fl : List (W.Frag → Bool)) (fn : List (W.Frag → Addr)) (vs : List FnW) (ts : List Tab) : W.Hook where
  α := Al
  obs := fun s => obsG N fl fn ts s.heap.get?
  val := fun w => valK vs ts w
  says := fun w h => ∃ K : W.Frag, K.In h ∧ Says fl fn vs ts w K
  of := fun _ _ e => ⟨_, frG_in, by
    unfold obsG at e
    rw [spine_eq] at e
    exact e⟩
  keeps := fun _ _ _ ⟨K, hK, c⟩ k => ⟨K, W.Frag.In.keeps hK k, c⟩
def ob (N : Nat) (fl : List (W.Frag → Bool)) (fn : List (W.Frag → Addr)) (ts : List Tab) (s : W.SharedT) : Al := obsG N fl fn ts (HandSHeadRun.getT s)
theorem ob_eq {N : Nat} {fl : List (W.Frag → Bool)} {fn : List (W.Frag → Addr)} {vs : List FnW} {ts : List Tab} (s : W.SharedT) : ob N fl fn ts s = (hk N fl fn vs ts).obs s.abs := by
  have e : HandSHeadRun.getT s = s.abs.heap.get? := funext fun a => HandSHeadRun.getT_eq s a
  unfold ob
  rw [e]
  rfl
section
variable {fl : List (W.Frag → Bool)} {fn : List (W.Frag → Addr)} {vs : List FnW} {ts : List Tab} {w : World} {K : W.Frag}
theorem Says.fact (c : Says fl fn vs ts w K) (i : Nat) {f : W.Frag → Bool} (h : fl[i]? = some f) : f K = true :=
  List.all_eq_true.mp (show (fl.all fun f => f K) = true from congrArg (fun z : Al => z.1) c) f (List.mem_of_getElem? h)
theorem Says.fn_ (c : Says fl fn vs ts w K) (i : Nat) {f : W.Frag → Addr} {v : FnW} (h : fn[i]? = some f) (h2 : vs[i]? = some v) : fnW K (f K) = v := by
  have e : fn.map (fun f => fnW K (f K)) = vs := congrArg (fun z : Al => z.2.1) c
  have e2 : (fn.map fun f => fnW K (f K))[i]? = vs[i]? := by rw [e]
  rw [List.getElem?_map, h, h2] at e2
  exact Option.some.inj e2
theorem Says.tab (c : Says fl fn vs ts w K) (i : Nat) {t : Tab} (h : ts[i]? = some t) : ∃ es n, KDict K w (t.1 K) es n := by
  have e : ts.map (fun t => dicW K (t.1 K)) = ts.map fun t => some (keysIn w.params t.2) := congrArg (fun z : Al => z.2.2) c
  have e2 : (ts.map fun t => dicW K (t.1 K))[i]? = (ts.map fun t => some (keysIn w.params t.2))[i]? := by rw [e]
  rw [List.getElem?_map, List.getElem?_map, h] at e2
  exact dicW_ok (Option.some.inj e2)
end
theorem top_k {l : W.OpenLaw} {n k : Nat} {q : Program} {loose : List Str} {XP : (Str → Option Value) → Heap → Prop} {YP : World → Heap → Prop} {d : DefRec} {sp : W.Frag → Sp} {x : Str}
    (hi : importsNone q = true) (hn : l.most = some n) (hn2 : n ≤ sizeLine) (hdf : d.params.defaults = []) (hr : Room k callerA)
    (F : ∀ (w : World) (mg : Str → Option Value) (fa : Addr) (h : Heap), YP w h → h.Ns mainGlobals mg → mg d.name = some (.ref fa) →
      ∃ K : W.Frag, K.In h ∧ ∃ fd : FuncData, (∀ (s : Shared) (u : Value), BindsTo s fd ⟨[u], []⟩ [(x, u)]) ∧ ∀ base : Heap, K.In base → base.Ns mainGlobals mg → (∃ m, base.Ns sysModules m) → FnG l.prog w K mg base CX0 k fa fd [x] (sp K))
    (hsp : ∀ (K : W.Frag) (H : Hp) (a : Addr) (ns : List Int), ns.length ≤ n → Only H → SqL K H a (ns.map V.int) → sp K [.ref a] H (fun v _ => v = .bl true) fun _ _ _ => False) :
    W.WalkO q loose XP YP l.row.toRowW d [] (fun f vs => PySem.call f vs) := by
  refine Att.attach_call hn hdf ?_
  intro w s0 s1 mg mb fa o pm cd doc a vs ns G Y ho hd hcd hmg hobj hints hlen hg
  obtain ⟨K, KX, fd, hb, hF⟩ := F w mg fa _ Y G.T.g hmg
  have rv := vals_ints hints
  have hs : ∃ m, s1.heap.Ns sysModules m := (G.T.seer hi).mods.elim fun m z => ⟨m, z.1⟩
  have lenV := hints.length
  have small : ns.length ≤ sizeLine := Nat.le_trans hlen hn2
  cases hk : K.lookup a with
  | some ob =>
    have e := KX a ob hk
    rw [hobj] at e
    obtain rfl := Option.some.inj e
    refine seen_as (H := fun _ => none) KX G.T.g G.T.b G.T.builtins G.T.nolimit hg hobj hr hs hF hb (fun _ => .inl rfl) (fun b u z => by cases (show (none : Option HO) = some u from z)) (fun b z => absurd rfl z) (fun z => absurd rfl z) (hsp _ _ _ _ hlen (fun _ => .inl rfl) ?_)
    exact .inr ⟨_, vs.toArray, _, hk, rfl, rfl, rfl, by rw [List.size_toArray, lenV]; exact small, by simpa using rv⟩
  | none =>
    let H : Hp := fun b => if b = a then some (.frz { cls := .type "list", data := .seq vs.toArray } (.lst (ns.map V.int))) else none
    have at_a : H a = some (.frz { cls := .type "list", data := .seq vs.toArray } (.lst (ns.map V.int))) := if_pos rfl
    have off : ∀ b, b ≠ a → H b = none := fun b z => if_neg z
    have hO : Only H := fun b => by
      by_cases z : b = a
      · rw [z]; exact .inr ⟨_, _, at_a⟩
      · exact .inl (off b z)
    refine seen_as (H := H) KX G.T.g G.T.b G.T.builtins G.T.nolimit hg hobj hr hs hF hb hO (fun b u z => ?_) (fun b z => ?_) (fun _ => hk) (hsp _ _ _ _ hlen hO (.inl (.inr ⟨_, at_a⟩)))
    · by_cases y : b = a
      · subst y
        rw [at_a] at z
        obtain rfl := Option.some.inj z
        exact ⟨hobj, by rw [List.length_map]; exact small, vs, _, rv, hobj⟩
      · rw [off b y] at z
        cases z
    · by_cases y : b = a
      · exact y
      · exact absurd (off b y) z
end L2.HK
namespace L2.K5
open L2 L2.My L2.DL NdefX PySem PySem.Spec PyProof.Rows
open PM
variable [Zd]
noncomputable section
def within_V (value low high : D) : Om D := retV (β := Unit) (γ := Unit) (bndL (andXL (op2 (isiK Zd.K) (ok value) (ok (.v (.ty "int")))) (andXL (notX (op2 (isiK Zd.K) (ok value) (ok (.v (.ty "bool"))))) (chnL leV leV (ok low) (ok value) (ok high)))) fun d => ok (.rt d))
def is_name_V (value : D) : Om D := retV (β := Unit) (γ := Unit) (ifL (orL (notB (tst (op2 (isiK Zd.K) (ok value) (ok (.v (.ty "str")))))) (notB (tst (chnL leV leV (ok (dI 1)) (op1 lenD (ok value)) (ok (dI 8))))))
    (bndL (ok (dB false)) fun d => ok (.rt d))
    (bndL (op1 allD (lcL (itV (ok value)) fun e => stpL (ok true) (chnL leV leV (ok (dS "a")) (ok e) (ok (dS "z"))))) fun d => ok (.rt d)))
def check_delay_V (delay : D) : Om D := retV (β := Unit) (γ := Unit) (ifL (notB (tst (calV (ap3 within_V) [(ok delay), (ok (dI 1)), (ok (dI 6))])))
    (raiV (Zd.c "InvalidMachine") ["reason"] [(ok (dS "delay"))])
    (ok (.nx ())))
def Kind___init___V (C : Addr) (name : D) : Om (List (Str × D)) := retI (γ := Unit) (ifL (orL (notB (tst (calV (ap1 is_name_V) [(ok name)]))) (tst (op2 (eqD true) (ok name) (ok (dS "alike")))))
    (raiV (Zd.c "InvalidMachine") ["reason"] [(ok (dS "name"))])
    (bndL (setFV Zd.K C "name" [] (ok name)) fun self =>
    (bndL (setFV Zd.K C "delay" self (ok dN)) fun self_1 =>
    (bndL (setFV Zd.K C "family" self_1 (ok (dS ""))) fun self_2 =>
    (ok (.nx self_2))))))
def Make___init___V (C : Addr) (name delay : D) : Om (List (Str × D)) := retI (γ := Unit) (bnd (supV (fun C => ag1 (Kind___init___V C)) C [(ok name)]) fun self =>
    (bndL (calV (ap1 check_delay_V) [(ok delay)]) fun _ => (bndL (setFV Zd.K C "delay" self (ok delay)) fun self_1 =>
    (bndL (setFV Zd.K C "family" self_1 (ok (dS "make"))) fun self_2 =>
    (ok (.nx self_2))))))
def Copy___init___V (C : Addr) (name delay : D) : Om (List (Str × D)) := retI (γ := Unit) (bnd (supV (fun C => ag1 (Kind___init___V C)) C [(ok name)]) fun self =>
    (bndL (calV (ap1 check_delay_V) [(ok delay)]) fun _ => (bndL (setFV Zd.K C "delay" self (ok delay)) fun self_1 =>
    (bndL (setFV Zd.K C "family" self_1 (ok (dS "copy"))) fun self_2 =>
    (ok (.nx self_2))))))
def Give___init___V (C : Addr) (name : D) : Om (List (Str × D)) := retI (γ := Unit) (bnd (supV (fun C => ag1 (Kind___init___V C)) C [(ok name)]) fun self =>
    (bndL (setFV Zd.K C "family" self (ok (dS "give"))) fun self_1 =>
    (ok (.nx self_1))))
def Jump___init___V (C : Addr) (name : D) : Om (List (Str × D)) := retI (γ := Unit) (bnd (supV (fun C => ag1 (Kind___init___V C)) C [(ok name)]) fun self =>
    (bndL (setFV Zd.K C "family" self (ok (dS "jump"))) fun self_1 =>
    (ok (.nx self_1))))
def check_late_V (late : D) : Om D := retV (β := Unit) (γ := Unit) (ifL (notB (tst (calV (ap3 within_V) [(ok late), (ok (dI 0)), (ok (dI 2))])))
    (raiV (Zd.c "InvalidMachine") ["reason"] [(ok (dS "late"))])
    (ok (.nx ())))
def check_width_V (width : D) : Om D := retV (β := Unit) (γ := Unit) (ifL (notB (tst (calV (ap3 within_V) [(ok width), (ok (dI 1)), (ok (dI 3))])))
    (raiV (Zd.c "InvalidMachine") ["reason"] [(ok (dS "width"))])
    (ok (.nx ())))
def are_kinds_V (values : D) : Om D := retV (β := Unit) (γ := Unit) (bndL (op1 allD (lcL (itV (ok values)) fun e => stpL (ok true) (andXL (op2 (isiK Zd.K) (ok e) (ok (.v (.ref (Zd.c "Kind"))))) (op2 (eqD false) (op1 (fldD Zd.K "family") (ok e)) (ok (dS "")))))) fun d => ok (.rt d))
def kind_line_V (kind : D) : Om D := retV (β := Unit) (γ := Unit) (ifL (tst (op2 (isD true) (op1 (fldD Zd.K "delay") (ok kind)) (ok dN)))
    (bndL (jsV [(op1 (fmtV false) (op1 (fldD Zd.K "family") (ok kind))), (ok (dS " ")), (op1 (fmtV false) (op1 (fldD Zd.K "name") (ok kind)))] Str.empty) fun d => ok (.rt d))
    (bndL (jsV [(op1 (fmtV false) (op1 (fldD Zd.K "family") (ok kind))), (ok (dS " ")), (op1 (fmtV false) (op1 (fldD Zd.K "name") (ok kind))), (ok (dS " ")), (op1 (fmtV false) (op1 (fldD Zd.K "delay") (ok kind)))] Str.empty) fun d => ok (.rt d)))
def Machine_kind_V (self name : D) : Om D := retV (β := Unit) (γ := Unit) (bndL (itV (op1 (fldD Zd.K "kinds") (ok self))) fun ds => thL (forL (fun e (q : Unit) =>
    (ifL (tst (op2 (eqD true) (op1 (fldD Zd.K "name") (ok e)) (ok name)))
    (bndL (ok e) fun d => ok (.rt d))
    (ok (.nx ())))) ds ()) fun (q : Unit) =>
    (raiV (Zd.c "NoName") ["name"] [(ok name)]))
def Machine___init___V (C : Addr) (late width kinds : D) : Om (List (Str × D)) := retI (γ := Unit) (ifL (orL (notB (tst (chnL leV leV (ok (dI 1)) (op1 lenD (ok kinds)) (ok (dI 12))))) (notB (tst (calV (ap1 are_kinds_V) [(ok kinds)]))))
    (raiV (Zd.c "InvalidMachine") ["reason"] [(ok (dS "kinds"))])
    (ifL (tst (op2 ltV (lsKL (itV (ok kinds)) fun e acc => ifL (ok true) (addKV acc (op1 (fldD Zd.K "name") (ok e))) (ok acc)) (op1 lenD (ok kinds))))
    (raiV (Zd.c "InvalidMachine") ["reason"] [(ok (dS "name"))])
    (bndL (calV (ap1 check_late_V) [(ok late)]) fun _ => (bndL (calV (ap1 check_width_V) [(ok width)]) fun _ => (bndL (setFV Zd.K C "kinds" [] (ok kinds)) fun self =>
    (bndL (setFV Zd.K C "late" self (ok late)) fun self_1 =>
    (bndL (setFV Zd.K C "width" self_1 (ok width)) fun self_2 =>
    (ok (.nx self_2)))))))))
def Machine_of_V (cls kinds late width : D) : Om D := retV (β := Unit) (γ := Unit) (bndL (ifL (tst (op2 (isiT Zd.K) (ok kinds) (tupV [(ok (.v (.ty "list"))), (ok (.v (.ty "tuple")))]))) (ok kinds) (tupV [])) fun given =>
    (bndL (mkSV (Zd.c "Machine") (fun C => ag3 (Machine___init___V C)) (ok cls) (ok given) [(ok late), (ok width)]) fun d => ok (.rt d)))
def Machine___contains___V (self x : D) : Om D := retV (β := Unit) (γ := Unit) (bndL (op2 (inDE true) (ok x) (lcL (itV (op1 (fldD Zd.K "kinds") (ok self))) fun e => stpL (ok true) (op1 (fldD Zd.K "name") (ok e)))) fun d => ok (.rt d))
def Machine___str___V (self : D) : Om D := retV (β := Unit) (γ := Unit) (bndL (lcL (itV (op1 (fldD Zd.K "kinds") (ok self))) fun e => stpL (ok true) (calV (ap1 kind_line_V) [(ok e)])) fun lines =>
    (bndL (joinV (ok (dS "\n")) (lstSV [(false, (jsV [(ok (dS "late ")), (op1 (fmtV false) (op1 (fldD Zd.K "late") (ok self)))] Str.empty)), (false, (jsV [(ok (dS "width ")), (op1 (fmtV false) (op1 (fldD Zd.K "width") (ok self)))] Str.empty)), (true, (ok lines))])) fun d => ok (.rt d)))
def landing_of_V (machine operation : D) : Om D := retV (β := Unit) (γ := Unit) (bndL (tupV [(op2 ixD (ok operation) (ok (dI 1))), (op1 (fldD Zd.K "delay") (metV (Zd.c "Machine") "kind" (ap2 Machine_kind_V) (ok machine) [(op2 ixD (ok operation) (ok (dI 0)))]))]) fun d => ok (.rt d))
def are_sources_V (family value : D) : Om D := retV (β := Unit) (γ := Unit) (bndL (op1 (kixD [("make", (.tup [(dI 0), (dI 2)])), ("copy", (.tup [(dI 1), (dI 1)])), ("give", (.tup [(dI 1), (dI 2)])), ("jump", (.tup [(dI 0), (dI 1)]))]) (ok family)) fun x => (un2L x fun least most => (ifL (orL (notB (tst (op2 (isiK Zd.K) (ok value) (ok (.v (.ty "tuple")))))) (notB (tst (chnL leV leV (ok least) (op1 lenD (ok value)) (ok most)))))
    (bndL (ok (dB false)) fun d => ok (.rt d))
    (bndL (op1 allD (lcL (itV (ok value)) fun e => stpL (ok true) (calV (ap1 is_name_V) [(ok e)]))) fun d => ok (.rt d)))))
def is_operation_V (machine value : D) : Om D := retV (β := Unit) (γ := Unit) (ifL (orL (notB (tst (op2 (isiK Zd.K) (ok value) (ok (.v (.ty "tuple")))))) (tst (op2 (eqD false) (op1 lenD (ok value)) (ok (dI 4)))))
    (bndL (ok (dB false)) fun d => ok (.rt d))
    (bndL (ok value) fun x => (un4L x fun name target sources goal => (ifL (tst (op2 (inC (Zd.c "Machine") (foF (ap2 Machine___contains___V)) false) (ok name) (ok machine)))
    (bndL (ok (dB false)) fun d => ok (.rt d))
    (bndL (op1 (fldD Zd.K "family") (metV (Zd.c "Machine") "kind" (ap2 Machine_kind_V) (ok machine) [(ok name)])) fun family =>
    (bndL (op2 (inDE true) (ok family) (ok (.tup [(dS "make"), (dS "copy")]))) fun writes =>
    (bndL (op2 (eqD true) (ok family) (ok (dS "jump"))) fun jumps =>
    (bndL (andXL (ifL (tst (ok writes)) (calV (ap1 is_name_V) [(ok target)]) (op2 (isD true) (ok target) (ok dN))) (andXL (calV (ap2 are_sources_V) [(ok family), (ok sources)]) (ifL (tst (ok jumps)) (calV (ap3 within_V) [(ok goal), (ok (dI 0)), (ok (dI 40))]) (op2 (isD true) (ok goal) (ok dN))))) fun d => ok (.rt d)))))))))
def is_row_V (machine value : D) : Om D := retV (β := Unit) (γ := Unit) (ifL (orL (notB (tst (op2 (isiK Zd.K) (ok value) (ok (.v (.ty "tuple")))))) (tst (op2 gtV (op1 lenD (ok value)) (op1 (fldD Zd.K "width") (ok machine)))))
    (bndL (ok (dB false)) fun d => ok (.rt d))
    (ifL (notB (tst (op1 allD (lcL (itV (ok value)) fun e => stpL (ok true) (calV (ap2 is_operation_V) [(ok machine), (ok e)])))))
    (bndL (ok (dB false)) fun d => ok (.rt d))
    (bndL (lcL (itV (ok value)) fun e_1 => stpL (tst (op2 (isD false) (op2 ixD (ok e_1) (ok (dI 3))) (ok dN))) (ok e_1)) fun jumps =>
    (bndL (lcL (itV (ok value)) fun e_2 => stpL (tst (op2 (isD false) (op2 ixD (ok e_2) (ok (dI 1))) (ok dN))) (calV (ap2 landing_of_V) [(ok machine), (ok e_2)])) fun landed =>
    (bndL (andXL (op2 leV (op1 lenD (ok jumps)) (ok (dI 1))) (op2 (eqD true) (op1 lsetX (ok landed)) (op1 lenD (ok landed)))) fun d => ok (.rt d))))))
end
end L2.K5
namespace L2.K5
open L2 L2.My L2.DL NdefX PySem PySem.Spec PyProof.Rows
open PM
def top (i : Nat) : Stmt := PySem.Challenge.pw_latelands_k05_operations_and_rows.main.body.getD i (.Pass ⟨0, 0, 0, 0⟩)
section
variable {P : Program} {w : World} {K : W.Frag} {mg : Str → Option Value} {base : Heap}
variable [Zd]
noncomputable section
abbrev s_within : Stmt := top 6
theorem sc_within : FnScope ["value", "low", "high"] ["value", "low", "high"] (defScope s_within) := ⟨rfl, rfl, rfl, by decide +kernel, rfl, by decide +kernel, by decide +kernel⟩
theorem vok_within {f : Addr} {fd : FuncData} (F : Fun Zd.K "within" "within" s_within f fd) (G : ExA Zd.K) (m_isinstance : mg "isinstance" = none) (m_bool : mg "bool" = none) (m_int : mg "int" = none) :
    FnG P w Zd.K mg base (L2.CX P w) 1 f fd ["value", "low", "high"] (spF Zd.K [.b, .b, .b] (foF (ap3 within_V))) := by
  refine fn_V F sc_within rfl rfl ?_
  intro cdv A outer s H E hr hq
  have hu := hr.units
  have hp := @passX (cxOf (L2.CX P w) P w Zd.K mg base ["value", "low", "high"] "within" (defScope s_within) f cdv A outer s H E) E (takes_of rfl rfl rfl rfl)
  refine ⟨_, (pss_one (ps_ret (pe_and (pe_callB call_isA (by rfl) m_isinstance (by decide +kernel) (pa_cons (pv 0) (pa_cons (pe_bty "int" rfl m_int (by decide +kernel)) pa_nil))) (pe_and (pe_not (pe_callB call_isA (by rfl) m_isinstance (by decide +kernel) (pa_cons (pv 0) (pa_cons (pe_bty "bool" rfl m_bool (by decide +kernel)) pa_nil)))) (pe_one (pe_chain op_leD op_leD (pv 1) (pv 0) (pv 2))))))), fun S Γ => ⟨_, (ls_end (ls_ret (ln_andM (mo := .s) (by decide) (Ln.lend (ln_cb2 ln_varb (Ln.lend ln_c) (p2_isiK G))) (ln_andM (mo := .s) (by decide) (Ln.lend (ln_not (Ln.lend (ln_cb2 ln_varb (Ln.lend ln_c) (p2_isiK G))))) (ln_chain (mo := .s) ln_varb ln_varb ln_varb (P2.lend p2_cmp) p2_cmp (by decide)))))), ?_⟩⟩
  exact db3 fun value low high => .go (Rn := fun _ _ => True) (Rl := fun _ _ => True) (rs_ret (rd_and (rd_op (rd_vB rfl) rd_c) (rd_and (rd_not (rd_op (rd_vB rfl) rd_c)) (rd_chn (rd_vB rfl) (rd_vB rfl) (rd_vB rfl)))))
abbrev s_is_name : Stmt := top 11
theorem sc_is_name : FnScope ["value", "letter"] ["value"] (defScope s_is_name) := ⟨rfl, rfl, rfl, by decide +kernel, rfl, by decide +kernel, by decide +kernel⟩
theorem vok_is_name {f : Addr} {fd : FuncData} (F : Fun Zd.K "is_name" "is_name" s_is_name f fd) (G : ExA Zd.K) (m_isinstance : mg "isinstance" = none) (m_str : mg "str" = none) (m_len : mg "len" = none) (k_LONGEST_NAME : KnA mg "LONGEST_NAME" (.int 8)) (m_all : mg "all" = none) :
    FnG P w Zd.K mg base (L2.CX P w) 1 f fd ["value"] (spF Zd.K [.b] (foF (ap1 is_name_V))) := by
  refine fn_V F sc_is_name rfl rfl ?_
  intro cdv A outer s H E hr hq
  have hu := hr.units
  have hp := @passX (cxOf (L2.CX P w) P w Zd.K mg base ["value", "letter"] "is_name" (defScope s_is_name) f cdv A outer s H E) E (takes_of rfl rfl rfl rfl)
  refine ⟨_, (pss_cons (ps_if (PW.pt (pw_or (pt_not (pt_val (pe_callB call_isA (by rfl) m_isinstance (by decide +kernel) (pa_cons (pv 0) (pa_cons (pe_bty "str" rfl m_str (by decide +kernel)) pa_nil))))) (pw_or1 (pt_not (pt_chain op_leD op_leD pe_int (pe_callB c_lenD (by rfl) m_len PySem.boot_len (pa_cons (pv 0) pa_nil)) (pe_k k_LONGEST_NAME rfl)))))) (pss_one (ps_ret pe_bl)) pss_nil)
    (pss_one (ps_ret (pe_callB (cr_all rfl) (by rfl) m_all (by decide +kernel) (pa_cons (pe_lc (own := [("letter", 1)]) (g := gName 1) (tt := tYes) rfl sc_is_name.nd (pi_seq (pv 0)) (blkOk_by (N := ["value", "letter"]) (sc := defScope (top 11)) (by decide +kernel)) (fun _ _ _ _ _ => (pg_name (i := 1) sc_is_name.nd rfl (Or.inl rfl))) (fun _ _ _ _ _ => pts_nil) (fun _ _ _ _ _ => (pe_chain op_leD op_leD pe_str (pv 1) pe_str))) pa_nil))))), fun S Γ => ⟨_, (ls_seq (ls_if (lt_or (lt_not (lt_val (Ln.lend (ln_cb2 ln_varb (Ln.lend ln_c) (p2_isiK G))))) (lt_not (lt_test (ln_chain (mo := .b) (Ln.lend ln_c) (Ln.lend (ln_cb1 ln_varb p1_len)) (Ln.lend ln_c) (P2.lend p2_cmp) (P2.lend p2_cmp) (by decide))))) (ls_end (ls_ret ln_c)) ls_next) (ls_end (ls_ret (ln_cb1 (Ln.lend (Ln.weak (ln_lc rfl (li_seqb ln_varb) lg_name lt_yes (ln_chain (mo := .s) (Ln.lend ln_c) ln_varb (Ln.lend ln_c) (P2.lend p2_cmp) p2_cmp (by decide))))) p1_all)))), ?_⟩⟩
  exact db1 fun value => .go (Rn := fun _ _ => True) (Rl := fun _ _ => True) (rs_if (rb_or (rb_not (rb_test (rd_op (rd_vB rfl) rd_c))) (rb_not (rb_test (rd_chn rd_c (rd_un (rd_vB rfl)) rd_c)))) (rs_assoc (rs_ret rd_c)) (rs_skip (rs_ret (rd_un (rd_lc (rl_seq (rd_vB rfl)) fun e => (rt_n (rc_stp (rd_chn rd_c (rd_vb rfl) rd_c) rb_yes)))))))
abbrev s_check_delay : Stmt := top 12
theorem sc_check_delay : FnScope ["delay"] ["delay"] (defScope s_check_delay) := ⟨rfl, rfl, rfl, by decide +kernel, rfl, by decide +kernel, by decide +kernel⟩
theorem vok_check_delay {f : Addr} {fd : FuncData} (F : Fun Zd.K "check_delay" "check_delay" s_check_delay f fd) (c_within : CalG P w Zd.K mg base (L2.CX P w) 1 "within" (spF Zd.K [.b, .b, .b] (foF (ap3 within_V)))) (k_LONGEST_DELAY : KnA mg "LONGEST_DELAY" (.int 6)) (c_InvalidMachine : ExR P w Zd.K mg base "InvalidMachine" (Zd.c "InvalidMachine") "reason") :
    FnG P w Zd.K mg base (L2.CX P w) 3 f fd ["delay"] (spF Zd.K [.b] (foF (ap1 check_delay_V))) := by
  refine fn_V F sc_check_delay rfl rfl ?_
  intro cdv A outer s H E hr hq
  have hu := hr.units
  have hp := @passX (cxOf (L2.CX P w) P w Zd.K mg base ["delay"] "check_delay" (defScope s_check_delay) f cdv A outer s H E) E (takes_of rfl rfl rfl rfl)
  refine ⟨_, (pss_one (ps_if (pt_not (pt_val (pe_g c_within hr (by first | decide | omega) hq hp rfl (pa_cons (pv 0) (pa_cons pe_int (pa_cons (pe_k k_LONGEST_DELAY rfl) pa_nil)))))) (pss_one (ps_raise rfl (takes_of rfl rfl rfl rfl) (pmk_exr c_InvalidMachine (hr.mono (by decide)) rfl (pa_cons pe_str pa_nil)))) pss_nil)), fun S Γ => ⟨_, (ls_end (ls_if (lt_not (lt_val (Ln.lend (ln_call rfl (ln_cons rfl ln_varb (ln_cons rfl (Ln.lend ln_c) (ln_cons rfl (Ln.lend ln_c) ln_nil))))))) (ls_end (ls_raise rfl (ln_cons rfl ln_c ln_nil))) ls_next)), ?_⟩⟩
  exact db1 fun delay => .go (Rn := fun _ _ => True) (Rl := fun _ _ => True) (rs_if (rb_not (rb_test (rd_call (ra_cons (rd_vB rfl) (ra_cons rd_c (ra_cons rd_c ra_nil)))))) (rs_assoc (rs_raise (ra_cons rd_c ra_nil))) (rs_skip (rs_next trivial)))
abbrev s_Kind___init__ : Stmt := inClass (top 13) 0
theorem sc_Kind___init__ : FnScope ["self", "name"] ["self", "name"] (defScope s_Kind___init__) := ⟨rfl, rfl, rfl, by decide +kernel, rfl, by decide +kernel, by decide +kernel⟩
theorem vok_Kind___init__ {f : Addr} {fd : FuncData} (F : Fun Zd.K "__init__" "Kind.__init__" s_Kind___init__ f fd) (c_is_name : CalG P w Zd.K mg base (L2.CX P w) 1 "is_name" (spF Zd.K [.b] (foF (ap1 is_name_V)))) (k_BARRED_NAME : KnA mg "BARRED_NAME" (.str "alike")) (c_InvalidMachine : ExR P w Zd.K mg base "InvalidMachine" (Zd.c "InvalidMachine") "reason") :
    FnG P w Zd.K mg base (L2.CX P w) 3 f fd ["self", "name"] (spI Zd.K [.s] (fun _ => True) (foI fun C => ag1 (Kind___init___V C))) := by
  refine fn_iniV F sc_Kind___init__ rfl rfl ?_
  intro cdv A outer s H E hr hq
  have hu := hr.units
  have hp := @passX (cxOf (L2.CX P w) P w Zd.K mg base ["self", "name"] "Kind.__init__" (defScope s_Kind___init__) f cdv A outer s H E) E (takes_of rfl rfl rfl rfl)
  refine ⟨_, (pss_cons (ps_if (PW.pt (pw_or (pt_not (pt_val (pe_g c_is_name hr (by first | decide | omega) hq hp rfl (pa_cons (pv 1) pa_nil)))) (pw_or1 (pt_cmpR (op_eqP hu) (pv 1) (pe_k k_BARRED_NAME rfl) (nomark _))))) (pss_one (ps_raise rfl (takes_of rfl rfl rfl rfl) (pmk_exr c_InvalidMachine (hr.mono (by decide)) rfl (pa_cons pe_str pa_nil)))) pss_nil)
    (pss_cons (ps_fld (pv 0) (pv 1) rfl)
    (pss_cons (ps_fld (pv 0) pe_non rfl)
    (pss_one (ps_fld (pv 0) pe_str rfl))))), fun S Γ x => ⟨_, (ls_seq (ls_if (lt_or (lt_not (lt_val (Ln.lend (ln_call rfl (ln_cons rfl ln_varb ln_nil))))) (lt_test (Ln.lend (ln_op ln_varb (Ln.lend ln_c) p2_eq)))) (ls_end (ls_raise rfl (ln_cons rfl ln_c ln_nil))) ls_next) (ls_seq (ls_fld ln_var) (ls_seq (ls_fld ln_c) (ls_end (ls_fld ln_c))))), ?_⟩⟩
  exact fun C hC => dg1 (Pr := fun ds y => DI _ (iniE _ _ C ds) C y) (fun _ => .no) fun name => .go (Rl := fun _ _ => True) (rs_if (rb_or (rb_not (rb_test (rd_call (ra_cons (rd_vb rfl) ra_nil)))) (rb_test (rd_op (rd_vb rfl) rd_c))) (rs_assoc (rs_raise (ra_cons rd_c ra_nil))) (rs_skip (rs_fld rfl (rd_v rfl) fun self => (rs_fld rfl rd_c fun self_1 => (rs_fld rfl rd_c fun self_2 => (rs_next rfl))))))
abbrev s_Make___init__ : Stmt := inClass (top 14) 0
theorem sc_Make___init__ : NScope ["self", "name", "delay", "__class__"] ["self", "name", "delay"] ["__class__"] (defScope s_Make___init__) := nscope_by (by decide +kernel)
theorem vok_Make___init__ {f : Addr} {fd : FuncData} {c cc : Addr} (F : FunS P Zd.K "__init__" "Make.__init__" s_Make___init__ f fd c cc (Zd.c "Make")) (m_super : mg "super" = none) (hop : W.nsIn Zd.K cStatics "thirdparty.any" = some none) (B : BelowV P w Zd.K mg base 3 (Zd.c "Make") ["self", "name"] [.s] (fun _ => True) (fun C => ag1 (Kind___init___V C))) (c_check_delay : CalG P w Zd.K mg base (L2.CX P w) 3 "check_delay" (spF Zd.K [.b] (foF (ap1 check_delay_V)))) :
    FnG P w Zd.K mg base (L2.CX P w) 4 f fd ["self", "name", "delay"] (spI Zd.K [.s, .s] (fun C => C = Zd.c "Make") (foI fun C => ag2 (Make___init___V C))) := by
  obtain ⟨fP, fdP, u1, u2, u3, FF, bP⟩ := B.up
  refine fn_supV F sc_Make___init__ rfl rfl rfl (by decide +kernel) m_super hop (fun _ => rfl) (fun _ => rfl) (fun _ => ⟨_, rfl⟩) (fun _ => rfl) rfl rfl rfl (fun C h => by subst h; exact ⟨B.m1, u1, B.cp⟩) u2 u3 (FF.up (by decide)) bP ?_
  intro A outer s H E hr hq
  have hu := hr.units
  have hp := @passX (ncx (L2.CX P w) P w Zd.K mg base ["self", "name", "delay", "__class__"] (nfS "__init__" "Make.__init__" s_Make___init__ c cc) f A outer s H E) E (takes_of rfl rfl rfl rfl)
  refine ⟨_, _, (pa_cons (pv 1) pa_nil), (pss_cons (ps_expr (pe_g c_check_delay hr (by first | decide | omega) hq hp rfl (pa_cons (pv 2) pa_nil)))
    (pss_cons (ps_fld (pv 0) (pv 2) rfl)
    (pss_one (ps_fld (pv 0) pe_str rfl)))), hp, fun S Γ x => ⟨_, _, (ln_cons rfl ln_var ln_nil), (ls_seq (ls_drop (ln_call rfl (ln_cons rfl ln_varb ln_nil))) (ls_seq (ls_fld ln_var) (ls_end (ls_fld ln_c)))), ?_⟩⟩
  exact fun C hC => dg2 (Pr := fun ds y => DS _ _ (iniE _ _ C ds) _ C y) (fun _ => .no) fun name delay => .go (Rl := fun _ _ => True) (ra_cons (rd_v rfl) ra_nil) fun self => (rs_drop (rd_call (ra_cons (rd_vb rfl) ra_nil)) fun _ => (rs_fld rfl (rd_v rfl) fun self_1 => (rs_fld rfl rd_c fun self_2 => (rs_next rfl))))
abbrev s_Copy___init__ : Stmt := inClass (top 15) 0
theorem sc_Copy___init__ : NScope ["self", "name", "delay", "__class__"] ["self", "name", "delay"] ["__class__"] (defScope s_Copy___init__) := nscope_by (by decide +kernel)
theorem vok_Copy___init__ {f : Addr} {fd : FuncData} {c cc : Addr} (F : FunS P Zd.K "__init__" "Copy.__init__" s_Copy___init__ f fd c cc (Zd.c "Copy")) (m_super : mg "super" = none) (hop : W.nsIn Zd.K cStatics "thirdparty.any" = some none) (B : BelowV P w Zd.K mg base 3 (Zd.c "Copy") ["self", "name"] [.s] (fun _ => True) (fun C => ag1 (Kind___init___V C))) (c_check_delay : CalG P w Zd.K mg base (L2.CX P w) 3 "check_delay" (spF Zd.K [.b] (foF (ap1 check_delay_V)))) :
    FnG P w Zd.K mg base (L2.CX P w) 4 f fd ["self", "name", "delay"] (spI Zd.K [.s, .s] (fun C => C = Zd.c "Copy") (foI fun C => ag2 (Copy___init___V C))) := by
  obtain ⟨fP, fdP, u1, u2, u3, FF, bP⟩ := B.up
  refine fn_supV F sc_Copy___init__ rfl rfl rfl (by decide +kernel) m_super hop (fun _ => rfl) (fun _ => rfl) (fun _ => ⟨_, rfl⟩) (fun _ => rfl) rfl rfl rfl (fun C h => by subst h; exact ⟨B.m1, u1, B.cp⟩) u2 u3 (FF.up (by decide)) bP ?_
  intro A outer s H E hr hq
  have hu := hr.units
  have hp := @passX (ncx (L2.CX P w) P w Zd.K mg base ["self", "name", "delay", "__class__"] (nfS "__init__" "Copy.__init__" s_Copy___init__ c cc) f A outer s H E) E (takes_of rfl rfl rfl rfl)
  refine ⟨_, _, (pa_cons (pv 1) pa_nil), (pss_cons (ps_expr (pe_g c_check_delay hr (by first | decide | omega) hq hp rfl (pa_cons (pv 2) pa_nil)))
    (pss_cons (ps_fld (pv 0) (pv 2) rfl)
    (pss_one (ps_fld (pv 0) pe_str rfl)))), hp, fun S Γ x => ⟨_, _, (ln_cons rfl ln_var ln_nil), (ls_seq (ls_drop (ln_call rfl (ln_cons rfl ln_varb ln_nil))) (ls_seq (ls_fld ln_var) (ls_end (ls_fld ln_c)))), ?_⟩⟩
  exact fun C hC => dg2 (Pr := fun ds y => DS _ _ (iniE _ _ C ds) _ C y) (fun _ => .no) fun name delay => .go (Rl := fun _ _ => True) (ra_cons (rd_v rfl) ra_nil) fun self => (rs_drop (rd_call (ra_cons (rd_vb rfl) ra_nil)) fun _ => (rs_fld rfl (rd_v rfl) fun self_1 => (rs_fld rfl rd_c fun self_2 => (rs_next rfl))))
abbrev s_Give___init__ : Stmt := inClass (top 16) 0
theorem sc_Give___init__ : NScope ["self", "name", "__class__"] ["self", "name"] ["__class__"] (defScope s_Give___init__) := nscope_by (by decide +kernel)
theorem vok_Give___init__ {f : Addr} {fd : FuncData} {c cc : Addr} (F : FunS P Zd.K "__init__" "Give.__init__" s_Give___init__ f fd c cc (Zd.c "Give")) (m_super : mg "super" = none) (hop : W.nsIn Zd.K cStatics "thirdparty.any" = some none) (B : BelowV P w Zd.K mg base 3 (Zd.c "Give") ["self", "name"] [.s] (fun _ => True) (fun C => ag1 (Kind___init___V C))) :
    FnG P w Zd.K mg base (L2.CX P w) 4 f fd ["self", "name"] (spI Zd.K [.s] (fun C => C = Zd.c "Give") (foI fun C => ag1 (Give___init___V C))) := by
  obtain ⟨fP, fdP, u1, u2, u3, FF, bP⟩ := B.up
  refine fn_supV F sc_Give___init__ rfl rfl rfl (by decide +kernel) m_super hop (fun _ => rfl) (fun _ => rfl) (fun _ => ⟨_, rfl⟩) (fun _ => rfl) rfl rfl rfl (fun C h => by subst h; exact ⟨B.m1, u1, B.cp⟩) u2 u3 (FF.up (by decide)) bP ?_
  intro A outer s H E hr hq
  have hu := hr.units
  have hp := @passX (ncx (L2.CX P w) P w Zd.K mg base ["self", "name", "__class__"] (nfS "__init__" "Give.__init__" s_Give___init__ c cc) f A outer s H E) E (takes_of rfl rfl rfl rfl)
  refine ⟨_, _, (pa_cons (pv 1) pa_nil), (pss_one (ps_fld (pv 0) pe_str rfl)), hp, fun S Γ x => ⟨_, _, (ln_cons rfl ln_var ln_nil), (ls_end (ls_fld ln_c)), ?_⟩⟩
  exact fun C hC => dg1 (Pr := fun ds y => DS _ _ (iniE _ _ C ds) _ C y) (fun _ => .no) fun name => .go (Rl := fun _ _ => True) (ra_cons (rd_v rfl) ra_nil) fun self => (rs_fld rfl rd_c fun self_1 => (rs_next rfl))
abbrev s_Jump___init__ : Stmt := inClass (top 17) 0
theorem sc_Jump___init__ : NScope ["self", "name", "__class__"] ["self", "name"] ["__class__"] (defScope s_Jump___init__) := nscope_by (by decide +kernel)
theorem vok_Jump___init__ {f : Addr} {fd : FuncData} {c cc : Addr} (F : FunS P Zd.K "__init__" "Jump.__init__" s_Jump___init__ f fd c cc (Zd.c "Jump")) (m_super : mg "super" = none) (hop : W.nsIn Zd.K cStatics "thirdparty.any" = some none) (B : BelowV P w Zd.K mg base 3 (Zd.c "Jump") ["self", "name"] [.s] (fun _ => True) (fun C => ag1 (Kind___init___V C))) :
    FnG P w Zd.K mg base (L2.CX P w) 4 f fd ["self", "name"] (spI Zd.K [.s] (fun C => C = Zd.c "Jump") (foI fun C => ag1 (Jump___init___V C))) := by
  obtain ⟨fP, fdP, u1, u2, u3, FF, bP⟩ := B.up
  refine fn_supV F sc_Jump___init__ rfl rfl rfl (by decide +kernel) m_super hop (fun _ => rfl) (fun _ => rfl) (fun _ => ⟨_, rfl⟩) (fun _ => rfl) rfl rfl rfl (fun C h => by subst h; exact ⟨B.m1, u1, B.cp⟩) u2 u3 (FF.up (by decide)) bP ?_
  intro A outer s H E hr hq
  have hu := hr.units
  have hp := @passX (ncx (L2.CX P w) P w Zd.K mg base ["self", "name", "__class__"] (nfS "__init__" "Jump.__init__" s_Jump___init__ c cc) f A outer s H E) E (takes_of rfl rfl rfl rfl)
  refine ⟨_, _, (pa_cons (pv 1) pa_nil), (pss_one (ps_fld (pv 0) pe_str rfl)), hp, fun S Γ x => ⟨_, _, (ln_cons rfl ln_var ln_nil), (ls_end (ls_fld ln_c)), ?_⟩⟩
  exact fun C hC => dg1 (Pr := fun ds y => DS _ _ (iniE _ _ C ds) _ C y) (fun _ => .no) fun name => .go (Rl := fun _ _ => True) (ra_cons (rd_v rfl) ra_nil) fun self => (rs_fld rfl rd_c fun self_1 => (rs_next rfl))
abbrev s_check_late : Stmt := top 34
theorem sc_check_late : FnScope ["late"] ["late"] (defScope s_check_late) := ⟨rfl, rfl, rfl, by decide +kernel, rfl, by decide +kernel, by decide +kernel⟩
theorem vok_check_late {f : Addr} {fd : FuncData} (F : Fun Zd.K "check_late" "check_late" s_check_late f fd) (c_within : CalG P w Zd.K mg base (L2.CX P w) 1 "within" (spF Zd.K [.b, .b, .b] (foF (ap3 within_V)))) (k_MOST_LATE : KnA mg "MOST_LATE" (.int 2)) (c_InvalidMachine : ExR P w Zd.K mg base "InvalidMachine" (Zd.c "InvalidMachine") "reason") :
    FnG P w Zd.K mg base (L2.CX P w) 3 f fd ["late"] (spF Zd.K [.b] (foF (ap1 check_late_V))) := by
  refine fn_V F sc_check_late rfl rfl ?_
  intro cdv A outer s H E hr hq
  have hu := hr.units
  have hp := @passX (cxOf (L2.CX P w) P w Zd.K mg base ["late"] "check_late" (defScope s_check_late) f cdv A outer s H E) E (takes_of rfl rfl rfl rfl)
  refine ⟨_, (pss_one (ps_if (pt_not (pt_val (pe_g c_within hr (by first | decide | omega) hq hp rfl (pa_cons (pv 0) (pa_cons pe_int (pa_cons (pe_k k_MOST_LATE rfl) pa_nil)))))) (pss_one (ps_raise rfl (takes_of rfl rfl rfl rfl) (pmk_exr c_InvalidMachine (hr.mono (by decide)) rfl (pa_cons pe_str pa_nil)))) pss_nil)), fun S Γ => ⟨_, (ls_end (ls_if (lt_not (lt_val (Ln.lend (ln_call rfl (ln_cons rfl ln_varb (ln_cons rfl (Ln.lend ln_c) (ln_cons rfl (Ln.lend ln_c) ln_nil))))))) (ls_end (ls_raise rfl (ln_cons rfl ln_c ln_nil))) ls_next)), ?_⟩⟩
  exact db1 fun late => .go (Rn := fun _ _ => True) (Rl := fun _ _ => True) (rs_if (rb_not (rb_test (rd_call (ra_cons (rd_vB rfl) (ra_cons rd_c (ra_cons rd_c ra_nil)))))) (rs_assoc (rs_raise (ra_cons rd_c ra_nil))) (rs_skip (rs_next trivial)))
abbrev s_check_width : Stmt := top 35
theorem sc_check_width : FnScope ["width"] ["width"] (defScope s_check_width) := ⟨rfl, rfl, rfl, by decide +kernel, rfl, by decide +kernel, by decide +kernel⟩
theorem vok_check_width {f : Addr} {fd : FuncData} (F : Fun Zd.K "check_width" "check_width" s_check_width f fd) (c_within : CalG P w Zd.K mg base (L2.CX P w) 1 "within" (spF Zd.K [.b, .b, .b] (foF (ap3 within_V)))) (k_MOST_WIDTH : KnA mg "MOST_WIDTH" (.int 3)) (c_InvalidMachine : ExR P w Zd.K mg base "InvalidMachine" (Zd.c "InvalidMachine") "reason") :
    FnG P w Zd.K mg base (L2.CX P w) 3 f fd ["width"] (spF Zd.K [.b] (foF (ap1 check_width_V))) := by
  refine fn_V F sc_check_width rfl rfl ?_
  intro cdv A outer s H E hr hq
  have hu := hr.units
  have hp := @passX (cxOf (L2.CX P w) P w Zd.K mg base ["width"] "check_width" (defScope s_check_width) f cdv A outer s H E) E (takes_of rfl rfl rfl rfl)
  refine ⟨_, (pss_one (ps_if (pt_not (pt_val (pe_g c_within hr (by first | decide | omega) hq hp rfl (pa_cons (pv 0) (pa_cons pe_int (pa_cons (pe_k k_MOST_WIDTH rfl) pa_nil)))))) (pss_one (ps_raise rfl (takes_of rfl rfl rfl rfl) (pmk_exr c_InvalidMachine (hr.mono (by decide)) rfl (pa_cons pe_str pa_nil)))) pss_nil)), fun S Γ => ⟨_, (ls_end (ls_if (lt_not (lt_val (Ln.lend (ln_call rfl (ln_cons rfl ln_varb (ln_cons rfl (Ln.lend ln_c) (ln_cons rfl (Ln.lend ln_c) ln_nil))))))) (ls_end (ls_raise rfl (ln_cons rfl ln_c ln_nil))) ls_next)), ?_⟩⟩
  exact db1 fun width => .go (Rn := fun _ _ => True) (Rl := fun _ _ => True) (rs_if (rb_not (rb_test (rd_call (ra_cons (rd_vB rfl) (ra_cons rd_c (ra_cons rd_c ra_nil)))))) (rs_assoc (rs_raise (ra_cons rd_c ra_nil))) (rs_skip (rs_next trivial)))
abbrev s_are_kinds : Stmt := top 36
theorem sc_are_kinds : FnScope ["values", "value"] ["values"] (defScope s_are_kinds) := ⟨rfl, rfl, rfl, by decide +kernel, rfl, by decide +kernel, by decide +kernel⟩
theorem vok_are_kinds {f : Addr} {fd : FuncData} (F : Fun Zd.K "are_kinds" "are_kinds" s_are_kinds f fd) (G : ExA Zd.K) (m_all : mg "all" = none) (m_isinstance : mg "isinstance" = none) (c_Kind : NmC mg "Kind" (Zd.c "Kind")) :
    FnG P w Zd.K mg base (L2.CX P w) 1 f fd ["values"] (spF Zd.K [.b] (foF (ap1 are_kinds_V))) := by
  refine fn_V F sc_are_kinds rfl rfl ?_
  intro cdv A outer s H E hr hq
  have hu := hr.units
  have hp := @passX (cxOf (L2.CX P w) P w Zd.K mg base ["values", "value"] "are_kinds" (defScope s_are_kinds) f cdv A outer s H E) E (takes_of rfl rfl rfl rfl)
  refine ⟨_, (pss_one (ps_ret (pe_callB (cr_all rfl) (by rfl) m_all (by decide +kernel) (pa_cons (pe_lc (own := [("value", 1)]) (g := gName 1) (tt := tYes) rfl sc_are_kinds.nd (pi_seq (pv 0)) (blkOk_by (N := ["values", "value"]) (sc := defScope (top 36)) (by decide +kernel)) (fun _ _ _ _ _ => (pg_name (i := 1) sc_are_kinds.nd rfl (Or.inl rfl))) (fun _ _ _ _ _ => pts_nil) (fun _ _ _ _ _ => (pe_and (pe_callB (show CallR _ (.builtin "isinstance") (rIsA Zd.K) from call_isA) (by rfl) m_isinstance (by decide +kernel) (pa_cons (pv 1) (pa_cons (pe_gref rfl c_Kind.nm) pa_nil))) (pe_one (pe_cmpR (show OpR _ (compareOp .NotEq) (rEqP Zd.K false) from (op_neP hu)) (show PE _ _ (tFld Zd.K _ _) from pe_fld (pv 1) rfl) pe_str (nomark _)))))) pa_nil)))), fun S Γ => ⟨_, (ls_end (ls_ret (ln_cb1 (Ln.lend (Ln.weak (ln_lc rfl (li_seqb ln_varb) lg_name lt_yes (ln_andM (mo := .s) (by decide) (Ln.lend (ln_cb2 ln_varb (Ln.lend ln_c) (p2_isiK G))) (ln_op (Ln.lend (ln_fld ln_varb)) (Ln.lend ln_c) p2_eq))))) p1_all))), ?_⟩⟩
  exact db1 fun values => .go (Rn := fun _ _ => True) (Rl := fun _ _ => True) (rs_ret (rd_un (rd_lc (rl_seq (rd_vB rfl)) fun e => (rt_n (rc_stp (rd_and (rd_op (rd_vb rfl) rd_c) (rd_op (rd_fld (rd_vb rfl)) rd_c)) rb_yes)))))
abbrev s_kind_line : Stmt := top 37
theorem sc_kind_line : FnScope ["kind"] ["kind"] (defScope s_kind_line) := ⟨rfl, rfl, rfl, by decide +kernel, rfl, by decide +kernel, by decide +kernel⟩
theorem vok_kind_line {f : Addr} {fd : FuncData} (F : Fun Zd.K "kind_line" "kind_line" s_kind_line f fd)  :
    FnG P w Zd.K mg base (L2.CX P w) 1 f fd ["kind"] (spF Zd.K [.b] (foF (ap1 kind_line_V))) := by
  refine fn_V F sc_kind_line rfl rfl ?_
  intro cdv A outer s H E hr hq
  have hu := hr.units
  have hp := @passX (cxOf (L2.CX P w) P w Zd.K mg base ["kind"] "kind_line" (defScope s_kind_line) f cdv A outer s H E) E (takes_of rfl rfl rfl rfl)
  refine ⟨_, (pss_cons (ps_if (pt_cmpR op_isD (pe_fld (pv 0) rfl) pe_non (nomark _)) (pss_one (ps_ret (pe_joined (PJ.cons (pe_fmt (pe_fld (pv 0) rfl)) (PJ.cons pe_str (PJ.cons (pe_fmt (pe_fld (pv 0) rfl)) .nil)))))) pss_nil)
    (pss_one (ps_ret (pe_joined (PJ.cons (pe_fmt (pe_fld (pv 0) rfl)) (PJ.cons pe_str (PJ.cons (pe_fmt (pe_fld (pv 0) rfl)) (PJ.cons pe_str (PJ.cons (pe_fmt (pe_fld (pv 0) rfl)) .nil))))))))), fun S Γ => ⟨_, (ls_seq (ls_if (lt_test (Ln.lend (ln_op (Ln.lend (ln_fld ln_varb)) (Ln.lend ln_c) p2_is))) (ls_end (ls_ret (ln_joined (.cons (ln_fmt (Ln.lend (ln_fld ln_varb))) (.cons ln_c (.cons (ln_fmt (Ln.lend (ln_fld ln_varb))) .nil)))))) ls_next) (ls_end (ls_ret (ln_joined (.cons (ln_fmt (Ln.lend (ln_fld ln_varb))) (.cons ln_c (.cons (ln_fmt (Ln.lend (ln_fld ln_varb))) (.cons ln_c (.cons (ln_fmt (Ln.lend (ln_fld ln_varb))) .nil))))))))), ?_⟩⟩
  exact db1 fun kind => .go (Rn := fun _ _ => True) (Rl := fun _ _ => True) (rs_if (rb_test (rd_op (rd_fld (rd_vB rfl)) rd_c)) (rs_assoc (rs_ret (rd_joined (.cons (rd_fmt (rd_fld (rd_vB rfl))) (.cons rd_c (.cons (rd_fmt (rd_fld (rd_vB rfl))) .nil)))))) (rs_skip (rs_ret (rd_joined (.cons (rd_fmt (rd_fld (rd_vB rfl))) (.cons rd_c (.cons (rd_fmt (rd_fld (rd_vB rfl))) (.cons rd_c (.cons (rd_fmt (rd_fld (rd_vB rfl))) .nil)))))))))
abbrev s_Machine_kind : Stmt := inClass (top 33) 5
theorem sc_Machine_kind : FnScope ["self", "name", "kind"] ["self", "name"] (defScope s_Machine_kind) := ⟨rfl, rfl, rfl, by decide +kernel, rfl, by decide +kernel, by decide +kernel⟩
theorem vok_Machine_kind {f : Addr} {fd : FuncData} (F : Fun Zd.K "kind" "Machine.kind" s_Machine_kind f fd) (c_NoName : ExR P w Zd.K mg base "NoName" (Zd.c "NoName") "name") :
    FnG P w Zd.K mg base (L2.CX P w) 3 f fd ["self", "name"] (spF Zd.K [.b, .s] (foF (ap2 Machine_kind_V))) := by
  refine fn_V F sc_Machine_kind rfl rfl ?_
  intro cdv A outer s H E hr hq
  have hu := hr.units
  have hp := @passX (cxOf (L2.CX P w) P w Zd.K mg base ["self", "name", "kind"] "Machine.kind" (defScope s_Machine_kind) f cdv A outer s H E) E (takes_of rfl rfl rfl rfl)
  refine ⟨_, (pss_cons (ps_for PassesOwn.leaving rfl (pi_seq (pe_fld (pv 0) rfl)) (pg_name (i := 2) sc_Machine_kind.nd rfl (Or.inl rfl)) (pss_one (ps_if (pt_cmpR (op_eqP hu) (pe_fld (pv 2) rfl) (pv 1) (nomark _)) (pss_one (ps_ret (pv 2))) pss_nil)))
    (pss_one (ps_raise rfl (takes_of rfl rfl rfl rfl) (pmk_exr c_NoName (hr.mono (by decide)) rfl (pa_cons (pv 1) pa_nil))))), fun S Γ => ⟨_, (ls_seq (ls_for (li_seq (ln_fld ln_varb)) lg_name (ls_end (ls_if (lt_test (Ln.lend (ln_op (Ln.lend (ln_fld ln_varb)) ln_varb p2_eq))) (ls_end (ls_ret ln_var)) ls_next))) (ls_end (ls_raise rfl (ln_cons rfl ln_var ln_nil)))), ?_⟩⟩
  exact db2 fun self name => .go (Rn := fun _ _ => True) (Rl := fun _ _ => True) (rs_for (R1 := (fun (q : Unit) ρ => ρ = [.bor (self), .d (name), .no])) (rl_seq (rd_fld (rd_vB rfl))) rfl (fun e q ρ h => by obtain rfl := h; exact (rt_n (rs_if (rb_test (rd_op (rd_fld (rd_vb rfl)) (rd_vb rfl))) (rs_assoc (rs_ret (rd_v rfl))) (rs_skip (rs_next ⟨rfl, rfl⟩))))) (fun q ρ h => by obtain rfl := h; exact (rs_raise (ra_cons (rd_v rfl) ra_nil))))
abbrev s_Machine___init__ : Stmt := inClass (top 33) 2
theorem sc_Machine___init__ : FnScope ["self", "late", "width", "kinds", "kind"] ["self", "late", "width", "kinds"] (defScope s_Machine___init__) := ⟨rfl, rfl, rfl, by decide +kernel, rfl, by decide +kernel, by decide +kernel⟩
theorem vok_Machine___init__ {f : Addr} {fd : FuncData} (F : Fun Zd.K "__init__" "Machine.__init__" s_Machine___init__ f fd) (m_len : mg "len" = none) (c_CV_Machine_A_MOST_KINDS : CvC Zd.K mg "Machine" "MOST_KINDS" (Zd.c "Machine") (.int 12)) (c_are_kinds : CalG P w Zd.K mg base (L2.CX P w) 1 "are_kinds" (spF Zd.K [.b] (foF (ap1 are_kinds_V)))) (c_InvalidMachine : ExR P w Zd.K mg base "InvalidMachine" (Zd.c "InvalidMachine") "reason") (c_check_late : CalG P w Zd.K mg base (L2.CX P w) 3 "check_late" (spF Zd.K [.b] (foF (ap1 check_late_V)))) (c_check_width : CalG P w Zd.K mg base (L2.CX P w) 3 "check_width" (spF Zd.K [.b] (foF (ap1 check_width_V)))) :
    FnB P w Zd.K mg base (L2.CX P w) 4 f fd ["self", "late", "width", "kinds"] (spI Zd.K [.s, .s, .s] (fun _ => True) (foI fun C => ag3 (Machine___init___V C))) := by
  refine fn_iniBV F sc_Machine___init__ rfl rfl ?_
  intro cdv A outer s H E hr hq
  have hu := hr.units
  have hp := @passX (cxOf (L2.CX P w) P w Zd.K mg base ["self", "late", "width", "kinds", "kind"] "Machine.__init__" (defScope s_Machine___init__) f cdv A outer s H E) E (takes_of rfl rfl rfl rfl)
  refine ⟨_, (pss_cons (ps_if (PW.pt (pw_or (pt_not (pt_chain op_leD op_leD pe_int (pe_callB c_lenD (by rfl) m_len PySem.boot_len (pa_cons (pv 3) pa_nil)) (pe_cv c_CV_Machine_A_MOST_KINDS rfl))) (pw_or1 (pt_not (pt_val (pe_g c_are_kinds hr (by first | decide | omega) hq hp rfl (pa_cons (pv 3) pa_nil))))))) (pss_one (ps_raise rfl (takes_of rfl rfl rfl rfl) (pmk_exr c_InvalidMachine (hr.mono (by decide)) rfl (pa_cons pe_str pa_nil)))) pss_nil)
    (pss_cons (ps_if (pt_cmpR op_ltD (pe_callB (show CallR _ (.builtin "len") (rLenSK P w) from cr_lenSK) (by rfl) m_len PySem.boot_len (pa_cons (pe_setK (own := [("kind", 4)]) (g := gName 4) (tt := tYes) rfl sc_Machine___init__.nd (pi_seq (pv 3)) (blkOk_by (N := ["self", "late", "width", "kinds", "kind"]) (sc := defScope (inClass (top 33) 2)) (by decide +kernel)) (fun _ _ _ _ _ => (pg_name (i := 4) sc_Machine___init__.nd rfl (Or.inl rfl))) (fun _ _ _ _ _ => pts_nil) (fun _ _ _ _ _ => (show PE _ _ (tFld Zd.K _ _) from pe_fld (pv 4) rfl))) pa_nil)) (pe_callB c_lenD (by rfl) m_len PySem.boot_len (pa_cons (pv 3) pa_nil)) (nomark _)) (pss_one (ps_raise rfl (takes_of rfl rfl rfl rfl) (pmk_exr c_InvalidMachine (hr.mono (by decide)) rfl (pa_cons pe_str pa_nil)))) pss_nil)
    (pss_cons (ps_expr (pe_g c_check_late hr (by first | decide | omega) hq hp rfl (pa_cons (pv 1) pa_nil)))
    (pss_cons (ps_expr (pe_g c_check_width hr (by first | decide | omega) hq hp rfl (pa_cons (pv 2) pa_nil)))
    (pss_cons (ps_fld (pv 0) (pv 3) rfl)
    (pss_cons (ps_fld (pv 0) (pv 1) rfl)
    (pss_one (ps_fld (pv 0) (pv 2) rfl)))))))), fun S Γ x => ⟨_, (ls_seq (ls_if (lt_or (lt_not (lt_test (ln_chain (mo := .b) (Ln.lend ln_c) (Ln.lend (ln_cb1 ln_varb p1_len)) (Ln.lend ln_c) (P2.lend p2_cmp) (P2.lend p2_cmp) (by decide)))) (lt_not (lt_val (Ln.lend (ln_call rfl (ln_cons rfl ln_varb ln_nil)))))) (ls_end (ls_raise rfl (ln_cons rfl ln_c ln_nil))) ls_next) (ls_seq (ls_if (lt_test (Ln.lend (ln_op (Ln.lend (ln_lsK rfl (li_seqb ln_varb) (fun _ => lg_name) lt_yes (la_addK (Ln.lend (ln_fld ln_varb))))) (Ln.lend (ln_cb1 ln_varb p1_len)) p2_cmp))) (ls_end (ls_raise rfl (ln_cons rfl ln_c ln_nil))) ls_next) (ls_seq (ls_drop (ln_call rfl (ln_cons rfl ln_varb ln_nil))) (ls_seq (ls_drop (ln_call rfl (ln_cons rfl ln_varb ln_nil))) (ls_seq (ls_fld ln_var) (ls_seq (ls_fld ln_var) (ls_end (ls_fld ln_var)))))))), ?_⟩⟩
  exact fun C hC => dg3 (Pr := fun ds y => DI _ (iniE _ _ C ds) C y) (fun _ => .no) fun late width kinds => .go (Rl := fun _ _ => True) (rs_if (rb_or (rb_not (rb_test (rd_chn rd_c (rd_un (rd_vb rfl)) rd_c))) (rb_not (rb_test (rd_call (ra_cons (rd_vb rfl) ra_nil))))) (rs_assoc (rs_raise (ra_cons rd_c ra_nil))) (rs_skip (rs_if (rb_test (rd_op (rd_lsK (rl_seq (rd_vb rfl)) fun e acc => (rt_n (rca rb_yes (rk_addK (rd_fld (rd_vb rfl)))))) (rd_un (rd_vb rfl)))) (rs_assoc (rs_raise (ra_cons rd_c ra_nil))) (rs_skip (rs_drop (rd_call (ra_cons (rd_vb rfl) ra_nil)) fun _ => (rs_drop (rd_call (ra_cons (rd_vb rfl) ra_nil)) fun _ => (rs_fld rfl (rd_v rfl) fun self => (rs_fld rfl (rd_v rfl) fun self_1 => (rs_fld rfl (rd_v rfl) fun self_2 => (rs_next rfl))))))))))
abbrev s_Machine_of : Stmt := inClass (top 33) 3
theorem sc_Machine_of : FnScope ["cls", "kinds", "late", "width", "given"] ["cls", "kinds", "late", "width"] (defScope s_Machine_of) := ⟨rfl, rfl, rfl, by decide +kernel, rfl, by decide +kernel, by decide +kernel⟩
theorem vok_Machine_of {f : Addr} {fd : FuncData} (F : Fun Zd.K "of" "Machine.of" s_Machine_of f fd) (G : ExA Zd.K) (m_isinstance : mg "isinstance" = none) (m_tuple : mg "tuple" = none) (m_list : mg "list" = none) (c_MKS_Machine : MkS P w Zd.K mg base 4 (Zd.c "Machine") ["late", "width"] "kinds" (spI Zd.K ([.s, .s] ++ [.s]) (fun _ => True) (foI fun C => ag3 (Machine___init___V C)))) (c_KP_Machine : W.keepIn Zd.K (.ref (Zd.c "Machine")) = true) :
    FnG P w Zd.K mg base (L2.CX P w) 6 f fd ["cls", "kinds", "late", "width"] (spF Zd.K [.b, .s, .s, .s] (foF (ap4 Machine_of_V))) := by
  refine fn_V F sc_Machine_of rfl rfl ?_
  intro cdv A outer s H E hr hq
  have hu := hr.units
  have hp := @passX (cxOf (L2.CX P w) P w Zd.K mg base ["cls", "kinds", "late", "width", "given"] "Machine.of" (defScope s_Machine_of) f cdv A outer s H E) E (takes_of rfl rfl rfl rfl)
  refine ⟨_, (pss_cons (ps_set (i := 4) sc_Machine_of.nd rfl (Or.inl rfl) (pe_ifExp (pt_val (pe_callB (show CallR _ (.builtin "isinstance") (rIsiS Zd.K) from call_isiS) (by rfl) m_isinstance (by decide +kernel) (pa_cons (pv 1) (pa_cons (pe_tup (pa_cons (pe_bty "list" rfl m_list (by decide +kernel)) (pa_cons (pe_bty "tuple" rfl m_tuple (by decide +kernel)) pa_nil))) pa_nil)))) (pv 1) (pe_tup pa_nil)))
    (pss_one (ps_ret (pe_mkS c_MKS_Machine c_KP_Machine hr (by first | decide | omega) hq hp (pv 0) (pv 4) (pk_cons (pv 2) (pk_cons (pv 3) pk_nil)))))), fun S Γ => ⟨_, (ls_seq (ls_set (ln_if (lt_val (Ln.lend (ln_cb2 ln_varb (Ln.lend (ln_tup rfl (ln_cons rfl ln_c (ln_cons rfl ln_c ln_nil)))) (p2_isiT G)))) ln_var (ln_tup rfl ln_nil))) (ls_end (ls_ret (Ln.weak (ln_mkS (os := [.s, .s]) rfl rfl (by first | exact True.intro | rfl) ln_varb ln_varb (ln_cons rfl ln_var (ln_cons rfl ln_var ln_nil))))))), ?_⟩⟩
  exact db4 fun cls kinds late width => .go (Rn := fun _ _ => True) (Rl := fun _ _ => True) (rs_set (rd_if (rb_test (rd_op (rd_vb rfl) (rd_tup (ra_cons rd_c (ra_cons rd_c ra_nil)) (Nat.le_of_ble_eq_true rfl)))) (rd_v rfl) (rd_tup ra_nil (Nat.le_of_ble_eq_true rfl))) fun given => (rs_ret (rd_mkS (rd_vB rfl) (rd_vb rfl) (ra_cons (rd_v rfl) (ra_cons (rd_v rfl) ra_nil)))))
abbrev s_Machine___contains__ : Stmt := inClass (top 33) 6
theorem sc_Machine___contains__ : FnScope ["self", "x", "kind"] ["self", "x"] (defScope s_Machine___contains__) := ⟨rfl, rfl, rfl, by decide +kernel, rfl, by decide +kernel, by decide +kernel⟩
theorem vok_Machine___contains__ {f : Addr} {fd : FuncData} (F : Fun Zd.K "__contains__" "Machine.__contains__" s_Machine___contains__ f fd)  :
    FnG P w Zd.K mg base (L2.CX P w) 1 f fd ["self", "x"] (spF Zd.K [.b, .b] (foF (ap2 Machine___contains___V))) := by
  refine fn_V F sc_Machine___contains__ rfl rfl ?_
  intro cdv A outer s H E hr hq
  have hu := hr.units
  have hp := @passX (cxOf (L2.CX P w) P w Zd.K mg base ["self", "x", "kind"] "Machine.__contains__" (defScope s_Machine___contains__) f cdv A outer s H E) E (takes_of rfl rfl rfl rfl)
  refine ⟨_, (pss_one (ps_ret (pe_cmpR (op_inE hu) (pv 1) (pe_lc (own := [("kind", 2)]) (g := gName 2) (tt := tYes) rfl sc_Machine___contains__.nd (pi_seq (pe_fld (pv 0) rfl)) (blkOk_by (N := ["self", "x", "kind"]) (sc := defScope (inClass (top 33) 6)) (by decide +kernel)) (fun _ _ _ _ _ => (pg_name (i := 2) sc_Machine___contains__.nd rfl (Or.inl rfl))) (fun _ _ _ _ _ => pts_nil) (fun _ _ _ _ _ => (show PE _ _ (tFld Zd.K _ _) from pe_fld (pv 2) rfl))) (by rfl)))), fun S Γ => ⟨_, (ls_end (ls_ret (ln_op ln_varb (Ln.lend (Ln.weak (ln_lc rfl (li_seqb (Ln.lend (ln_fld ln_varb))) lg_name lt_yes (ln_fld ln_varb)))) p2_inE))), ?_⟩⟩
  exact db2 fun self x => .go (Rn := fun _ _ => True) (Rl := fun _ _ => True) (rs_ret (rd_op (rd_vB rfl) (rd_lc (rl_seq (rd_fld (rd_vB rfl))) fun e => (rt_n (rc_stp (rd_fld (rd_vb rfl)) rb_yes)))))
abbrev s_Machine___str__ : Stmt := inClass (top 33) 10
theorem sc_Machine___str__ : FnScope ["self", "lines", "kind"] ["self"] (defScope s_Machine___str__) := ⟨rfl, rfl, rfl, by decide +kernel, rfl, by decide +kernel, by decide +kernel⟩
theorem vok_Machine___str__ {f : Addr} {fd : FuncData} (F : Fun Zd.K "__str__" "Machine.__str__" s_Machine___str__ f fd) (c_kind_line : CalG P w Zd.K mg base (L2.CX P w) 1 "kind_line" (spF Zd.K [.b] (foF (ap1 kind_line_V)))) :
    FnG P w Zd.K mg base (L2.CX P w) 2 f fd ["self"] (spF Zd.K [.b] (foF (ap1 Machine___str___V))) := by
  refine fn_V F sc_Machine___str__ rfl rfl ?_
  intro cdv A outer s H E hr hq
  have hu := hr.units
  have hp := @passX (cxOf (L2.CX P w) P w Zd.K mg base ["self", "lines", "kind"] "Machine.__str__" (defScope s_Machine___str__) f cdv A outer s H E) E (takes_of rfl rfl rfl rfl)
  refine ⟨_, (pss_cons (ps_setLc (i := 1) (own := [("kind", 2)]) (g := gName 2) (tt := tYes) rfl sc_Machine___str__.nd rfl rfl (sw_true rfl rfl rfl rfl) (pi_seq (pe_fld (pv 0) rfl)) (blkOk_by (N := ["self", "lines", "kind"]) (sc := defScope (inClass (top 33) 10)) (by decide +kernel)) (fun _ _ _ _ _ => (pg_name (i := 2) sc_Machine___str__.nd rfl (Or.inl rfl))) (fun _ _ _ _ _ => pts_nil) (fun _ _ _ _ _ => (pe_g c_kind_line hr (by first | decide | omega) hq passF rfl (pa_cons (pv 2) pa_nil))))
    (pss_one (ps_ret (pe_join pe_str (pe_lst (pa_cons (pe_joined (PJ.cons pe_str (PJ.cons (pe_fmt (pe_fld (pv 0) rfl)) .nil))) (pa_cons (pe_joined (PJ.cons pe_str (PJ.cons (pe_fmt (pe_fld (pv 0) rfl)) .nil))) (StX.pa_star (pv 1) pa_nil)))))))), fun S Γ => ⟨_, (ls_seq (ls_set (Ln.weak (ln_lc rfl (li_seqb (Ln.lend (ln_fld ln_varb))) lg_name lt_yes (ln_call rfl (ln_cons rfl ln_varb ln_nil))))) (ls_end (ls_ret (ln_join (Ln.lend ln_c) (Ln.lend (Ln.weak (ln_lstR (lr_cons (ln_joined (.cons ln_c (.cons (ln_fmt (Ln.lend (ln_fld ln_varb))) .nil))) (lr_cons (ln_joined (.cons ln_c (.cons (ln_fmt (Ln.lend (ln_fld ln_varb))) .nil))) (lr_star ln_varb lr_nil)))))))))), ?_⟩⟩
  exact db1 fun self => .go (Rn := fun _ _ => True) (Rl := fun _ _ => True) (rs_set (rd_lc (rl_seq (rd_fld (rd_vB rfl))) fun e => (rt_n (rc_stp (rd_call (ra_cons (rd_vb rfl) ra_nil)) rb_yes))) fun lines => (rs_ret (rd_join rd_c (rd_lstR (rz_cons (rd_joined (.cons rd_c (.cons (rd_fmt (rd_fld (rd_vB rfl))) .nil))) (rz_cons (rd_joined (.cons rd_c (.cons (rd_fmt (rd_fld (rd_vB rfl))) .nil))) (rz_star (rd_vb rfl) rz_nil)))))))
abbrev s_landing_of : Stmt := top 25
theorem sc_landing_of : FnScope ["machine", "operation"] ["machine", "operation"] (defScope s_landing_of) := ⟨rfl, rfl, rfl, by decide +kernel, rfl, by decide +kernel, by decide +kernel⟩
theorem vok_landing_of {f : Addr} {fd : FuncData} (F : Fun Zd.K "landing_of" "landing_of" s_landing_of f fd) (c_Machine_M_kind : MetC P w Zd.K mg base 3 (Zd.c "Machine") "kind" (spF Zd.K [.b, .s] (foF (ap2 Machine_kind_V)))) :
    FnG P w Zd.K mg base (L2.CX P w) 4 f fd ["machine", "operation"] (spF Zd.K [.b, .b] (foF (ap2 landing_of_V))) := by
  refine fn_V F sc_landing_of rfl rfl ?_
  intro cdv A outer s H E hr hq
  have hu := hr.units
  have hp := @passX (cxOf (L2.CX P w) P w Zd.K mg base ["machine", "operation"] "landing_of" (defScope s_landing_of) f cdv A outer s H E) E (takes_of rfl rfl rfl rfl)
  refine ⟨_, (pss_one (ps_ret (pe_tup (pa_cons (pe_ix ix_seq (pv 1) pe_int (fun _ _ => rfl)) (pa_cons (pe_fld (pe_met c_Machine_M_kind hr (by first | decide | omega) hq hp (pv 0) (pa_cons (pe_ix ix_seq (pv 1) pe_int (fun _ _ => rfl)) pa_nil)) rfl) pa_nil))))), fun S Γ => ⟨_, (ls_end (ls_ret (ln_tup rfl (ln_cons rfl (ln_op ln_varb (Ln.lend ln_c) p2_ix) (ln_cons rfl (ln_fld (Ln.lend (ln_met rfl ln_varb (ln_cons rfl (ln_op ln_varb (Ln.lend ln_c) p2_ix) ln_nil)))) ln_nil))))), ?_⟩⟩
  exact db2 fun machine operation => .go (Rn := fun _ _ => True) (Rl := fun _ _ => True) (rs_ret (rd_tup (ra_cons (rd_op (rd_vB rfl) rd_c) (ra_cons (rd_fld (rd_met (rd_vB rfl) (ra_cons (rd_op (rd_vB rfl) rd_c) ra_nil))) ra_nil)) (Nat.le_of_ble_eq_true rfl)))
abbrev s_are_sources : Stmt := top 23
theorem sc_are_sources : FnScope ["family", "value", "least", "most", "source"] ["family", "value"] (defScope s_are_sources) := ⟨rfl, rfl, rfl, by decide +kernel, rfl, by decide +kernel, by decide +kernel⟩
theorem vok_are_sources {f : Addr} {fd : FuncData} (F : Fun Zd.K "are_sources" "are_sources" s_are_sources f fd) (G : ExA Zd.K) (k_SOURCES : KnT Zd.K w mg "SOURCES" (Zd.c "SOURCES") [("make", (.tup [(dI 0), (dI 2)])), ("copy", (.tup [(dI 1), (dI 1)])), ("give", (.tup [(dI 1), (dI 2)])), ("jump", (.tup [(dI 0), (dI 1)]))]) (m_isinstance : mg "isinstance" = none) (m_tuple : mg "tuple" = none) (m_len : mg "len" = none) (m_all : mg "all" = none) (c_is_name : CalG P w Zd.K mg base (L2.CX P w) 1 "is_name" (spF Zd.K [.b] (foF (ap1 is_name_V)))) :
    FnG P w Zd.K mg base (L2.CX P w) 2 f fd ["family", "value"] (spF Zd.K [.b, .b] (foF (ap2 are_sources_V))) := by
  refine fn_V F sc_are_sources rfl rfl ?_
  intro cdv A outer s H E hr hq
  have hu := hr.units
  have hp := @passX (cxOf (L2.CX P w) P w Zd.K mg base ["family", "value", "least", "most", "source"] "are_sources" (defScope s_are_sources) f cdv A outer s H E) E (takes_of rfl rfl rfl rfl)
  refine ⟨_, (pss_cons (ps_asg (pe_ix ix_kdict (pe_gref rfl k_SOURCES.nm) (pv 0) (fun _ _ => rfl)) (pg_tup rfl (pgs_cons (pg_name (i := 2) sc_are_sources.nd rfl (Or.inl rfl)) (pgs_cons (pg_name (i := 3) sc_are_sources.nd rfl (Or.inl rfl)) pgs_nil))))
    (pss_cons (ps_if (PW.pt (pw_or (pt_not (pt_val (pe_callB call_isA (by rfl) m_isinstance (by decide +kernel) (pa_cons (pv 1) (pa_cons (pe_bty "tuple" rfl m_tuple (by decide +kernel)) pa_nil))))) (pw_or1 (pt_not (pt_chain op_leD op_leD (pv 2) (pe_callB c_lenD (by rfl) m_len PySem.boot_len (pa_cons (pv 1) pa_nil)) (pv 3)))))) (pss_one (ps_ret pe_bl)) pss_nil)
    (pss_one (ps_ret (pe_callB (cr_all rfl) (by rfl) m_all (by decide +kernel) (pa_cons (pe_lc (own := [("source", 4)]) (g := gName 4) (tt := tYes) rfl sc_are_sources.nd (pi_seq (pv 1)) (blkOk_by (N := ["family", "value", "least", "most", "source"]) (sc := defScope (top 23)) (by decide +kernel)) (fun _ _ _ _ _ => (pg_name (i := 4) sc_are_sources.nd rfl (Or.inl rfl))) (fun _ _ _ _ _ => pts_nil) (fun _ _ _ _ _ => (pe_g c_is_name hr (by first | decide | omega) hq passF rfl (pa_cons (pv 4) pa_nil)))) pa_nil)))))), fun S Γ => ⟨_, (ls_seq (ls_asg (ln_kix k_SOURCES.get ln_varb) (lg_tup (lg_cons lg_name (lg_cons lg_name lg_nil)))) (ls_seq (ls_if (lt_or (lt_not (lt_val (Ln.lend (ln_cb2 ln_varb (Ln.lend ln_c) (p2_isiK G))))) (lt_not (lt_test (ln_chain (mo := .b) ln_varb (Ln.lend (ln_cb1 ln_varb p1_len)) ln_varb (P2.lend p2_cmp) (P2.lend p2_cmp) (by decide))))) (ls_end (ls_ret ln_c)) ls_next) (ls_end (ls_ret (ln_cb1 (Ln.lend (Ln.weak (ln_lc rfl (li_seqb ln_varb) lg_name lt_yes (ln_call rfl (ln_cons rfl ln_varb ln_nil))))) p1_all))))), ?_⟩⟩
  exact db2 fun family value => .go (Rn := fun _ _ => True) (Rl := fun _ _ => True) (rs_asg (rd_un (rd_vB rfl)) fun x => (rt_2 fun least most => (rs_if (rb_or (rb_not (rb_test (rd_op (rd_vB rfl) rd_c))) (rb_not (rb_test (rd_chn (rd_vb rfl) (rd_un (rd_vB rfl)) (rd_vb rfl))))) (rs_assoc (rs_ret rd_c)) (rs_skip (rs_ret (rd_un (rd_lc (rl_seq (rd_vB rfl)) fun e => (rt_n (rc_stp (rd_call (ra_cons (rd_vb rfl) ra_nil)) rb_yes)))))))))
abbrev s_is_operation : Stmt := top 22
theorem sc_is_operation : FnScope ["machine", "value", "name", "target", "sources", "goal", "family", "writes", "jumps"] ["machine", "value"] (defScope s_is_operation) := ⟨rfl, rfl, rfl, by decide +kernel, rfl, by decide +kernel, by decide +kernel⟩
theorem vok_is_operation {f : Addr} {fd : FuncData} (F : Fun Zd.K "is_operation" "is_operation" s_is_operation f fd) (G : ExA Zd.K) (m_isinstance : mg "isinstance" = none) (m_tuple : mg "tuple" = none) (m_len : mg "len" = none) (c_Machine_D_contains : DunDef P w Zd.K mg base 1 "__contains__" (Zd.c "Machine") (spF Zd.K [.b, .b] (foF (ap2 Machine___contains___V)))) (c_Machine_M_kind : MetC P w Zd.K mg base 3 (Zd.c "Machine") "kind" (spF Zd.K [.b, .s] (foF (ap2 Machine_kind_V)))) (k_WRITING_SORTS : KnD Zd.K mg "WRITING_SORTS" (Zd.c "WRITING_SORTS") (.tup [(dS "make"), (dS "copy")])) (c_within : CalG P w Zd.K mg base (L2.CX P w) 1 "within" (spF Zd.K [.b, .b, .b] (foF (ap3 within_V)))) (k_MOST_GOAL : KnA mg "MOST_GOAL" (.int 40)) (c_are_sources : CalG P w Zd.K mg base (L2.CX P w) 2 "are_sources" (spF Zd.K [.b, .b] (foF (ap2 are_sources_V)))) (c_is_name : CalG P w Zd.K mg base (L2.CX P w) 1 "is_name" (spF Zd.K [.b] (foF (ap1 is_name_V)))) :
    FnG P w Zd.K mg base (L2.CX P w) 4 f fd ["machine", "value"] (spF Zd.K [.b, .s] (foF (ap2 is_operation_V))) := by
  refine fn_V F sc_is_operation rfl rfl ?_
  intro cdv A outer s H E hr hq
  have hu := hr.units
  have hp := @passX (cxOf (L2.CX P w) P w Zd.K mg base ["machine", "value", "name", "target", "sources", "goal", "family", "writes", "jumps"] "is_operation" (defScope s_is_operation) f cdv A outer s H E) E (takes_of rfl rfl rfl rfl)
  refine ⟨_, (pss_cons (ps_if (PW.pt (pw_or (pt_not (pt_val (pe_callB call_isA (by rfl) m_isinstance (by decide +kernel) (pa_cons (pv 1) (pa_cons (pe_bty "tuple" rfl m_tuple (by decide +kernel)) pa_nil))))) (pw_or1 (pt_cmpR (op_neP hu) (pe_callB c_lenD (by rfl) m_len PySem.boot_len (pa_cons (pv 1) pa_nil)) pe_int (nomark _))))) (pss_one (ps_ret pe_bl)) pss_nil)
    (pss_cons (ps_asg (pv 1) (pg_tup rfl (pgs_cons (pg_name (i := 2) sc_is_operation.nd rfl (Or.inl rfl)) (pgs_cons (pg_name (i := 3) sc_is_operation.nd rfl (Or.inl rfl)) (pgs_cons (pg_name (i := 4) sc_is_operation.nd rfl (Or.inl rfl)) (pgs_cons (pg_name (i := 5) sc_is_operation.nd rfl (Or.inl rfl)) pgs_nil))))))
    (pss_cons (ps_if (pt_cmpR (op_ninC c_Machine_D_contains hr (by first | decide | omega) hq) (pv 2) (pv 0) (by rfl)) (pss_one (ps_ret pe_bl)) pss_nil)
    (pss_cons (ps_set (i := 6) sc_is_operation.nd rfl (Or.inl rfl) (pe_fld (pe_met c_Machine_M_kind hr (by first | decide | omega) hq hp (pv 0) (pa_cons (pv 2) pa_nil)) rfl))
    (pss_cons (ps_set (i := 7) sc_is_operation.nd rfl (Or.inl rfl) (pe_cmpR (op_inE hu) (pv 6) (pe_kd k_WRITING_SORTS rfl) (by rfl)))
    (pss_cons (ps_set (i := 8) sc_is_operation.nd rfl (Or.inl rfl) (pe_cmpR (op_eqP hu) (pv 6) pe_str (nomark _)))
    (pss_one (ps_ret (pe_and (pe_ifExp (pt_val (pv 7)) (pe_g c_is_name hr (by first | decide | omega) hq hp rfl (pa_cons (pv 3) pa_nil)) (pe_cmpR op_isD (pv 3) pe_non (nomark _))) (pe_and (pe_g c_are_sources hr (by first | decide | omega) hq hp rfl (pa_cons (pv 6) (pa_cons (pv 4) pa_nil))) (pe_one (pe_ifExp (pt_val (pv 8)) (pe_g c_within hr (by first | decide | omega) hq hp rfl (pa_cons (pv 5) (pa_cons pe_int (pa_cons (pe_k k_MOST_GOAL rfl) pa_nil)))) (pe_cmpR op_isD (pv 5) pe_non (nomark _)))))))))))))), fun S Γ => ⟨_, (ls_seq (ls_if (lt_or (lt_not (lt_val (Ln.lend (ln_cb2 ln_varb (Ln.lend ln_c) (p2_isiK G))))) (lt_test (Ln.lend (ln_op (Ln.lend (ln_cb1 ln_varb p1_len)) (Ln.lend ln_c) p2_eq)))) (ls_end (ls_ret ln_c)) ls_next) (ls_seq (ls_asg ln_var (lg_tup (lg_cons lg_name (lg_cons lg_name (lg_cons lg_name (lg_cons lg_name lg_nil)))))) (ls_seq (ls_if (lt_test (Ln.lend (ln_op ln_varb ln_varb p2_inC))) (ls_end (ls_ret ln_c)) ls_next) (ls_seq (ls_set (ln_fld (Ln.lend (ln_met rfl ln_varb (ln_cons rfl ln_var ln_nil))))) (ls_seq (ls_set (ln_op ln_varb (Ln.lend (ln_kd k_WRITING_SORTS.rd)) p2_inE)) (ls_seq (ls_set (ln_op ln_varb (Ln.lend ln_c) p2_eq)) (ls_end (ls_ret (ln_andM (mo := .s) (by decide) (ln_if (lt_val ln_varb) (Ln.lend (ln_call rfl (ln_cons rfl ln_varb ln_nil))) (Ln.lend (ln_op ln_varb (Ln.lend ln_c) p2_is))) (ln_andM (mo := .s) (by decide) (Ln.lend (ln_call rfl (ln_cons rfl ln_varb (ln_cons rfl ln_varb ln_nil)))) (ln_if (lt_val ln_varb) (ln_call rfl (ln_cons rfl ln_varb (ln_cons rfl (Ln.lend ln_c) (ln_cons rfl (Ln.lend ln_c) ln_nil)))) (ln_op ln_varb (Ln.lend ln_c) p2_is)))))))))))), ?_⟩⟩
  exact db2 fun machine value => .go (Rn := fun _ _ => True) (Rl := fun _ _ => True) (rs_if (rb_or (rb_not (rb_test (rd_op (rd_vb rfl) rd_c))) (rb_test (rd_op (rd_un (rd_vb rfl)) rd_c))) (rs_assoc (rs_ret rd_c)) (rs_skip (rs_asg (rd_v rfl) fun x => (rt_4 fun name target sources goal => (rs_if (rb_test (rd_op (rd_vb rfl) (rd_vB rfl))) (rs_assoc (rs_ret rd_c)) (rs_skip (rs_set (rd_fld (rd_met (rd_vB rfl) (ra_cons (rd_v rfl) ra_nil))) fun family => (rs_set (rd_op (rd_vb rfl) rd_c) fun writes => (rs_set (rd_op (rd_vb rfl) rd_c) fun jumps => (rs_ret (rd_and (rd_if (rb_test (rd_vb rfl)) (rd_call (ra_cons (rd_vb rfl) ra_nil)) (rd_op (rd_vb rfl) rd_c)) (rd_and (rd_call (ra_cons (rd_vb rfl) (ra_cons (rd_vb rfl) ra_nil))) (rd_if (rb_test (rd_vb rfl)) (rd_call (ra_cons (rd_vb rfl) (ra_cons rd_c (ra_cons rd_c ra_nil)))) (rd_op (rd_vb rfl) rd_c))))))))))))))
abbrev s_is_row : Stmt := top 24
theorem sc_is_row : FnScope ["machine", "value", "jumps", "landed", "operation"] ["machine", "value"] (defScope s_is_row) := ⟨rfl, rfl, rfl, by decide +kernel, rfl, by decide +kernel, by decide +kernel⟩
theorem vok_is_row {f : Addr} {fd : FuncData} (F : Fun Zd.K "is_row" "is_row" s_is_row f fd) (G : ExA Zd.K) (m_isinstance : mg "isinstance" = none) (m_tuple : mg "tuple" = none) (m_len : mg "len" = none) (m_all : mg "all" = none) (c_is_operation : CalG P w Zd.K mg base (L2.CX P w) 4 "is_operation" (spF Zd.K [.b, .s] (foF (ap2 is_operation_V)))) (c_landing_of : CalG P w Zd.K mg base (L2.CX P w) 4 "landing_of" (spF Zd.K [.b, .b] (foF (ap2 landing_of_V)))) (m_set : mg "set" = none) :
    FnG P w Zd.K mg base (L2.CX P w) 5 f fd ["machine", "value"] (spF Zd.K [.b, .b] (foF (ap2 is_row_V))) := by
  refine fn_V F sc_is_row rfl rfl ?_
  intro cdv A outer s H E hr hq
  have hu := hr.units
  have hp := @passX (cxOf (L2.CX P w) P w Zd.K mg base ["machine", "value", "jumps", "landed", "operation"] "is_row" (defScope s_is_row) f cdv A outer s H E) E (takes_of rfl rfl rfl rfl)
  refine ⟨_, (pss_cons (ps_if (PW.pt (pw_or (pt_not (pt_val (pe_callB call_isA (by rfl) m_isinstance (by decide +kernel) (pa_cons (pv 1) (pa_cons (pe_bty "tuple" rfl m_tuple (by decide +kernel)) pa_nil))))) (pw_or1 (pt_cmpR op_gtD (pe_callB c_lenD (by rfl) m_len PySem.boot_len (pa_cons (pv 1) pa_nil)) (pe_fld (pv 0) rfl) (nomark _))))) (pss_one (ps_ret pe_bl)) pss_nil)
    (pss_cons (ps_if (pt_not (pt_val (pe_callB (cr_all rfl) (by rfl) m_all (by decide +kernel) (pa_cons (pe_lc (own := [("operation", 4)]) (g := gName 4) (tt := tYes) rfl sc_is_row.nd (pi_seq (pv 1)) (blkOk_by (N := ["machine", "value", "jumps", "landed", "operation"]) (sc := defScope (top 24)) (by decide +kernel)) (fun _ _ _ _ _ => (pg_name (i := 4) sc_is_row.nd rfl (Or.inl rfl))) (fun _ _ _ _ _ => pts_nil) (fun _ _ _ _ _ => (pe_g c_is_operation hr (by first | decide | omega) hq passF rfl (pa_cons (pv 0) (pa_cons (pv 4) pa_nil))))) pa_nil)))) (pss_one (ps_ret pe_bl)) pss_nil)
    (pss_cons (ps_setLc (i := 2) (own := [("operation", 4)]) (g := gName 4) (tt := _) rfl sc_is_row.nd rfl rfl (sw_true rfl rfl rfl rfl) (pi_seq (pv 1)) (blkOk_by (N := ["machine", "value", "jumps", "landed", "operation"]) (sc := defScope (top 24)) (by decide +kernel)) (fun _ _ _ _ _ => (pg_name (i := 4) sc_is_row.nd rfl (Or.inl rfl))) (fun _ _ _ _ _ => (pts_one (pt_cmpR op_isNotD (pe_ix (show IxR _ (rIx Zd.K) from ix_seq) (pv 4) pe_int (fun _ _ => rfl)) pe_non (nomark _)))) (fun _ _ _ _ _ => (pv 4)))
    (pss_cons (ps_setLc (i := 3) (own := [("operation", 4)]) (g := gName 4) (tt := _) rfl sc_is_row.nd rfl rfl (sw_true rfl rfl rfl rfl) (pi_seq (pv 1)) (blkOk_by (N := ["machine", "value", "jumps", "landed", "operation"]) (sc := defScope (top 24)) (by decide +kernel)) (fun _ _ _ _ _ => (pg_name (i := 4) sc_is_row.nd rfl (Or.inl rfl))) (fun _ _ _ _ _ => (pts_one (pt_cmpR op_isNotD (pe_ix (show IxR _ (rIx Zd.K) from ix_seq) (pv 4) pe_int (fun _ _ => rfl)) pe_non (nomark _)))) (fun _ _ _ _ _ => (pe_g c_landing_of hr (by first | decide | omega) hq passF rfl (pa_cons (pv 0) (pa_cons (pv 4) pa_nil)))))
    (pss_one (ps_ret (pe_and (pe_cmpR op_leD (pe_callB c_lenD (by rfl) m_len PySem.boot_len (pa_cons (pv 2) pa_nil)) pe_int (nomark _)) (pe_one (pe_cmpR (op_eqP hu) (pe_lenSetW (units8 hu) rfl rfl m_len rfl m_set (pv 3)) (pe_callB c_lenD (by rfl) m_len PySem.boot_len (pa_cons (pv 3) pa_nil)) (nomark _)))))))))), fun S Γ => ⟨_, (ls_seq (ls_if (lt_or (lt_not (lt_val (Ln.lend (ln_cb2 ln_varb (Ln.lend ln_c) (p2_isiK G))))) (lt_test (Ln.lend (ln_op (Ln.lend (ln_cb1 ln_varb p1_len)) (Ln.lend (ln_fld ln_varb)) p2_cmp)))) (ls_end (ls_ret ln_c)) ls_next) (ls_seq (ls_if (lt_not (lt_val (Ln.lend (ln_cb1 (Ln.lend (Ln.weak (ln_lc rfl (li_seqb ln_varb) lg_name lt_yes (ln_call rfl (ln_cons rfl ln_varb (ln_cons rfl ln_var ln_nil)))))) p1_all)))) (ls_end (ls_ret ln_c)) ls_next) (ls_seq (ls_set (Ln.weak (ln_lc rfl (li_seqb ln_varb) lg_name ((lt_test (Ln.lend (ln_op (Ln.lend (ln_op ln_varb (Ln.lend ln_c) p2_ix)) (Ln.lend ln_c) p2_is)))) ln_var))) (ls_seq (ls_set (Ln.weak (ln_lc rfl (li_seqb ln_varb) lg_name ((lt_test (Ln.lend (ln_op (Ln.lend (ln_op ln_varb (Ln.lend ln_c) p2_ix)) (Ln.lend ln_c) p2_is)))) (ln_call rfl (ln_cons rfl ln_varb (ln_cons rfl ln_varb ln_nil)))))) (ls_end (ls_ret (ln_andM (mo := .s) (by decide) (Ln.lend (ln_op (Ln.lend (ln_cb1 ln_varb p1_len)) (Ln.lend ln_c) p2_cmp)) (ln_op (Ln.lend (ln_un ln_varb p1_lsetX)) (Ln.lend (ln_cb1 ln_varb p1_len)) p2_eq)))))))), ?_⟩⟩
  exact db2 fun machine value => .go (Rn := fun _ _ => True) (Rl := fun _ _ => True) (rs_if (rb_or (rb_not (rb_test (rd_op (rd_vB rfl) rd_c))) (rb_test (rd_op (rd_un (rd_vB rfl)) (rd_fld (rd_vB rfl))))) (rs_assoc (rs_ret rd_c)) (rs_skip (rs_if (rb_not (rb_test (rd_un (rd_lc (rl_seq (rd_vB rfl)) fun e => (rt_n (rc_stp (rd_call (ra_cons (rd_vB rfl) (ra_cons (rd_v rfl) ra_nil))) rb_yes)))))) (rs_assoc (rs_ret rd_c)) (rs_skip (rs_set (rd_lc (rl_seq (rd_vB rfl)) fun e_1 => (rt_n (rc_stp (rd_v rfl) (rb_test (rd_op (rd_op (rd_vb rfl) rd_c) rd_c))))) fun jumps => (rs_set (rd_lc (rl_seq (rd_vB rfl)) fun e_2 => (rt_n (rc_stp (rd_call (ra_cons (rd_vB rfl) (ra_cons (rd_vb rfl) ra_nil))) (rb_test (rd_op (rd_op (rd_vb rfl) rd_c) rd_c))))) fun landed => (rs_ret (rd_and (rd_op (rd_un (rd_vb rfl)) rd_c) (rd_op (rd_un (rd_vb rfl)) (rd_un (rd_vb rfl)))))))))))
end
end
end L2.K5
namespace L2.K5
open L2 L2.My L2.DL NdefX PySem PySem.Spec PyProof.Rows
open PM
variable [Zd]
noncomputable section
def l_pick_V (some' : D) : Tm D := retV (β := Unit) (γ := Unit) (bndL (op2 ixD (ok some') (drw (op1 lenD (ok some')))) fun d => ok (.rt d))
def l_plan_V : Tm D := retV (β := Unit) (γ := Unit) (bndL (lstV [(op2 addD (ok (dI 1)) (drw (ok (dI 6)))), (op2 addD (ok (dI 1)) (drw (ok (dI 6)))), (op2 addD (ok (dI 1)) (drw (ok (dI 6))))]) fun delays =>
    (bndL (lstV [(tupV [(ok (dS "make")), (ok (dS "calc")), (op2 ixD (ok delays) (ok (dI 0)))]), (tupV [(ok (dS "make")), (ok (dS "r")), (op2 ixD (ok delays) (ok (dI 1)))]), (tupV [(ok (dS "copy")), (ok (dS "move")), (op2 ixD (ok delays) (ok (dI 2)))])]) fun kinds =>
    (bndL (op2 addD (ok kinds) (lstV [(tupV [(ok (dS "give")), (ok (dS "send")), (ok dN)]), (tupV [(ok (dS "jump")), (ok (dS "go")), (ok dN)]), (tupV [(ok (dS "jump")), (ok (dS "a")), (ok dN)])])) fun kinds_1 =>
    (bndL (drw (ok (dI 6))) fun start =>
    (bndL (op2 ixD (lstV [(ok (dI 6)), (ok (dI 6)), (op2 addD (ok (dI 1)) (drw (ok (dI 6))))]) (drw (ok (dI 3)))) fun many =>
    (bndL (tupV [(drw (ok (dI 3))), (op2 addD (ok (dI 1)) (drw (ok (dI 3)))), (op3 slD (op2 addD (op3 slD (ok kinds_1) (intV (ok start)) (ok none)) (op3 slD (ok kinds_1) (ok none) (intV (ok start)))) (ok none) (intV (ok many)))]) fun d => ok (.rt d)))))))
def l_machine_V (plan_here : D) : Om D := retV (β := Unit) (γ := Unit) (bndL (asLs (lstV [])) fun found =>
    (bndL (itV (op2 ixD (ok plan_here) (ok (dI 2)))) fun ds => thL (forL (fun e (q : (List D)) =>
    (un3L e fun family label wait => (ifL (tst (op2 (eqD true) (ok family) (ok (dS "make"))))
    (bndL (appV q (mkV (Zd.c "Make") (fun C => ag2 (Make___init___V C)) [(ok label), (ok wait)])) fun found_1 =>
    (ok (.nx found_1)))
    (ifL (tst (op2 (eqD true) (ok family) (ok (dS "copy"))))
    (bndL (appV q (mkV (Zd.c "Copy") (fun C => ag2 (Copy___init___V C)) [(ok label), (ok wait)])) fun found_2 =>
    (ok (.nx found_2)))
    (bndL (appV q (ifL (tst (op2 (eqD true) (ok family) (ok (dS "give")))) (mkV (Zd.c "Give") (fun C => ag1 (Give___init___V C)) [(ok label)]) (mkV (Zd.c "Jump") (fun C => ag1 (Jump___init___V C)) [(ok label)]))) fun found_3 =>
    (ok (.nx found_3))))))) ds found) fun (q : (List D)) =>
    (bndL (clmV (Zd.c "Machine") [0, 1, 2] (ap4 Machine_of_V) (ok (.v (.ref (Zd.c "Machine")))) [(ok (.lst q))] [(op2 ixD (ok plan_here) (ok (dI 0))), (op2 ixD (ok plan_here) (ok (dI 1)))]) fun d => ok (.rt d))))
def l_operation_V (plan_here : D) : Tm D := retV (β := Unit) (γ := Unit) (bndL (penV (ap1 l_pick_V) [(op2 ixD (ok plan_here) (ok (dI 2)))]) fun x => (un3L x fun family label wait => (bndL (op2 ixD (lstV [(tupV [(ok (dI 0)), (ok (dI 2))]), (tupV [(ok (dI 1)), (ok (dI 1))]), (tupV [(ok (dI 1)), (ok (dI 2))]), (tupV [(ok (dI 0)), (ok (dI 1))])]) (idxV (lstV [(ok (dS "make")), (ok (dS "copy")), (ok (dS "give")), (ok (dS "jump"))]) (ok family))) fun x_1 => (un2L x_1 fun least most => (bndL (op2 addD (ok least) (drw (op2 addD (op2 subV (ok most) (ok least)) (ok (dI 1))))) fun many =>
    (bndL (lcL (rng1 (ok many)) fun e => stpL (ok true) (penV (ap1 l_pick_V) [(lstV [(ok (dS "a")), (ok (dS "r")), (ok (dS "s")), (ok (dS "calc")), (ok (dS "zzzzzzzz"))])])) fun some' =>
    (bndL (ifL (tst (op2 (isD false) (ok wait) (ok dN))) (penV (ap1 l_pick_V) [(lstV [(ok (dS "a")), (ok (dS "r")), (ok (dS "send")), (ok (dS "b"))])]) (ok dN)) fun target =>
    (bndL (tupV [(ok label), (ok target), (op1 tupD (ok some')), (ifL (tst (op2 (eqD true) (ok family) (ok (dS "jump")))) (drw (ok (dI 41))) (ok dN))]) fun d => ok (.rt d)))))))))
def l_is_name_V (worth_so : D) : Om D := retV (β := Unit) (γ := Unit) (ifL (orL (notB (tst (op2 (isiK Zd.K) (ok worth_so) (ok (.v (.ty "str")))))) (notB (tst (chnL ltV ltV (ok (dI 0)) (op1 lenD (ok worth_so)) (ok (dI 9))))))
    (bndL (ok (dB false)) fun d => ok (.rt d))
    (bndL (op2 (eqN true) (lcL (itV (ok worth_so)) fun e => stpL (tst (op2 (inSg false) (ok e) (ok (dS "abcdefghijklmnopqrstuvwxyz")))) (ok e)) (lstV [])) fun d => ok (.rt d)))
def l_kind_V (plan_here label : D) : Om D := retV (β := Unit) (γ := Unit) (bndL (lcL (itV (op2 ixD (ok plan_here) (ok (dI 2)))) fun e => stpL (andL (tst (op2 (isiK Zd.K) (ok label) (ok (.v (.ty "str"))))) (tst (op2 (eqD true) (op2 ixD (ok e) (ok (dI 1))) (ok label)))) (ok e)) fun found =>
    (bndL (ifL (tst (op2 (eqN false) (ok found) (lstV []))) (op2 ixD (ok found) (ok (dI 0))) (ok dN)) fun d => ok (.rt d)))
def l_is_operation_V (plan_here worth_so : D) : Om D := retV (β := Unit) (γ := Unit) (ifL (orL (notB (tst (op2 (isiK Zd.K) (ok worth_so) (ok (.v (.ty "tuple")))))) (orL (tst (op2 (eqD false) (op1 lenD (ok worth_so)) (ok (dI 4)))) (tst (op2 (isD true) (calV (ap2 l_kind_V) [(ok plan_here), (op2 ixD (ok worth_so) (ok (dI 0)))]) (ok dN)))))
    (bndL (ok (dB false)) fun d => ok (.rt d))
    (bndL (ok worth_so) fun x => (un4L x fun label target some' goal => (bndL (calV (ap2 l_kind_V) [(ok plan_here), (ok label)]) fun x_1 => (un3L x_1 fun family label_1 wait => (ifL (orL (notB (tst (op2 (isiK Zd.K) (ok some') (ok (.v (.ty "tuple")))))) (tst (op2 (eqN false) (lcL (itV (ok some')) fun e => stpL (notB (tst (calV (ap1 l_is_name_V) [(ok e)]))) (ok e)) (lstV []))))
    (bndL (ok (dB false)) fun d => ok (.rt d))
    (ifL (orL (andL (tst (op2 (eqD true) (ok family) (ok (dS "make")))) (tst (op2 gtV (op1 lenD (ok some')) (ok (dI 2))))) (andL (tst (op2 (eqD true) (ok family) (ok (dS "copy")))) (tst (op2 (eqD false) (op1 lenD (ok some')) (ok (dI 1))))))
    (bndL (ok (dB false)) fun d => ok (.rt d))
    (ifL (orL (andL (tst (op2 (eqD true) (ok family) (ok (dS "give")))) (tst (op2 (inDE false) (op1 lenD (ok some')) (tupV [(ok (dI 1)), (ok (dI 2))])))) (andL (tst (op2 (eqD true) (ok family) (ok (dS "jump")))) (tst (op2 gtV (op1 lenD (ok some')) (ok (dI 1))))))
    (bndL (ok (dB false)) fun d => ok (.rt d))
    (ifL (orL (andL (tst (op2 (isD true) (ok wait) (ok dN))) (tst (op2 (isD false) (ok target) (ok dN)))) (andL (tst (op2 (isD false) (ok wait) (ok dN))) (notB (tst (calV (ap1 l_is_name_V) [(ok target)])))))
    (bndL (ok (dB false)) fun d => ok (.rt d))
    (ifL (tst (op2 (eqD false) (ok family) (ok (dS "jump"))))
    (bndL (op2 (isD true) (ok goal) (ok dN)) fun d => ok (.rt d))
    (bndL (andXL (op2 (isiK Zd.K) (ok goal) (ok (.v (.ty "int")))) (andXL (notX (op2 (isiK Zd.K) (ok goal) (ok (.v (.ty "bool"))))) (chnL leV leV (ok (dI 0)) (ok goal) (ok (dI 40))))) fun d => ok (.rt d))))))))))))
def l_is_row_V (plan_here worth_so : D) : Om D := retV (β := Unit) (γ := Unit) (ifL (orL (notB (tst (op2 (isiK Zd.K) (ok worth_so) (ok (.v (.ty "tuple")))))) (tst (op2 gtV (op1 lenD (ok worth_so)) (op2 ixD (ok plan_here) (ok (dI 1))))))
    (bndL (ok (dB false)) fun d => ok (.rt d))
    (ifL (tst (op2 (eqN false) (lcL (itV (ok worth_so)) fun e => stpL (notB (tst (calV (ap2 l_is_operation_V) [(ok plan_here), (ok e)]))) (ok e)) (lstV [])))
    (bndL (ok (dB false)) fun d => ok (.rt d))
    (bndL (lcL (itV (ok worth_so)) fun e_1 => stpL (tst (op2 (isD false) (op2 ixD (ok e_1) (ok (dI 3))) (ok dN))) (ok e_1)) fun jumps =>
    (bndL (lcL (itV (ok worth_so)) fun e_2 => stpL (tst (op2 (isD false) (op2 ixD (ok e_2) (ok (dI 1))) (ok dN))) (tupV [(op2 ixD (ok e_2) (ok (dI 1))), (op2 ixD (calV (ap2 l_kind_V) [(ok plan_here), (op2 ixD (ok e_2) (ok (dI 0)))]) (ok (dI 2)))])) fun writes =>
    (bndL (andXL (op2 ltV (op1 lenD (ok jumps)) (ok (dI 2))) (op2 (eqD true) (op1 lsetX (ok writes)) (op1 lenD (ok writes)))) fun d => ok (.rt d))))))
def l_bent_V (plan_here one : D) : Tm D := retV (β := Unit) (γ := Unit) (bndL (ok one) fun x => (un4L x fun label target some' goal => (bndL (lstV [(ok dN), (ok (dB true)), (ok (dI 0)), (op1 negD (ok (dI 1))), (ok (dI 41)), (op2 powV (ok (dI 10)) (ok (dI 30))), (ok (dS "")), (ok (dS "A")), (ok (dS "abcdefghi")), (ok (dS "a")), (ok (dS "r")), (tupV []), (tupV [(ok (dS "a"))]), (lstV [(ok (dS "a"))]), (ok (.dct [])), (ok (dS "1"))]) fun odd =>
    (bndL (op2 ixD (op2 addD (ok odd) (lstV [(ok (dS "alike")), (drw (ok (dI 41)))])) (drw (ok (dI 18)))) fun worth =>
    (bndL (drw (ok (dI 8))) fun way =>
    (ifL (tst (op2 (eqD true) (ok way) (ok (dI 0))))
    (bndL (tupV [(ok worth), (ok target), (ok some'), (ok goal)]) fun d => ok (.rt d))
    (ifL (tst (op2 (eqD true) (ok way) (ok (dI 1))))
    (bndL (tupV [(ok label), (ok worth), (ok some'), (ok goal)]) fun d => ok (.rt d))
    (ifL (tst (op2 (eqD true) (ok way) (ok (dI 2))))
    (bndL (tupV [(ok label), (ok target), (ok worth), (ok goal)]) fun d => ok (.rt d))
    (ifL (tst (op2 (eqD true) (ok way) (ok (dI 3))))
    (bndL (tupV [(ok label), (ok target), (ok some'), (ok worth)]) fun d => ok (.rt d))
    (ifL (tst (op2 (eqD true) (ok way) (ok (dI 4))))
    (bndL (tupV [(ok label), (ok target), (ifL (tst (op2 (eqD true) (drw (ok (dI 2))) (ok (dI 0)))) (op2 addD (ok some') (tupV [(ok worth)])) (op3 slD (ok some') (intV (ok (dI 1))) (ok none))), (ok goal)]) fun d => ok (.rt d))
    (ifL (tst (op2 (eqD true) (ok way) (ok (dI 5))))
    (bndL (ifL (tst (op2 (eqD true) (drw (ok (dI 2))) (ok (dI 0)))) (op3 slD (ok one) (ok none) (intV (ok (dI 3)))) (op2 addD (ok one) (tupV [(ok dN)]))) fun d => ok (.rt d))
    (bndL (ifL (tst (op2 (eqD true) (ok way) (ok (dI 6)))) (op1 listD (ok one)) (tupV [(op2 ixD (penV (ap1 l_pick_V) [(op2 ixD (ok plan_here) (ok (dI 2)))]) (ok (dI 1))), (ok target), (ok some'), (ok goal)])) fun d => ok (.rt d)))))))))))))
def l_things_V (plan_here line_so : D) : Tm D := retV (β := Unit) (γ := Unit) (bndL (drw (op2 addD (op1 lenD (ok line_so)) (ok (dI 1)))) fun at' =>
    (bndL (penV (ap1 l_operation_V) [(ok plan_here)]) fun more =>
    (bndL (op3 slD (ok line_so) (ok none) (intV (ok at'))) fun head =>
    (bndL (op3 slD (ok line_so) (intV (ok at')) (ok none)) fun tail =>
    (bndL (asLs (lstV [(ok line_so), (op2 addD (op2 addD (ok head) (tupV [(ok more)])) (ok tail)), (op2 addD (op2 addD (ok head) (op3 slD (ok line_so) (ok none) (intV (ok (dI 1))))) (ok tail)), (op2 addD (ok head) (op3 slD (ok tail) (intV (ok (dI 1))) (ok none))), (op1 listD (ok line_so))])) fun found =>
    (thL (ifV (tst (op2 (eqD false) (ok line_so) (tupV [])))
    (bndL (drw (op1 lenD (ok line_so))) fun spot =>
    (bndL (op2 ixD (ok line_so) (ok spot)) fun one =>
    (bndL (op3 slD (ok line_so) (ok none) (intV (ok spot))) fun head_1 =>
    (bndL (op3 slD (ok line_so) (intV (op2 addD (ok spot) (ok (dI 1)))) (ok none)) fun tail_1 =>
    (bndL (appV found (op2 addD (op2 addD (ok head_1) (tupV [(penV (ap2 l_bent_V) [(ok plan_here), (ok one)])])) (ok tail_1))) fun found_1 =>
    (bndL (appV found_1 (op2 addD (op2 addD (ok head_1) (tupV [(tupV [(op2 ixD (ok one) (ok (dI 0))), (op2 ixD (ok more) (ok (dI 1))), (op2 ixD (ok one) (ok (dI 2))), (op2 ixD (ok one) (ok (dI 3)))])])) (ok tail_1))) fun found_2 =>
    (ok (.nx found_2))))))))
    (ok (.nx found))) fun (q : (List D)) =>
    (bndL (op2 addD (ok (.lst q)) (lstV [(ok dN), (ok (dI 0)), (ok (dS "-")), (ok (.dct [])), (tupV [(ok dN)]), (tupV [(tupV [])]), (tupV [(ok more), (ok more)]), (tupV [(ok more)]), (ok more)])) fun d => ok (.rt d))))))))
def law_V : Tm D := retV (β := Unit) (γ := Unit) (bndL (rng1 (ok (dI 4))) fun ds => thL (forL (fun e (q : Unit) =>
    (bndL (penV (ap0 l_plan_V) []) fun plan_here =>
    (bndL (calV (ap1 l_machine_V) [(ok plan_here)]) fun plant =>
    (bndL (op1 (strC (Zd.c "Machine") (foF (ap1 Machine___str___V))) (ok plant)) fun shown =>
    (bndL (rng1 (ok (dI 6))) fun ds => thL (forL (fun e_1 (q_1 : Unit) =>
    (bndL (op1 tupD (lcL (rng1 (drw (op2 addD (op2 ixD (ok plan_here) (ok (dI 1))) (ok (dI 1))))) fun e_2 => stpL (ok true) (penV (ap1 l_operation_V) [(ok plan_here)]))) fun line_so =>
    (bndL (itV (ok line_so)) fun ds => thL (forL (fun e_4 (q_2 : Unit) =>
    (ifL (tst (op2 (isD false) (calV (ap2 is_operation_V) [(ok plant), (ok e_4)]) (ok (dB true))))
    (bndL (ok (dB false)) fun d => ok (.rt d))
    (bndL (penV (ap2 l_bent_V) [(ok plan_here), (ok e_4)]) fun bent_here =>
    (ifL (tst (op2 (eqD false) (op1 reprQ (kwV [1, 0] (ap2 is_operation_V) [(ok bent_here), (ok plant)])) (op1 reprQ (calV (ap2 l_is_operation_V) [(ok plan_here), (ok bent_here)]))))
    (bndL (ok (dB false)) fun d => ok (.rt d))
    (ok (.nx ())))))) ds ()) fun (q_2 : Unit) =>
    (bndL (itV (penV (ap2 l_things_V) [(ok plan_here), (ok line_so)])) fun ds => thL (forL (fun e_3 (q_3 : Unit) =>
    (ifL (tst (op2 (eqD false) (op1 reprQ (calV (ap2 is_row_V) [(ok plant), (ok e_3)])) (op1 reprQ (calV (ap2 l_is_row_V) [(ok plan_here), (ok e_3)]))))
    (bndL (ok (dB false)) fun d => ok (.rt d))
    (ok (.nx ())))) ds ()) fun (q_3 : Unit) =>
    (ok (.nx ())))))) ds ()) fun (q_1 : Unit) =>
    (ifL (orL (tst (op2 (isD false) (kwV [1, 0] (ap2 is_row_V) [(tupV []), (ok plant)]) (ok (dB true)))) (tst (op2 (isD false) (calV (ap2 is_operation_V) [(ok plant), (tupV [])]) (ok (dB false)))))
    (bndL (ok (dB false)) fun d => ok (.rt d))
    (ifL (tst (op2 (eqD false) (op1 (strC (Zd.c "Machine") (foF (ap1 Machine___str___V))) (ok plant)) (ok shown)))
    (bndL (ok (dB false)) fun d => ok (.rt d))
    (ok (.nx ()))))))))) ds ()) fun (q : Unit) =>
    (bndL (ok (dB true)) fun d => ok (.rt d)))
end
end L2.K5
namespace L2.K5
open L2 L2.My L2.DL NdefX PySem PySem.Spec PyProof.Rows
open PM
section
variable {P : Program} {w : World} {K : W.Frag} {mg : Str → Option Value} {base : Heap}
variable [Zd]
noncomputable section
abbrev s_l_pick : Stmt := top 48
theorem sc_l_pick : FnScope ["_law_pen_here", "_law_some"] ["_law_pen_here", "_law_some"] (defScope s_l_pick) := ⟨rfl, rfl, rfl, by decide +kernel, rfl, by decide +kernel, by decide +kernel⟩
theorem vok_l_pick {f : Addr} {fd : FuncData} (F : Fun Zd.K "_law_pick" "_law_pick" s_l_pick f fd) (c__law_draw : CalG P w Zd.K mg base (L2.CX P w) 1 "_law_draw" spDraw) (m_len : mg "len" = none) :
    FnG P w Zd.K mg base (L2.CX P w) 2 f fd ["_law_pen_here", "_law_some"] (spT Zd.K [.b] (ap1 l_pick_V)) := by
  refine fn_T F sc_l_pick rfl rfl ?_
  intro cdv A outer s H E hr hq
  have hu := hr.units
  have hp := @passX (cxOf (L2.CX P w) P w Zd.K mg base ["_law_pen_here", "_law_some"] "_law_pick" (defScope s_l_pick) f cdv A outer s H E) E (takes_of rfl rfl rfl rfl)
  refine ⟨_, (pss_one (ps_ret (pe_ix ix_seq (pv 1) (pe_g c__law_draw hr (by first | decide | omega) hq hp rfl (pa_cons (pv 0) (pa_cons (pe_callB c_lenD (by rfl) m_len PySem.boot_len (pa_cons (pv 1) pa_nil)) pa_nil))) (fun _ _ => rfl)))), fun p q ns => ⟨_, (ls_end (ls_ret (ln_op ln_varb (Ln.lend (ln_draw (ln_cons rfl ln_varb (ln_cons rfl (Ln.lend (ln_cb1 ln_varb p1_len)) ln_nil)))) p2_ix))), ?_⟩⟩
  exact db1 fun some' => .go (Rn := fun _ _ => True) (Rl := fun _ _ => True) (rs_ret (rd_op (rd_vB rfl) (rd_drw (rd_vB rfl) (rd_un (rd_vB rfl)))))
abbrev s_l_plan : Stmt := top 49
theorem sc_l_plan : FnScope ["_law_pen_here", "_law_delays", "_law_kinds", "_law_start", "_law_many"] ["_law_pen_here"] (defScope s_l_plan) := ⟨rfl, rfl, rfl, by decide +kernel, rfl, by decide +kernel, by decide +kernel⟩
theorem vok_l_plan {f : Addr} {fd : FuncData} (F : Fun Zd.K "_law_plan" "_law_plan" s_l_plan f fd) (c__law_draw : CalG P w Zd.K mg base (L2.CX P w) 1 "_law_draw" spDraw) :
    FnG P w Zd.K mg base (L2.CX P w) 2 f fd ["_law_pen_here"] (spT Zd.K [] (ap0 l_plan_V)) := by
  refine fn_T F sc_l_plan rfl rfl ?_
  intro cdv A outer s H E hr hq
  have hu := hr.units
  have hp := @passX (cxOf (L2.CX P w) P w Zd.K mg base ["_law_pen_here", "_law_delays", "_law_kinds", "_law_start", "_law_many"] "_law_plan" (defScope s_l_plan) f cdv A outer s H E) E (takes_of rfl rfl rfl rfl)
  refine ⟨_, (pss_cons (ps_set (i := 1) sc_l_plan.nd rfl (Or.inl rfl) (pe_lst (pa_cons (pe_op op_addD pe_int (pe_g c__law_draw hr (by first | decide | omega) hq hp rfl (pa_cons (pv 0) (pa_cons pe_int pa_nil)))) (pa_cons (pe_op op_addD pe_int (pe_g c__law_draw hr (by first | decide | omega) hq hp rfl (pa_cons (pv 0) (pa_cons pe_int pa_nil)))) (pa_cons (pe_op op_addD pe_int (pe_g c__law_draw hr (by first | decide | omega) hq hp rfl (pa_cons (pv 0) (pa_cons pe_int pa_nil)))) pa_nil)))))
    (pss_cons (ps_set (i := 2) sc_l_plan.nd rfl (Or.inl rfl) (pe_lst (pa_cons (pe_tup (pa_cons pe_str (pa_cons pe_str (pa_cons (pe_ix ix_seq (pv 1) pe_int (fun _ _ => rfl)) pa_nil)))) (pa_cons (pe_tup (pa_cons pe_str (pa_cons pe_str (pa_cons (pe_ix ix_seq (pv 1) pe_int (fun _ _ => rfl)) pa_nil)))) (pa_cons (pe_tup (pa_cons pe_str (pa_cons pe_str (pa_cons (pe_ix ix_seq (pv 1) pe_int (fun _ _ => rfl)) pa_nil)))) pa_nil)))))
    (pss_cons (ps_set (i := 2) sc_l_plan.nd rfl (Or.inl rfl) (pe_op op_addD (pv 2) (pe_lst (pa_cons (pe_tup (pa_cons pe_str (pa_cons pe_str (pa_cons pe_non pa_nil)))) (pa_cons (pe_tup (pa_cons pe_str (pa_cons pe_str (pa_cons pe_non pa_nil)))) (pa_cons (pe_tup (pa_cons pe_str (pa_cons pe_str (pa_cons pe_non pa_nil)))) pa_nil))))))
    (pss_cons (ps_set (i := 3) sc_l_plan.nd rfl (Or.inl rfl) (pe_g c__law_draw hr (by first | decide | omega) hq hp rfl (pa_cons (pv 0) (pa_cons pe_int pa_nil))))
    (pss_cons (ps_set (i := 4) sc_l_plan.nd rfl (Or.inl rfl) (pe_ix ix_seq (pe_lst (pa_cons pe_int (pa_cons pe_int (pa_cons (pe_op op_addD pe_int (pe_g c__law_draw hr (by first | decide | omega) hq hp rfl (pa_cons (pv 0) (pa_cons pe_int pa_nil)))) pa_nil)))) (pe_g c__law_draw hr (by first | decide | omega) hq hp rfl (pa_cons (pv 0) (pa_cons pe_int pa_nil))) (fun _ _ => rfl)))
    (pss_one (ps_ret (pe_tup (pa_cons (pe_g c__law_draw hr (by first | decide | omega) hq hp rfl (pa_cons (pv 0) (pa_cons pe_int pa_nil))) (pa_cons (pe_op op_addD pe_int (pe_g c__law_draw hr (by first | decide | omega) hq hp rfl (pa_cons (pv 0) (pa_cons pe_int pa_nil)))) (pa_cons (pe_slice sl_D (pe_op op_addD (pe_slice sl_D (pv 2) (po_some (pv 3)) po_none) (pe_slice sl_D (pv 2) po_none (po_some (pv 3)))) po_none (po_some (pv 4))) pa_nil))))))))))), fun p q ns => ⟨_, (ls_seq (ls_set (Ln.weak (ln_lst rfl (ln_cons rfl (ln_op (Ln.lend ln_c) (Ln.lend (ln_draw (ln_cons rfl ln_varb (ln_cons rfl (Ln.lend ln_c) ln_nil)))) p2_add) (ln_cons rfl (ln_op (Ln.lend ln_c) (Ln.lend (ln_draw (ln_cons rfl ln_varb (ln_cons rfl (Ln.lend ln_c) ln_nil)))) p2_add) (ln_cons rfl (ln_op (Ln.lend ln_c) (Ln.lend (ln_draw (ln_cons rfl ln_varb (ln_cons rfl (Ln.lend ln_c) ln_nil)))) p2_add) ln_nil)))))) (ls_seq (ls_set (Ln.weak (ln_lst rfl (ln_cons rfl (ln_tup rfl (ln_cons rfl ln_c (ln_cons rfl ln_c (ln_cons rfl (ln_op ln_varb (Ln.lend ln_c) p2_ix) ln_nil)))) (ln_cons rfl (ln_tup rfl (ln_cons rfl ln_c (ln_cons rfl ln_c (ln_cons rfl (ln_op ln_varb (Ln.lend ln_c) p2_ix) ln_nil)))) (ln_cons rfl (ln_tup rfl (ln_cons rfl ln_c (ln_cons rfl ln_c (ln_cons rfl (ln_op ln_varb (Ln.lend ln_c) p2_ix) ln_nil)))) ln_nil)))))) (ls_seq (ls_set (ln_op ln_varb (Ln.lend (Ln.weak (ln_lst rfl (ln_cons rfl (ln_tup rfl (ln_cons rfl ln_c (ln_cons rfl ln_c (ln_cons rfl ln_c ln_nil)))) (ln_cons rfl (ln_tup rfl (ln_cons rfl ln_c (ln_cons rfl ln_c (ln_cons rfl ln_c ln_nil)))) (ln_cons rfl (ln_tup rfl (ln_cons rfl ln_c (ln_cons rfl ln_c (ln_cons rfl ln_c ln_nil)))) ln_nil)))))) p2_add)) (ls_seq (ls_set (ln_draw (ln_cons rfl ln_varb (ln_cons rfl (Ln.lend ln_c) ln_nil)))) (ls_seq (ls_set (ln_op (Ln.lend (Ln.weak (ln_lst rfl (ln_cons rfl ln_c (ln_cons rfl ln_c (ln_cons rfl (ln_op (Ln.lend ln_c) (Ln.lend (ln_draw (ln_cons rfl ln_varb (ln_cons rfl (Ln.lend ln_c) ln_nil)))) p2_add) ln_nil)))))) (Ln.lend (ln_draw (ln_cons rfl ln_varb (ln_cons rfl (Ln.lend ln_c) ln_nil)))) p2_ix)) (ls_end (ls_ret (ln_tup rfl (ln_cons rfl (ln_draw (ln_cons rfl ln_varb (ln_cons rfl (Ln.lend ln_c) ln_nil))) (ln_cons rfl (ln_op (Ln.lend ln_c) (Ln.lend (ln_draw (ln_cons rfl ln_varb (ln_cons rfl (Ln.lend ln_c) ln_nil)))) p2_add) (ln_cons rfl (ln_sl (f := slD) (Ln.lend (ln_op (Ln.lend (ln_sl (f := slD) ln_varb (lo_some ln_varb) lo_none p3_sl)) (Ln.lend (ln_sl (f := slD) ln_varb lo_none (lo_some ln_varb) p3_sl)) p2_add)) lo_none (lo_some ln_varb) p3_sl) ln_nil))))))))))), ?_⟩⟩
  exact db0 (.go (Rn := fun _ _ => True) (Rl := fun _ _ => True) (rs_set (rd_lst (ra_cons (rd_op rd_c (rd_drw (rd_vB rfl) rd_c)) (ra_cons (rd_op rd_c (rd_drw (rd_vB rfl) rd_c)) (ra_cons (rd_op rd_c (rd_drw (rd_vB rfl) rd_c)) ra_nil))) (Nat.le_of_ble_eq_true rfl)) fun delays => (rs_set (rd_lst (ra_cons (rd_tup (ra_cons rd_c (ra_cons rd_c (ra_cons (rd_op (rd_vb rfl) rd_c) ra_nil))) (Nat.le_of_ble_eq_true rfl)) (ra_cons (rd_tup (ra_cons rd_c (ra_cons rd_c (ra_cons (rd_op (rd_vb rfl) rd_c) ra_nil))) (Nat.le_of_ble_eq_true rfl)) (ra_cons (rd_tup (ra_cons rd_c (ra_cons rd_c (ra_cons (rd_op (rd_vb rfl) rd_c) ra_nil))) (Nat.le_of_ble_eq_true rfl)) ra_nil))) (Nat.le_of_ble_eq_true rfl)) fun kinds => (rs_set (rd_op (rd_vb rfl) (rd_lst (ra_cons (rd_tup (ra_cons rd_c (ra_cons rd_c (ra_cons rd_c ra_nil))) (Nat.le_of_ble_eq_true rfl)) (ra_cons (rd_tup (ra_cons rd_c (ra_cons rd_c (ra_cons rd_c ra_nil))) (Nat.le_of_ble_eq_true rfl)) (ra_cons (rd_tup (ra_cons rd_c (ra_cons rd_c (ra_cons rd_c ra_nil))) (Nat.le_of_ble_eq_true rfl)) ra_nil))) (Nat.le_of_ble_eq_true rfl))) fun kinds_1 => (rs_set (rd_drw (rd_vB rfl) rd_c) fun start => (rs_set (rd_op (rd_lst (ra_cons rd_c (ra_cons rd_c (ra_cons (rd_op rd_c (rd_drw (rd_vB rfl) rd_c)) ra_nil))) (Nat.le_of_ble_eq_true rfl)) (rd_drw (rd_vB rfl) rd_c)) fun many => (rs_ret (rd_tup (ra_cons (rd_drw (rd_vB rfl) rd_c) (ra_cons (rd_op rd_c (rd_drw (rd_vB rfl) rd_c)) (ra_cons (rd_sl (rd_op (rd_sl (rd_vb rfl) (ro_some (rd_vb rfl)) ro_none) (rd_sl (rd_vb rfl) ro_none (ro_some (rd_vb rfl)))) ro_none (ro_some (rd_vb rfl))) ra_nil))) (Nat.le_of_ble_eq_true rfl)))))))))
abbrev s_l_machine : Stmt := top 50
theorem sc_l_machine : FnScope ["_law_plan_here", "_law_found", "_law_family", "_law_label", "_law_wait"] ["_law_plan_here"] (defScope s_l_machine) := ⟨rfl, rfl, rfl, by decide +kernel, rfl, by decide +kernel, by decide +kernel⟩
theorem vok_l_machine {f : Addr} {fd : FuncData} (F : Fun Zd.K "_law_machine" "_law_machine" s_l_machine f fd) (c_Make : MkC P w Zd.K mg base 4 "Make" (Zd.c "Make") ["self", "name", "delay"] (spI Zd.K [.s, .s] (fun C => C = Zd.c "Make") (foI fun C => ag2 (Make___init___V C)))) (c_Copy : MkC P w Zd.K mg base 4 "Copy" (Zd.c "Copy") ["self", "name", "delay"] (spI Zd.K [.s, .s] (fun C => C = Zd.c "Copy") (foI fun C => ag2 (Copy___init___V C)))) (c_Give : MkC P w Zd.K mg base 4 "Give" (Zd.c "Give") ["self", "name"] (spI Zd.K [.s] (fun C => C = Zd.c "Give") (foI fun C => ag1 (Give___init___V C)))) (c_Jump : MkC P w Zd.K mg base 4 "Jump" (Zd.c "Jump") ["self", "name"] (spI Zd.K [.s] (fun C => C = Zd.c "Jump") (foI fun C => ag1 (Jump___init___V C)))) (c_Machine_M_of_K_1_late_width : ClmC P w Zd.K mg base 6 (Zd.c "Machine") "of" 1 ["late", "width"] [0, 1, 2] (spF Zd.K [.b, .s, .s, .s] (foF (ap4 Machine_of_V)))) (c_Machine : NmC mg "Machine" (Zd.c "Machine")) :
    FnG P w Zd.K mg base (L2.CX P w) 7 f fd ["_law_plan_here"] (spF Zd.K [.b] (foF (ap1 l_machine_V))) := by
  refine fn_V F sc_l_machine rfl rfl ?_
  intro cdv A outer s H E hr hq
  have hu := hr.units
  have hp := @passX (cxOf (L2.CX P w) P w Zd.K mg base ["_law_plan_here", "_law_found", "_law_family", "_law_label", "_law_wait"] "_law_machine" (defScope s_l_machine) f cdv A outer s H E) E (takes_of rfl rfl rfl rfl)
  refine ⟨_, (pss_cons (ps_set (i := 1) sc_l_machine.nd rfl (Or.inl rfl) (pe_lst pa_nil))
    (pss_cons (ps_for PassesOwn.leaving rfl (pi_seq (pe_ix ix_seq (pv 0) pe_int (fun _ _ => rfl))) (pg_tup rfl (pgs_cons (pg_name (i := 2) sc_l_machine.nd rfl (Or.inl rfl)) (pgs_cons (pg_name (i := 3) sc_l_machine.nd rfl (Or.inl rfl)) (pgs_cons (pg_name (i := 4) sc_l_machine.nd rfl (Or.inl rfl)) pgs_nil)))) (pss_one (ps_if (pt_cmpR (op_eqP hu) (pv 2) pe_str (nomark _)) (pss_one (ps_expr (pe_bm PySem.F.plainAttrs_list PySem.F.slot_list_append PySem.F.type_list_append mt_append (pv 1) (pa_cons (pe_mkc c_Make hr (by first | decide | omega) hq rfl hp (pa_cons (pv 3) (pa_cons (pv 4) pa_nil))) pa_nil)))) (pss_one (ps_if (pt_cmpR (op_eqP hu) (pv 2) pe_str (nomark _)) (pss_one (ps_expr (pe_bm PySem.F.plainAttrs_list PySem.F.slot_list_append PySem.F.type_list_append mt_append (pv 1) (pa_cons (pe_mkc c_Copy hr (by first | decide | omega) hq rfl hp (pa_cons (pv 3) (pa_cons (pv 4) pa_nil))) pa_nil)))) (pss_one (ps_expr (pe_bm PySem.F.plainAttrs_list PySem.F.slot_list_append PySem.F.type_list_append mt_append (pv 1) (pa_cons (pe_ifExp (pt_cmpR (op_eqP hu) (pv 2) pe_str (nomark _)) (pe_mkc c_Give hr (by first | decide | omega) hq rfl hp (pa_cons (pv 3) pa_nil)) (pe_mkc c_Jump hr (by first | decide | omega) hq rfl hp (pa_cons (pv 3) pa_nil))) pa_nil)))))))))
    (pss_one (ps_ret (pe_clmN 1 2 3 c_Machine_M_of_K_1_late_width hr (by first | decide | omega) hq hp (pe_gref rfl c_Machine.nm) (pa_cons (pv 1) pa_nil) (pk_cons (pe_ix ix_seq (pv 0) pe_int (fun _ _ => rfl)) (pk_cons (pe_ix ix_seq (pv 0) pe_int (fun _ _ => rfl)) pk_nil))))))), fun S Γ => ⟨_, (ls_seq (ls_own (by decide) (ln_lst rfl ln_nil)) (ls_seq (ls_for (li_seq (ln_op ln_varb (Ln.lend ln_c) p2_ix)) (lg_tup (lg_cons lg_name (lg_cons lg_name (lg_cons lg_name lg_nil)))) (ls_end (ls_if (lt_test (Ln.lend (ln_op ln_varb (Ln.lend ln_c) p2_eq))) (ls_end (ls_append (Ln.weak (ln_mk (by rfl) (by first | rfl | exact True.intro) (ln_cons rfl ln_var (ln_cons rfl ln_var ln_nil)))))) (ls_end (ls_if (lt_test (Ln.lend (ln_op ln_varb (Ln.lend ln_c) p2_eq))) (ls_end (ls_append (Ln.weak (ln_mk (by rfl) (by first | rfl | exact True.intro) (ln_cons rfl ln_var (ln_cons rfl ln_var ln_nil)))))) (ls_end (ls_append (ln_if (lt_test (Ln.lend (ln_op ln_varb (Ln.lend ln_c) p2_eq))) (Ln.weak (ln_mk (by rfl) (by first | rfl | exact True.intro) (ln_cons rfl ln_var ln_nil))) (Ln.weak (ln_mk (by rfl) (by first | rfl | exact True.intro) (ln_cons rfl ln_var ln_nil))))))))))) (ls_end (ls_ret (ln_clm (os := [.s, .s, .s]) (by decide) rfl (Ln.lend ln_c) (ln_prm (n := 3) (pm := [0, 1, 2]) (os := [.s, .s, .s]) rfl rfl (ln_appN (os := [.s]) (os2 := [.s, .s]) 1 2 rfl rfl rfl rfl (ln_cons rfl ln_var ln_nil) (ln_cons rfl (ln_op ln_varb (Ln.lend ln_c) p2_ix) (ln_cons rfl (ln_op ln_varb (Ln.lend ln_c) p2_ix) ln_nil))))))))), ?_⟩⟩
  exact db1 fun plan_here => .go (Rn := fun _ _ => True) (Rl := fun _ _ => True) (rs_own (rd_lst ra_nil (Nat.le_of_ble_eq_true rfl)) fun found => (rs_for (R1 := (fun (q : (List D)) ρ => ρ = [.bor (plan_here), .own (.lst (q)), .no, .no, .no])) (rl_seq (rd_op (rd_vB rfl) rd_c)) rfl (fun e q ρ h => by obtain rfl := h; exact (rt_3 fun family label wait => (rs_if (rb_test (rd_op (rd_vb rfl) rd_c)) (rs_assoc (rs_app rfl (rd_mk (ra_cons (rd_v rfl) (ra_cons (rd_v rfl) ra_nil))) fun found_1 => (rs_skip (rs_next ⟨rfl, rfl⟩)))) (rs_assoc (rs_if (rb_test (rd_op (rd_vb rfl) rd_c)) (rs_assoc (rs_app rfl (rd_mk (ra_cons (rd_v rfl) (ra_cons (rd_v rfl) ra_nil))) fun found_2 => (rs_skip (rs_skip (rs_next ⟨rfl, rfl⟩))))) (rs_assoc (rs_app rfl (rd_if (rb_test (rd_op (rd_vb rfl) rd_c)) (rd_mk (ra_cons (rd_v rfl) ra_nil)) (rd_mk (ra_cons (rd_v rfl) ra_nil))) fun found_3 => (rs_skip (rs_skip (rs_next ⟨rfl, rfl⟩)))))))))) (fun q ρ h => by obtain rfl := h; exact (rs_ret (rd_clm rd_c (ra_cons (rd_v rfl) ra_nil) (ra_cons (rd_op (rd_vB rfl) rd_c) (ra_cons (rd_op (rd_vB rfl) rd_c) ra_nil)))))))
abbrev s_l_operation : Stmt := top 51
theorem sc_l_operation : FnScope ["_law_pen_here", "_law_plan_here", "_law_family", "_law_label", "_law_wait", "_law_least", "_law_most", "_law_many", "_law_some", "_law_target", "_law_k"] ["_law_pen_here", "_law_plan_here"] (defScope s_l_operation) := ⟨rfl, rfl, rfl, by decide +kernel, rfl, by decide +kernel, by decide +kernel⟩
theorem vok_l_operation {f : Addr} {fd : FuncData} (F : Fun Zd.K "_law_operation" "_law_operation" s_l_operation f fd) (c__law_pick : CalG P w Zd.K mg base (L2.CX P w) 2 "_law_pick" (spT Zd.K [.b] (ap1 l_pick_V))) (c__law_draw : CalG P w Zd.K mg base (L2.CX P w) 1 "_law_draw" spDraw) (m_range : mg "range" = none) (m_tuple : mg "tuple" = none) :
    FnG P w Zd.K mg base (L2.CX P w) 3 f fd ["_law_pen_here", "_law_plan_here"] (spT Zd.K [.b] (ap1 l_operation_V)) := by
  refine fn_T F sc_l_operation rfl rfl ?_
  intro cdv A outer s H E hr hq
  have hu := hr.units
  have hp := @passX (cxOf (L2.CX P w) P w Zd.K mg base ["_law_pen_here", "_law_plan_here", "_law_family", "_law_label", "_law_wait", "_law_least", "_law_most", "_law_many", "_law_some", "_law_target", "_law_k"] "_law_operation" (defScope s_l_operation) f cdv A outer s H E) E (takes_of rfl rfl rfl rfl)
  refine ⟨_, (pss_cons (ps_asg (pe_g c__law_pick hr (by first | decide | omega) hq hp rfl (pa_cons (pv 0) (pa_cons (pe_ix ix_seq (pv 1) pe_int (fun _ _ => rfl)) pa_nil))) (pg_tup rfl (pgs_cons (pg_name (i := 2) sc_l_operation.nd rfl (Or.inl rfl)) (pgs_cons (pg_name (i := 3) sc_l_operation.nd rfl (Or.inl rfl)) (pgs_cons (pg_name (i := 4) sc_l_operation.nd rfl (Or.inl rfl)) pgs_nil)))))
    (pss_cons (ps_asg (pe_ix ix_seq (pe_lst (pa_cons (pe_tup (pa_cons pe_int (pa_cons pe_int pa_nil))) (pa_cons (pe_tup (pa_cons pe_int (pa_cons pe_int pa_nil))) (pa_cons (pe_tup (pa_cons pe_int (pa_cons pe_int pa_nil))) (pa_cons (pe_tup (pa_cons pe_int (pa_cons pe_int pa_nil))) pa_nil))))) (pe_bm PySem.F.plainAttrs_list PySem.F.slot_list_index PySem.F.type_list_index mt_index (pe_lst (pa_cons pe_str (pa_cons pe_str (pa_cons pe_str (pa_cons pe_str pa_nil))))) (pa_cons (pv 2) pa_nil)) (fun _ _ => rfl)) (pg_tup rfl (pgs_cons (pg_name (i := 5) sc_l_operation.nd rfl (Or.inl rfl)) (pgs_cons (pg_name (i := 6) sc_l_operation.nd rfl (Or.inl rfl)) pgs_nil))))
    (pss_cons (ps_set (i := 7) sc_l_operation.nd rfl (Or.inl rfl) (pe_op op_addD (pv 5) (pe_g c__law_draw hr (by first | decide | omega) hq hp rfl (pa_cons (pv 0) (pa_cons (pe_op op_addD (pe_op op_sub (pv 6) (pv 5)) pe_int) pa_nil)))))
    (pss_cons (ps_setLc (i := 8) (own := [("_law_k", 10)]) (g := gName 10) (tt := tYes) rfl sc_l_operation.nd rfl rfl (sw_true rfl rfl rfl rfl) (pi_range1 rfl m_range (pa_cons (pv 7) pa_nil)) (blkOk_by (N := ["_law_pen_here", "_law_plan_here", "_law_family", "_law_label", "_law_wait", "_law_least", "_law_most", "_law_many", "_law_some", "_law_target", "_law_k"]) (sc := defScope (top 51)) (by decide +kernel)) (fun _ _ _ _ _ => (pg_name (i := 10) sc_l_operation.nd rfl (Or.inl rfl))) (fun _ _ _ _ _ => pts_nil) (fun _ _ _ _ _ => (pe_g c__law_pick hr (by first | decide | omega) hq passF rfl (pa_cons (pv 0) (pa_cons (pe_lst (pa_cons pe_str (pa_cons pe_str (pa_cons pe_str (pa_cons pe_str (pa_cons pe_str pa_nil)))))) pa_nil)))))
    (pss_cons (ps_set (i := 9) sc_l_operation.nd rfl (Or.inl rfl) (pe_ifExp (pt_cmpR op_isNotD (pv 4) pe_non (nomark _)) (pe_g c__law_pick hr (by first | decide | omega) hq hp rfl (pa_cons (pv 0) (pa_cons (pe_lst (pa_cons pe_str (pa_cons pe_str (pa_cons pe_str (pa_cons pe_str pa_nil))))) pa_nil))) pe_non))
    (pss_one (ps_ret (pe_tup (pa_cons (pv 3) (pa_cons (pv 9) (pa_cons (pe_callTy call_tuple_of (by rfl) m_tuple (by decide +kernel) (pa_cons (pv 8) pa_nil)) (pa_cons (pe_ifExp (pt_cmpR (op_eqP hu) (pv 2) pe_str (nomark _)) (pe_g c__law_draw hr (by first | decide | omega) hq hp rfl (pa_cons (pv 0) (pa_cons pe_int pa_nil))) pe_non) pa_nil)))))))))))), fun p q ns => ⟨_, (ls_seq (ls_asg (ln_penV rfl (ln_cons rfl ln_varb (ln_cons rfl (Ln.lend (ln_op ln_varb (Ln.lend ln_c) p2_ix)) ln_nil))) (lg_tup (lg_cons lg_name (lg_cons lg_name (lg_cons lg_name lg_nil))))) (ls_seq (ls_asg (ln_op (Ln.lend (Ln.weak (ln_lst rfl (ln_cons rfl (ln_tup rfl (ln_cons rfl ln_c (ln_cons rfl ln_c ln_nil))) (ln_cons rfl (ln_tup rfl (ln_cons rfl ln_c (ln_cons rfl ln_c ln_nil))) (ln_cons rfl (ln_tup rfl (ln_cons rfl ln_c (ln_cons rfl ln_c ln_nil))) (ln_cons rfl (ln_tup rfl (ln_cons rfl ln_c (ln_cons rfl ln_c ln_nil))) ln_nil))))))) (Ln.lend (ln_idx (Ln.lend (Ln.weak (ln_lst rfl (ln_cons rfl ln_c (ln_cons rfl ln_c (ln_cons rfl ln_c (ln_cons rfl ln_c ln_nil))))))) ln_varb)) p2_ix) (lg_tup (lg_cons lg_name (lg_cons lg_name lg_nil)))) (ls_seq (ls_set (ln_op ln_varb (Ln.lend (ln_draw (ln_cons rfl ln_varb (ln_cons rfl (Ln.lend (ln_op (Ln.lend (ln_op ln_varb ln_varb p2_rI0)) (Ln.lend ln_c) p2_add)) ln_nil)))) p2_add)) (ls_seq (ls_set (Ln.weak (ln_lc rfl (li_rng1 ln_varb) lg_name lt_yes (ln_penV rfl (ln_cons rfl ln_varb (ln_cons rfl (Ln.lend (Ln.weak (ln_lst rfl (ln_cons rfl ln_c (ln_cons rfl ln_c (ln_cons rfl ln_c (ln_cons rfl ln_c (ln_cons rfl ln_c ln_nil)))))))) ln_nil)))))) (ls_seq (ls_set (ln_if (lt_test (Ln.lend (ln_op ln_varb (Ln.lend ln_c) p2_is))) (ln_penV rfl (ln_cons rfl ln_varb (ln_cons rfl (Ln.lend (Ln.weak (ln_lst rfl (ln_cons rfl ln_c (ln_cons rfl ln_c (ln_cons rfl ln_c (ln_cons rfl ln_c ln_nil))))))) ln_nil))) ln_c)) (ls_end (ls_ret (ln_tup rfl (ln_cons rfl ln_var (ln_cons rfl ln_var (ln_cons rfl (ln_cb1 ln_varb p1_tup) (ln_cons rfl (ln_if (lt_test (Ln.lend (ln_op ln_varb (Ln.lend ln_c) p2_eq))) (ln_draw (ln_cons rfl ln_varb (ln_cons rfl (Ln.lend ln_c) ln_nil))) ln_c) ln_nil)))))))))))), ?_⟩⟩
  exact db1 fun plan_here => .go (Rn := fun _ _ => True) (Rl := fun _ _ => True) (rs_asg (rd_pen (rd_vB rfl) (ra_cons (rd_op (rd_vB rfl) rd_c) ra_nil)) fun x => (rt_3 fun family label wait => (rs_asg (rd_op (rd_lst (ra_cons (rd_tup (ra_cons rd_c (ra_cons rd_c ra_nil)) (Nat.le_of_ble_eq_true rfl)) (ra_cons (rd_tup (ra_cons rd_c (ra_cons rd_c ra_nil)) (Nat.le_of_ble_eq_true rfl)) (ra_cons (rd_tup (ra_cons rd_c (ra_cons rd_c ra_nil)) (Nat.le_of_ble_eq_true rfl)) (ra_cons (rd_tup (ra_cons rd_c (ra_cons rd_c ra_nil)) (Nat.le_of_ble_eq_true rfl)) ra_nil)))) (Nat.le_of_ble_eq_true rfl)) (rd_idx (rd_lst (ra_cons rd_c (ra_cons rd_c (ra_cons rd_c (ra_cons rd_c ra_nil)))) (Nat.le_of_ble_eq_true rfl)) (rd_vb rfl))) fun x_1 => (rt_2 fun least most => (rs_set (rd_op (rd_vb rfl) (rd_drw (rd_vB rfl) (rd_op (rd_op (rd_vb rfl) (rd_vb rfl)) rd_c))) fun many => (rs_set (rd_lc (rl_rng1 (rd_vb rfl)) fun e => (rt_n (rc_stp (rd_pen (rd_vB rfl) (ra_cons (rd_lst (ra_cons rd_c (ra_cons rd_c (ra_cons rd_c (ra_cons rd_c (ra_cons rd_c ra_nil))))) (Nat.le_of_ble_eq_true rfl)) ra_nil)) rb_yes))) fun some' => (rs_set (rd_if (rb_test (rd_op (rd_vb rfl) rd_c)) (rd_pen (rd_vB rfl) (ra_cons (rd_lst (ra_cons rd_c (ra_cons rd_c (ra_cons rd_c (ra_cons rd_c ra_nil)))) (Nat.le_of_ble_eq_true rfl)) ra_nil)) rd_c) fun target => (rs_ret (rd_tup (ra_cons (rd_v rfl) (ra_cons (rd_v rfl) (ra_cons (rd_un (rd_vb rfl)) (ra_cons (rd_if (rb_test (rd_op (rd_vb rfl) rd_c)) (rd_drw (rd_vB rfl) rd_c) rd_c) ra_nil)))) (Nat.le_of_ble_eq_true rfl))))))))))
abbrev s_l_is_name : Stmt := top 52
theorem sc_l_is_name : FnScope ["_law_worth_so", "_law_sign"] ["_law_worth_so"] (defScope s_l_is_name) := ⟨rfl, rfl, rfl, by decide +kernel, rfl, by decide +kernel, by decide +kernel⟩
theorem vok_l_is_name {f : Addr} {fd : FuncData} (F : Fun Zd.K "_law_is_name" "_law_is_name" s_l_is_name f fd) (G : ExA Zd.K) (m_isinstance : mg "isinstance" = none) (m_str : mg "str" = none) (m_len : mg "len" = none) :
    FnG P w Zd.K mg base (L2.CX P w) 1 f fd ["_law_worth_so"] (spF Zd.K [.b] (foF (ap1 l_is_name_V))) := by
  refine fn_V F sc_l_is_name rfl rfl ?_
  intro cdv A outer s H E hr hq
  have hu := hr.units
  have hp := @passX (cxOf (L2.CX P w) P w Zd.K mg base ["_law_worth_so", "_law_sign"] "_law_is_name" (defScope s_l_is_name) f cdv A outer s H E) E (takes_of rfl rfl rfl rfl)
  refine ⟨_, (pss_cons (ps_if (PW.pt (pw_or (pt_not (pt_val (pe_callB call_isA (by rfl) m_isinstance (by decide +kernel) (pa_cons (pv 0) (pa_cons (pe_bty "str" rfl m_str (by decide +kernel)) pa_nil))))) (pw_or1 (pt_not (pt_chain op_ltD op_ltD pe_int (pe_callB c_lenD (by rfl) m_len PySem.boot_len (pa_cons (pv 0) pa_nil)) pe_int))))) (pss_one (ps_ret pe_bl)) pss_nil)
    (pss_one (ps_ret (pe_cmpR (op_eqN hu) (pe_lc (own := [("_law_sign", 1)]) (g := gName 1) (tt := _) rfl sc_l_is_name.nd (pi_seq (pv 0)) (blkOk_by (N := ["_law_worth_so", "_law_sign"]) (sc := defScope (top 52)) (by decide +kernel)) (fun _ _ _ _ _ => (pg_name (i := 1) sc_l_is_name.nd rfl (Or.inl rfl))) (fun _ _ _ _ _ => (pts_one (pt_cmpR op_notInSg (pv 1) pe_str (by rfl)))) (fun _ _ _ _ _ => (pv 1))) (pe_lst pa_nil) (nomark _))))), fun S Γ => ⟨_, (ls_seq (ls_if (lt_or (lt_not (lt_val (Ln.lend (ln_cb2 ln_varb (Ln.lend ln_c) (p2_isiK G))))) (lt_not (lt_test (ln_chain (mo := .b) (Ln.lend ln_c) (Ln.lend (ln_cb1 ln_varb p1_len)) (Ln.lend ln_c) (P2.lend p2_cmp) (P2.lend p2_cmp) (by decide))))) (ls_end (ls_ret ln_c)) ls_next) (ls_end (ls_ret (ln_op (Ln.lend (Ln.weak (ln_lc rfl (li_seqb ln_varb) lg_name ((lt_test (Ln.lend (ln_op ln_varb (Ln.lend ln_c) p2_inSg)))) ln_var))) (Ln.lend (Ln.weak (ln_lst rfl ln_nil))) p2_eqN)))), ?_⟩⟩
  exact db1 fun worth_so => .go (Rn := fun _ _ => True) (Rl := fun _ _ => True) (rs_if (rb_or (rb_not (rb_test (rd_op (rd_vB rfl) rd_c))) (rb_not (rb_test (rd_chn rd_c (rd_un (rd_vB rfl)) rd_c)))) (rs_assoc (rs_ret rd_c)) (rs_skip (rs_ret (rd_op (rd_lc (rl_seq (rd_vB rfl)) fun e => (rt_n (rc_stp (rd_v rfl) (rb_test (rd_op (rd_vb rfl) rd_c))))) (rd_lst ra_nil (Nat.le_of_ble_eq_true rfl))))))
abbrev s_l_kind : Stmt := top 53
theorem sc_l_kind : FnScope ["_law_plan_here", "_law_label", "_law_found", "_law_line_so"] ["_law_plan_here", "_law_label"] (defScope s_l_kind) := ⟨rfl, rfl, rfl, by decide +kernel, rfl, by decide +kernel, by decide +kernel⟩
theorem vok_l_kind {f : Addr} {fd : FuncData} (F : Fun Zd.K "_law_kind" "_law_kind" s_l_kind f fd) (G : ExA Zd.K) (m_isinstance : mg "isinstance" = none) (m_str : mg "str" = none) :
    FnG P w Zd.K mg base (L2.CX P w) 1 f fd ["_law_plan_here", "_law_label"] (spF Zd.K [.b, .b] (foF (ap2 l_kind_V))) := by
  refine fn_V F sc_l_kind rfl rfl ?_
  intro cdv A outer s H E hr hq
  have hu := hr.units
  have hp := @passX (cxOf (L2.CX P w) P w Zd.K mg base ["_law_plan_here", "_law_label", "_law_found", "_law_line_so"] "_law_kind" (defScope s_l_kind) f cdv A outer s H E) E (takes_of rfl rfl rfl rfl)
  refine ⟨_, (pss_cons (ps_setLc (i := 2) (own := [("_law_line_so", 3)]) (g := gName 3) (tt := _) rfl sc_l_kind.nd rfl rfl (sw_true rfl rfl rfl rfl) (pi_seq (pe_ix ix_seq (pv 0) pe_int (fun _ _ => rfl))) (blkOk_by (N := ["_law_plan_here", "_law_label", "_law_found", "_law_line_so"]) (sc := defScope (top 53)) (by decide +kernel)) (fun _ _ _ _ _ => (pg_name (i := 3) sc_l_kind.nd rfl (Or.inl rfl))) (fun _ _ _ _ _ => (pts_one (PW.pt (pw_and (pt_val (pe_callB (show CallR _ (.builtin "isinstance") (rIsA Zd.K) from call_isA) (by rfl) m_isinstance (by decide +kernel) (pa_cons (pv 1) (pa_cons (pe_bty "str" rfl m_str (by decide +kernel)) pa_nil)))) (pw_and1 (pt_cmpR (show OpR _ (compareOp .Eq) (rEqP Zd.K true) from (op_eqP hu)) (pe_ix (show IxR _ (rIx Zd.K) from ix_seq) (pv 3) pe_int (fun _ _ => rfl)) (pv 1) (nomark _))))))) (fun _ _ _ _ _ => (pv 3)))
    (pss_one (ps_ret (pe_ifExp (pt_cmpR (op_neN hu) (pv 2) (pe_lst pa_nil) (nomark _)) (pe_ix ix_seq (pv 2) pe_int (fun _ _ => rfl)) pe_non)))), fun S Γ => ⟨_, (ls_seq (ls_set (Ln.weak (ln_lc rfl (li_seqb (Ln.lend (ln_op ln_varb (Ln.lend ln_c) p2_ix))) lg_name ((lt_and (lt_val (Ln.lend (ln_cb2 ln_varb (Ln.lend ln_c) (p2_isiK G)))) (lt_test (Ln.lend (ln_op (Ln.lend (ln_op ln_varb (Ln.lend ln_c) p2_ix)) ln_varb p2_eq))))) ln_var))) (ls_end (ls_ret (ln_if (lt_test (Ln.lend (ln_op ln_varb (Ln.lend (Ln.weak (ln_lst rfl ln_nil))) p2_eqN))) (ln_op ln_varb (Ln.lend ln_c) p2_ix) ln_c)))), ?_⟩⟩
  exact db2 fun plan_here label => .go (Rn := fun _ _ => True) (Rl := fun _ _ => True) (rs_set (rd_lc (rl_seq (rd_op (rd_vB rfl) rd_c)) fun e => (rt_n (rc_stp (rd_v rfl) (rb_and (rb_test (rd_op (rd_vB rfl) rd_c)) (rb_test (rd_op (rd_op (rd_vb rfl) rd_c) (rd_vB rfl))))))) fun found => (rs_ret (rd_if (rb_test (rd_op (rd_vb rfl) (rd_lst ra_nil (Nat.le_of_ble_eq_true rfl)))) (rd_op (rd_vb rfl) rd_c) rd_c)))
abbrev s_l_is_operation : Stmt := top 54
theorem sc_l_is_operation : FnScope ["_law_plan_here", "_law_worth_so", "_law_label", "_law_target", "_law_some", "_law_goal", "_law_family", "_law_wait", "_law_one"] ["_law_plan_here", "_law_worth_so"] (defScope s_l_is_operation) := ⟨rfl, rfl, rfl, by decide +kernel, rfl, by decide +kernel, by decide +kernel⟩
theorem vok_l_is_operation {f : Addr} {fd : FuncData} (F : Fun Zd.K "_law_is_operation" "_law_is_operation" s_l_is_operation f fd) (G : ExA Zd.K) (m_isinstance : mg "isinstance" = none) (m_tuple : mg "tuple" = none) (m_len : mg "len" = none) (c__law_kind : CalG P w Zd.K mg base (L2.CX P w) 1 "_law_kind" (spF Zd.K [.b, .b] (foF (ap2 l_kind_V)))) (c__law_is_name : CalG P w Zd.K mg base (L2.CX P w) 1 "_law_is_name" (spF Zd.K [.b] (foF (ap1 l_is_name_V)))) (m_bool : mg "bool" = none) (m_int : mg "int" = none) :
    FnG P w Zd.K mg base (L2.CX P w) 2 f fd ["_law_plan_here", "_law_worth_so"] (spF Zd.K [.b, .s] (foF (ap2 l_is_operation_V))) := by
  refine fn_V F sc_l_is_operation rfl rfl ?_
  intro cdv A outer s H E hr hq
  have hu := hr.units
  have hp := @passX (cxOf (L2.CX P w) P w Zd.K mg base ["_law_plan_here", "_law_worth_so", "_law_label", "_law_target", "_law_some", "_law_goal", "_law_family", "_law_wait", "_law_one"] "_law_is_operation" (defScope s_l_is_operation) f cdv A outer s H E) E (takes_of rfl rfl rfl rfl)
  refine ⟨_, (pss_cons (ps_if (PW.pt (pw_or (pt_not (pt_val (pe_callB call_isA (by rfl) m_isinstance (by decide +kernel) (pa_cons (pv 1) (pa_cons (pe_bty "tuple" rfl m_tuple (by decide +kernel)) pa_nil))))) (pw_or (pt_cmpR (op_neP hu) (pe_callB c_lenD (by rfl) m_len PySem.boot_len (pa_cons (pv 1) pa_nil)) pe_int (nomark _)) (pw_or1 (pt_cmpR op_isD (pe_g c__law_kind hr (by first | decide | omega) hq hp rfl (pa_cons (pv 0) (pa_cons (pe_ix ix_seq (pv 1) pe_int (fun _ _ => rfl)) pa_nil))) pe_non (nomark _)))))) (pss_one (ps_ret pe_bl)) pss_nil)
    (pss_cons (ps_asg (pv 1) (pg_tup rfl (pgs_cons (pg_name (i := 2) sc_l_is_operation.nd rfl (Or.inl rfl)) (pgs_cons (pg_name (i := 3) sc_l_is_operation.nd rfl (Or.inl rfl)) (pgs_cons (pg_name (i := 4) sc_l_is_operation.nd rfl (Or.inl rfl)) (pgs_cons (pg_name (i := 5) sc_l_is_operation.nd rfl (Or.inl rfl)) pgs_nil))))))
    (pss_cons (ps_asg (pe_g c__law_kind hr (by first | decide | omega) hq hp rfl (pa_cons (pv 0) (pa_cons (pv 2) pa_nil))) (pg_tup rfl (pgs_cons (pg_name (i := 6) sc_l_is_operation.nd rfl (Or.inl rfl)) (pgs_cons (pg_name (i := 2) sc_l_is_operation.nd rfl (Or.inl rfl)) (pgs_cons (pg_name (i := 7) sc_l_is_operation.nd rfl (Or.inl rfl)) pgs_nil)))))
    (pss_cons (ps_if (PW.pt (pw_or (pt_not (pt_val (pe_callB call_isA (by rfl) m_isinstance (by decide +kernel) (pa_cons (pv 4) (pa_cons (pe_bty "tuple" rfl m_tuple (by decide +kernel)) pa_nil))))) (pw_or1 (pt_cmpR (op_neN hu) (pe_lc (own := [("_law_one", 8)]) (g := gName 8) (tt := _) rfl sc_l_is_operation.nd (pi_seq (pv 4)) (blkOk_by (N := ["_law_plan_here", "_law_worth_so", "_law_label", "_law_target", "_law_some", "_law_goal", "_law_family", "_law_wait", "_law_one"]) (sc := defScope (top 54)) (by decide +kernel)) (fun _ _ _ _ _ => (pg_name (i := 8) sc_l_is_operation.nd rfl (Or.inl rfl))) (fun _ _ _ _ _ => (pts_one (pt_not (pt_val (pe_g c__law_is_name hr (by first | decide | omega) hq passF rfl (pa_cons (pv 8) pa_nil)))))) (fun _ _ _ _ _ => (pv 8))) (pe_lst pa_nil) (nomark _))))) (pss_one (ps_ret pe_bl)) pss_nil)
    (pss_cons (ps_if (PW.pt (pw_or (PW.pt (pw_and (pt_cmpR (op_eqP hu) (pv 6) pe_str (nomark _)) (pw_and1 (pt_cmpR op_gtD (pe_callB c_lenD (by rfl) m_len PySem.boot_len (pa_cons (pv 4) pa_nil)) pe_int (nomark _))))) (pw_or1 (PW.pt (pw_and (pt_cmpR (op_eqP hu) (pv 6) pe_str (nomark _)) (pw_and1 (pt_cmpR (op_neP hu) (pe_callB c_lenD (by rfl) m_len PySem.boot_len (pa_cons (pv 4) pa_nil)) pe_int (nomark _)))))))) (pss_one (ps_ret pe_bl)) pss_nil)
    (pss_cons (ps_if (PW.pt (pw_or (PW.pt (pw_and (pt_cmpR (op_eqP hu) (pv 6) pe_str (nomark _)) (pw_and1 (pt_cmpR (op_notInE hu) (pe_callB c_lenD (by rfl) m_len PySem.boot_len (pa_cons (pv 4) pa_nil)) (pe_tup (pa_cons pe_int (pa_cons pe_int pa_nil))) (by rfl))))) (pw_or1 (PW.pt (pw_and (pt_cmpR (op_eqP hu) (pv 6) pe_str (nomark _)) (pw_and1 (pt_cmpR op_gtD (pe_callB c_lenD (by rfl) m_len PySem.boot_len (pa_cons (pv 4) pa_nil)) pe_int (nomark _)))))))) (pss_one (ps_ret pe_bl)) pss_nil)
    (pss_cons (ps_if (PW.pt (pw_or (PW.pt (pw_and (pt_cmpR op_isD (pv 7) pe_non (nomark _)) (pw_and1 (pt_cmpR op_isNotD (pv 3) pe_non (nomark _))))) (pw_or1 (PW.pt (pw_and (pt_cmpR op_isNotD (pv 7) pe_non (nomark _)) (pw_and1 (pt_not (pt_val (pe_g c__law_is_name hr (by first | decide | omega) hq hp rfl (pa_cons (pv 3) pa_nil)))))))))) (pss_one (ps_ret pe_bl)) pss_nil)
    (pss_cons (ps_if (pt_cmpR (op_neP hu) (pv 6) pe_str (nomark _)) (pss_one (ps_ret (pe_cmpR op_isD (pv 5) pe_non (nomark _)))) pss_nil)
    (pss_one (ps_ret (pe_and (pe_callB call_isA (by rfl) m_isinstance (by decide +kernel) (pa_cons (pv 5) (pa_cons (pe_bty "int" rfl m_int (by decide +kernel)) pa_nil))) (pe_and (pe_not (pe_callB call_isA (by rfl) m_isinstance (by decide +kernel) (pa_cons (pv 5) (pa_cons (pe_bty "bool" rfl m_bool (by decide +kernel)) pa_nil)))) (pe_one (pe_chain op_leD op_leD pe_int (pv 5) pe_int)))))))))))))), fun S Γ => ⟨_, (ls_seq (ls_if (lt_or (lt_not (lt_val (Ln.lend (ln_cb2 ln_varb (Ln.lend ln_c) (p2_isiK G))))) (lt_or (lt_test (Ln.lend (ln_op (Ln.lend (ln_cb1 ln_varb p1_len)) (Ln.lend ln_c) p2_eq))) (lt_test (Ln.lend (ln_op (Ln.lend (ln_call rfl (ln_cons rfl ln_varb (ln_cons rfl (Ln.lend (ln_op ln_varb (Ln.lend ln_c) p2_ix)) ln_nil)))) (Ln.lend ln_c) p2_is))))) (ls_end (ls_ret ln_c)) ls_next) (ls_seq (ls_asg ln_var (lg_tup (lg_cons lg_name (lg_cons lg_name (lg_cons lg_name (lg_cons lg_name lg_nil)))))) (ls_seq (ls_asg (ln_call rfl (ln_cons rfl ln_varb (ln_cons rfl ln_varb ln_nil))) (lg_tup (lg_cons lg_name (lg_cons lg_name (lg_cons lg_name lg_nil))))) (ls_seq (ls_if (lt_or (lt_not (lt_val (Ln.lend (ln_cb2 ln_varb (Ln.lend ln_c) (p2_isiK G))))) (lt_test (Ln.lend (ln_op (Ln.lend (Ln.weak (ln_lc rfl (li_seqb ln_varb) lg_name ((lt_not (lt_val (Ln.lend (ln_call rfl (ln_cons rfl ln_varb ln_nil)))))) ln_var))) (Ln.lend (Ln.weak (ln_lst rfl ln_nil))) p2_eqN)))) (ls_end (ls_ret ln_c)) ls_next) (ls_seq (ls_if (lt_or (lt_and (lt_test (Ln.lend (ln_op ln_varb (Ln.lend ln_c) p2_eq))) (lt_test (Ln.lend (ln_op (Ln.lend (ln_cb1 ln_varb p1_len)) (Ln.lend ln_c) p2_cmp)))) (lt_and (lt_test (Ln.lend (ln_op ln_varb (Ln.lend ln_c) p2_eq))) (lt_test (Ln.lend (ln_op (Ln.lend (ln_cb1 ln_varb p1_len)) (Ln.lend ln_c) p2_eq))))) (ls_end (ls_ret ln_c)) ls_next) (ls_seq (ls_if (lt_or (lt_and (lt_test (Ln.lend (ln_op ln_varb (Ln.lend ln_c) p2_eq))) (lt_test (Ln.lend (ln_op (Ln.lend (ln_cb1 ln_varb p1_len)) (Ln.lend (ln_tup rfl (ln_cons rfl ln_c (ln_cons rfl ln_c ln_nil)))) p2_inE)))) (lt_and (lt_test (Ln.lend (ln_op ln_varb (Ln.lend ln_c) p2_eq))) (lt_test (Ln.lend (ln_op (Ln.lend (ln_cb1 ln_varb p1_len)) (Ln.lend ln_c) p2_cmp))))) (ls_end (ls_ret ln_c)) ls_next) (ls_seq (ls_if (lt_or (lt_and (lt_test (Ln.lend (ln_op ln_varb (Ln.lend ln_c) p2_is))) (lt_test (Ln.lend (ln_op ln_varb (Ln.lend ln_c) p2_is)))) (lt_and (lt_test (Ln.lend (ln_op ln_varb (Ln.lend ln_c) p2_is))) (lt_not (lt_val (Ln.lend (ln_call rfl (ln_cons rfl ln_varb ln_nil))))))) (ls_end (ls_ret ln_c)) ls_next) (ls_seq (ls_if (lt_test (Ln.lend (ln_op ln_varb (Ln.lend ln_c) p2_eq))) (ls_end (ls_ret (ln_op ln_varb (Ln.lend ln_c) p2_is))) ls_next) (ls_end (ls_ret (ln_andM (mo := .s) (by decide) (Ln.lend (ln_cb2 ln_varb (Ln.lend ln_c) (p2_isiK G))) (ln_andM (mo := .s) (by decide) (Ln.lend (ln_not (Ln.lend (ln_cb2 ln_varb (Ln.lend ln_c) (p2_isiK G))))) (ln_chain (mo := .s) (Ln.lend ln_c) ln_varb (Ln.lend ln_c) (P2.lend p2_cmp) p2_cmp (by decide)))))))))))))), ?_⟩⟩
  exact db2 fun plan_here worth_so => .go (Rn := fun _ _ => True) (Rl := fun _ _ => True) (rs_if (rb_or (rb_not (rb_test (rd_op (rd_vb rfl) rd_c))) (rb_or (rb_test (rd_op (rd_un (rd_vb rfl)) rd_c)) (rb_test (rd_op (rd_call (ra_cons (rd_vB rfl) (ra_cons (rd_op (rd_vb rfl) rd_c) ra_nil))) rd_c)))) (rs_assoc (rs_ret rd_c)) (rs_skip (rs_asg (rd_v rfl) fun x => (rt_4 fun label target some' goal => (rs_asg (rd_call (ra_cons (rd_vB rfl) (ra_cons (rd_vb rfl) ra_nil))) fun x_1 => (rt_3 fun family label_1 wait => (rs_if (rb_or (rb_not (rb_test (rd_op (rd_vb rfl) rd_c))) (rb_test (rd_op (rd_lc (rl_seq (rd_vb rfl)) fun e => (rt_n (rc_stp (rd_v rfl) (rb_not (rb_test (rd_call (ra_cons (rd_vb rfl) ra_nil))))))) (rd_lst ra_nil (Nat.le_of_ble_eq_true rfl))))) (rs_assoc (rs_ret rd_c)) (rs_skip (rs_if (rb_or (rb_and (rb_test (rd_op (rd_vb rfl) rd_c)) (rb_test (rd_op (rd_un (rd_vb rfl)) rd_c))) (rb_and (rb_test (rd_op (rd_vb rfl) rd_c)) (rb_test (rd_op (rd_un (rd_vb rfl)) rd_c)))) (rs_assoc (rs_ret rd_c)) (rs_skip (rs_if (rb_or (rb_and (rb_test (rd_op (rd_vb rfl) rd_c)) (rb_test (rd_op (rd_un (rd_vb rfl)) (rd_tup (ra_cons rd_c (ra_cons rd_c ra_nil)) (Nat.le_of_ble_eq_true rfl))))) (rb_and (rb_test (rd_op (rd_vb rfl) rd_c)) (rb_test (rd_op (rd_un (rd_vb rfl)) rd_c)))) (rs_assoc (rs_ret rd_c)) (rs_skip (rs_if (rb_or (rb_and (rb_test (rd_op (rd_vb rfl) rd_c)) (rb_test (rd_op (rd_vb rfl) rd_c))) (rb_and (rb_test (rd_op (rd_vb rfl) rd_c)) (rb_not (rb_test (rd_call (ra_cons (rd_vb rfl) ra_nil)))))) (rs_assoc (rs_ret rd_c)) (rs_skip (rs_if (rb_test (rd_op (rd_vb rfl) rd_c)) (rs_assoc (rs_ret (rd_op (rd_vb rfl) rd_c))) (rs_skip (rs_ret (rd_and (rd_op (rd_vb rfl) rd_c) (rd_and (rd_not (rd_op (rd_vb rfl) rd_c)) (rd_chn rd_c (rd_vb rfl) rd_c))))))))))))))))))))
abbrev s_l_is_row : Stmt := top 55
theorem sc_l_is_row : FnScope ["_law_plan_here", "_law_worth_so", "_law_jumps", "_law_writes", "_law_one"] ["_law_plan_here", "_law_worth_so"] (defScope s_l_is_row) := ⟨rfl, rfl, rfl, by decide +kernel, rfl, by decide +kernel, by decide +kernel⟩
theorem vok_l_is_row {f : Addr} {fd : FuncData} (F : Fun Zd.K "_law_is_row" "_law_is_row" s_l_is_row f fd) (G : ExA Zd.K) (m_isinstance : mg "isinstance" = none) (m_tuple : mg "tuple" = none) (m_len : mg "len" = none) (c__law_is_operation : CalG P w Zd.K mg base (L2.CX P w) 2 "_law_is_operation" (spF Zd.K [.b, .s] (foF (ap2 l_is_operation_V)))) (c__law_kind : CalG P w Zd.K mg base (L2.CX P w) 1 "_law_kind" (spF Zd.K [.b, .b] (foF (ap2 l_kind_V)))) (m_set : mg "set" = none) :
    FnG P w Zd.K mg base (L2.CX P w) 3 f fd ["_law_plan_here", "_law_worth_so"] (spF Zd.K [.b, .b] (foF (ap2 l_is_row_V))) := by
  refine fn_V F sc_l_is_row rfl rfl ?_
  intro cdv A outer s H E hr hq
  have hu := hr.units
  have hp := @passX (cxOf (L2.CX P w) P w Zd.K mg base ["_law_plan_here", "_law_worth_so", "_law_jumps", "_law_writes", "_law_one"] "_law_is_row" (defScope s_l_is_row) f cdv A outer s H E) E (takes_of rfl rfl rfl rfl)
  refine ⟨_, (pss_cons (ps_if (PW.pt (pw_or (pt_not (pt_val (pe_callB call_isA (by rfl) m_isinstance (by decide +kernel) (pa_cons (pv 1) (pa_cons (pe_bty "tuple" rfl m_tuple (by decide +kernel)) pa_nil))))) (pw_or1 (pt_cmpR op_gtD (pe_callB c_lenD (by rfl) m_len PySem.boot_len (pa_cons (pv 1) pa_nil)) (pe_ix ix_seq (pv 0) pe_int (fun _ _ => rfl)) (nomark _))))) (pss_one (ps_ret pe_bl)) pss_nil)
    (pss_cons (ps_if (pt_cmpR (op_neN hu) (pe_lc (own := [("_law_one", 4)]) (g := gName 4) (tt := _) rfl sc_l_is_row.nd (pi_seq (pv 1)) (blkOk_by (N := ["_law_plan_here", "_law_worth_so", "_law_jumps", "_law_writes", "_law_one"]) (sc := defScope (top 55)) (by decide +kernel)) (fun _ _ _ _ _ => (pg_name (i := 4) sc_l_is_row.nd rfl (Or.inl rfl))) (fun _ _ _ _ _ => (pts_one (pt_not (pt_val (pe_g c__law_is_operation hr (by first | decide | omega) hq passF rfl (pa_cons (pv 0) (pa_cons (pv 4) pa_nil))))))) (fun _ _ _ _ _ => (pv 4))) (pe_lst pa_nil) (nomark _)) (pss_one (ps_ret pe_bl)) pss_nil)
    (pss_cons (ps_setLc (i := 2) (own := [("_law_one", 4)]) (g := gName 4) (tt := _) rfl sc_l_is_row.nd rfl rfl (sw_true rfl rfl rfl rfl) (pi_seq (pv 1)) (blkOk_by (N := ["_law_plan_here", "_law_worth_so", "_law_jumps", "_law_writes", "_law_one"]) (sc := defScope (top 55)) (by decide +kernel)) (fun _ _ _ _ _ => (pg_name (i := 4) sc_l_is_row.nd rfl (Or.inl rfl))) (fun _ _ _ _ _ => (pts_one (pt_cmpR op_isNotD (pe_ix (show IxR _ (rIx Zd.K) from ix_seq) (pv 4) pe_int (fun _ _ => rfl)) pe_non (nomark _)))) (fun _ _ _ _ _ => (pv 4)))
    (pss_cons (ps_setLc (i := 3) (own := [("_law_one", 4)]) (g := gName 4) (tt := _) rfl sc_l_is_row.nd rfl rfl (sw_true rfl rfl rfl rfl) (pi_seq (pv 1)) (blkOk_by (N := ["_law_plan_here", "_law_worth_so", "_law_jumps", "_law_writes", "_law_one"]) (sc := defScope (top 55)) (by decide +kernel)) (fun _ _ _ _ _ => (pg_name (i := 4) sc_l_is_row.nd rfl (Or.inl rfl))) (fun _ _ _ _ _ => (pts_one (pt_cmpR op_isNotD (pe_ix (show IxR _ (rIx Zd.K) from ix_seq) (pv 4) pe_int (fun _ _ => rfl)) pe_non (nomark _)))) (fun _ _ _ _ _ => (pe_tup (pa_cons (pe_ix (show IxR _ (rIx Zd.K) from ix_seq) (pv 4) pe_int (fun _ _ => rfl)) (pa_cons (pe_ix (show IxR _ (rIx Zd.K) from ix_seq) (pe_g c__law_kind hr (by first | decide | omega) hq passF rfl (pa_cons (pv 0) (pa_cons (pe_ix (show IxR _ (rIx Zd.K) from ix_seq) (pv 4) pe_int (fun _ _ => rfl)) pa_nil))) pe_int (fun _ _ => rfl)) pa_nil)))))
    (pss_one (ps_ret (pe_and (pe_cmpR op_ltD (pe_callB c_lenD (by rfl) m_len PySem.boot_len (pa_cons (pv 2) pa_nil)) pe_int (nomark _)) (pe_one (pe_cmpR (op_eqP hu) (pe_lenSetW (units8 hu) rfl rfl m_len rfl m_set (pv 3)) (pe_callB c_lenD (by rfl) m_len PySem.boot_len (pa_cons (pv 3) pa_nil)) (nomark _)))))))))), fun S Γ => ⟨_, (ls_seq (ls_if (lt_or (lt_not (lt_val (Ln.lend (ln_cb2 ln_varb (Ln.lend ln_c) (p2_isiK G))))) (lt_test (Ln.lend (ln_op (Ln.lend (ln_cb1 ln_varb p1_len)) (Ln.lend (ln_op ln_varb (Ln.lend ln_c) p2_ix)) p2_cmp)))) (ls_end (ls_ret ln_c)) ls_next) (ls_seq (ls_if (lt_test (Ln.lend (ln_op (Ln.lend (Ln.weak (ln_lc rfl (li_seqb ln_varb) lg_name ((lt_not (lt_val (Ln.lend (ln_call rfl (ln_cons rfl ln_varb (ln_cons rfl ln_var ln_nil))))))) ln_var))) (Ln.lend (Ln.weak (ln_lst rfl ln_nil))) p2_eqN))) (ls_end (ls_ret ln_c)) ls_next) (ls_seq (ls_set (Ln.weak (ln_lc rfl (li_seqb ln_varb) lg_name ((lt_test (Ln.lend (ln_op (Ln.lend (ln_op ln_varb (Ln.lend ln_c) p2_ix)) (Ln.lend ln_c) p2_is)))) ln_var))) (ls_seq (ls_set (Ln.weak (ln_lc rfl (li_seqb ln_varb) lg_name ((lt_test (Ln.lend (ln_op (Ln.lend (ln_op ln_varb (Ln.lend ln_c) p2_ix)) (Ln.lend ln_c) p2_is)))) (ln_tup rfl (ln_cons rfl (ln_op ln_varb (Ln.lend ln_c) p2_ix) (ln_cons rfl (ln_op (Ln.lend (ln_call rfl (ln_cons rfl ln_varb (ln_cons rfl (Ln.lend (ln_op ln_varb (Ln.lend ln_c) p2_ix)) ln_nil)))) (Ln.lend ln_c) p2_ix) ln_nil)))))) (ls_end (ls_ret (ln_andM (mo := .s) (by decide) (Ln.lend (ln_op (Ln.lend (ln_cb1 ln_varb p1_len)) (Ln.lend ln_c) p2_cmp)) (ln_op (Ln.lend (ln_un ln_varb p1_lsetX)) (Ln.lend (ln_cb1 ln_varb p1_len)) p2_eq)))))))), ?_⟩⟩
  exact db2 fun plan_here worth_so => .go (Rn := fun _ _ => True) (Rl := fun _ _ => True) (rs_if (rb_or (rb_not (rb_test (rd_op (rd_vB rfl) rd_c))) (rb_test (rd_op (rd_un (rd_vB rfl)) (rd_op (rd_vB rfl) rd_c)))) (rs_assoc (rs_ret rd_c)) (rs_skip (rs_if (rb_test (rd_op (rd_lc (rl_seq (rd_vB rfl)) fun e => (rt_n (rc_stp (rd_v rfl) (rb_not (rb_test (rd_call (ra_cons (rd_vB rfl) (ra_cons (rd_v rfl) ra_nil)))))))) (rd_lst ra_nil (Nat.le_of_ble_eq_true rfl)))) (rs_assoc (rs_ret rd_c)) (rs_skip (rs_set (rd_lc (rl_seq (rd_vB rfl)) fun e_1 => (rt_n (rc_stp (rd_v rfl) (rb_test (rd_op (rd_op (rd_vb rfl) rd_c) rd_c))))) fun jumps => (rs_set (rd_lc (rl_seq (rd_vB rfl)) fun e_2 => (rt_n (rc_stp (rd_tup (ra_cons (rd_op (rd_vb rfl) rd_c) (ra_cons (rd_op (rd_call (ra_cons (rd_vB rfl) (ra_cons (rd_op (rd_vb rfl) rd_c) ra_nil))) rd_c) ra_nil)) (Nat.le_of_ble_eq_true rfl)) (rb_test (rd_op (rd_op (rd_vb rfl) rd_c) rd_c))))) fun writes => (rs_ret (rd_and (rd_op (rd_un (rd_vb rfl)) rd_c) (rd_op (rd_un (rd_vb rfl)) (rd_un (rd_vb rfl)))))))))))
abbrev s_l_bent : Stmt := top 56
theorem sc_l_bent : FnScope ["_law_pen_here", "_law_plan_here", "_law_one", "_law_label", "_law_target", "_law_some", "_law_goal", "_law_odd", "_law_worth", "_law_way"] ["_law_pen_here", "_law_plan_here", "_law_one"] (defScope s_l_bent) := ⟨rfl, rfl, rfl, by decide +kernel, rfl, by decide +kernel, by decide +kernel⟩
theorem vok_l_bent {f : Addr} {fd : FuncData} (F : Fun Zd.K "_law_bent" "_law_bent" s_l_bent f fd) (c__law_draw : CalG P w Zd.K mg base (L2.CX P w) 1 "_law_draw" spDraw) (m_list : mg "list" = none) (c__law_pick : CalG P w Zd.K mg base (L2.CX P w) 2 "_law_pick" (spT Zd.K [.b] (ap1 l_pick_V))) :
    FnG P w Zd.K mg base (L2.CX P w) 3 f fd ["_law_pen_here", "_law_plan_here", "_law_one"] (spT Zd.K [.b, .s] (ap2 l_bent_V)) := by
  refine fn_T F sc_l_bent rfl rfl ?_
  intro cdv A outer s H E hr hq
  have hu := hr.units
  have hp := @passX (cxOf (L2.CX P w) P w Zd.K mg base ["_law_pen_here", "_law_plan_here", "_law_one", "_law_label", "_law_target", "_law_some", "_law_goal", "_law_odd", "_law_worth", "_law_way"] "_law_bent" (defScope s_l_bent) f cdv A outer s H E) E (takes_of rfl rfl rfl rfl)
  refine ⟨_, (pss_cons (ps_asg (pv 2) (pg_tup rfl (pgs_cons (pg_name (i := 3) sc_l_bent.nd rfl (Or.inl rfl)) (pgs_cons (pg_name (i := 4) sc_l_bent.nd rfl (Or.inl rfl)) (pgs_cons (pg_name (i := 5) sc_l_bent.nd rfl (Or.inl rfl)) (pgs_cons (pg_name (i := 6) sc_l_bent.nd rfl (Or.inl rfl)) pgs_nil))))))
    (pss_cons (ps_set (i := 7) sc_l_bent.nd rfl (Or.inl rfl) (pe_lst (pa_cons pe_non (pa_cons pe_bl (pa_cons pe_int (pa_cons (pe_un un_neg pe_int) (pa_cons pe_int (pa_cons (pe_op op_pow pe_int pe_int) (pa_cons pe_str (pa_cons pe_str (pa_cons pe_str (pa_cons pe_str (pa_cons pe_str (pa_cons (pe_tup pa_nil) (pa_cons (pe_tup (pa_cons pe_str pa_nil)) (pa_cons (pe_lst (pa_cons pe_str pa_nil)) (pa_cons pe_dnewK (pa_cons pe_str pa_nil))))))))))))))))))
    (pss_cons (ps_set (i := 8) sc_l_bent.nd rfl (Or.inl rfl) (pe_ix ix_seq (pe_op op_addD (pv 7) (pe_lst (pa_cons pe_str (pa_cons (pe_g c__law_draw hr (by first | decide | omega) hq hp rfl (pa_cons (pv 0) (pa_cons pe_int pa_nil))) pa_nil)))) (pe_g c__law_draw hr (by first | decide | omega) hq hp rfl (pa_cons (pv 0) (pa_cons pe_int pa_nil))) (fun _ _ => rfl)))
    (pss_cons (ps_set (i := 9) sc_l_bent.nd rfl (Or.inl rfl) (pe_g c__law_draw hr (by first | decide | omega) hq hp rfl (pa_cons (pv 0) (pa_cons pe_int pa_nil))))
    (pss_cons (ps_if (pt_cmpR (op_eqP hu) (pv 9) pe_int (nomark _)) (pss_one (ps_ret (pe_tup (pa_cons (pv 8) (pa_cons (pv 4) (pa_cons (pv 5) (pa_cons (pv 6) pa_nil))))))) pss_nil)
    (pss_cons (ps_if (pt_cmpR (op_eqP hu) (pv 9) pe_int (nomark _)) (pss_one (ps_ret (pe_tup (pa_cons (pv 3) (pa_cons (pv 8) (pa_cons (pv 5) (pa_cons (pv 6) pa_nil))))))) pss_nil)
    (pss_cons (ps_if (pt_cmpR (op_eqP hu) (pv 9) pe_int (nomark _)) (pss_one (ps_ret (pe_tup (pa_cons (pv 3) (pa_cons (pv 4) (pa_cons (pv 8) (pa_cons (pv 6) pa_nil))))))) pss_nil)
    (pss_cons (ps_if (pt_cmpR (op_eqP hu) (pv 9) pe_int (nomark _)) (pss_one (ps_ret (pe_tup (pa_cons (pv 3) (pa_cons (pv 4) (pa_cons (pv 5) (pa_cons (pv 8) pa_nil))))))) pss_nil)
    (pss_cons (ps_if (pt_cmpR (op_eqP hu) (pv 9) pe_int (nomark _)) (pss_one (ps_ret (pe_tup (pa_cons (pv 3) (pa_cons (pv 4) (pa_cons (pe_ifExp (pt_cmpR (op_eqP hu) (pe_g c__law_draw hr (by first | decide | omega) hq hp rfl (pa_cons (pv 0) (pa_cons pe_int pa_nil))) pe_int (nomark _)) (pe_op op_addD (pv 5) (pe_tup (pa_cons (pv 8) pa_nil))) (pe_slice sl_D (pv 5) (po_some pe_int) po_none)) (pa_cons (pv 6) pa_nil))))))) pss_nil)
    (pss_cons (ps_if (pt_cmpR (op_eqP hu) (pv 9) pe_int (nomark _)) (pss_one (ps_ret (pe_ifExp (pt_cmpR (op_eqP hu) (pe_g c__law_draw hr (by first | decide | omega) hq hp rfl (pa_cons (pv 0) (pa_cons pe_int pa_nil))) pe_int (nomark _)) (pe_slice sl_D (pv 2) po_none (po_some pe_int)) (pe_op op_addD (pv 2) (pe_tup (pa_cons pe_non pa_nil)))))) pss_nil)
    (pss_one (ps_ret (pe_ifExp (pt_cmpR (op_eqP hu) (pv 9) pe_int (nomark _)) (pe_callTy c_list (by rfl) m_list (by decide +kernel) (pa_cons (pv 2) pa_nil)) (pe_tup (pa_cons (pe_ix ix_seq (pe_g c__law_pick hr (by first | decide | omega) hq hp rfl (pa_cons (pv 0) (pa_cons (pe_ix ix_seq (pv 1) pe_int (fun _ _ => rfl)) pa_nil))) pe_int (fun _ _ => rfl)) (pa_cons (pv 4) (pa_cons (pv 5) (pa_cons (pv 6) pa_nil)))))))))))))))))), fun p q ns => ⟨_, (ls_seq (ls_asg ln_var (lg_tup (lg_cons lg_name (lg_cons lg_name (lg_cons lg_name (lg_cons lg_name lg_nil)))))) (ls_seq (ls_set (Ln.weak (ln_lst rfl (ln_cons rfl ln_c (ln_cons rfl ln_c (ln_cons rfl ln_c (ln_cons rfl (ln_un (Ln.lend ln_c) p1_neg) (ln_cons rfl ln_c (ln_cons rfl (ln_op (Ln.lend ln_c) (Ln.lend ln_c) p2_pow) (ln_cons rfl ln_c (ln_cons rfl ln_c (ln_cons rfl ln_c (ln_cons rfl ln_c (ln_cons rfl ln_c (ln_cons rfl (ln_tup rfl ln_nil) (ln_cons rfl (ln_tup rfl (ln_cons rfl ln_c ln_nil)) (ln_cons rfl (Ln.weak (ln_lst rfl (ln_cons rfl ln_c ln_nil))) (ln_cons rfl (Ln.weak ln_dct0) (ln_cons rfl ln_c ln_nil))))))))))))))))))) (ls_seq (ls_set (ln_op (Ln.lend (ln_op ln_varb (Ln.lend (Ln.weak (ln_lst rfl (ln_cons rfl ln_c (ln_cons rfl (ln_draw (ln_cons rfl ln_varb (ln_cons rfl (Ln.lend ln_c) ln_nil))) ln_nil))))) p2_add)) (Ln.lend (ln_draw (ln_cons rfl ln_varb (ln_cons rfl (Ln.lend ln_c) ln_nil)))) p2_ix)) (ls_seq (ls_set (ln_draw (ln_cons rfl ln_varb (ln_cons rfl (Ln.lend ln_c) ln_nil)))) (ls_seq (ls_if (lt_test (Ln.lend (ln_op ln_varb (Ln.lend ln_c) p2_eq))) (ls_end (ls_ret (ln_tup rfl (ln_cons rfl ln_var (ln_cons rfl ln_var (ln_cons rfl ln_var (ln_cons rfl ln_var ln_nil))))))) ls_next) (ls_seq (ls_if (lt_test (Ln.lend (ln_op ln_varb (Ln.lend ln_c) p2_eq))) (ls_end (ls_ret (ln_tup rfl (ln_cons rfl ln_var (ln_cons rfl ln_var (ln_cons rfl ln_var (ln_cons rfl ln_var ln_nil))))))) ls_next) (ls_seq (ls_if (lt_test (Ln.lend (ln_op ln_varb (Ln.lend ln_c) p2_eq))) (ls_end (ls_ret (ln_tup rfl (ln_cons rfl ln_var (ln_cons rfl ln_var (ln_cons rfl ln_var (ln_cons rfl ln_var ln_nil))))))) ls_next) (ls_seq (ls_if (lt_test (Ln.lend (ln_op ln_varb (Ln.lend ln_c) p2_eq))) (ls_end (ls_ret (ln_tup rfl (ln_cons rfl ln_var (ln_cons rfl ln_var (ln_cons rfl ln_var (ln_cons rfl ln_var ln_nil))))))) ls_next) (ls_seq (ls_if (lt_test (Ln.lend (ln_op ln_varb (Ln.lend ln_c) p2_eq))) (ls_end (ls_ret (ln_tup rfl (ln_cons rfl ln_var (ln_cons rfl ln_var (ln_cons rfl (ln_if (lt_test (Ln.lend (ln_op (Ln.lend (ln_draw (ln_cons rfl ln_varb (ln_cons rfl (Ln.lend ln_c) ln_nil)))) (Ln.lend ln_c) p2_eq))) (ln_op ln_varb (Ln.lend (ln_tup rfl (ln_cons rfl ln_var ln_nil))) p2_add) (ln_sl (f := slD) ln_varb (lo_some (Ln.lend ln_c)) lo_none p3_sl)) (ln_cons rfl ln_var ln_nil))))))) ls_next) (ls_seq (ls_if (lt_test (Ln.lend (ln_op ln_varb (Ln.lend ln_c) p2_eq))) (ls_end (ls_ret (ln_if (lt_test (Ln.lend (ln_op (Ln.lend (ln_draw (ln_cons rfl ln_varb (ln_cons rfl (Ln.lend ln_c) ln_nil)))) (Ln.lend ln_c) p2_eq))) (ln_sl (f := slD) ln_varb lo_none (lo_some (Ln.lend ln_c)) p3_sl) (ln_op ln_varb (Ln.lend (ln_tup rfl (ln_cons rfl ln_c ln_nil))) p2_add)))) ls_next) (ls_end (ls_ret (ln_if (lt_test (Ln.lend (ln_op ln_varb (Ln.lend ln_c) p2_eq))) (Ln.weak (ln_cb1 ln_varb p1_list)) (ln_tup rfl (ln_cons rfl (ln_op (Ln.lend (ln_penV rfl (ln_cons rfl ln_varb (ln_cons rfl (Ln.lend (ln_op ln_varb (Ln.lend ln_c) p2_ix)) ln_nil)))) (Ln.lend ln_c) p2_ix) (ln_cons rfl ln_var (ln_cons rfl ln_var (ln_cons rfl ln_var ln_nil)))))))))))))))))), ?_⟩⟩
  exact db2 fun plan_here one => .go (Rn := fun _ _ => True) (Rl := fun _ _ => True) (rs_asg (rd_v rfl) fun x => (rt_4 fun label target some' goal => (rs_set (rd_lst (ra_cons rd_c (ra_cons rd_c (ra_cons rd_c (ra_cons (rd_un rd_c) (ra_cons rd_c (ra_cons (rd_op rd_c rd_c) (ra_cons rd_c (ra_cons rd_c (ra_cons rd_c (ra_cons rd_c (ra_cons rd_c (ra_cons (rd_tup ra_nil (Nat.le_of_ble_eq_true rfl)) (ra_cons (rd_tup (ra_cons rd_c ra_nil) (Nat.le_of_ble_eq_true rfl)) (ra_cons (rd_lst (ra_cons rd_c ra_nil) (Nat.le_of_ble_eq_true rfl)) (ra_cons rd_c (ra_cons rd_c ra_nil)))))))))))))))) (Nat.le_of_ble_eq_true rfl)) fun odd => (rs_set (rd_op (rd_op (rd_vb rfl) (rd_lst (ra_cons rd_c (ra_cons (rd_drw (rd_vB rfl) rd_c) ra_nil)) (Nat.le_of_ble_eq_true rfl))) (rd_drw (rd_vB rfl) rd_c)) fun worth => (rs_set (rd_drw (rd_vB rfl) rd_c) fun way => (rs_if (rb_test (rd_op (rd_vb rfl) rd_c)) (rs_assoc (rs_ret (rd_tup (ra_cons (rd_v rfl) (ra_cons (rd_v rfl) (ra_cons (rd_v rfl) (ra_cons (rd_v rfl) ra_nil)))) (Nat.le_of_ble_eq_true rfl)))) (rs_skip (rs_if (rb_test (rd_op (rd_vb rfl) rd_c)) (rs_assoc (rs_ret (rd_tup (ra_cons (rd_v rfl) (ra_cons (rd_v rfl) (ra_cons (rd_v rfl) (ra_cons (rd_v rfl) ra_nil)))) (Nat.le_of_ble_eq_true rfl)))) (rs_skip (rs_if (rb_test (rd_op (rd_vb rfl) rd_c)) (rs_assoc (rs_ret (rd_tup (ra_cons (rd_v rfl) (ra_cons (rd_v rfl) (ra_cons (rd_v rfl) (ra_cons (rd_v rfl) ra_nil)))) (Nat.le_of_ble_eq_true rfl)))) (rs_skip (rs_if (rb_test (rd_op (rd_vb rfl) rd_c)) (rs_assoc (rs_ret (rd_tup (ra_cons (rd_v rfl) (ra_cons (rd_v rfl) (ra_cons (rd_v rfl) (ra_cons (rd_v rfl) ra_nil)))) (Nat.le_of_ble_eq_true rfl)))) (rs_skip (rs_if (rb_test (rd_op (rd_vb rfl) rd_c)) (rs_assoc (rs_ret (rd_tup (ra_cons (rd_v rfl) (ra_cons (rd_v rfl) (ra_cons (rd_if (rb_test (rd_op (rd_drw (rd_vB rfl) rd_c) rd_c)) (rd_op (rd_vb rfl) (rd_tup (ra_cons (rd_v rfl) ra_nil) (Nat.le_of_ble_eq_true rfl))) (rd_sl (rd_vb rfl) (ro_some rd_c) ro_none)) (ra_cons (rd_v rfl) ra_nil)))) (Nat.le_of_ble_eq_true rfl)))) (rs_skip (rs_if (rb_test (rd_op (rd_vb rfl) rd_c)) (rs_assoc (rs_ret (rd_if (rb_test (rd_op (rd_drw (rd_vB rfl) rd_c) rd_c)) (rd_sl (rd_vb rfl) ro_none (ro_some rd_c)) (rd_op (rd_vb rfl) (rd_tup (ra_cons rd_c ra_nil) (Nat.le_of_ble_eq_true rfl)))))) (rs_skip (rs_ret (rd_if (rb_test (rd_op (rd_vb rfl) rd_c)) (rd_un (rd_vb rfl)) (rd_tup (ra_cons (rd_op (rd_pen (rd_vB rfl) (ra_cons (rd_op (rd_vB rfl) rd_c) ra_nil)) rd_c) (ra_cons (rd_v rfl) (ra_cons (rd_v rfl) (ra_cons (rd_v rfl) ra_nil)))) (Nat.le_of_ble_eq_true rfl)))))))))))))))))))))
abbrev s_l_things : Stmt := top 57
theorem sc_l_things : FnScope ["_law_pen_here", "_law_plan_here", "_law_line_so", "_law_at", "_law_more", "_law_head", "_law_tail", "_law_found", "_law_spot", "_law_one"] ["_law_pen_here", "_law_plan_here", "_law_line_so"] (defScope s_l_things) := ⟨rfl, rfl, rfl, by decide +kernel, rfl, by decide +kernel, by decide +kernel⟩
theorem vok_l_things {f : Addr} {fd : FuncData} (F : Fun Zd.K "_law_things" "_law_things" s_l_things f fd) (c__law_draw : CalG P w Zd.K mg base (L2.CX P w) 1 "_law_draw" spDraw) (m_len : mg "len" = none) (c__law_operation : CalG P w Zd.K mg base (L2.CX P w) 3 "_law_operation" (spT Zd.K [.b] (ap1 l_operation_V))) (m_list : mg "list" = none) (c__law_bent : CalG P w Zd.K mg base (L2.CX P w) 3 "_law_bent" (spT Zd.K [.b, .s] (ap2 l_bent_V))) :
    FnG P w Zd.K mg base (L2.CX P w) 4 f fd ["_law_pen_here", "_law_plan_here", "_law_line_so"] (spT Zd.K [.b, .s] (ap2 l_things_V)) := by
  refine fn_T F sc_l_things rfl rfl ?_
  intro cdv A outer s H E hr hq
  have hu := hr.units
  have hp := @passX (cxOf (L2.CX P w) P w Zd.K mg base ["_law_pen_here", "_law_plan_here", "_law_line_so", "_law_at", "_law_more", "_law_head", "_law_tail", "_law_found", "_law_spot", "_law_one"] "_law_things" (defScope s_l_things) f cdv A outer s H E) E (takes_of rfl rfl rfl rfl)
  refine ⟨_, (pss_cons (ps_set (i := 3) sc_l_things.nd rfl (Or.inl rfl) (pe_g c__law_draw hr (by first | decide | omega) hq hp rfl (pa_cons (pv 0) (pa_cons (pe_op op_addD (pe_callB c_lenD (by rfl) m_len PySem.boot_len (pa_cons (pv 2) pa_nil)) pe_int) pa_nil))))
    (pss_cons (ps_set (i := 4) sc_l_things.nd rfl (Or.inl rfl) (pe_g c__law_operation hr (by first | decide | omega) hq hp rfl (pa_cons (pv 0) (pa_cons (pv 1) pa_nil))))
    (pss_cons (ps_par (i := 5) (j := 6) rfl sc_l_things.nd rfl rfl (by decide) rfl rfl (pa_cons (pe_slice sl_D (pv 2) po_none (po_some (pv 3))) (pa_cons (pe_slice sl_D (pv 2) (po_some (pv 3)) po_none) pa_nil)) rfl)
    (pss_cons (ps_set (i := 7) sc_l_things.nd rfl (Or.inl rfl) (pe_lst (pa_cons (pv 2) (pa_cons (pe_op op_addD (pe_op op_addD (pv 5) (pe_tup (pa_cons (pv 4) pa_nil))) (pv 6)) (pa_cons (pe_op op_addD (pe_op op_addD (pv 5) (pe_slice sl_D (pv 2) po_none (po_some pe_int))) (pv 6)) (pa_cons (pe_op op_addD (pv 5) (pe_slice sl_D (pv 6) (po_some pe_int) po_none)) (pa_cons (pe_callTy c_list (by rfl) m_list (by decide +kernel) (pa_cons (pv 2) pa_nil)) pa_nil)))))))
    (C8.pss_cut (ps_if (pt_cmpR (op_neP hu) (pv 2) (pe_tup pa_nil) (nomark _)) (pss_cons (ps_set (i := 8) sc_l_things.nd rfl (Or.inl rfl) (pe_g c__law_draw hr (by first | decide | omega) hq hp rfl (pa_cons (pv 0) (pa_cons (pe_callB c_lenD (by rfl) m_len PySem.boot_len (pa_cons (pv 2) pa_nil)) pa_nil))))
    (pss_cons (ps_set (i := 9) sc_l_things.nd rfl (Or.inl rfl) (pe_ix ix_seq (pv 2) (pv 8) (fun _ _ => rfl)))
    (pss_cons (ps_par (i := 5) (j := 6) rfl sc_l_things.nd rfl rfl (by decide) rfl rfl (pa_cons (pe_slice sl_D (pv 2) po_none (po_some (pv 8))) (pa_cons (pe_slice sl_D (pv 2) (po_some (pe_op op_addD (pv 8) pe_int)) po_none) pa_nil)) rfl)
    (pss_cons (ps_expr (pe_bm PySem.F.plainAttrs_list PySem.F.slot_list_append PySem.F.type_list_append mt_append (pv 7) (pa_cons (pe_op op_addD (pe_op op_addD (pv 5) (pe_tup (pa_cons (pe_g c__law_bent hr (by first | decide | omega) hq hp rfl (pa_cons (pv 0) (pa_cons (pv 1) (pa_cons (pv 9) pa_nil)))) pa_nil))) (pv 6)) pa_nil)))
    (pss_one (ps_expr (pe_bm PySem.F.plainAttrs_list PySem.F.slot_list_append PySem.F.type_list_append mt_append (pv 7) (pa_cons (pe_op op_addD (pe_op op_addD (pv 5) (pe_tup (pa_cons (pe_tup (pa_cons (pe_ix ix_seq (pv 9) pe_int (fun _ _ => rfl)) (pa_cons (pe_ix ix_seq (pv 4) pe_int (fun _ _ => rfl)) (pa_cons (pe_ix ix_seq (pv 9) pe_int (fun _ _ => rfl)) (pa_cons (pe_ix ix_seq (pv 9) pe_int (fun _ _ => rfl)) pa_nil))))) pa_nil))) (pv 6)) pa_nil)))))))) pss_nil)
    (pss_one (ps_ret (pe_op op_addD (pv 7) (pe_lst (pa_cons pe_non (pa_cons pe_int (pa_cons pe_str (pa_cons pe_dnewK (pa_cons (pe_tup (pa_cons pe_non pa_nil)) (pa_cons (pe_tup (pa_cons (pe_tup pa_nil) pa_nil)) (pa_cons (pe_tup (pa_cons (pv 4) (pa_cons (pv 4) pa_nil))) (pa_cons (pe_tup (pa_cons (pv 4) pa_nil)) (pa_cons (pv 4) pa_nil)))))))))))))))))), fun p q ns => ⟨_, (ls_seq (ls_set (ln_draw (ln_cons rfl ln_varb (ln_cons rfl (Ln.lend (ln_op (Ln.lend (ln_cb1 ln_varb p1_len)) (Ln.lend ln_c) p2_add)) ln_nil)))) (ls_seq (ls_set (ln_penV rfl (ln_cons rfl ln_varb (ln_cons rfl ln_varb ln_nil)))) (ls_seq (ls_par (ln_cons rfl (ln_sl (f := slD) ln_varb lo_none (lo_some ln_varb) p3_sl) (ln_cons rfl (ln_sl (f := slD) ln_varb (lo_some ln_varb) lo_none p3_sl) ln_nil))) (ls_seq (ls_own (by decide) (ln_lst rfl (ln_cons rfl ln_var (ln_cons rfl (ln_op (Ln.lend (ln_op ln_varb (Ln.lend (ln_tup rfl (ln_cons rfl ln_var ln_nil))) p2_add)) ln_varb p2_add) (ln_cons rfl (ln_op (Ln.lend (ln_op ln_varb (Ln.lend (ln_sl (f := slD) ln_varb lo_none (lo_some (Ln.lend ln_c)) p3_sl)) p2_add)) ln_varb p2_add) (ln_cons rfl (ln_op ln_varb (Ln.lend (ln_sl (f := slD) ln_varb (lo_some (Ln.lend ln_c)) lo_none p3_sl)) p2_add) (ln_cons rfl (Ln.weak (ln_cb1 ln_varb p1_list)) ln_nil))))))) (ls_cut (ls_if (lt_test (Ln.lend (ln_op ln_varb (Ln.lend (ln_tup rfl ln_nil)) p2_eq))) (ls_seq (ls_set (ln_draw (ln_cons rfl ln_varb (ln_cons rfl (Ln.lend (ln_cb1 ln_varb p1_len)) ln_nil)))) (ls_seq (ls_set (ln_op ln_varb ln_varb p2_ix)) (ls_seq (ls_par (ln_cons rfl (ln_sl (f := slD) ln_varb lo_none (lo_some ln_varb) p3_sl) (ln_cons rfl (ln_sl (f := slD) ln_varb (lo_some (Ln.lend (ln_op ln_varb (Ln.lend ln_c) p2_add))) lo_none p3_sl) ln_nil))) (ls_seq (ls_append (ln_op (Ln.lend (ln_op ln_varb (Ln.lend (ln_tup rfl (ln_cons rfl (ln_penV rfl (ln_cons rfl ln_varb (ln_cons rfl ln_varb (ln_cons rfl ln_var ln_nil)))) ln_nil))) p2_add)) ln_varb p2_add)) (ls_end (ls_append (ln_op (Ln.lend (ln_op ln_varb (Ln.lend (ln_tup rfl (ln_cons rfl (ln_tup rfl (ln_cons rfl (ln_op ln_varb (Ln.lend ln_c) p2_ix) (ln_cons rfl (ln_op ln_varb (Ln.lend ln_c) p2_ix) (ln_cons rfl (ln_op ln_varb (Ln.lend ln_c) p2_ix) (ln_cons rfl (ln_op ln_varb (Ln.lend ln_c) p2_ix) ln_nil))))) ln_nil))) p2_add)) ln_varb p2_add))))))) ls_next) (ls_end (ls_ret (ln_op ln_varb (Ln.lend (Ln.weak (ln_lst rfl (ln_cons rfl ln_c (ln_cons rfl ln_c (ln_cons rfl ln_c (ln_cons rfl (Ln.weak ln_dct0) (ln_cons rfl (ln_tup rfl (ln_cons rfl ln_c ln_nil)) (ln_cons rfl (ln_tup rfl (ln_cons rfl (ln_tup rfl ln_nil) ln_nil)) (ln_cons rfl (ln_tup rfl (ln_cons rfl ln_var (ln_cons rfl ln_var ln_nil))) (ln_cons rfl (ln_tup rfl (ln_cons rfl ln_var ln_nil)) (ln_cons rfl ln_var ln_nil)))))))))))) p2_add)))))))), ?_⟩⟩
  exact db2 fun plan_here line_so => .go (Rn := fun _ _ => True) (Rl := fun _ _ => True) (rs_set (rd_drw (rd_vB rfl) (rd_op (rd_un (rd_vb rfl)) rd_c)) fun at' => (rs_set (rd_pen (rd_vB rfl) (ra_cons (rd_vB rfl) ra_nil)) fun more => (rs_par (rd_sl (rd_vb rfl) ro_none (ro_some (rd_vb rfl))) (rd_sl (rd_vb rfl) (ro_some (rd_vb rfl)) ro_none) fun head tail => (rs_own (rd_lst (ra_cons (rd_v rfl) (ra_cons (rd_op (rd_op (rd_vb rfl) (rd_tup (ra_cons (rd_v rfl) ra_nil) (Nat.le_of_ble_eq_true rfl))) (rd_vb rfl)) (ra_cons (rd_op (rd_op (rd_vb rfl) (rd_sl (rd_vb rfl) ro_none (ro_some rd_c))) (rd_vb rfl)) (ra_cons (rd_op (rd_vb rfl) (rd_sl (rd_vb rfl) (ro_some rd_c) ro_none)) (ra_cons (rd_un (rd_vb rfl)) ra_nil))))) (Nat.le_of_ble_eq_true rfl)) fun found => (rs_cut (Rj := (fun (q : (List D)) ρ => ∃ j j_1 j_3 j_4 : Slot, ρ = [.bor ((.v (.ref p))), .bor (plan_here), .d (line_so), .d (at'), .d (more), j, j_1, .own (.lst (q)), j_3, j_4])) (rb_test (rd_op (rd_vb rfl) (rd_tup ra_nil (Nat.le_of_ble_eq_true rfl)))) (rs_set (rd_drw (rd_vB rfl) (rd_un (rd_vb rfl))) fun spot => (rs_set (rd_op (rd_vb rfl) (rd_vb rfl)) fun one => (rs_par (rd_sl (rd_vb rfl) ro_none (ro_some (rd_vb rfl))) (rd_sl (rd_vb rfl) (ro_some (rd_op (rd_vb rfl) rd_c)) ro_none) fun head_1 tail_1 => (rs_app rfl (rd_op (rd_op (rd_vb rfl) (rd_tup (ra_cons (rd_pen (rd_vB rfl) (ra_cons (rd_vB rfl) (ra_cons (rd_v rfl) ra_nil))) ra_nil) (Nat.le_of_ble_eq_true rfl))) (rd_vb rfl)) fun found_1 => (rs_app rfl (rd_op (rd_op (rd_vb rfl) (rd_tup (ra_cons (rd_tup (ra_cons (rd_op (rd_vb rfl) rd_c) (ra_cons (rd_op (rd_vb rfl) rd_c) (ra_cons (rd_op (rd_vb rfl) rd_c) (ra_cons (rd_op (rd_vb rfl) rd_c) ra_nil)))) (Nat.le_of_ble_eq_true rfl)) ra_nil) (Nat.le_of_ble_eq_true rfl))) (rd_vb rfl)) fun found_2 => (rs_next ⟨_, _, _, _, rfl⟩)))))) (rs_next ⟨_, _, _, _, rfl⟩) (fun q ρ h => by obtain ⟨j, j_1, j_3, j_4, rfl⟩ := h; exact (rs_ret (rd_op (rd_vb rfl) (rd_lst (ra_cons rd_c (ra_cons rd_c (ra_cons rd_c (ra_cons rd_c (ra_cons (rd_tup (ra_cons rd_c ra_nil) (Nat.le_of_ble_eq_true rfl)) (ra_cons (rd_tup (ra_cons (rd_tup ra_nil (Nat.le_of_ble_eq_true rfl)) ra_nil) (Nat.le_of_ble_eq_true rfl)) (ra_cons (rd_tup (ra_cons (rd_v rfl) (ra_cons (rd_v rfl) ra_nil)) (Nat.le_of_ble_eq_true rfl)) (ra_cons (rd_tup (ra_cons (rd_v rfl) ra_nil) (Nat.le_of_ble_eq_true rfl)) (ra_cons (rd_v rfl) ra_nil))))))))) (Nat.le_of_ble_eq_true rfl))))))))))
abbrev s_law : Stmt := top 58
theorem sc_law : FnScope ["_law_script", "_law_pen_here", "_law_turn", "_law_plan_here", "_law_plant", "_law_shown", "_law_lap", "_law_line_so", "_law_one", "_law_bent_here", "_law_thing", "_law_k"] ["_law_script"] (defScope s_law) := ⟨rfl, rfl, rfl, by decide +kernel, rfl, by decide +kernel, by decide +kernel⟩
theorem vok_law {f : Addr} {fd : FuncData} (F : Fun Zd.K "law" "law" s_law f fd) (hg : Tm.wp law_V 0 (fun d _ => d = dB true) fun _ _ => False) {sm : Str → Option Value} (hs : base.Ns sysModules sm) (c__law_pen : CalG P w Zd.K mg base (L2.CX P w) 1 "_law_pen" (spPen Zd.K)) (m_range : mg "range" = none) (c__law_plan : CalG P w Zd.K mg base (L2.CX P w) 2 "_law_plan" (spT Zd.K [] (ap0 l_plan_V))) (c__law_machine : CalG P w Zd.K mg base (L2.CX P w) 7 "_law_machine" (spF Zd.K [.b] (foF (ap1 l_machine_V)))) (c_Machine_D_str : DunDef P w Zd.K mg base 2 "__str__" (Zd.c "Machine") (spF Zd.K [.b] (foF (ap1 Machine___str___V)))) (m_str : mg "str" = none) (m_tuple : mg "tuple" = none) (c__law_draw : CalG P w Zd.K mg base (L2.CX P w) 1 "_law_draw" spDraw) (c__law_operation : CalG P w Zd.K mg base (L2.CX P w) 3 "_law_operation" (spT Zd.K [.b] (ap1 l_operation_V))) (c_is_operation : CalG P w Zd.K mg base (L2.CX P w) 4 "is_operation" (spF Zd.K [.b, .s] (foF (ap2 is_operation_V)))) (c__law_bent : CalG P w Zd.K mg base (L2.CX P w) 3 "_law_bent" (spT Zd.K [.b, .s] (ap2 l_bent_V))) (m_repr : mg "repr" = none) (w_is_operation : CalP P w Zd.K mg base (L2.CX P w) 4 "is_operation" (spF Zd.K [.b, .s] (foF (ap2 is_operation_V))) ["value", "machine"] [1, 0]) (c__law_is_operation : CalG P w Zd.K mg base (L2.CX P w) 2 "_law_is_operation" (spF Zd.K [.b, .s] (foF (ap2 l_is_operation_V)))) (c__law_things : CalG P w Zd.K mg base (L2.CX P w) 4 "_law_things" (spT Zd.K [.b, .s] (ap2 l_things_V))) (c_is_row : CalG P w Zd.K mg base (L2.CX P w) 5 "is_row" (spF Zd.K [.b, .b] (foF (ap2 is_row_V)))) (c__law_is_row : CalG P w Zd.K mg base (L2.CX P w) 3 "_law_is_row" (spF Zd.K [.b, .b] (foF (ap2 l_is_row_V)))) (w_is_row : CalP P w Zd.K mg base (L2.CX P w) 5 "is_row" (spF Zd.K [.b, .b] (foF (ap2 is_row_V))) ["value", "machine"] [1, 0]) :
    FnG P w Zd.K mg base CX0 8 f fd ["_law_script"] (spLaw Zd.K) := by
  refine fn_lawV F sc_law (by decide) rfl hg ?_
  intro cdv A outer s H hr hq
  have hu := hr.units
  refine ⟨_, (ps_set (i := 1) sc_law.nd rfl (Or.inr rfl) (pe_g c__law_pen hr (by first | decide | omega) hq passF rfl (pa_cons (pv 0) pa_nil))), (pss_cons (ps_for PassesOwn.never rfl (pi_range1 rfl m_range (pa_cons pe_int pa_nil)) (pg_name (i := 2) sc_law.nd rfl (Or.inl rfl)) (pss_cons (ps_set (i := 3) sc_law.nd rfl (Or.inr rfl) (pe_g c__law_plan hr (by first | decide | omega) hq passF rfl (pa_cons (pv 1) pa_nil)))
    (pss_cons (ps_set (i := 4) sc_law.nd rfl (Or.inl rfl) (pe_g c__law_machine hr (by first | decide | omega) hq passF rfl (pa_cons (pv 3) pa_nil)))
    (pss_cons (ps_set (i := 5) sc_law.nd rfl (Or.inl rfl) (pe_callTy (call_strC c_Machine_D_str hr (by first | decide | omega) hq) (by rfl) m_str (by decide +kernel) (pa_cons (pv 4) pa_nil)))
    (pss_cons (ps_for PassesOwn.never rfl (pi_range1 rfl m_range (pa_cons pe_int pa_nil)) (pg_name (i := 6) sc_law.nd rfl (Or.inl rfl)) (pss_cons (ps_set (i := 7) sc_law.nd rfl (Or.inl rfl) (pe_callTy call_tuple_of (by rfl) m_tuple (by decide +kernel) (pa_cons (pe_lc (own := [("_law_k", 11)]) (g := gName 11) (tt := tYes) rfl sc_law.nd (pi_range1 rfl m_range (pa_cons (pe_g c__law_draw hr (by first | decide | omega) hq passF rfl (pa_cons (pv 1) (pa_cons (pe_op op_addD (pe_ix ix_seq (pv 3) pe_int (fun _ _ => rfl)) pe_int) pa_nil))) pa_nil)) (blkOk_by (N := ["_law_script", "_law_pen_here", "_law_turn", "_law_plan_here", "_law_plant", "_law_shown", "_law_lap", "_law_line_so", "_law_one", "_law_bent_here", "_law_thing", "_law_k"]) (sc := defScope (top 58)) (by decide +kernel)) (fun _ _ _ _ _ => (pg_name (i := 11) sc_law.nd rfl (Or.inl rfl))) (fun _ _ _ _ _ => pts_nil) (fun _ _ _ _ _ => (pe_g c__law_operation hr (by first | decide | omega) hq passF rfl (pa_cons (pv 1) (pa_cons (pv 3) pa_nil))))) pa_nil)))
    (pss_cons (ps_for PassesOwn.never rfl (pi_seq (pv 7)) (pg_name (i := 8) sc_law.nd rfl (Or.inl rfl)) (pss_cons (ps_if (pt_cmpR op_isNotD (pe_g c_is_operation hr (by first | decide | omega) hq passF rfl (pa_cons (pv 4) (pa_cons (pv 8) pa_nil))) pe_bl (nomark _)) (pss_one (ps_ret pe_bl)) pss_nil)
    (pss_cons (ps_set (i := 9) sc_law.nd rfl (Or.inl rfl) (pe_g c__law_bent hr (by first | decide | omega) hq passF rfl (pa_cons (pv 1) (pa_cons (pv 3) (pa_cons (pv 8) pa_nil)))))
    (pss_one (ps_if (pt_cmpR (op_neP hu) (pe_callB (call_reprN (n := 0) hs hq (hr.mono (by first | decide | omega))) (by rfl) m_repr (by decide +kernel) (pa_cons (pe_kwp w_is_operation hr (by first | decide | omega) hq passF rfl (pk_cons (pv 9) (pk_cons (pv 4) pk_nil))) pa_nil)) (pe_callB (call_reprN (n := 0) hs hq (hr.mono (by first | decide | omega))) (by rfl) m_repr (by decide +kernel) (pa_cons (pe_g c__law_is_operation hr (by first | decide | omega) hq passF rfl (pa_cons (pv 3) (pa_cons (pv 9) pa_nil))) pa_nil)) (nomark _)) (pss_one (ps_ret pe_bl)) pss_nil)))))
    (pss_one (ps_for PassesOwn.never rfl (pi_seq (pe_g c__law_things hr (by first | decide | omega) hq passF rfl (pa_cons (pv 1) (pa_cons (pv 3) (pa_cons (pv 7) pa_nil))))) (pg_name (i := 10) sc_law.nd rfl (Or.inl rfl)) (pss_one (ps_if (pt_cmpR (op_neP hu) (pe_callB (call_reprN (n := 0) hs hq (hr.mono (by first | decide | omega))) (by rfl) m_repr (by decide +kernel) (pa_cons (pe_g c_is_row hr (by first | decide | omega) hq passF rfl (pa_cons (pv 4) (pa_cons (pv 10) pa_nil))) pa_nil)) (pe_callB (call_reprN (n := 0) hs hq (hr.mono (by first | decide | omega))) (by rfl) m_repr (by decide +kernel) (pa_cons (pe_g c__law_is_row hr (by first | decide | omega) hq passF rfl (pa_cons (pv 3) (pa_cons (pv 10) pa_nil))) pa_nil)) (nomark _)) (pss_one (ps_ret pe_bl)) pss_nil)))))))
    (pss_cons (ps_if (PW.pt (pw_or (pt_cmpR op_isNotD (pe_kwp w_is_row hr (by first | decide | omega) hq passF rfl (pk_cons (pe_tup pa_nil) (pk_cons (pv 4) pk_nil))) pe_bl (nomark _)) (pw_or1 (pt_cmpR op_isNotD (pe_g c_is_operation hr (by first | decide | omega) hq passF rfl (pa_cons (pv 4) (pa_cons (pe_tup pa_nil) pa_nil))) pe_bl (nomark _))))) (pss_one (ps_ret pe_bl)) pss_nil)
    (pss_one (ps_if (pt_cmpR (op_neP hu) (pe_callTy (call_strC c_Machine_D_str hr (by first | decide | omega) hq) (by rfl) m_str (by decide +kernel) (pa_cons (pv 4) pa_nil)) (pv 5) (nomark _)) (pss_one (ps_ret pe_bl)) pss_nil))))))))
    (pss_one (ps_ret pe_bl))), fun p q ns => ⟨_, (ls_seq (ls_for (li_rng1 (Ln.lend ln_c)) lg_name (ls_seq (ls_set (ln_penV rfl (ln_cons rfl ln_varb ln_nil))) (ls_seq (ls_set (ln_call rfl (ln_cons rfl ln_varb ln_nil))) (ls_seq (ls_set (ln_cb1 ln_varb p1_strC)) (ls_seq (ls_for (li_rng1 (Ln.lend ln_c)) lg_name (ls_seq (ls_set (ln_cb1 (Ln.lend (Ln.weak (ln_lc rfl (li_rng1 (Ln.lend (ln_draw (ln_cons rfl ln_varb (ln_cons rfl (Ln.lend (ln_op (Ln.lend (ln_op ln_varb (Ln.lend ln_c) p2_ix)) (Ln.lend ln_c) p2_add)) ln_nil))))) lg_name lt_yes (ln_penV rfl (ln_cons rfl ln_varb (ln_cons rfl ln_varb ln_nil)))))) p1_tup)) (ls_seq (ls_for li_seqp lg_name (ls_seq (ls_if (lt_test (Ln.lend (ln_op (Ln.lend (ln_call rfl (ln_cons rfl ln_varb (ln_cons rfl ln_var ln_nil)))) (Ln.lend ln_c) p2_is))) (ls_end (ls_ret ln_c)) ls_next) (ls_seq (ls_set (ln_penV rfl (ln_cons rfl ln_varb (ln_cons rfl ln_varb (ln_cons rfl ln_var ln_nil))))) (ls_end (ls_if (lt_test (Ln.lend (ln_op (Ln.lend (ln_cb1 (Ln.lend (ln_call rfl (ln_prm (os := [.s, .b]) rfl rfl (ln_cons rfl ln_var (ln_cons rfl ln_varb ln_nil))))) p1_reprX)) (Ln.lend (ln_cb1 (Ln.lend (ln_call rfl (ln_cons rfl ln_varb (ln_cons rfl ln_var ln_nil)))) p1_reprX)) p2_eq))) (ls_end (ls_ret ln_c)) ls_next))))) (ls_end (ls_for (li_seq (ln_penV rfl (ln_cons rfl ln_varb (ln_cons rfl ln_varb (ln_cons rfl ln_var ln_nil))))) lg_name (ls_end (ls_if (lt_test (Ln.lend (ln_op (Ln.lend (ln_cb1 (Ln.lend (ln_call rfl (ln_cons rfl ln_varb (ln_cons rfl ln_varb ln_nil)))) p1_reprX)) (Ln.lend (ln_cb1 (Ln.lend (ln_call rfl (ln_cons rfl ln_varb (ln_cons rfl ln_varb ln_nil)))) p1_reprX)) p2_eq))) (ls_end (ls_ret ln_c)) ls_next))))))) (ls_seq (ls_if (lt_or (lt_test (Ln.lend (ln_op (Ln.lend (ln_call rfl (ln_prm (os := [.b, .b]) rfl rfl (ln_cons rfl (Ln.lend (ln_tup rfl ln_nil)) (ln_cons rfl ln_varb ln_nil))))) (Ln.lend ln_c) p2_is))) (lt_test (Ln.lend (ln_op (Ln.lend (ln_call rfl (ln_cons rfl ln_varb (ln_cons rfl (ln_tup rfl ln_nil) ln_nil)))) (Ln.lend ln_c) p2_is)))) (ls_end (ls_ret ln_c)) ls_next) (ls_end (ls_if (lt_test (Ln.lend (ln_op (Ln.lend (ln_cb1 ln_varb p1_strC)) ln_varb p2_eq))) (ls_end (ls_ret ln_c)) ls_next)))))))) (ls_end (ls_ret ln_c))), ?_⟩⟩
  exact .go (Rn := fun _ _ => True) (Rl := fun _ _ => True) (rs_for (R1 := (fun (q : Unit) ρ => ρ = [.no, .d ((.v (.ref p))), .no, .no, .no, .no, .no, .no, .no, .no, .no, .no])) (rl_rng1 rd_c) rfl (fun e q ρ h => by obtain rfl := h; exact (rt_n (rs_set (rd_pen (rd_vb rfl) ra_nil) fun plan_here => (rs_set (rd_call (ra_cons (rd_vb rfl) ra_nil)) fun plant => (rs_set (rd_un (rd_vb rfl)) fun shown => (rs_for (R1 := (fun (q_1 : Unit) ρ => ρ = [.no, .d ((.v (.ref p))), .d (e), .d (plan_here), .d (plant), .d (shown), .no, .no, .no, .no, .no, .no])) (rl_rng1 rd_c) rfl (fun e_1 q_1 ρ h => by obtain rfl := h; exact (rt_n (rs_set (rd_un (rd_lc (rl_rng1 (rd_drw (rd_vb rfl) (rd_op (rd_op (rd_vb rfl) rd_c) rd_c))) fun e_2 => (rt_n (rc_stp (rd_pen (rd_vb rfl) (ra_cons (rd_vb rfl) ra_nil)) rb_yes)))) fun line_so => (rs_for (R1 := (fun (q_2 : Unit) ρ => ρ = [.no, .d ((.v (.ref p))), .d (e), .d (plan_here), .d (plant), .d (shown), .d (e_1), .d (line_so), .no, .no, .no, .no])) (rl_seqd rfl) rfl (fun e_4 q_2 ρ h => by obtain rfl := h; exact (rt_n (rs_if (rb_test (rd_op (rd_call (ra_cons (rd_vb rfl) (ra_cons (rd_v rfl) ra_nil))) rd_c)) (rs_assoc (rs_ret rd_c)) (rs_skip (rs_set (rd_pen (rd_vb rfl) (ra_cons (rd_vb rfl) (ra_cons (rd_v rfl) ra_nil))) fun bent_here => (rs_if (rb_test (rd_op (rd_un (rd_kw (ra_cons (rd_v rfl) (ra_cons (rd_vb rfl) ra_nil)))) (rd_un (rd_call (ra_cons (rd_vb rfl) (ra_cons (rd_v rfl) ra_nil)))))) (rs_assoc (rs_ret rd_c)) (rs_skip (rs_next ⟨rfl, rfl⟩)))))))) (fun q_2 ρ h => by obtain rfl := h; exact (rs_for (R1 := (fun (q_3 : Unit) ρ => ρ = [.no, .d ((.v (.ref p))), .d (e), .d (plan_here), .d (plant), .d (shown), .d (e_1), .d (line_so), .no, .no, .no, .no])) (rl_seq (rd_pen (rd_vb rfl) (ra_cons (rd_vb rfl) (ra_cons (rd_v rfl) ra_nil)))) rfl (fun e_3 q_3 ρ h => by obtain rfl := h; exact (rt_n (rs_if (rb_test (rd_op (rd_un (rd_call (ra_cons (rd_vb rfl) (ra_cons (rd_vb rfl) ra_nil)))) (rd_un (rd_call (ra_cons (rd_vb rfl) (ra_cons (rd_vb rfl) ra_nil)))))) (rs_assoc (rs_ret rd_c)) (rs_skip (rs_next ⟨rfl, rfl⟩))))) (fun q_3 ρ h => by obtain rfl := h; exact (rs_next ⟨rfl, rfl⟩)))))))) (fun q_1 ρ h => by obtain rfl := h; exact (rs_if (rb_or (rb_test (rd_op (rd_kw (ra_cons (rd_tup ra_nil (Nat.le_of_ble_eq_true rfl)) (ra_cons (rd_vb rfl) ra_nil))) rd_c)) (rb_test (rd_op (rd_call (ra_cons (rd_vb rfl) (ra_cons (rd_tup ra_nil (Nat.le_of_ble_eq_true rfl)) ra_nil))) rd_c))) (rs_assoc (rs_ret rd_c)) (rs_skip (rs_if (rb_test (rd_op (rd_un (rd_vb rfl)) (rd_vb rfl))) (rs_assoc (rs_ret rd_c)) (rs_skip (rs_next ⟨rfl, rfl⟩)))))))))))) (fun q ρ h => by obtain rfl := h; exact (rs_ret rd_c)))
end
end
end L2.K5
namespace L2.K5
open L2 L2.My PySem PySem.Spec PyProof.Rows
local macro_rules | `(tactic| walk_at "s1") => `(tactic| first
  | with_reducible refine g_seq ?_
  | with_reducible refine g_asg ?_
  | with_reducible refine g_name ?_
  | with_reducible refine g_op ?_
  | ((with_reducible show tVar _ _ _ _); refine g_var rfl ?_)
  | with_reducible refine g_c ?_
  | with_reducible refine g_cons ?_
  | with_reducible refine g_nil ?_
  | with_reducible refine g_cb ?_
  | with_reducible refine g_tests ?_
  | with_reducible refine g_bl ?_
  | with_reducible refine g_tB ?_
  | with_reducible refine g_and ?_
  | with_reducible refine g_or ?_
  | with_reducible refine g_not ?_
  | with_reducible refine g_ifs ?_
  | with_reducible refine g_sub ?_
  | with_reducible refine g_ret ?_
  | with_reducible refine g_retN ?_
  | with_reducible refine g_drop ?_
  | with_reducible refine g_next ?_
  | with_reducible refine g_par ?_
  | with_reducible refine g_two ?_
  | with_reducible refine g_lst ?_
  | with_reducible refine g_tup ?_
  | with_reducible refine g_un ?_
  | with_reducible refine addU_i ?_
  | with_reducible refine rI0_i ?_)
local macro_rules | `(tactic| walk_at "go") => `(tactic| repeat walk_at "s1")
local macro_rules | `(tactic| walk_at "s1") => `(tactic| first
  | ((with_reducible show tOp _ _ _ _ _ _); with_reducible refine g_op ?_)
  | with_reducible refine g_int ?_
  | with_reducible refine g_sl ?_
  | with_reducible refine g_nopart ?_
  | with_reducible refine g_part ?_
  | with_reducible refine g_i ?_
  | with_reducible refine g_bm ?_
  | with_reducible refine g_pair ?_
  | with_reducible refine g_pair0 ?_
  | with_reducible refine g_call ?_
  | with_reducible refine g_intb ?_
  | with_reducible refine g_abs ?_)
local macro_rules | `(tactic| walk_at "look") => `(tactic| first
  | exact upd_same
  | with_reducible assumption
  | (refine same_upd ?_ _ _ ?_; assumption; walk_at "look"))
local macro_rules | `(tactic| walk_at "cat") => `(tactic| (refine' addU_l ?e1 ?e2 ?z ?_; (case e1 => walk_at "look"); (case e2 => walk_at "look"); (case z => exact Nat.le_of_ble_eq_true rfl)))
local macro_rules | `(tactic| walk_at "same") => `(tactic| first
  | exact Same.refl _
  | with_reducible assumption
  | (refine Same.trans ?_ (same_upd ?_); rotate_left; assumption; walk_at "same"))
theorem mixed_small {m a : Int} (m0 : 0 ≤ m) (m1 : m < 2147483647) (a0 : 0 ≤ a) (a1 : a < 100000) : 0 ≤ m * (2 * a + 21) ∧ m * (2 * a + 21) < 429537531389275 := by
  constructor
  · exact Int.mul_nonneg m0 (by omega)
  · have h := Int.mul_le_mul (show m ≤ 2147483646 by omega) (show 2 * a + 21 ≤ 200019 by omega) (by omega) (by omega)
    omega
theorem sq_small {a : Int} (a0 : 0 ≤ a) (a1 : a < 100000) : 0 ≤ 52479 * a * a ∧ 52479 * a * a < 524779504252480 := by
  constructor
  · exact Int.mul_nonneg (by omega) a0
  · have h := Int.mul_le_mul (show 52479 * a ≤ 5247847521 by omega) (show a ≤ 99999 by omega) a0 (by omega)
    omega
section
variable {P : Program} {w : World} {K : W.Frag} {mg : Str → Option Value} {base : Heap}
abbrev sDraw : Stmt := top 47
theorem scDraw : FnScope ["_law_pen_here", "_law_many", "_law_digit", "_law_at", "_law_cell", "_law_great", "_law_mixed"] ["_law_pen_here", "_law_many"] (defScope sDraw) := ⟨rfl, rfl, rfl, by decide +kernel, rfl, by decide +kernel, by decide +kernel⟩
theorem ok_draw {f : Addr} {fd : FuncData} (F : Fun K "_law_draw" "_law_draw" sDraw f fd) (m_int : mg "int" = none) (m_len : mg "len" = none) (m_abs : mg "abs" = none) : FnG P w K mg base CX0 1 f fd ["_law_pen_here", "_law_many"] spDraw := by
  refine body_g0 F scDraw ?_ ?_
  · rintro vs H Q E ⟨p, q, ns, at', big, many, rfl, _⟩
    rfl
  rintro cdv A outer s H vs Q E hr hq ⟨p, q, ns, at', big, many, rfl, m0, m1, pen, a2, z⟩
  have hu := hr.units
  refine ⟨_, (pss_cons (ps_if (pt_cmpR op_gt (pe_ix ix_seq (pv 0) pe_int (fun _ _ => rfl)) pe_int (nomark _)) (pss_cons (ps_set (i := 2) scDraw.nd rfl (Or.inl rfl) (pe_op op_mod (pe_callTy c_int (by rfl) m_int (by decide +kernel) (pa_cons (pe_ix ix_seq (pv 0) pe_int (fun _ _ => rfl)) pa_nil)) (pv 1)))
    (pss_cons (ps_asg (pe_op op_fdivW (pe_ix ix_seq (pv 0) pe_int (fun _ _ => rfl)) (pv 1)) (pg_sub (pv 0) pe_int set_list))
    (pss_one (ps_ret (pv 2))))) pss_nil)
    (pss_cons (ps_set (i := 3) scDraw.nd rfl (Or.inl rfl) (pe_ix ix_seq (pv 0) pe_int (fun _ _ => rfl)))
    (pss_cons (ps_asg (pe_op op_addU (pv 3) pe_int) (pg_sub (pv 0) pe_int set_list))
    (pss_cons (ps_set (i := 4) scDraw.nd rfl (Or.inl rfl) (pe_op op_addU (pe_op op_mulU pe_int (pv 3)) pe_int))
    (C8.pss_cut (ps_if (pt_cmpR (op_neU hu) (pe_ix ix_seq (pv 0) pe_int (fun _ _ => rfl)) (pe_lst pa_nil) (nomark _)) (pss_one (ps_set (i := 4) scDraw.nd rfl (Or.inl rfl) (pe_ix ix_seq (pe_ix ix_seq (pv 0) pe_int (fun _ _ => rfl)) (pe_op op_mod (pe_callTy c_int (by rfl) m_int (by decide +kernel) (pa_cons (pv 3) pa_nil)) (pe_callB c_len (by rfl) m_len PySem.boot_len (pa_cons (pe_ix ix_seq (pv 0) pe_int (fun _ _ => rfl)) pa_nil))) (fun _ _ => rfl)))) pss_nil)
    (C8.pss_cut (ps_if (PW.pt (pw_and (pt_cmpR op_lt (pv 3) (pe_callB c_len (by rfl) m_len PySem.boot_len (pa_cons (pe_ix ix_seq (pv 0) pe_int (fun _ _ => rfl)) pa_nil)) (nomark _)) (pw_and1 (pt_cmpR op_ge (pe_callB c_abs (by rfl) m_abs (by decide +kernel) (pa_cons (pv 4) pa_nil)) (pe_op op_pow pe_int pe_int) (nomark _))))) (pss_cons (ps_set (i := 5) scDraw.nd rfl (Or.inl rfl) (pe_op op_addU (pe_op op_mulU pe_int (pe_op op_sub (pe_callB c_abs (by rfl) m_abs (by decide +kernel) (pa_cons (pv 4) pa_nil)) (pe_op op_pow pe_int pe_int))) (pe_callTy c_int (by rfl) m_int (by decide +kernel) (pa_cons (pe_cmpR op_lt (pv 4) pe_int (nomark _)) pa_nil))))
    (pss_cons (ps_asg (pe_op op_fdivW (pv 5) (pv 1)) (pg_sub (pv 0) pe_int set_list))
    (pss_one (ps_ret (pe_op op_mod (pe_callTy c_int (by rfl) m_int (by decide +kernel) (pa_cons (pv 5) pa_nil)) (pv 1)))))) pss_nil)
    (pss_cons (ps_set (i := 6) scDraw.nd rfl (Or.inl rfl) (pe_op op_mod (pe_callTy c_int (by rfl) m_int (by decide +kernel) (pa_cons (pe_op op_pow (pe_op op_addU (pe_op op_addU (pe_op op_mod (pe_callTy c_int (by rfl) m_int (by decide +kernel) (pa_cons (pv 4) pa_nil)) pe_int) (pe_op op_mulU pe_int (pv 3))) pe_int) pe_int) pa_nil)) pe_int))
    (pss_cons (ps_set (i := 6) scDraw.nd rfl (Or.inl rfl) (pe_op op_mod (pe_callTy c_int (by rfl) m_int (by decide +kernel) (pa_cons (pe_op op_pow (pe_op op_addU (pe_op op_addU (pe_op op_mulU (pv 6) (pe_op op_addU (pe_op op_mulU pe_int (pv 3)) pe_int)) (pe_op op_mulU (pe_op op_mulU pe_int (pv 3)) (pv 3))) pe_int) pe_int) pa_nil)) pe_int))
    (pss_one (ps_ret (pe_op op_mod (pe_callTy c_int (by rfl) m_int (by decide +kernel) (pa_cons (pe_op op_fdivW (pv 6) pe_int) pa_nil)) (pv 1)))))))))))), ?_⟩
  have e2 : SqL K H p [.ref q, .int at', .int big] := .inl (.inl pen.pen)
  have a0 := pen.a0
  have hW : CDivW 1 many := wide_div m0 m1 (by decide) (by decide)
  walk_at "go"
  refine ix_l e2 rfl ?_
  walk_at "go"
  refine ite2 (fun c => ?_) (fun c => ?_)
  · have c' : 0 < big := of_decide_eq_true c
    walk_at "go"
    refine ix_l e2 rfl ?_
    walk_at "go"
    refine rI_i m0 ?_
    walk_at "go"
    refine ix_l e2 rfl ?_
    walk_at "go"
    refine rI_i hW ?_
    walk_at "go"
    refine setL pen.pen rfl ?_
    walk_at "go"
    exact z _ _ _ _ (Int.emod_nonneg _ (by omega)) (Int.emod_lt_of_pos _ m0) (Int.le_refl _) (by omega) (Int.ediv_nonneg pen.b0 (by omega)) but_upd upd_same
  walk_at "go"
  refine ix_l e2 rfl ?_
  walk_at "go"
  refine setL (j := 1) pen.pen rfl ?_
  walk_at "go"
  have npq : q ≠ p := fun e => by
    have h1 := pen.cells
    rw [e, pen.pen] at h1
    have h2 := Option.some.inj h1
    injection h2 with h3
    cases ns with
    | nil => cases h3
    | cons n r => cases h3
  have e3 : upd H p (.lst ([V.ref q, .int at', .int big].set 1 (.int (at' + 1)))) p = some (.lst [.ref q, .int (at' + 1), .int big]) := upd_same
  have e4 : upd H p (.lst ([V.ref q, .int at', .int big].set 1 (.int (at' + 1)))) q = some (.lst (ns.map V.int)) := by rw [upd_ne npq]; exact pen.cells
  have b1 : But H (upd H p (.lst ([V.ref q, .int at', .int big].set 1 (.int (at' + 1))))) p := but_upd
  generalize upd H p (.lst ([V.ref q, .int at', .int big].set 1 (.int (at' + 1)))) = H1 at *
  refine mulU_i (.inl (by omega)) ?_
  walk_at "go"
  refine g_cut (fun σ' H' => ∃ cell : Int, σ' = [some (.ref p), some (.int many), none, some (.int at'), some (.int cell), none, none] ∧ H' p = some (.lst [.ref q, .int (at' + 1), .int big]) ∧ H' q = some (.lst (ns.map V.int)) ∧ But H H' p) ?_ ?_
  · walk_at "go"
    refine ix_l (.inl (.inl e3)) rfl ?_
    walk_at "go"
    refine g_small (by decide) fun l nl => ?_
    have s1 := same_upd (o := .lst []) nl
    refine eqU_ints (ns := ns) (ms := []) (.inl (.inl (s1 _ _ e4))) (.inl (.inl upd_same)) ?_
    walk_at "go"
    refine ite2 (fun c => ?_) (fun c => ?_)
    · have c' : ns ≠ [] := by
        intro e
        rw [e] at c
        exact absurd c (by decide)
      have pos : 0 < (ns.map V.int).length := by
        rw [List.length_map]
        exact List.length_pos_iff.mpr c'
      walk_at "go"
      refine ix_l (.inl (.inl (s1 _ _ e3))) rfl ?_
      walk_at "go"
      refine ix_l (.inl (.inl (s1 _ _ e3))) rfl ?_
      walk_at "go"
      refine g_len (.inl (.inl (s1 _ _ e4))) ?_
      walk_at "go"
      refine rI_i (show (0 : Int) < _ by omega) ?_
      have l0 := Int.emod_nonneg at' (show ((ns.map V.int).length : Int) ≠ 0 by omega)
      have l1 := Int.emod_lt_of_pos at' (show 0 < ((ns.map V.int).length : Int) by omega)
      have len : (ns.map V.int).length = ns.length := List.length_map _
      obtain ⟨n, hn⟩ : ∃ n, atI (ns.map V.int) (at' % ((ns.map V.int).length : Int)) = some (.int n) := by
        have lt : (at' % ((ns.map V.int).length : Int)).toNat < ns.length := by omega
        refine ⟨ns[(at' % ((ns.map V.int).length : Int)).toNat], ?_⟩
        have e := atI_nat (xs := ns.map V.int) (j := (at' % ((ns.map V.int).length : Int)).toNat) (v := .int ns[(at' % ((ns.map V.int).length : Int)).toNat]) (by rw [List.getElem?_map, List.getElem?_eq_getElem lt] <;> rfl)
        rw [Int.toNat_of_nonneg l0] at e
        exact e
      refine ix_l (.inl (.inl (s1 _ _ e4))) hn ?_
      walk_at "go"
      exact ⟨n, rfl, s1 _ _ e3, s1 _ _ e4, b1.same s1⟩
    · walk_at "go"
      exact ⟨_, rfl, s1 _ _ e3, s1 _ _ e4, b1.same s1⟩
  rintro σ' H' ⟨cell, rfl, f3, f4, b2⟩
  refine g_cut (fun σ' H2 => σ' = [some (.ref p), some (.int many), none, some (.int at'), some (.int cell), none, none] ∧ H2 = H') ?_ ?_
  walk_at "go"
  refine ix_l (.inl (.inl f3)) rfl ?_
  walk_at "go"
  refine g_len (.inl (.inl f4)) ?_
  walk_at "go"
  have abs0 : 0 ≤ (if cell < 0 then -cell else cell) := by split <;> omega
  refine ite2 (fun c1 => ?_) (fun c1 => ?_)
  · walk_at "go"
    refine rI_i ⟨by decide, by decide, by decide⟩ ?_
    walk_at "go"
    refine ite2 (fun c2 => ?_) (fun c2 => ?_)
    · have c3 : (10 : Int) ^ (Int.toNat 18) ≤ (if cell < 0 then -cell else cell) := of_decide_eq_true c2
      walk_at "go"
      refine rI_i ⟨by decide, by decide, by decide⟩ ?_
      walk_at "go"
      refine mulU_i (.inl (by omega)) ?_
      walk_at "go"
      refine rI_i hW ?_
      walk_at "go"
      refine setL (j := 2) f3 rfl ?_
      walk_at "go"
      refine rI_i m0 ?_
      walk_at "go"
      refine z _ _ _ _ (Int.emod_nonneg _ (by omega)) (Int.emod_lt_of_pos _ m0) (show at' ≤ at' + 1 by omega) (Int.le_refl _) (Int.ediv_nonneg ?_ (by omega)) b2.upd upd_same
      split <;> omega
    · walk_at "go"
      exact ⟨rfl, rfl⟩
  · walk_at "go"
    refine iteF ?_
    walk_at "go"
    exact ⟨rfl, rfl⟩
  rintro σ' H2 ⟨rfl, rfl⟩
  walk_at "go"
  refine rI_i (show (0 : Int) < 2147483563 by decide) ?_
  walk_at "go"
  refine mulU_i (.inl (by omega)) ?_
  walk_at "go"
  have r0 := Int.emod_nonneg cell (show (2147483563 : Int) ≠ 0 by decide)
  have r1 := Int.emod_lt_of_pos cell (show (0 : Int) < 2147483563 by decide)
  refine rI_i ⟨by decide, by decide, by omega⟩ ?_
  walk_at "go"
  refine rI_i (show (0 : Int) < 2147483647 by decide) ?_
  walk_at "go"
  refine mulU_i (.inl (by omega)) ?_
  walk_at "go"
  generalize hm : (cell % 2147483563 + 52479 * at' + 41) ^ (Int.toNat 3) % 2147483647 = m
  have g0 : 0 ≤ m := by rw [← hm]; exact Int.emod_nonneg _ (by decide)
  have g1 : m < 2147483647 := by rw [← hm]; exact Int.emod_lt_of_pos _ (by decide)
  have p1 := mixed_small g0 g1 a0 a2
  have p2 := sq_small a0 a2
  refine mulU_i (.inl (by omega)) ?_
  walk_at "go"
  refine mulU_i (.inl (by omega)) ?_
  walk_at "go"
  refine mulU_i (.inl (by omega)) ?_
  walk_at "go"
  refine rI_i ⟨by decide, by decide, by omega⟩ ?_
  walk_at "go"
  refine rI_i (show (0 : Int) < 2147483587 by decide) ?_
  walk_at "go"
  refine rI_i (wide_div (b := 6) (by decide) (by decide) (by decide) (by decide)) ?_
  walk_at "go"
  refine rI_i m0 ?_
  walk_at "go"
  exact z _ _ _ _ (Int.emod_nonneg _ (by omega)) (Int.emod_lt_of_pos _ m0) (show at' ≤ at' + 1 by omega) (Int.le_refl _) pen.b0 b2 f3
abbrev sPen : Stmt := top 46
theorem scPen : FnScope ["_law_script"] ["_law_script"] (defScope sPen) := ⟨rfl, rfl, rfl, by decide +kernel, rfl, by decide +kernel, by decide +kernel⟩
theorem ok_pen {f : Addr} {fd : FuncData} (F : Fun K "_law_pen" "_law_pen" sPen f fd) (m_list : mg "list" = none) : FnG P w K mg base CX0 1 f fd ["_law_script"] (spPen K) := by
  refine body_g0 F scPen ?_ ?_
  · rintro vs H Q E ⟨a, ns, rfl, _⟩
    rfl
  rintro cdv A outer s H vs Q E hr hq ⟨a, ns, rfl, hl, z⟩
  refine ⟨_, (pss_one (ps_ret (pe_lst (pa_cons (pe_callTy c_list (by rfl) m_list (by decide +kernel) (pa_cons (pe_slice sl_list (pv 0) po_none (po_some pe_int)) pa_nil)) (pa_cons pe_int (pa_cons pe_int pa_nil)))))), ?_⟩
  walk_at "go"
  refine slL hl fun p1 n1 => ?_
  obtain ⟨ms, em⟩ := cut_ints ns none (some 60)
  rw [em]
  walk_at "go"
  refine g_list (.inl (.inl upd_same)) fun q n2 => ?_
  walk_at "go"
  refine g_small (show 3 ≤ 1000 by decide) fun p n3 => ?_
  walk_at "go"
  have s1 := same_upd (o := .lst (ms.map V.int)) n1
  have s2 := s1.trans (same_upd (o := .lst (ms.map V.int)) n2)
  have s3 := s2.trans (same_upd (o := .lst [V.ref q, .int 0, .int 0]) n3)
  refine z p q ms _ s3 (s2.free n3) ⟨upd_same, ?_, by decide, by decide, by decide⟩
  rw [upd_ne (ne_of_none upd_same n3), upd_same]
end
end L2.K5
namespace L2.K5
open L2 L2.My L2.DL NdefX PySem PySem.Spec PyProof.Rows
open PM
variable [Zd]
def kcs : List Str := ["Make", "Copy", "Give", "Jump"]
structure ZF [Zd] : Prop where
  ka : ∀ x ∈ kcs, ∀ f ∈ (["name", "delay", "family"] : List Str), Att Zd.K (Zd.c x) f
  ma : ∀ f ∈ (["kinds", "late", "width"] : List Str), Att Zd.K (Zd.c "Machine") f
  ki : ∀ x ∈ kcs, ClsI Zd.K (Zd.c x)
  kk : ∀ x ∈ kcs, W.kitOne Zd.K (.ref (Zd.c x)) (.ref (Zd.c "Kind")) = some true
theorem isiK_t {K : W.Frag} {d : D} {b : String} {r : D} (h : isiD d (.v (.ty b)) = some r) : isiK K d (.v (.ty b)) = some r := by
  unfold isiK
  rw [h]
theorem leV_i {a b : Int} : leV (dI a) (dI b) = some (dB (decide (a ≤ b))) := rfl
theorem chn_ii {m : Type → Type} [PM m] [LM m] (a b c : Int) : chnL leV leV (ok (dI a) : m D) (ok (dI b)) (ok (dI c)) = ok (dB (decide (a ≤ b) && decide (b ≤ c))) := by
  unfold chnL chnX
  rw [ok_bnd, ok_bnd, leV_i, lif_some, ok_bnd]
  show bnd (lif (some (decide (a ≤ b)))) _ = _
  rw [lif_some, ok_bnd]
  cases h : decide (a ≤ b) with
  | false => rfl
  | true =>
    show bnd (ok (dI c)) _ = _
    rw [ok_bnd, leV_i, lif_some]
    rfl
theorem within_at {i lo hi : Int} : within_V (dI i) (dI lo) (dI hi) = ok (dB (decide (lo ≤ i) && decide (i ≤ hi))) := by
  unfold within_V
  have h1 : isiK Zd.K (dI i) (.v (.ty "int")) = some (dB true) := isiK_t rfl
  have h2 : isiK Zd.K (dI i) (.v (.ty "bool")) = some (dB false) := isiK_t rfl
  simp [h1, h2, chn_ii]
theorem check_delay_at {i : Int} (h : 1 ≤ i ∧ i ≤ 6) : check_delay_V (dI i) = ok dN := by
  unfold check_delay_V
  simp [calV, within_at, h.1, h.2]
theorem check_late_at {i : Int} (h : 0 ≤ i ∧ i ≤ 2) : check_late_V (dI i) = ok dN := by
  unfold check_late_V
  simp [calV, within_at, h.1, h.2]
theorem check_width_at {i : Int} (h : 1 ≤ i ∧ i ≤ 3) : check_width_V (dI i) = ok dN := by
  unfold check_width_V
  simp [calV, within_at, h.1, h.2]
end L2.K5
namespace L2.K5
open L2 L2.My L2.DL NdefX PySem PySem.Spec PyProof.Rows
open PM
variable [Zd]
/-- what is_name says of a text, the class of the text settled -/
def nameO (value : D) : Om D := retV (β := Unit) (γ := Unit) (ifL (orL (notB (ok true)) (notB (tst (chnL leV leV (ok (dI 1)) (op1 lenD (ok value)) (ok (dI 8))))))
    (bndL (ok (dB false)) fun d => ok (.rt d))
    (bndL (op1 allD (lcL (itV (ok value)) fun e => stpL (ok true) (chnL leV leV (ok (dS "a")) (ok e) (ok (dS "z"))))) fun d => ok (.rt d)))
theorem is_name_O {y : Str} : is_name_V (dS y) = nameO (dS y) := by
  have h1 : isiK Zd.K (dS y) (.v (.ty "str")) = some (dB true) := isiK_t rfl
  unfold is_name_V nameO
  simp only [op2_ok, h1, lif_some]
  rfl
theorem nm_calc : is_name_V (dS "calc") = ok (dB true) := by rw [is_name_O]; rfl
theorem nm_r : is_name_V (dS "r") = ok (dB true) := by rw [is_name_O]; rfl
theorem nm_move : is_name_V (dS "move") = ok (dB true) := by rw [is_name_O]; rfl
theorem nm_send : is_name_V (dS "send") = ok (dB true) := by rw [is_name_O]; rfl
theorem nm_go : is_name_V (dS "go") = ok (dB true) := by rw [is_name_O]; rfl
theorem nm_a : is_name_V (dS "a") = ok (dB true) := by rw [is_name_O]; rfl
end L2.K5
namespace L2.K5
open L2 L2.My L2.DL NdefX PySem PySem.Spec PyProof.Rows
open PM
variable [Zd]
section
variable {m : Type → Type} [PM m] [LM m] {β γ : Type}
@[simp] theorem retI_nx (b : β) : retI (ok (.nx b : Ot β γ) : m (Ot β γ)) = ok b := ok_bnd _ _
@[simp] theorem retI_er (x : Exn) : retI (er x : m (Ot β γ)) = er x := er_bnd _ _
@[simp] theorem retI_no : retI (no : m (Ot β γ)) = no := no_bnd _
theorem setFV_ok {K : W.Frag} {C : Addr} {f : Str} {fs : List (Str × D)} {d : D} (h : Att K C f) (hl : fs.length < 1000) : setFV K C f fs (ok d : m D) = ok (putD f d fs) := by
  unfold setFV
  rw [ok_bnd, if_pos ⟨h, hl⟩]
theorem supV_ok {g : Addr → List D → Om (List (Str × D))} {C : Addr} {l : List (m D)} {ds : List D} {fs : List (Str × D)} (h : seqV l = ok ds) (hg : g C ds = ok fs) : supV g C l = ok fs := by
  unfold supV
  rw [h, ok_bnd, hg]
  rfl
theorem mkV_ok {g : Addr → List D → Om (List (Str × D))} {C : Addr} {l : List (m D)} {ds : List D} {fs : List (Str × D)} (h : seqV l = ok ds) (hg : g C ds = ok fs) : mkV C g l = ok (.obj C fs) := by
  unfold mkV
  rw [supV_ok h hg, ok_bnd]
end
def kindFs (nm dl fam : D) : List (Str × D) := [("name", nm), ("delay", dl), ("family", fam)]
def k1 (y : Str) : List (Str × D) := [("name", dS y)]
def k2 (y : Str) : List (Str × D) := [("name", dS y), ("delay", dN)]
theorem kind_init {C : Addr} (ha : ∀ f ∈ (["name", "delay", "family"] : List Str), Att Zd.K C f) {y : Str} (hn : is_name_V (dS y) = ok (dB true)) (hb : (y == ("alike" : Str)) = false) : Kind___init___V C (dS y) = ok (kindFs (dS y) dN (dS "")) := by
  have a1 := ha "name" (by simp)
  have a2 := ha "delay" (by simp)
  have a3 := ha "family" (by simp)
  unfold Kind___init___V
  have e1 : (setFV Zd.K C "name" ([] : List (Str × D)) (ok (dS y) : Om D) : Om (List (Str × D))) = ok (k1 y) := setFV_ok (fs := []) a1 (by simp)
  have e2 : (setFV Zd.K C "delay" (k1 y) (ok dN : Om D) : Om (List (Str × D))) = ok (k2 y) := setFV_ok (fs := k1 y) a2 (by simp [k1])
  have e3 : (setFV Zd.K C "family" (k2 y) (ok (dS "") : Om D) : Om (List (Str × D))) = ok (kindFs (dS y) dN (dS "")) := setFV_ok (fs := k2 y) a3 (by simp [k2])
  have e4 : eqD true (dS y) (dS "alike") = some (dB false) := by rw [eqD_s, hb]; rfl
  simp [calV, hn, e1, e2, e3, e4]
theorem make_init {C : Addr} (ha : ∀ f ∈ (["name", "delay", "family"] : List Str), Att Zd.K C f) {y : Str} {i : Int} (hn : is_name_V (dS y) = ok (dB true)) (hb : (y == ("alike" : Str)) = false) (hi : 1 ≤ i ∧ i ≤ 6) : Make___init___V C (dS y) (dI i) = ok (kindFs (dS y) (dI i) (dS "make")) := by
  have a2 := ha "delay" (by simp)
  have a3 := ha "family" (by simp)
  unfold Make___init___V
  rw [supV_ok (ds := [dS y]) (by simp) (by rw [ag1_at]; exact kind_init ha hn hb)]
  have e2 : setFV Zd.K C "delay" (kindFs (dS y) dN (dS "")) (ok (dI i)) = (ok (kindFs (dS y) (dI i) (dS "")) : Om _) := setFV_ok a2 (by simp [kindFs])
  have e3 : setFV Zd.K C "family" (kindFs (dS y) (dI i) (dS "")) (ok (dS "make")) = (ok (kindFs (dS y) (dI i) (dS "make")) : Om _) := setFV_ok a3 (by simp [kindFs])
  simp [calV, check_delay_at hi, e2, e3]
theorem copy_init {C : Addr} (ha : ∀ f ∈ (["name", "delay", "family"] : List Str), Att Zd.K C f) {y : Str} {i : Int} (hn : is_name_V (dS y) = ok (dB true)) (hb : (y == ("alike" : Str)) = false) (hi : 1 ≤ i ∧ i ≤ 6) : Copy___init___V C (dS y) (dI i) = ok (kindFs (dS y) (dI i) (dS "copy")) := by
  have a2 := ha "delay" (by simp)
  have a3 := ha "family" (by simp)
  unfold Copy___init___V
  rw [supV_ok (ds := [dS y]) (by simp) (by rw [ag1_at]; exact kind_init ha hn hb)]
  have e2 : setFV Zd.K C "delay" (kindFs (dS y) dN (dS "")) (ok (dI i)) = (ok (kindFs (dS y) (dI i) (dS "")) : Om _) := setFV_ok a2 (by simp [kindFs])
  have e3 : setFV Zd.K C "family" (kindFs (dS y) (dI i) (dS "")) (ok (dS "copy")) = (ok (kindFs (dS y) (dI i) (dS "copy")) : Om _) := setFV_ok a3 (by simp [kindFs])
  simp [calV, check_delay_at hi, e2, e3]
theorem give_init {C : Addr} (ha : ∀ f ∈ (["name", "delay", "family"] : List Str), Att Zd.K C f) {y : Str} (hn : is_name_V (dS y) = ok (dB true)) (hb : (y == ("alike" : Str)) = false) : Give___init___V C (dS y) = ok (kindFs (dS y) dN (dS "give")) := by
  have a3 := ha "family" (by simp)
  unfold Give___init___V
  rw [supV_ok (ds := [dS y]) (by simp) (by rw [ag1_at]; exact kind_init ha hn hb)]
  have e3 : setFV Zd.K C "family" (kindFs (dS y) dN (dS "")) (ok (dS "give")) = (ok (kindFs (dS y) dN (dS "give")) : Om _) := setFV_ok a3 (by simp [kindFs])
  simp [e3]
theorem jump_init {C : Addr} (ha : ∀ f ∈ (["name", "delay", "family"] : List Str), Att Zd.K C f) {y : Str} (hn : is_name_V (dS y) = ok (dB true)) (hb : (y == ("alike" : Str)) = false) : Jump___init___V C (dS y) = ok (kindFs (dS y) dN (dS "jump")) := by
  have a3 := ha "family" (by simp)
  unfold Jump___init___V
  rw [supV_ok (ds := [dS y]) (by simp) (by rw [ag1_at]; exact kind_init ha hn hb)]
  have e3 : setFV Zd.K C "family" (kindFs (dS y) dN (dS "")) (ok (dS "jump")) = (ok (kindFs (dS y) dN (dS "jump")) : Om _) := setFV_ok a3 (by simp [kindFs])
  simp [e3]
end L2.K5
namespace L2.K5
open L2 L2.My L2.DL NdefX PySem PySem.Spec PyProof.Rows
open PM
variable [Zd]
inductive Fam | mk | cp | gv | jp
def Fam.s : Fam → Str
  | .mk => "make" | .cp => "copy" | .gv => "give" | .jp => "jump"
def Fam.c : Fam → Str
  | .mk => "Make" | .cp => "Copy" | .gv => "Give" | .jp => "Jump"
structure Rw where
  fam : Fam
  y : Str
  i : Int
def Rw.dl (r : Rw) : D := match r.fam with
  | .mk => dI r.i
  | .cp => dI r.i
  | _ => dN
def kD (r : Rw) : D := .obj (Zd.c r.fam.c) (kindFs (dS r.y) r.dl (dS r.fam.s))
def Rw.good (r : Rw) : Prop := is_name_V (dS r.y) = ok (dB true) ∧ (r.y == ("alike" : Str)) = false ∧ 1 ≤ r.i ∧ r.i ≤ 6
theorem fam_mem (f : Fam) : f.c ∈ kcs := by cases f <;> simp [Fam.c, kcs]
theorem fld_at {C : Addr} {f : Str} {fs : List (Str × D)} {d : D} (h : Att Zd.K C f) (e : fs.lookup f = some d) : fldD Zd.K f (.obj C fs) = some d := by
  unfold fldD
  simp only
  rw [if_pos h, e]
theorem fld_name (Z : ZF) (r : Rw) : fldD Zd.K "name" (kD r) = some (dS r.y) := by
  have h := Z.ka _ (fam_mem r.fam) "name" (by simp)
  exact fld_at h rfl
theorem fld_delay (Z : ZF) (r : Rw) : fldD Zd.K "delay" (kD r) = some r.dl := by
  have h := Z.ka _ (fam_mem r.fam) "delay" (by simp)
  exact fld_at h rfl
theorem fld_family (Z : ZF) (r : Rw) : fldD Zd.K "family" (kD r) = some (dS r.fam.s) := by
  have h := Z.ka _ (fam_mem r.fam) "family" (by simp)
  exact fld_at h rfl
theorem isi_kind (Z : ZF) (r : Rw) : isiK Zd.K (kD r) (.v (.ref (Zd.c "Kind"))) = some (dB true) := by
  unfold kD
  rw [isiK_o (Z.ki _ (fam_mem r.fam)), Z.kk _ (fam_mem r.fam)]
  rfl
theorem are_kinds_at (Z : ZF) {rs : List Rw} (hl : rs.length ≤ 1000) : are_kinds_V (.tup (rs.map kD)) = ok (dB true) := by
  unfold are_kinds_V
  have e : itV (ok (.tup (rs.map kD)) : Om D) = ok (rs.map kD) := rfl
  rw [e, lcV_all kD (fun _ => dB true) (le_line hl) (fun r _ => ?_)]
  · have : ∀ l : List Rw, asBs (l.map fun _ => dB true) = some (l.map fun _ => true) := fun l => by
      induction l with
      | nil => rfl
      | cons a l ih => simp [asBs, ih]
    have t : ∀ l : List Rw, (l.all fun _ => true) = true := fun l => by induction l with
      | nil => rfl
      | cons a l ih => simp [ih]
    simp [allD_l, this, t]
  · have q : (r.fam.s == ("" : Str)) = false := by cases r.fam <;> rfl
    simp [isi_kind Z, fld_family Z, q]
/-- a kind made by its row -/
theorem made_kind (Z : ZF) {r : Rw} (h : r.good) : (match r.fam with
    | .mk => (mkV (Zd.c "Make") (fun C => ag2 (Make___init___V C)) [ok (dS r.y), ok r.dl] : Om D)
    | .cp => mkV (Zd.c "Copy") (fun C => ag2 (Copy___init___V C)) [ok (dS r.y), ok r.dl]
    | .gv => mkV (Zd.c "Give") (fun C => ag1 (Give___init___V C)) [ok (dS r.y)]
    | .jp => mkV (Zd.c "Jump") (fun C => ag1 (Jump___init___V C)) [ok (dS r.y)]) = ok (kD r) := by
  obtain ⟨f, y, i⟩ := r
  obtain ⟨h1, h2, h3⟩ := h
  cases f with
  | mk => exact mkV_ok (ds := [dS y, dI i]) rfl (make_init (Z.ka _ (fam_mem .mk)) h1 h2 h3)
  | cp => exact mkV_ok (ds := [dS y, dI i]) rfl (copy_init (Z.ka _ (fam_mem .cp)) h1 h2 h3)
  | gv => exact mkV_ok (ds := [dS y]) rfl (give_init (Z.ka _ (fam_mem .gv)) h1 h2)
  | jp => exact mkV_ok (ds := [dS y]) rfl (jump_init (Z.ka _ (fam_mem .jp)) h1 h2)
end L2.K5
namespace L2.K5
open L2 L2.My L2.DL NdefX PySem PySem.Spec PyProof.Rows
open PM
variable [Zd]
theorem hasK_map {k : Str} : ∀ {acc : List Str}, hasK (acc.map Sum.inr) (Sum.inr k) = decide (k ∈ acc)
  | [] => rfl
  | a :: acc => by
    have ih := hasK_map (k := k) (acc := acc)
    unfold hasK at ih ⊢
    rw [List.map_cons, List.any_cons, ih]
    by_cases h : a = k
    · subst h; simp
    · have h2 : ¬ k = a := fun e => h e.symm
      simp [h, h2]
theorem addK_fold : ∀ (ys acc : List Str), (acc ++ ys).Nodup → ys.foldl (fun (a : List Key) y => addK a (Sum.inr y)) (acc.map Sum.inr) = (acc ++ ys).map Sum.inr
  | [], acc, _ => by simp
  | y :: ys, acc, h => by
    have hy : y ∉ acc := fun z => by
      have := (List.nodup_append.mp h).2.2 y z y (by simp)
      exact this rfl
    rw [List.foldl_cons]
    have e : addK (acc.map Sum.inr) (Sum.inr y) = (acc ++ [y]).map Sum.inr := by
      unfold addK
      rw [hasK_map, if_neg (by simpa using hy), List.map_append]
      rfl
    rw [e, addK_fold ys (acc ++ [y]) (by simpa using h)]
    simp
theorem names_len (Z : ZF) {rs : List Rw} (hl : rs.length ≤ 900) (hn : (rs.map Rw.y).Nodup) (a : D) (ha : itV (ok a : Om D) = ok (rs.map kD)) :
    (lsKL (itV (ok a)) fun e acc => ifL (ok true) (addKV acc (op1 (fldD Zd.K "name") (ok e))) (ok acc) : Om D) = ok (dI rs.length) := by
  unfold lsKL lsKV
  rw [ha, ok_bnd]
  have main : ∀ (l : List Rw) (acc : List Key), acc.length + l.length ≤ 900 → (coG (fun e acc => ifL (ok true) (addKV acc (op1 (fldD Zd.K "name") (ok e))) (ok acc)) (l.map kD) acc : Om (List Key)) = ok (l.foldl (fun a r => addK a (Sum.inr r.y)) acc) := by
    intro l
    induction l with
    | nil => exact fun acc _ => rfl
    | cons r l ih =>
      intro acc h
      rw [List.length_cons] at h
      have s1 : (ifL (ok true) (addKV acc (op1 (fldD Zd.K "name") (ok (kD r)))) (ok acc) : Om (List Key)) = ok (addK acc (Sum.inr r.y)) := by
        simp [addKV, fld_name Z, asKey, show acc.length < 1000 by omega]
      rw [List.map_cons]
      unfold coG
      rw [s1, nox_okk, ok_bnd, List.foldl_cons]
      refine ih _ ?_
      unfold addK
      split
      · omega
      · rw [List.length_append, List.length_cons, List.length_nil]; omega
  rw [main rs [] (by simpa using hl), ok_bnd]
  have f := addK_fold (rs.map Rw.y) [] (by simpa using hn)
  rw [List.foldl_map] at f
  rw [show ([] : List Key) = ([] : List Str).map Sum.inr from rfl, f]
  simp
end L2.K5
namespace L2.K5
open L2 L2.My L2.DL NdefX PySem PySem.Spec PyProof.Rows
open PM
variable [Zd]
def mFs (lt wd : Int) (rs : List Rw) : List (Str × D) := [("kinds", .tup (rs.map kD)), ("late", dI lt), ("width", dI wd)]
def mD (lt wd : Int) (rs : List Rw) : D := .obj (Zd.c "Machine") (mFs lt wd rs)
def m1 (rs : List Rw) : List (Str × D) := [("kinds", .tup (rs.map kD))]
def m2 (lt : Int) (rs : List Rw) : List (Str × D) := [("kinds", .tup (rs.map kD)), ("late", dI lt)]
theorem machine_init (Z : ZF) {lt wd : Int} {rs : List Rw} (h1 : 1 ≤ rs.length) (h2 : rs.length ≤ 12) (hn : (rs.map Rw.y).Nodup) (hl : 0 ≤ lt ∧ lt ≤ 2) (hw : 1 ≤ wd ∧ wd ≤ 3) : Machine___init___V (Zd.c "Machine") (dI lt) (dI wd) (.tup (rs.map kD)) = ok (mFs lt wd rs) := by
  have a1 := Z.ma "kinds" (by simp)
  have a2 := Z.ma "late" (by simp)
  have a3 := Z.ma "width" (by simp)
  unfold Machine___init___V
  have e1 : (setFV Zd.K (Zd.c "Machine") "kinds" ([] : List (Str × D)) (ok (.tup (rs.map kD)) : Om D) : Om (List (Str × D))) = ok (m1 rs) := setFV_ok (fs := []) a1 (by simp)
  have e2 : (setFV Zd.K (Zd.c "Machine") "late" (m1 rs) (ok (dI lt) : Om D) : Om (List (Str × D))) = ok (m2 lt rs) := setFV_ok (fs := m1 rs) a2 (by simp [m1])
  have e3 : (setFV Zd.K (Zd.c "Machine") "width" (m2 lt rs) (ok (dI wd) : Om D) : Om (List (Str × D))) = ok (mFs lt wd rs) := setFV_ok (fs := m2 lt rs) a3 (by simp [m2])
  have e4 := names_len Z (by omega) hn (.tup (rs.map kD)) rfl
  have b1 : (1 : Int) ≤ rs.length := by omega
  have b2 : (rs.length : Int) ≤ 12 := by omega
  rw [e4]
  simp [lenD_t, chn_ii, calV, are_kinds_at Z (show rs.length ≤ 1000 by omega), check_late_at hl, check_width_at hw, e1, e2, e3, b1, b2, cmpD_i]
end L2.K5
namespace L2.K5
open L2 L2.My L2.DL NdefX PySem PySem.Spec PyProof.Rows
open PM
variable [Zd]
theorem mkSV_ok {m : Type → Type} [PM m] [LM m] {C : Addr} {g : Addr → List D → Om (List (Str × D))} {d : D} {l : List (m D)} {zs xs : List D} {fs : List (Str × D)} (h : seqV l = ok zs) (hd : asSeq d = some xs) (hl : xs.length ≤ sizeLine) (hg : g C (zs ++ [.tup xs]) = ok fs) :
    mkSV C g (ok (.v (.ref C)) : m D) (ok d) l = ok (.obj C fs) := by
  unfold mkSV
  rw [ok_bnd]
  show (if C = C then _ else _) = _
  rw [if_pos rfl, ok_bnd, h, ok_bnd, hd]
  show (if xs.length ≤ sizeLine then _ else _) = _
  rw [if_pos hl, hg, lft_ok, ok_bnd]
theorem isi_list {xs : List D} : isiT Zd.K (.lst xs) (.tup [.v (.ty "list"), .v (.ty "tuple")]) = some (dB true) := by
  have k : W.kitAny Zd.K (.type "list") [.type "list", .type "tuple"] = some true := kitAny_cons (b := true) (kit_ty (by decide +kernel)) (fun h => nomatch h) fun _ => rfl
  show ((W.kitAny Zd.K (.type "list") [.type "list", .type "tuple"]).map dB) = _
  rw [k]
  rfl
theorem machine_of (Z : ZF) {lt wd : Int} {rs : List Rw} (h1 : 1 ≤ rs.length) (h2 : rs.length ≤ 12) (hn : (rs.map Rw.y).Nodup) (hl : 0 ≤ lt ∧ lt ≤ 2) (hw : 1 ≤ wd ∧ wd ≤ 3) : Machine_of_V (.v (.ref (Zd.c "Machine"))) (.lst (rs.map kD)) (dI lt) (dI wd) = ok (mD lt wd rs) := by
  unfold Machine_of_V
  have e : mkSV (Zd.c "Machine") (fun C => ag3 (Machine___init___V C)) (ok (.v (.ref (Zd.c "Machine"))) : Om D) (ok (.lst (rs.map kD))) [ok (dI lt), ok (dI wd)] = ok (mD lt wd rs) :=
    mkSV_ok (zs := [dI lt, dI wd]) (xs := rs.map kD) rfl rfl (le_line (by rw [List.length_map]; omega)) (machine_init Z h1 h2 hn hl hw)
  simp [isi_list, e]
theorem fld_kinds (Z : ZF) {lt wd : Int} {rs : List Rw} : fldD Zd.K "kinds" (mD lt wd rs) = some (.tup (rs.map kD)) := fld_at (Z.ma "kinds" (by simp)) rfl
theorem fld_width (Z : ZF) {lt wd : Int} {rs : List Rw} : fldD Zd.K "width" (mD lt wd rs) = some (dI wd) := fld_at (Z.ma "width" (by simp)) rfl
/-- machine.kind(y) of a kind that is there -/
theorem kind_at (Z : ZF) {lt wd : Int} {rs : List Rw} {r : Rw} (h : rs.find? (fun x => x.y == r.y) = some r) : Machine_kind_V (mD lt wd rs) (dS r.y) = ok (kD r) := by
  unfold Machine_kind_V
  have e : itV (op1 (fldD Zd.K "kinds") (ok (mD lt wd rs)) : Om D) = ok (rs.map kD) := by rw [op1_ok, fld_kinds Z]; rfl
  rw [e, okL]
  have main : ∀ l : List Rw, l.find? (fun x => x.y == r.y) = some r → (forL (fun e (q : Unit) => ifL (tst (op2 (eqD true) (op1 (fldD Zd.K "name") (ok e)) (ok (dS r.y)))) (bndL (ok e) fun d => ok (.rt d)) (ok (.nx ()))) (l.map kD) () : Om (Ot Unit Unit)) = ok (.rt (kD r)) := by
    intro l
    induction l with
    | nil => intro z; cases z
    | cons x l ih =>
      intro z
      rw [List.find?_cons] at z
      rw [List.map_cons, forV_cons]
      cases q : (x.y == r.y) with
      | true =>
        rw [q] at z
        cases z
        simp [fld_name Z, eqD_s]
      | false =>
        rw [q] at z
        have s1 : (ifL (tst (op2 (eqD true) (op1 (fldD Zd.K "name") (ok (kD x))) (ok (dS r.y)))) (bndL (ok (kD x)) fun d => ok (.rt d)) (ok (.nx ())) : Om (Ot Unit Unit)) = ok (.nx ()) := by simp [fld_name Z, eqD_s, q]
        rw [s1, okL, turnV_nx]
        exact ih z
  rw [main rs h]
  simp
end L2.K5
namespace L2.K5
open L2 L2.My L2.DL NdefX PySem PySem.Spec PyProof.Rows
open PM
variable [Zd]
noncomputable section
open TL
theorem toPyAll_strs : ∀ ys : List Str, toPyAll (ys.map dS) = some (ys.map PyData.str)
  | [] => rfl
  | y :: ys => by
    have ih := toPyAll_strs ys
    rw [List.map_cons, List.map_cons]
    simp [toPyAll, toPy, ih]
theorem any_strs (y : Str) : ∀ ys : List Str, (ys.map PyData.str).any (fun z => PyData.eqv z (.str y)) = ys.any (fun z => z == y)
  | [] => rfl
  | z :: ys => by
    have ih := any_strs y ys
    rw [List.map_cons, List.any_cons, List.any_cons, ih]
    simp [PyData.eqv]
theorem inX_strs {b : Bool} {y : Str} {ys : List Str} : inX b (dS y) (.lst (ys.map dS)) = some (dB (b == ys.any (fun z => z == y))) := by
  show inD b (dS y) (.lst (ys.map dS)) = _
  unfold inD
  rw [show toPy (dS y) = some (.str y) from rfl, show asSeq (.lst (ys.map dS)) = some (ys.map dS) from rfl]
  show (match toPyAll (ys.map dS) with | some es => _ | none => none) = _
  rw [toPyAll_strs]
  show (if min _ (PyData.depth (.str y)) ≤ 60 then _ else none) = _
  rw [if_pos (Nat.le_trans (Nat.min_le_right _ _) (by simp [PyData.depth])), any_strs]
theorem met_kind {m : Type → Type} [PM m] [LM m] (Z : ZF) {lt wd : Int} {rs : List Rw} {r : Rw} (h : rs.find? (fun x => x.y == r.y) = some r) :
    metV (Zd.c "Machine") "kind" (ap2 Machine_kind_V) (ok (mD lt wd rs) : m D) [ok (dS r.y)] = ok (kD r) := by
  unfold metV
  rw [ok_bnd]
  have e : isOb (Zd.c "Machine") "kind" (mD lt wd rs) = true := by
    unfold isOb mD
    simp only [beq_self_eq_true, Bool.true_and]
    rfl
  rw [if_pos e]
  have q : seqV [(ok (dS r.y) : m D)] = ok [dS r.y] := by simp
  rw [q, ok_bnd, ap2_at, kind_at Z h, lft_ok]
def oS : Option Str → D
  | none => dN
  | some y => dS y
def oI : Option Int → D
  | none => dN
  | some i => dI i
structure Op where
  r : Rw
  t : Option Str
  so : List Str
  g : Option Int
def opD (o : Op) : D := .tup [dS o.r.y, oS o.t, .tup (o.so.map dS), oI o.g]
theorem op_t (o : Op) : ixD (opD o) (dI 1) = some (oS o.t) := rfl
theorem op_n (o : Op) : ixD (opD o) (dI 0) = some (dS o.r.y) := rfl
theorem op_g (o : Op) : ixD (opD o) (dI 3) = some (oI o.g) := rfl
def Fits (a : Str) (ws : List Str) : Prop := (ws.map (·.length)).sum + ws.length * a.length ≤ 16777216
theorem asStrs_map : ∀ ws : List Str, asStrs (ws.map dS) = some ws
  | [] => rfl
  | w :: ws => by
    rw [List.map_cons]
    unfold asStrs
    rw [asStrs_map ws]
    rfl
theorem join_at {m : Type → Type} [PM m] [LM m] {a : Str} {ws : List Str} (h : Fits a ws) : joinV (ok (dS a) : m D) (ok (.lst (ws.map dS))) = ok (dS (Txt.join a ws)) := by
  unfold joinV
  rw [ok_bnd]
  show bnd (ok (D.lst (ws.map dS)) : m D) (fun c => lif (joinD (dS a) c)) = _
  rw [ok_bnd]
  have e : joinD (dS a) (.lst (ws.map dS)) = some (dS (Txt.join a ws)) := by
    unfold joinD
    simp only [asSeq, Option.bind_some, asStrs_map]
    exact if_pos h
  rw [e, lif_some]
/-- is_name of a text -/
def lowC (c : Nat) : Bool := decide (97 ≤ c) && decide (c ≤ 122)
def isName (y : Str) : Bool := decide (1 ≤ y.length) && decide (y.length ≤ 8) && y.cps.toList.all lowC
theorem one_lt (a b : Nat) : ([a] < [b]) ↔ a < b := by
  rw [List.cons_lt_cons_iff]
  have : ¬ (([] : List Nat) < []) := by simp
  constructor
  · rintro (h | h)
    · exact h
    · exact absurd h.2 this
  · exact fun h => .inl h
theorem low_lo (c : Nat) : (!decide ([c] < ([97] : List Nat))) = decide (97 ≤ c) := by
  have e : decide ([c] < ([97] : List Nat)) = decide (c < 97) := decide_eq_decide.mpr (one_lt c 97)
  rw [e]
  by_cases h : c < 97
  · have : ¬ 97 ≤ c := by omega
    simp [h, this]
  · have : 97 ≤ c := by omega
    simp [h, this]
theorem low_hi (c : Nat) : (!decide (([122] : List Nat) < [c])) = decide (c ≤ 122) := by
  have e : decide (([122] : List Nat) < [c]) = decide (122 < c) := decide_eq_decide.mpr (one_lt 122 c)
  rw [e]
  by_cases h : 122 < c
  · have : ¬ c ≤ 122 := by omega
    simp [h, this]
  · have : c ≤ 122 := by omega
    simp [h, this]
theorem chn_c {m : Type → Type} [PM m] [LM m] (c : Nat) : chnL leV leV (ok (dS "a") : m D) (ok (dS ⟨#[c]⟩)) (ok (dS "z")) = ok (dB (lowC c)) := by
  unfold chnL chnX
  have e1 : leV (dS "a") (dS ⟨#[c]⟩) = some (dB (decide (97 ≤ c))) := by rw [← low_lo]; rfl
  have e2 : leV (dS ⟨#[c]⟩) (dS "z") = some (dB (decide (c ≤ 122))) := by rw [← low_hi]; rfl
  rw [ok_bnd, ok_bnd, e1, lif_some, ok_bnd]
  show bnd (lif (some (decide (97 ≤ c)))) _ = _
  rw [lif_some, ok_bnd]
  unfold lowC
  cases h : decide (97 ≤ c) with
  | false => rfl
  | true =>
    show bnd (ok (dS "z")) _ = _
    rw [ok_bnd, e2, lif_some]
    rfl
theorem asBs_map : ∀ l : List Bool, asBs (l.map dB) = some l
  | [] => rfl
  | b :: l => by simp [asBs, asBs_map l]
theorem is_name_at {y : Str} (hl : y.length ≤ sizeLine) : is_name_V (dS y) = ok (dB (isName y)) := by
  rw [is_name_O]
  unfold nameO isName
  have e : lenD (dS y) = some (dI y.length) := if_pos hl
  rw [op1_ok, e, lif_some, chn_ii]
  have d1 : decide ((1 : Int) ≤ (y.length : Int)) = decide (1 ≤ y.length) := decide_eq_decide.mpr (by omega)
  have d2 : decide ((y.length : Int) ≤ 8) = decide (y.length ≤ 8) := decide_eq_decide.mpr (by omega)
  rw [d1, d2]
  cases h : decide (1 ≤ y.length) && decide (y.length ≤ 8) with
  | false => simp
  | true =>
    have h2 : y.length ≤ 8 := by simp only [Bool.and_eq_true, decide_eq_true_eq] at h; exact h.2
    have hl2 : y.cps.toList.length ≤ sizeLine := le_line (by have : y.cps.toList.length = y.length := rfl; omega)
    rw [itV_ok, asIt_s, lif_some, lcV_all (fun c => dS ⟨#[c]⟩) (fun c => dB (lowC c)) hl2 (fun c _ => by rw [chn_c]; simp)]
    have q : allD (.lst (y.cps.toList.map fun c => dB (lowC c))) = some (dB (y.cps.toList.all lowC)) := by
      show (asBs (y.cps.toList.map fun c => dB (lowC c))).map _ = _
      have : (y.cps.toList.map fun c => dB (lowC c)) = (y.cps.toList.map lowC).map dB := by rw [List.map_map]; rfl
      rw [this, asBs_map]
      simp [List.all_map, Function.comp_def]
    rw [op1_ok, q]
    simp
def Fam.least : Fam → Nat
  | .mk => 0 | .cp => 1 | .gv => 1 | .jp => 0
def Fam.most : Fam → Nat
  | .mk => 2 | .cp => 1 | .gv => 2 | .jp => 1
theorem lims_at (f : Fam) : kixD [("make", (.tup [(dI 0), (dI 2)])), ("copy", (.tup [(dI 1), (dI 1)])), ("give", (.tup [(dI 1), (dI 2)])), ("jump", (.tup [(dI 0), (dI 1)]))] (dS f.s) = some (.tup [dI f.least, dI f.most]) := by cases f <;> rfl
theorem beqI (a b : Nat) : ((a : Int) == (b : Int)) = (a == b) := Bool.eq_iff_iff.mpr (by rw [beq_iff_eq, beq_iff_eq]; omega)
def Fam.wr : Fam → Bool
  | .mk => true | .cp => true | _ => false
def lookM (rs : List Rw) (y : Str) : Option Rw := rs.find? fun x => x.y == y
theorem lookM_y {rs : List Rw} {y : Str} {r : Rw} (h : lookM rs y = some r) : r.y = y := eq_of_beq (List.find?_some (p := fun (x : Rw) => x.y == y) h)
theorem any_look (y : Str) (rs : List Rw) : (rs.any fun r => r.y == y) = (lookM rs y).isSome := by
  unfold lookM
  rw [Bool.eq_iff_iff, List.any_eq_true, List.find?_isSome]
def Rw.dI? (r : Rw) : Option Int := match r.fam with
  | .mk => some r.i
  | .cp => some r.i
  | _ => none
theorem dl_eq (r : Rw) : r.dl = oI r.dI? := by
  unfold Rw.dl Rw.dI?
  cases r.fam <;> rfl
theorem leV_n (a b : Nat) : leV (dI (a : Int)) (dI (b : Int)) = some (dB (decide (a ≤ b))) := by
  rw [leV_i]
  congr 2
  exact decide_eq_decide.mpr (by omega)
theorem ltV_n (a b : Nat) : ltV (dI (a : Int)) (dI (b : Int)) = some (dB (decide (a < b))) := by
  show some (dB (decide ((a : Int) < (b : Int)))) = _
  congr 2
  exact decide_eq_decide.mpr (by omega)
theorem eqD_n {c : Bool} (a b : Nat) : eqD c (dI (a : Int)) (dI (b : Int)) = some (dB (c == (a == b))) := by
  rw [eqD_i', beqI]
end
end L2.K5
namespace L2.K5
open L2 L2.My L2.DL NdefX PySem PySem.Spec PyProof.Rows
open PM
variable [Zd]
noncomputable section
open TL
/-- values of the data's sorts -/
inductive Okv : D → Prop
  | n : Okv dN
  | b (b : Bool) : Okv (dB b)
  | i (i : Int) : Okv (dI i)
  | s (y : Str) (h : y.length ≤ sizeLine) : Okv (dS y)
  | t (xs : List D) : Okv (.tup xs)
  | l (xs : List D) : Okv (.lst xs)
  | d : Okv (.dct [])
structure Val (d : D) : Prop where
  ok : Okv d
  sh : (∃ p, toPy d = some p) ∨ d = .dct []
def isNm : D → Bool
  | .v (.str y) => isName y
  | _ => false
def isTup : D → Bool
  | .tup _ => true
  | _ => false
def isN : D → Bool
  | .v .non => true
  | _ => false
def inG : D → Bool
  | .v (.int i) => decide (0 ≤ i) && decide (i ≤ 40)
  | _ => false
theorem isi_tup {d : D} (h : Okv d) : isiK Zd.K d (.v (.ty "tuple")) = some (dB (isTup d)) := by cases h <;> exact isiK_t rfl
theorem isi_str {d : D} (h : Okv d) (hs : ∀ y, d ≠ dS y) : isiK Zd.K d (.v (.ty "str")) = some (dB false) := by
  cases h with
  | s y _ => exact absurd rfl (hs y)
  | _ => exact isiK_t rfl
theorem isN_at {d : D} (h : Okv d) (b : Bool) : isD b d dN = some (dB (b == isN d)) := by cases h <;> cases b <;> rfl
theorem name_no {d : D} (h : isiK Zd.K d (.v (.ty "str")) = some (dB false)) : is_name_V d = ok (dB false) := by
  unfold is_name_V
  rw [op2_ok, h, lif_some, tst_ok, notB_ok, orB_ok, if_pos (by decide), ifV_ok, if_pos rfl, okL, retV_rt]
theorem l_name_no {d : D} (h : isiK Zd.K d (.v (.ty "str")) = some (dB false)) : l_is_name_V d = ok (dB false) := by
  unfold l_is_name_V
  rw [op2_ok, h, lif_some, tst_ok, notB_ok, orB_ok, if_pos (by decide), ifV_ok, if_pos rfl, okL, retV_rt]
theorem is_name_any {d : D} (h : Okv d) : is_name_V d = ok (dB (isNm d)) := by
  cases h with
  | s y h => exact is_name_at h
  | _ => exact name_no (isi_str (by constructor) (fun y z => nomatch z))
theorem alpha_mem : ∀ c : Nat, c ∈ ("abcdefghijklmnopqrstuvwxyz" : Str).cps.toList ↔ 97 ≤ c ∧ c ≤ 122 := by
  have e : ("abcdefghijklmnopqrstuvwxyz" : Str).cps.toList = List.range' 97 26 := by decide +kernel
  intro c
  rw [e, List.mem_range'_1]
  omega
theorem sgn_c (c : Nat) : sgn ⟨#[c]⟩ = some c := rfl
theorem eqN_nil {b : Bool} {xs : List D} : eqN b (.lst xs) (.lst []) = some (dB (b == xs.isEmpty)) := rfl
theorem l_is_name_at {y : Str} (hl : y.length ≤ sizeLine) : l_is_name_V (dS y) = ok (dB (isName y)) := by
  unfold l_is_name_V
  have hl2 : y.cps.toList.length ≤ sizeLine := hl
  have is : isiK Zd.K (dS y) (.v (.ty "str")) = some (dB true) := isiK_t rfl
  have ln : lenD (dS y) = some (dI (y.length : Int)) := if_pos hl
  have ch : (chnL ltV ltV (ok (dI 0)) (op1 lenD (ok (dS y))) (ok (dI 9)) : Om D) = ok (dB (decide (1 ≤ y.length) && decide (y.length ≤ 8))) := by
    rw [op1_ok, ln, lif_some]
    unfold chnL chnX
    have a1 : ltV (dI 0) (dI (y.length : Int)) = some (dB (decide (1 ≤ y.length))) := by
      rw [show (dI 0 : D) = dI ((0 : Nat) : Int) from rfl, ltV_n]
      congr 2
    have a2 : ltV (dI (y.length : Int)) (dI 9) = some (dB (decide (y.length ≤ 8))) := by
      rw [show (dI 9 : D) = dI ((9 : Nat) : Int) from rfl, ltV_n]
      congr 2
      exact decide_eq_decide.mpr (by omega)
    rw [ok_bnd, ok_bnd, a1, lif_some, ok_bnd]
    show bnd (lif (some (decide (1 ≤ y.length)))) _ = _
    rw [lif_some, ok_bnd]
    cases q : decide (1 ≤ y.length) with
    | false => rfl
    | true =>
      show bnd (ok (dI 9)) _ = _
      rw [ok_bnd, a2, lif_some]
      rfl
  rw [op2_ok, is, lif_some, tst_ok, notB_ok, orB_ok, if_neg (by decide), ch, tst_ok, notB_ok, ifV_ok]
  unfold isName
  cases q : decide (1 ≤ y.length) && decide (y.length ≤ 8) with
  | false =>
    rw [if_pos (by decide), okL, retV_rt]
    rfl
  | true =>
    rw [if_neg (by decide), itV_ok, asIt_s, lif_some, lcV_stp (m := Om) (fun c => dS ⟨#[c]⟩) (fun c => !lowC c) (fun c => dS ⟨#[c]⟩) hl2 (fun c _ => by
      have : inSg false (dS ⟨#[c]⟩) (dS "abcdefghijklmnopqrstuvwxyz") = some (dB (!lowC c)) := by
        show (sgn ⟨#[c]⟩).map (fun c => dB (false == decide (c ∈ ("abcdefghijklmnopqrstuvwxyz" : Str).cps.toList))) = _
        rw [sgn_c, Option.map_some]
        congr 2
        unfold lowC
        by_cases z : 97 ≤ c ∧ c ≤ 122
        · rw [decide_eq_true ((alpha_mem c).mpr z), decide_eq_true z.1, decide_eq_true z.2]; rfl
        · rw [decide_eq_false fun q => z ((alpha_mem c).mp q)]
          cases q1 : decide (97 ≤ c) <;> cases q2 : decide (c ≤ 122) <;> first | rfl | exact absurd ⟨of_decide_eq_true q1, of_decide_eq_true q2⟩ z
      rw [op2_ok, this, lif_some, tst_ok]) (fun c _ _ => rfl), lstV0, op2_ok, eqN_nil, lif_some, okL, retV_rt]
    have fin : (true == ((y.cps.toList.filter fun c => !lowC c).map fun c => (dS ⟨#[c]⟩ : D)).isEmpty) = y.cps.toList.all lowC := by
      have : ∀ l : List Nat, (true == ((l.filter fun c => !lowC c).map fun c => (dS ⟨#[c]⟩ : D)).isEmpty) = l.all lowC := by
        intro l
        induction l with
        | nil => rfl
        | cons c l ih =>
          cases q : lowC c with
          | true => rw [List.filter_cons_of_neg (by simp [q]), List.all_cons, q, Bool.true_and, ih]
          | false => rw [List.filter_cons_of_pos (by simp [q]), List.all_cons, q]; rfl
      exact this _
    rw [fin]
    rfl
theorem l_is_name_any {d : D} (h : Okv d) : l_is_name_V d = ok (dB (isNm d)) := by
  cases h with
  | s y h => exact l_is_name_at h
  | _ => exact l_name_no (isi_str (by constructor) (fun y z => nomatch z))
/-- goals -/
def goalL (d : D) : Om D := (andXL (op2 (isiK Zd.K) (ok d) (ok (.v (.ty "int")))) (andXL (notX (op2 (isiK Zd.K) (ok d) (ok (.v (.ty "bool"))))) (chnL leV leV (ok (dI 0)) (ok d) (ok (dI 40)))))
theorem goal_any {d : D} (h : Okv d) : goalL d = ok (dB (inG d)) := by
  unfold goalL
  have no : ∀ {d : D}, isiK Zd.K d (.v (.ty "int")) = some (dB false) → (andXL (op2 (isiK Zd.K) (ok d) (ok (.v (.ty "int")))) (andXL (notX (op2 (isiK Zd.K) (ok d) (ok (.v (.ty "bool"))))) (chnL leV leV (ok (dI 0)) (ok d) (ok (dI 40)))) : Om D) = ok (dB false) := fun h => by
    rw [op2_ok, h, lif_some, andX_ok, if_neg (by decide)]
  cases h with
  | n => exact no (isiK_t rfl)
  | s y _ => exact no (isiK_t rfl)
  | t xs => exact no (isiK_t rfl)
  | l xs => exact no (isiK_t rfl)
  | d => exact no (isiK_t rfl)
  | b b =>
    have e1 : isiK Zd.K (dB b) (.v (.ty "int")) = some (dB true) := isiK_t rfl
    have e2 : isiK Zd.K (dB b) (.v (.ty "bool")) = some (dB true) := isiK_t rfl
    rw [op2_ok, e1, lif_some, andX_ok, if_pos rfl, op2_ok, e2, lif_some]
    rfl
  | i i =>
    have e1 : isiK Zd.K (dI i) (.v (.ty "int")) = some (dB true) := isiK_t rfl
    have e2 : isiK Zd.K (dI i) (.v (.ty "bool")) = some (dB false) := isiK_t rfl
    rw [op2_ok, e1, lif_some, andX_ok, if_pos rfl, op2_ok, e2, lif_some, chn_ii]
    rfl
theorem within_any {d : D} (h : Okv d) : within_V d (dI 0) (dI 40) = ok (dB (inG d)) := by
  have := goal_any h
  unfold goalL at this
  unfold within_V
  rw [this, okL, retV_rt]
/-- names in a machine -/
def kindD (rs : List Rw) : D → Option Rw
  | .v (.str y) => lookM rs y
  | _ => none
theorem any_none {p : PyData} (hp : ∀ z, PyData.eqv (.str z) p = false) : ∀ ys : List Str, (ys.map PyData.str).any (fun z => PyData.eqv z p) = false
  | [] => rfl
  | z :: ys => by rw [List.map_cons, List.any_cons, hp, any_none hp ys]; rfl
theorem inD_none {d : D} {p : PyData} {ys : List Str} (e : toPy d = some p) (hp : ∀ z, PyData.eqv (.str z) p = false) : inD true d (.lst (ys.map dS)) = some (dB false) := by
  unfold inD
  rw [e, show asSeq (.lst (ys.map dS)) = some (ys.map dS) from rfl]
  show (match toPyAll (ys.map dS) with | some es => _ | none => none) = _
  rw [toPyAll_strs]
  have dp : PyData.depthAll (ys.map PyData.str) = 0 := by
    induction ys with
    | nil => rfl
    | cons y ys ih =>
      rw [List.map_cons, PyData.depthAll, ih]
      rfl
  show (if min (PyData.depthAll (ys.map PyData.str)) _ ≤ 60 then _ else none) = _
  rw [if_pos (by rw [dp]; omega), any_none hp]
  rfl
theorem inDE_strs {d : D} (h : Val d) {ys : List Str} : inDE true d (.lst (ys.map dS)) = some (dB (match d with | .v (.str y) => ys.any (fun z => z == y) | _ => false)) := by
  obtain ⟨hk, hs⟩ := h
  cases hk with
  | n => exact inD_none (d := dN) (p := .none) (show toPy dN = some .none from rfl) (fun z => by simp [PyData.eqv])
  | b b => exact inD_none (d := dB b) (p := .bool b) (show toPy (dB b) = some (.bool b) from rfl) (fun z => by simp [PyData.eqv])
  | i i => exact inD_none (d := dI i) (p := .int i) (show toPy (dI i) = some (.int i) from rfl) (fun z => by simp [PyData.eqv])
  | s y _ =>
    show inX true (dS y) (.lst (ys.map dS)) = _
    rw [inX_strs]
    simp
  | t xs =>
    rcases hs with ⟨p, e⟩ | z
    · refine inD_none e fun z => ?_
      rw [toPy] at e
      obtain ⟨ps, _, rfl⟩ := Option.map_eq_some_iff.mp e
      simp [PyData.eqv]
    · cases z
  | l xs =>
    rcases hs with ⟨p, e⟩ | z
    · refine inD_none e fun z => ?_
      rw [toPy] at e
      obtain ⟨ps, _, rfl⟩ := Option.map_eq_some_iff.mp e
      simp [PyData.eqv]
    · cases z
  | d =>
    show (if (ys.map dS).all strD? = true then some (dB (true == false)) else none) = _
    rw [if_pos (by rw [List.all_map, List.all_eq_true]; intro x _; rfl)]
    rfl
theorem contains_any (Z : ZF) {lt wd : Int} {rs : List Rw} {d : D} (hl : rs.length ≤ 900) (h : Val d) : Machine___contains___V (mD lt wd rs) d = ok (dB (kindD rs d).isSome) := by
  unfold Machine___contains___V
  have e : itV (op1 (fldD Zd.K "kinds") (ok (mD lt wd rs)) : Om D) = ok (rs.map kD) := by rw [op1_ok, fld_kinds Z]; rfl
  rw [e, lcV_all kD (fun r => dS r.y) (le_line (by omega)) (fun r _ => by simp [fld_name Z])]
  have q : rs.map (fun r => dS r.y) = (rs.map Rw.y).map dS := by rw [List.map_map]; rfl
  rw [q, op2_ok, inDE_strs h, lif_some, okL, retV_rt]
  congr 2
  obtain ⟨hk, _⟩ := h
  cases hk with
  | s y _ =>
    show (rs.map Rw.y).any (fun z => z == y) = (lookM rs y).isSome
    rw [← any_look, List.any_map]
    rfl
  | _ => rfl
theorem in_any (Z : ZF) {lt wd : Int} {rs : List Rw} {d : D} {pos : Bool} (hl : rs.length ≤ 900) (h : Val d) : inC (Zd.c "Machine") (foF (ap2 Machine___contains___V)) pos d (mD lt wd rs) = some (dB (pos == (kindD rs d).isSome)) := by
  unfold inC mD
  simp only [if_true]
  show resB pos (toF (Machine___contains___V (mD lt wd rs) d)) = _
  rw [contains_any Z hl h]
  rfl
theorem kindD_some {rs : List Rw} {d : D} {r : Rw} (h : kindD rs d = some r) : d = dS r.y ∧ lookM rs r.y = some r := by
  unfold kindD at h
  split at h
  · rename_i y
    have := lookM_y h
    rw [this]
    exact ⟨rfl, h⟩
  · cases h
/-- sources -/
def srB (f : Fam) : D → Bool
  | .tup xs => (decide (f.least ≤ xs.length) && decide (xs.length ≤ f.most)) && xs.all isNm
  | _ => false
theorem most_le (f : Fam) : f.most ≤ 2 := by cases f <;> decide
theorem are_sources_any {f : Fam} {d : D} (h : Okv d) (hx : ∀ xs, d = .tup xs → xs.length ≤ 900 ∧ ∀ x ∈ xs, Okv x) : are_sources_V (dS f.s) d = ok (dB (srB f d)) := by
  unfold are_sources_V
  rw [op1_ok, lims_at, lif_some, okL, un2_ok, op2_ok, isi_tup h, lif_some, tst_ok, notB_ok, orB_ok]
  by_cases c : ∃ xs, d = .tup xs
  · obtain ⟨xs, rfl⟩ := c
    obtain ⟨l9, ho⟩ := hx xs rfl
    rw [if_neg (show ¬ (!isTup (.tup xs)) = true from fun z => nomatch z), op1_ok, lenD_t', lif_some, chn_ii]
    have e1 : (decide ((f.least : Int) ≤ (xs.length : Int)) && decide ((xs.length : Int) ≤ (f.most : Int))) = (decide (f.least ≤ xs.length) && decide (xs.length ≤ f.most)) := by
      congr 1 <;> exact decide_eq_decide.mpr (by omega)
    rw [e1, tst_ok, notB_ok, ifV_ok]
    show _ = ok (dB ((decide (f.least ≤ xs.length) && decide (xs.length ≤ f.most)) && xs.all isNm))
    cases q : decide (f.least ≤ xs.length) && decide (xs.length ≤ f.most) with
    | false => rw [if_pos (by decide), okL, retV_rt]; rfl
    | true =>
      have := lcV_all (m := Om) (fun d : D => d) (fun d => dB (isNm d)) (st := fun e => stpL (ok true) (calV (ap1 is_name_V) [(ok e)])) (xs := xs) (le_line (by omega)) (fun x hx => by
        rw [calV1, is_name_any (ho x hx), lft_ok]
        rfl)
      rw [List.map_id'] at this
      rw [if_neg (by decide), itV_ok, asIt_t, lif_some, this]
      have e2 : allD (.lst (xs.map fun d => dB (isNm d))) = some (dB (xs.all isNm)) := by
        have : xs.map (fun d => dB (isNm d)) = (xs.map isNm).map dB := by rw [List.map_map]; rfl
        rw [this]
        show ((asBs _).map fun bs => dB (bs.all id)) = _
        rw [asBs_map, Option.map_some, List.all_map]
        rfl
      rw [op1_ok, e2, lif_some, okL, retV_rt]
      rfl
  · have z : isTup d = false := by
      cases h with
      | t xs => exact absurd ⟨xs, rfl⟩ c
      | _ => rfl
    have z2 : srB f d = false := by
      cases h with
      | t xs => exact absurd ⟨xs, rfl⟩ c
      | _ => rfl
    rw [z, z2, if_pos (by decide), ifV_ok, if_pos rfl, okL, retV_rt]
end
end L2.K5
namespace L2.K5
open L2 L2.My L2.DL NdefX PySem PySem.Spec PyProof.Rows
open PM
variable [Zd]
noncomputable section
open TL
def rwD (r : Rw) : D := .tup [dS r.fam.s, dS r.y, r.dl]
def planD (lt : Int) (w : Nat) (rs : List Rw) : D := .tup [dI lt, dI (w : Int), .lst (rs.map rwD)]
def Fam.ix : Fam → Nat
  | .mk => 0 | .cp => 1 | .gv => 2 | .jp => 3
/-- the machine of the law, and what is told of words -/
structure Mach (lt : Int) (w : Nat) (rs : List Rw) : Prop where
  few : rs.length ≤ 900
  nm : ∀ r ∈ rs, isName r.y = true
  wd : 1 ≤ w ∧ w ≤ 3
def nmB : D → Rw → Bool
  | .v (.str y), x => x.y == y
  | _, _ => false
theorem l_kind_any {lt : Int} {w : Nat} {rs : List Rw} {d : D} (hl : rs.length ≤ 900) (h : Okv d) : l_kind_V (planD lt w rs) d = ok (match kindD rs d with | some r => rwD r | none => dN) := by
  unfold l_kind_V
  have e : (itV (op2 ixD (ok (planD lt w rs)) (ok (dI 2))) : Om (List D)) = ok (rs.map rwD) := by
    rw [op2_ok]
    rfl
  have main : (lcL (itV (op2 ixD (ok (planD lt w rs)) (ok (dI 2)))) fun e => stpL (andL (tst (op2 (isiK Zd.K) (ok d) (ok (.v (.ty "str"))))) (tst (op2 (eqD true) (op2 ixD (ok e) (ok (dI 1))) (ok d)))) (ok e) : Om D) = ok (.lst ((rs.filter (nmB d)).map rwD)) := by
    rw [e]
    refine lcV_stp (m := Om) (xs := rs) rwD (nmB d) rwD (le_line (by omega)) (fun x _ => ?_) (fun x _ _ => rfl)
    have i1 : ixD (rwD x) (dI 1) = some (dS x.y) := rfl
    by_cases hs : ∃ y, d = dS y
    · obtain ⟨y, rfl⟩ := hs
      have is : isiK Zd.K (dS y) (.v (.ty "str")) = some (dB true) := isiK_t rfl
      rw [op2_ok, is, lif_some, tst_ok, andB_ok, if_pos rfl, op2_ok, i1, lif_some, op2_ok, eqD_s', lif_some, tst_ok]
      congr 1
      show (true == (x.y == y)) = (x.y == y)
      simp
    · have e0 := isi_str h (fun y q => hs ⟨y, q⟩)
      have n0 : nmB d x = false := by
        cases h with
        | s y _ => exact absurd ⟨y, rfl⟩ hs
        | _ => rfl
      rw [n0, op2_ok, e0, lif_some, tst_ok, andB_ok, if_neg (by decide)]
  rw [main, okL, lstV0, op2_ok, eqN_nil, lif_some, tst_ok, ifV_ok]
  have hh : (rs.filter (nmB d)).head? = kindD rs d := by
    rw [List.head?_filter]
    cases h with
    | s y _ => rfl
    | _ =>
      show rs.find? (fun _ => false) = none
      rw [List.find?_eq_none]
      exact fun _ _ z => nomatch z
  cases q : rs.filter (nmB d) with
  | nil =>
    rw [q] at hh
    rw [← hh, List.map_nil, if_neg (by decide), okL, retV_rt]
    rfl
  | cons r l =>
    rw [q] at hh
    rw [← hh, if_pos (by rfl), List.map_cons, op2_ok, ixD_l0, lif_some, okL, retV_rt]
    rfl
def tgB (r : Rw) (t : D) : Bool := if r.fam.wr = true then isNm t else isN t
def glB (r : Rw) (g : D) : Bool := match r.fam with
  | .jp => inG g
  | _ => isN g
def opB (rs : List Rw) : D → Bool
  | .tup [n, t, so, g] => (match kindD rs n with
    | some r => tgB r t && (srB r.fam so && glB r g)
    | none => false)
  | _ => false
/-- what is looked at as an operation -/
structure OkOp (d : D) : Prop where
  ok : Okv d
  c : ∀ n t so g, d = .tup [n, t, so, g] → Val n ∧ Okv t ∧ Okv so ∧ (∀ xs, so = .tup xs → xs.length ≤ 900 ∧ ∀ x ∈ xs, Okv x) ∧ Okv g
theorem len4 {xs : List D} (h : xs.length = 4) : ∃ a b c d, xs = [a, b, c, d] := by
  match xs, h with
  | [a, b, c, d], _ => exact ⟨a, b, c, d, rfl⟩
theorem opB_len {rs : List Rw} {xs : List D} (h : xs.length ≠ 4) : opB rs (.tup xs) = false := by
  match xs, h with
  | [], _ => rfl
  | [_], _ => rfl
  | [_, _], _ => rfl
  | [_, _, _], _ => rfl
  | [_, _, _, _], h => exact absurd rfl h
  | _ :: _ :: _ :: _ :: _ :: _, _ => rfl
theorem opB_no {rs : List Rw} {d : D} (h : Okv d) (hn : ∀ xs, d ≠ .tup xs) : opB rs d = false ∧ isTup d = false := by
  cases h with
  | t xs => exact absurd rfl (hn xs)
  | _ => exact ⟨rfl, rfl⟩
theorem rs_find {rs : List Rw} {r : Rw} (h : lookM rs r.y = some r) : rs.find? (fun x => x.y == r.y) = some r := h
theorem in_mk (f : Fam) : inDE true (dS f.s) (.tup [dS "make", dS "copy"]) = some (dB f.wr) := by cases f <;> rfl
theorem eq_jump (f : Fam) (b : Bool) : eqD b (dS f.s) (dS "jump") = some (dB (b == (match f with | .jp => true | _ => false))) := by cases f <;> cases b <;> rfl
theorem is_operation_any (Z : ZF) {lt wd : Int} {rs : List Rw} {d : D} (hl : rs.length ≤ 900) (h : OkOp d) : is_operation_V (mD lt wd rs) d = ok (dB (opB rs d)) := by
  unfold is_operation_V
  rw [op2_ok, isi_tup h.ok, lif_some, tst_ok, notB_ok, orB_ok]
  by_cases c : ∃ xs, d = .tup xs
  · obtain ⟨xs, rfl⟩ := c
    have e4 : eqD false (dI (xs.length : Int)) (dI 4) = some (dB (false == (xs.length == 4))) := eqD_n _ 4
    rw [if_neg (show ¬ (!isTup (.tup xs)) = true from fun z => nomatch z), op1_ok, lenD_t', lif_some, op2_ok, e4, lif_some, tst_ok, ifV_ok]
    by_cases l : xs.length = 4
    · obtain ⟨n, t, so, g, rfl⟩ := len4 l
      obtain ⟨vn, vt, vs, vx, vg⟩ := h.c n t so g rfl
      rw [if_neg (by rw [l]; decide), okL, un4_ok, op2_ok, in_any Z hl vn, lif_some, tst_ok, ifV_ok]
      show _ = ok (dB (match kindD rs n with | some r => tgB r t && (srB r.fam so && glB r g) | none => false))
      cases q : kindD rs n with
      | none => rw [if_pos (by rfl), okL, retV_rt]
      | some r =>
        obtain ⟨rfl, lk⟩ := kindD_some q
        rw [if_neg (by simp), met_kind Z (rs_find lk), op1_ok, fld_family Z, lif_some, okL, op2_ok, in_mk, lif_some, okL, op2_ok, eq_jump, lif_some, okL, tst_ok, tst_ok, calV2, are_sources_any vs vx, lft_ok, calV1, is_name_any vt, lft_ok, op2_ok, isN_at vt, lif_some, calV3, within_any vg, lft_ok, op2_ok, isN_at vg, lif_some]
        have e1 : (ifL (ok r.fam.wr) (ok (dB (isNm t))) (ok (dB (true == isN t))) : Om D) = ok (dB (tgB r t)) := by
          rw [ifV_ok]
          unfold tgB
          cases r.fam.wr with
          | true => rfl
          | false => cases isN t <;> rfl
        have e2 : (ifL (ok (true == (match r.fam with | .jp => true | _ => false))) (ok (dB (inG g))) (ok (dB (true == isN g))) : Om D) = ok (dB (glB r g)) := by
          rw [ifV_ok]
          unfold glB
          cases r.fam <;> cases isN g <;> rfl
        show _ = ok (dB (tgB r t && (srB r.fam so && glB r g)))
        rw [e1, e2, andX_ok, andX_ok]
        cases tgB r t <;> cases srB r.fam so <;> rfl
    · rw [if_pos (by simpa using l), okL, retV_rt, opB_len l]
  · obtain ⟨z1, z2⟩ := opB_no (rs := rs) h.ok (fun xs q => c ⟨xs, q⟩)
    rw [z1, z2, if_pos (by decide), ifV_ok, if_pos rfl, okL, retV_rt]
theorem in12 (n : Nat) : inDE false (dI (n : Int)) (.tup [dI 1, dI 2]) = some (dB (!(decide (n = 1) || decide (n = 2)))) := by
  show inD false (dI (n : Int)) (.tup [dI 1, dI 2]) = _
  unfold inD
  rw [show toPy (dI (n : Int)) = some (.int (n : Int)) from rfl, show asSeq (.tup [dI 1, dI 2]) = some [dI 1, dI 2] from rfl]
  show (match toPyAll [dI 1, dI 2] with | some es => _ | none => none) = _
  rw [show toPyAll [dI 1, dI 2] = some [.int 1, .int 2] from rfl]
  show (if min _ (PyData.depth (.int (n : Int))) ≤ 60 then _ else none) = _
  rw [if_pos (Nat.le_trans (Nat.min_le_right _ _) (by simp [PyData.depth]))]
  rw [List.any_cons, List.any_cons, List.any_nil]
  have a1 : PyData.eqv (.int 1) (.int (n : Int)) = decide (n = 1) := by
    simp only [PyData.eqv]
    exact Bool.eq_iff_iff.mpr (by simp; omega)
  have a2 : PyData.eqv (.int 2) (.int (n : Int)) = decide (n = 2) := by
    simp only [PyData.eqv]
    exact Bool.eq_iff_iff.mpr (by simp; omega)
  rw [a1, a2]
  cases decide (n = 1) <;> cases decide (n = 2) <;> rfl
theorem gtV_n (a b : Nat) : gtV (dI (a : Int)) (dI (b : Int)) = some (dB (decide (b < a))) := ltV_n b a
theorem eq_fam (f : Fam) : eqD true (dS f.s) (dS "make") = some (dB (match f with | .mk => true | _ => false)) ∧ eqD true (dS f.s) (dS "copy") = some (dB (match f with | .cp => true | _ => false)) ∧ eqD true (dS f.s) (dS "give") = some (dB (match f with | .gv => true | _ => false)) := by cases f <;> exact ⟨rfl, rfl, rfl⟩
theorem isN_dl (r : Rw) (b : Bool) : isD b r.dl dN = some (dB (b == !r.fam.wr)) := by
  unfold Rw.dl
  cases r.fam <;> cases b <;> rfl
theorem l_is_operation_any {lt : Int} {w : Nat} {rs : List Rw} {d : D} (hl : rs.length ≤ 900) (h : OkOp d) : l_is_operation_V (planD lt w rs) d = ok (dB (opB rs d)) := by
  unfold l_is_operation_V
  rw [op2_ok, isi_tup h.ok, lif_some, tst_ok, notB_ok, orB_ok]
  by_cases c : ∃ xs, d = .tup xs
  · obtain ⟨xs, rfl⟩ := c
    have e4 : eqD false (dI (xs.length : Int)) (dI 4) = some (dB (false == (xs.length == 4))) := eqD_n _ 4
    rw [if_neg (show ¬ (!isTup (.tup xs)) = true from fun z => nomatch z), op1_ok, lenD_t', lif_some, op2_ok, e4, lif_some, tst_ok, orB_ok]
    by_cases l : xs.length = 4
    · obtain ⟨n, t, so, g, rfl⟩ := len4 l
      obtain ⟨vn, vt, vs, vx, vg⟩ := h.c n t so g rfl
      have nd : ∀ r : Rw, isD true (rwD r) dN = some (dB false) := fun r => rfl
      rw [if_neg (by rw [l]; decide), op2_ok, ixD_t0, lif_some, calV2, l_kind_any hl vn.ok, lft_ok]
      show _ = ok (dB (match kindD rs n with | some r => tgB r t && (srB r.fam so && glB r g) | none => false))
      cases q : kindD rs n with
      | none =>
        simp only []
        rw [op2_ok, isD_n, lif_some, tst_ok, ifV_ok, if_pos rfl, okL, retV_rt]
      | some r =>
        simp only []
        rw [op2_ok, nd, lif_some, tst_ok, ifV_ok, if_neg (by decide), okL, un4_ok, calV2, l_kind_any hl vn.ok, lft_ok, q]
        simp only []
        rw [okL]
        show retV (un3L (.tup [dS r.fam.s, dS r.y, r.dl]) _) = _
        rw [un3_ok, op2_ok, isi_tup vs, lif_some, tst_ok, notB_ok, orB_ok]
        by_cases c2 : ∃ ys, so = .tup ys
        · obtain ⟨ys, rfl⟩ := c2
          obtain ⟨l9, ho⟩ := vx ys rfl
          have fl := lcV_stp (m := Om) (fun d : D => d) (fun d => !isNm d) (fun d => d) (c := fun e => notB (tst (calV (ap1 l_is_name_V) [(ok e)]))) (a := fun e => ok e) (xs := ys) (le_line (by omega)) (fun x hx => by rw [calV1, l_is_name_any (ho x hx), lft_ok, tst_ok, notB_ok]) (fun _ _ _ => rfl)
          rw [List.map_id', List.map_id'] at fl
          rw [if_neg (show ¬ (!isTup (.tup ys)) = true from fun z => nomatch z), itV_ok, asIt_t, lif_some, fl, lstV0, op2_ok, eqN_nil, lif_some, tst_ok, ifV_ok]
          have em : (false == (ys.filter fun d => !isNm d).isEmpty) = !ys.all isNm := by
            have : ∀ l : List D, (false == (l.filter fun d => !isNm d).isEmpty) = !l.all isNm := by
              intro l
              induction l with
              | nil => rfl
              | cons d l ih =>
                cases z : isNm d with
                | true => rw [List.filter_cons_of_neg (by simp [z]), List.all_cons, z, Bool.true_and, ih]
                | false => rw [List.filter_cons_of_pos (by simp [z]), List.all_cons, z]; rfl
            exact this ys
          have sE : srB r.fam (.tup ys) = ((decide (r.fam.least ≤ ys.length) && decide (ys.length ≤ r.fam.most)) && ys.all isNm) := rfl
          rw [em, sE]
          cases z : ys.all isNm with
          | false =>
            rw [if_pos (by rfl), okL, retV_rt]
            simp
          | true =>
            rw [if_neg (by decide), op1_ok, lenD_t', lif_some, Bool.and_true]
            have g2 : gtV (dI (ys.length : Int)) (dI 2) = some (dB (decide (2 < ys.length))) := gtV_n _ 2
            have g1 : gtV (dI (ys.length : Int)) (dI 1) = some (dB (decide (1 < ys.length))) := gtV_n _ 1
            have q1 : eqD false (dI (ys.length : Int)) (dI 1) = some (dB (false == (ys.length == 1))) := eqD_n _ 1
            obtain ⟨f1, f2, f3⟩ := eq_fam r.fam
            rw [op2_ok, f1, lif_some, tst_ok, andB_ok, op2_ok, g2, lif_some, tst_ok, op2_ok, f2, lif_some, tst_ok, andB_ok, op2_ok, q1, lif_some, tst_ok, op2_ok, f3, lif_some, tst_ok, andB_ok, tupV2, op2_ok, in12, lif_some, tst_ok, op2_ok, eq_jump, lif_some, tst_ok, andB_ok, op2_ok, g1, lif_some, tst_ok, op2_ok, isN_dl, lif_some, tst_ok, andB_ok, op2_ok, isN_at vt, lif_some, tst_ok, op2_ok, isN_dl, lif_some, tst_ok, andB_ok, calV1, l_is_name_any vt, lft_ok, tst_ok, notB_ok, op2_ok, eq_jump, lif_some, tst_ok, op2_ok, isN_at vg, lif_some]
            have gl := goal_any vg
            unfold goalL at gl
            rw [gl]
            cases qf : r.fam with
            | mk =>
              have t1 : tgB r t = isNm t := by unfold tgB; rw [qf]; rfl
              have t2 : glB r g = isN g := by unfold glB; rw [qf]
              have b0 : (decide (Fam.mk.least ≤ ys.length) && decide (ys.length ≤ Fam.mk.most)) = !decide (2 < ys.length) := by
                show (decide (0 ≤ ys.length) && decide (ys.length ≤ 2)) = _
                by_cases y : ys.length ≤ 2
                · rw [decide_eq_true (Nat.zero_le _), decide_eq_true y, decide_eq_false (by omega)]; rfl
                · rw [decide_eq_true (Nat.zero_le _), decide_eq_false y, decide_eq_true (by omega)]; rfl
              rw [t1, t2, b0]
              cases decide (2 < ys.length) <;> cases isNm t <;> cases isN g <;> rfl
            | cp =>
              have t1 : tgB r t = isNm t := by unfold tgB; rw [qf]; rfl
              have t2 : glB r g = isN g := by unfold glB; rw [qf]
              have b0 : (decide (Fam.cp.least ≤ ys.length) && decide (ys.length ≤ Fam.cp.most)) = (ys.length == 1) := by
                show (decide (1 ≤ ys.length) && decide (ys.length ≤ 1)) = _
                exact Bool.eq_iff_iff.mpr (by simp; omega)
              rw [t1, t2, b0]
              cases (ys.length == 1) <;> cases isNm t <;> cases isN g <;> rfl
            | gv =>
              have t1 : tgB r t = isN t := by unfold tgB; rw [qf]; rfl
              have t2 : glB r g = isN g := by unfold glB; rw [qf]
              have b0 : (decide (Fam.gv.least ≤ ys.length) && decide (ys.length ≤ Fam.gv.most)) = (decide (ys.length = 1) || decide (ys.length = 2)) := by
                show (decide (1 ≤ ys.length) && decide (ys.length ≤ 2)) = _
                exact Bool.eq_iff_iff.mpr (by simp; omega)
              rw [t1, t2, b0]
              cases (decide (ys.length = 1) || decide (ys.length = 2)) <;> cases isN t <;> cases isN g <;> rfl
            | jp =>
              have t1 : tgB r t = isN t := by unfold tgB; rw [qf]; rfl
              have t2 : glB r g = inG g := by unfold glB; rw [qf]
              have b0 : (decide (Fam.jp.least ≤ ys.length) && decide (ys.length ≤ Fam.jp.most)) = !decide (1 < ys.length) := by
                show (decide (0 ≤ ys.length) && decide (ys.length ≤ 1)) = _
                by_cases y : ys.length ≤ 1
                · rw [decide_eq_true (Nat.zero_le _), decide_eq_true y, decide_eq_false (by omega)]; rfl
                · rw [decide_eq_true (Nat.zero_le _), decide_eq_false y, decide_eq_true (by omega)]; rfl
              rw [t1, t2, b0]
              cases decide (1 < ys.length) <;> cases isN t <;> cases inG g <;> rfl
        · have z : isTup so = false := by
            cases vs with
            | t xs => exact absurd ⟨xs, rfl⟩ c2
            | _ => rfl
          have z2 : srB r.fam so = false := by
            cases vs with
            | t xs => exact absurd ⟨xs, rfl⟩ c2
            | _ => rfl
          rw [z, z2, if_pos (by decide), ifV_ok, if_pos rfl, okL, retV_rt]
          simp
    · rw [if_pos (by simpa using l), ifV_ok, if_pos rfl, okL, retV_rt, opB_len l]
  · obtain ⟨z1, z2⟩ := opB_no (rs := rs) h.ok (fun xs q => c ⟨xs, q⟩)
    rw [z1, z2, if_pos (by decide), ifV_ok, if_pos rfl, okL, retV_rt]
end
end L2.K5
namespace L2.K5
open L2 L2.My L2.DL L2.NK NdefX PySem PySem.Spec PyProof.Rows
open PM
variable [Zd]
noncomputable section
open TL
def jmp : D → Bool
  | .tup [_, _, _, g] => !isN g
  | _ => false
def wrt : D → Bool
  | .tup [_, t, _, _] => !isN t
  | _ => false
def dlO : Option Rw → D
  | some r => r.dl
  | none => dN
def lnd (rs : List Rw) : D → D
  | .tup [n, t, _, _] => .tup [t, dlO (kindD rs n)]
  | _ => dN
def tnd (rs : List Rw) : D → Option TN
  | .tup [n, .v (.str t), _, _] => (kindD rs n).bind fun r => r.dI?.map fun i => (t, i)
  | _ => none
theorem isNm_str {d : D} (h : isNm d = true) : ∃ y, d = dS y := by
  unfold isNm at h
  split at h
  · exact ⟨_, rfl⟩
  · cases h
theorem isN_non {d : D} (h : isN d = true) : d = dN := by
  unfold isN at h
  split at h
  · rfl
  · cases h
/-- a valid operation -/
theorem valid {rs : List Rw} {d : D} (h : opB rs d = true) : ∃ r t so g, d = .tup [dS r.y, t, so, g] ∧ lookM rs r.y = some r ∧ kindD rs (dS r.y) = some r ∧ ((r.fam.wr = true ∧ ∃ y, t = dS y) ∨ (r.fam.wr = false ∧ t = dN)) := by
  unfold opB at h
  split at h
  · rename_i n t so g
    split at h
    · rename_i r q
      obtain ⟨rfl, lk⟩ := kindD_some q
      refine ⟨r, t, so, g, rfl, lk, q, ?_⟩
      rw [Bool.and_eq_true] at h
      have h1 := h.1
      unfold tgB at h1
      split at h1
      · rename_i w
        exact .inl ⟨w, isNm_str h1⟩
      · rename_i w
        exact .inr ⟨by simpa using w, isN_non h1⟩
    · cases h
  · cases h
theorem tn_lnd {rs : List Rw} {d : D} (h : opB rs d = true) : (wrt d = true ∧ ∃ q, asTN (lnd rs d) = some q ∧ tnd rs d = some q) ∨ (wrt d = false ∧ tnd rs d = none) := by
  obtain ⟨r, t, so, g, rfl, lk, q, ⟨w, y, rfl⟩ | ⟨w, rfl⟩⟩ := valid h
  · refine .inl ⟨rfl, ?_⟩
    have e1 : lnd rs (.tup [dS r.y, dS y, so, g]) = .tup [dS y, r.dl] := by
      show D.tup [dS y, dlO (kindD rs (dS r.y))] = _
      rw [q]
      rfl
    have e2 : tnd rs (.tup [dS r.y, dS y, so, g]) = r.dI?.map fun i => (y, i) := by
      show (kindD rs (dS r.y)).bind _ = _
      rw [q]
      rfl
    rw [e1, e2, dl_eq]
    have : r.dI? = some r.i := by
      unfold Rw.dI?
      cases z : r.fam <;> rw [z] at w <;> first | rfl | cases w
    rw [this]
    exact ⟨(y, r.i), rfl, rfl⟩
  · exact .inr ⟨rfl, rfl⟩
theorem landed_at {rs : List Rw} : ∀ {xs : List D}, (∀ x ∈ xs, opB rs x = true) → asTNs ((xs.filter wrt).map (lnd rs)) = some (xs.filterMap (tnd rs))
  | [], _ => rfl
  | x :: xs, h => by
    have ih := landed_at fun y hy => h y (List.mem_cons_of_mem _ hy)
    rcases tn_lnd (h x List.mem_cons_self) with ⟨w, q, e1, e2⟩ | ⟨w, e2⟩
    · rw [List.filter_cons_of_pos w, List.map_cons, List.filterMap_cons_some e2, asTNs, e1, ih]
    · rw [List.filter_cons_of_neg (by rw [w]; decide), List.filterMap_cons_none e2]
      exact ih
theorem asTNs_len : ∀ {ds : List D} {qs : List TN}, asTNs ds = some qs → ds.length = qs.length := by
  intro ds
  induction ds with
  | nil => intro qs e; cases e; rfl
  | cons d ds ih =>
    intro qs e
    unfold asTNs at e
    split at e
    · rename_i q qs2 _ e2
      cases e
      rw [List.length_cons, List.length_cons, ih e2]
    · cases e
/-- what is looked at as a row -/
structure OkRow (d : D) : Prop where
  ok : Okv d
  c : ∀ xs, d = .tup xs → ∀ x ∈ xs, OkOp x
def rowB (rs : List Rw) (w : Nat) : D → Bool
  | .tup xs => decide (xs.length ≤ w) && (xs.all (opB rs) && (decide ((xs.filter jmp).length ≤ 1) && (ddT (xs.filterMap (tnd rs)) == (xs.filterMap (tnd rs)).length)))
  | _ => false
theorem rowB_no {rs : List Rw} {w : Nat} {d : D} (h : Okv d) (hn : ∀ xs, d ≠ .tup xs) : rowB rs w d = false ∧ isTup d = false := by
  cases h with
  | t xs => exact absurd rfl (hn xs)
  | _ => exact ⟨rfl, rfl⟩
theorem id_lc {xs : List D} {p : D → Bool} {f : D → D} {c : D → Om Bool} {a : D → Om D} (hl : xs.length ≤ sizeLine) (h : ∀ x ∈ xs, c x = ok (p x)) (h2 : ∀ x ∈ xs, p x = true → a x = ok (f x)) : (lcL (ok xs) (fun d => stpL (c d) (a d)) : Om D) = ok (.lst ((xs.filter p).map f)) := by
  have := lcV_stp (m := Om) (fun d : D => d) p f (c := c) (a := a) (xs := xs) hl h h2
  rwa [List.map_id'] at this
theorem jumps_lc {rs : List Rw} {xs : List D} (hl : xs.length ≤ 900) (hv : ∀ x ∈ xs, opB rs x = true) (ho : ∀ x ∈ xs, OkOp x) : (lcL (ok xs) (fun e_1 => stpL (tst (op2 (isD false) (op2 ixD (ok e_1) (ok (dI 3))) (ok dN))) (ok e_1)) : Om D) = ok (.lst (xs.filter jmp)) := by
  have := id_lc (xs := xs) (p := jmp) (f := fun d => d) (c := fun e_1 => (tst (op2 (isD false) (op2 ixD (ok e_1) (ok (dI 3))) (ok dN)))) (a := fun e_1 => ok e_1) (le_line (by omega)) (fun x hx => by
    obtain ⟨r, t, so, g, rfl, _⟩ := valid (hv x hx)
    obtain ⟨_, _, _, _, vg⟩ := (ho _ hx).c _ _ _ _ rfl
    rw [op2_ok, ixD_t3, lif_some, op2_ok, isN_at vg, lif_some, tst_ok]
    congr 1
    show (false == isN g) = !isN g
    cases isN g <;> rfl) (fun _ _ _ => rfl)
  rwa [List.map_id'] at this
theorem land_c {rs : List Rw} {x : D} (hv : opB rs x = true) (ho : OkOp x) : (tst (op2 (isD false) (op2 ixD (ok x) (ok (dI 1))) (ok dN)) : Om Bool) = ok (wrt x) := by
  obtain ⟨r, t, so, g, rfl, _⟩ := valid hv
  obtain ⟨_, vt, _, _, _⟩ := ho.c _ _ _ _ rfl
  rw [op2_ok, ixD_t1, lif_some, op2_ok, isN_at vt, lif_some, tst_ok]
  congr 1
  show (false == isN t) = !isN t
  cases isN t <;> rfl
theorem landing_any (Z : ZF) {lt wd : Int} {rs : List Rw} {x : D} (hv : opB rs x = true) : landing_of_V (mD lt wd rs) x = ok (lnd rs x) := by
  obtain ⟨r, t, so, g, rfl, lk, q, _⟩ := valid hv
  unfold landing_of_V
  rw [op2_ok, ixD_t1, op2_ok, ixD_t0, lif_some, lif_some, met_kind Z (rs_find lk), op1_ok, fld_delay Z, lif_some]
  have : lnd rs (.tup [dS r.y, t, so, g]) = .tup [t, r.dl] := by
    show D.tup [t, dlO (kindD rs (dS r.y))] = _
    rw [q]
    rfl
  rw [this, tupV2, okL, retV_rt]
theorem writes_any {lt : Int} {w : Nat} {rs : List Rw} {x : D} (hl : rs.length ≤ 900) (hv : opB rs x = true) (ho : OkOp x) : (tupV [(op2 ixD (ok x) (ok (dI 1))), (op2 ixD (calV (ap2 l_kind_V) [(ok (planD lt w rs)), (op2 ixD (ok x) (ok (dI 0)))]) (ok (dI 2)))] : Om D) = ok (lnd rs x) := by
  obtain ⟨r, t, so, g, rfl, lk, q, _⟩ := valid hv
  obtain ⟨vn, _, _, _, _⟩ := ho.c _ _ _ _ rfl
  have : lnd rs (.tup [dS r.y, t, so, g]) = .tup [t, r.dl] := by
    show D.tup [t, dlO (kindD rs (dS r.y))] = _
    rw [q]
    rfl
  have i2 : ixD (rwD r) (dI 2) = some r.dl := rfl
  rw [op2_ok, ixD_t1, op2_ok, ixD_t0, lif_some, lif_some, calV2, l_kind_any hl vn.ok, q, lft_ok]
  simp only []
  rw [op2_ok, i2, lif_some, tupV2, this]
theorem set_len {rs : List Rw} {xs : List D} (hl : xs.length ≤ 3) (hv : ∀ x ∈ xs, opB rs x = true) : (op2 (eqD true) (op1 lsetX (ok (.lst ((xs.filter wrt).map (lnd rs))))) (op1 lenD (ok (.lst ((xs.filter wrt).map (lnd rs))))) : Om D) = ok (dB (ddT (xs.filterMap (tnd rs)) == (xs.filterMap (tnd rs)).length)) := by
  have lt2 := landed_at hv
  have l4 : (xs.filterMap (tnd rs)).length ≤ 4 := by
    have := List.length_filterMap_le (tnd rs) xs
    omega
  have ex : lsetX (.lst ((xs.filter wrt).map (lnd rs))) = some (dI (ddT (xs.filterMap (tnd rs)) : Nat)) := by
    unfold lsetX
    simp only [lt2, if_pos l4]
  rw [op1_ok, ex, lif_some, op1_ok, lenD_l', lif_some, asTNs_len lt2, op2_ok, eqD_n, lif_some]
  simp
theorem is_row_any (Z : ZF) {lt : Int} {w : Nat} {rs : List Rw} (M : Mach lt w rs) {d : D} (h : OkRow d) : is_row_V (mD lt w rs) d = ok (dB (rowB rs w d)) := by
  have hw := M.wd.2
  unfold is_row_V
  rw [op2_ok, isi_tup h.ok, lif_some, tst_ok, notB_ok, orB_ok]
  by_cases c : ∃ xs, d = .tup xs
  · obtain ⟨xs, rfl⟩ := c
    have ho := h.c xs rfl
    rw [if_neg (show ¬ (!isTup (.tup xs)) = true from fun z => nomatch z), op1_ok, lenD_t', lif_some, op1_ok, fld_width Z, lif_some, op2_ok, gtV_n, lif_some, tst_ok, ifV_ok]
    show _ = ok (dB (decide (xs.length ≤ w) && (xs.all (opB rs) && (decide ((xs.filter jmp).length ≤ 1) && (ddT (xs.filterMap (tnd rs)) == (xs.filterMap (tnd rs)).length)))))
    by_cases l : xs.length ≤ w
    · rw [if_neg (by simp; omega), decide_eq_true l, itV_ok, asIt_t, lif_some]
      have := lcV_all (m := Om) (fun d : D => d) (fun d => dB (opB rs d)) (st := fun e => stpL (ok true) (calV (ap2 is_operation_V) [(ok (mD lt w rs)), (ok e)])) (xs := xs) (le_line (by omega)) (fun x hx => by
        rw [calV2, is_operation_any Z M.few (ho x hx), lft_ok]
        rfl)
      rw [List.map_id'] at this
      have e2 : allD (.lst (xs.map fun d => dB (opB rs d))) = some (dB (xs.all (opB rs))) := by
        have : xs.map (fun d => dB (opB rs d)) = (xs.map (opB rs)).map dB := by rw [List.map_map]; rfl
        rw [this]
        show ((asBs _).map fun bs => dB (bs.all id)) = _
        rw [asBs_map, Option.map_some, List.all_map]
        rfl
      rw [this, op1_ok, e2, lif_some, tst_ok, notB_ok, ifV_ok]
      cases q : xs.all (opB rs) with
      | false => rw [if_pos (by rfl), okL, retV_rt]; rfl
      | true =>
        have hv : ∀ x ∈ xs, opB rs x = true := by simpa using q
        rw [if_neg (by decide), jumps_lc (by omega) hv ho, okL, id_lc (le_line (by omega)) (fun x hx => land_c (hv x hx) (ho x hx)) (fun x hx _ => by rw [calV2, landing_any Z (hv x hx), lft_ok]), okL]
        have el : leV (dI ((xs.filter jmp).length : Int)) (dI 1) = some (dB (decide ((xs.filter jmp).length ≤ 1))) := leV_n _ 1
        rw [op1_ok, lenD_l', lif_some, op2_ok, el, lif_some, set_len (by omega) hv, andX_ok]
        cases decide ((xs.filter jmp).length ≤ 1) <;> rfl
    · rw [if_pos (by simp; omega), decide_eq_false l, okL, retV_rt]
      rfl
  · obtain ⟨z1, z2⟩ := rowB_no (rs := rs) (w := w) h.ok (fun xs q => c ⟨xs, q⟩)
    rw [z1, z2, if_pos (by decide), ifV_ok, if_pos rfl, okL, retV_rt]
theorem l_is_row_any {lt : Int} {w : Nat} {rs : List Rw} (M : Mach lt w rs) {d : D} (h : OkRow d) : l_is_row_V (planD lt w rs) d = ok (dB (rowB rs w d)) := by
  have hw := M.wd.2
  have i1 : ixD (planD lt w rs) (dI 1) = some (dI (w : Int)) := rfl
  unfold l_is_row_V
  rw [op2_ok, isi_tup h.ok, lif_some, tst_ok, notB_ok, orB_ok]
  by_cases c : ∃ xs, d = .tup xs
  · obtain ⟨xs, rfl⟩ := c
    have ho := h.c xs rfl
    rw [if_neg (show ¬ (!isTup (.tup xs)) = true from fun z => nomatch z), op1_ok, lenD_t', lif_some, op2_ok, i1, lif_some, op2_ok, gtV_n, lif_some, tst_ok, ifV_ok]
    show _ = ok (dB (decide (xs.length ≤ w) && (xs.all (opB rs) && (decide ((xs.filter jmp).length ≤ 1) && (ddT (xs.filterMap (tnd rs)) == (xs.filterMap (tnd rs)).length)))))
    by_cases l : xs.length ≤ w
    · have fl := id_lc (p := fun d => !opB rs d) (f := fun d => d) (c := fun e => notB (tst (calV (ap2 l_is_operation_V) [(ok (planD lt w rs)), (ok e)]))) (a := fun e => ok e) (xs := xs) (le_line (by omega)) (fun x hx => by rw [calV2, l_is_operation_any M.few (ho x hx), lft_ok, tst_ok, notB_ok]) (fun _ _ _ => rfl)
      rw [List.map_id'] at fl
      rw [if_neg (by simp; omega), decide_eq_true l, itV_ok, asIt_t, lif_some, fl, lstV0, op2_ok, eqN_nil, lif_some, tst_ok, ifV_ok]
      have em : (false == (xs.filter fun d => !opB rs d).isEmpty) = !xs.all (opB rs) := by
        have : ∀ l : List D, (false == (l.filter fun d => !opB rs d).isEmpty) = !l.all (opB rs) := by
          intro l
          induction l with
          | nil => rfl
          | cons d l ih =>
            cases z : opB rs d with
            | true => rw [List.filter_cons_of_neg (by simp [z]), List.all_cons, z, Bool.true_and, ih]
            | false => rw [List.filter_cons_of_pos (by simp [z]), List.all_cons, z]; rfl
        exact this xs
      rw [em]
      cases q : xs.all (opB rs) with
      | false => rw [if_pos (by rfl), okL, retV_rt]; rfl
      | true =>
        have hv : ∀ x ∈ xs, opB rs x = true := by simpa using q
        rw [if_neg (by decide), jumps_lc (by omega) hv ho, okL, id_lc (le_line (by omega)) (fun x hx => land_c (hv x hx) (ho x hx)) (fun x hx _ => writes_any M.few (hv x hx) (ho x hx)), okL]
        have el : ltV (dI ((xs.filter jmp).length : Int)) (dI 2) = some (dB (decide ((xs.filter jmp).length ≤ 1))) := by
          have := ltV_n (xs.filter jmp).length 2
          rw [show (decide ((xs.filter jmp).length ≤ 1)) = decide ((xs.filter jmp).length < 2) from decide_eq_decide.mpr (by omega)]
          exact this
        rw [op1_ok, lenD_l', lif_some, op2_ok, el, lif_some, set_len (by omega) hv, andX_ok]
        cases decide ((xs.filter jmp).length ≤ 1) <;> rfl
    · rw [if_pos (by simp; omega), decide_eq_false l, okL, retV_rt]
      rfl
  · obtain ⟨z1, z2⟩ := rowB_no (rs := rs) (w := w) h.ok (fun xs q => c ⟨xs, q⟩)
    rw [z1, z2, if_pos (by decide), ifV_ok, if_pos rfl, okL, retV_rt]
end
end L2.K5
namespace L2.DL
open L2 L2.My NdefX PySem PySem.Spec PyProof.Rows
open PM
theorem All_lcG {c : Nat} {P : D → Prop} {st : D → Tm (Option D)} : ∀ (ds : List D), (∀ d ∈ ds, Tm.All c (fun o => ∃ x, o = some x ∧ P x) (st d)) → Tm.All (c * ds.length) (fun xs => xs.length = ds.length ∧ ∀ x ∈ xs, P x) (lcG st ds)
  | [], _ => All_ok ⟨rfl, fun _ h => nomatch h⟩
  | d :: ds, h => by
    unfold lcG
    rw [List.length_cons, Nat.mul_add, Nat.mul_one]
    refine All_bnd c (c * ds.length) _ (Tm.All.nox (h d List.mem_cons_self)) ?_ (by omega)
    rintro _ ⟨x, rfl, hx⟩
    refine All_bnd (c * ds.length) 0 _ (All_lcG ds fun d' h' => h d' (List.mem_cons_of_mem _ h')) ?_ (by omega)
    rintro xs ⟨h1, h2⟩
    refine All_ok ⟨by rw [List.length_cons, h1], fun y hy => ?_⟩
    rcases List.mem_cons.mp hy with rfl | hy
    · exact hx
    · exact h2 y hy
/-- a comprehension that draws, nothing left out -/
theorem All_lc {c n : Nat} {P : D → Prop} {a : D → Tm D} {l : Tm (List D)} {ds : List D} (e : l = ok ds) (hl : ds.length = n) (hn : n ≤ 900) (h : ∀ d ∈ ds, Tm.All c P (a d)) : Tm.All (c * n) (fun x => ∃ xs : List D, x = .lst xs ∧ xs.length = n ∧ ∀ x ∈ xs, P x) (lcL l fun d => stpL (ok true) (a d)) := by
  subst e hl
  unfold lcL lcV
  rw [ok_bnd, if_pos (le_line (by omega))]
  refine All_bnd (c * ds.length) 0 _ (All_lcG (P := P) ds fun d hd => ?_) ?_ (by omega)
  · rw [stp_ok, if_pos rfl]
    exact All_bnd c 0 _ (h d hd) (fun x p => All_ok ⟨x, rfl, p⟩) (by omega)
  · rintro xs ⟨h1, h2⟩
    exact All_ok ⟨xs, rfl, h1, h2⟩
end L2.DL
namespace L2.K5
open L2 L2.My L2.DL NdefX PySem PySem.Spec PyProof.Rows
open PM
variable [Zd]
noncomputable section
open TL
theorem slD_l {xs : List D} {i : Int} (h : 0 ≤ i) : slD (.lst xs) none (some i) = some (.lst (xs.take i.toNat)) := congrArg (fun x => some (D.lst x)) (cut_hi h)
theorem tst_ne {m : Type → Type} [PM m] [LM m] (z : Str) : (tst (op2 (eqD false) (ok (dS z)) (ok (dS z))) : m Bool) = ok false := by
  rw [op2_ok, eqD_s', lif_some, tst_ok]
  simp
theorem small200 {n : Int} (h : n.natAbs < 10000) : n.natAbs < 2 ^ 200 := Nat.lt_trans h (by decide)
def six (i j k : Int) : List Rw := [⟨.mk, "calc", i⟩, ⟨.mk, "r", j⟩, ⟨.cp, "move", k⟩, ⟨.gv, "send", 1⟩, ⟨.jp, "go", 1⟩, ⟨.jp, "a", 1⟩]
structure Plan (lt : Int) (w : Nat) (rs : List Rw) : Prop extends Mach lt w rs where
  lo : 1 ≤ rs.length
  hi : rs.length ≤ 12
  nd : (rs.map Rw.y).Nodup
  gd : ∀ r ∈ rs, r.good
  late : 0 ≤ lt ∧ lt ≤ 2
theorem look_mem {rs : List Rw} (h : (rs.map Rw.y).Nodup) {r : Rw} (hr : r ∈ rs) : lookM rs r.y = some r := by
  unfold lookM
  induction rs with
  | nil => cases hr
  | cons a rs ih =>
    rw [List.map_cons, List.nodup_cons] at h
    rw [List.find?_cons]
    rcases List.mem_cons.mp hr with rfl | hr
    · simp
    · have : a.y ≠ r.y := fun z => h.1 (z ▸ List.mem_map_of_mem hr)
      have e : (a.y == r.y) = false := by simpa using this
      rw [e]
      exact ih h.2 hr
theorem six_good {i j k : Int} (hi : 1 ≤ i ∧ i ≤ 6) (hj : 1 ≤ j ∧ j ≤ 6) (hk : 1 ≤ k ∧ k ≤ 6) : ∀ r ∈ six i j k, r.good ∧ isName r.y = true := by
  intro r hr
  simp only [six, List.mem_cons, List.not_mem_nil, or_false] at hr
  rcases hr with rfl | rfl | rfl | rfl | rfl | rfl
  · exact ⟨⟨nm_calc, show (("calc" : Str) == ("alike" : Str)) = false by decide +kernel, hi⟩, show isName ("calc" : Str) = true by decide +kernel⟩
  · exact ⟨⟨nm_r, show (("r" : Str) == ("alike" : Str)) = false by decide +kernel, hj⟩, show isName ("r" : Str) = true by decide +kernel⟩
  · exact ⟨⟨nm_move, show (("move" : Str) == ("alike" : Str)) = false by decide +kernel, hk⟩, show isName ("move" : Str) = true by decide +kernel⟩
  · exact ⟨⟨nm_send, by decide +kernel, by decide⟩, by decide +kernel⟩
  · exact ⟨⟨nm_go, by decide +kernel, by decide⟩, by decide +kernel⟩
  · exact ⟨⟨nm_a, by decide +kernel, by decide⟩, by decide +kernel⟩
theorem six_nd (i j k : Int) : ((six i j k).map Rw.y).Nodup := by
  show (["calc", "r", "move", "send", "go", "a"] : List Str).Nodup
  decide +kernel
theorem plan_of {i j k lt : Int} {s n w : Nat} (hi : 1 ≤ i ∧ i ≤ 6) (hj : 1 ≤ j ∧ j ≤ 6) (hk : 1 ≤ k ∧ k ≤ 6) (hn : 1 ≤ n) (hw : 1 ≤ w ∧ w ≤ 3) (hl : 0 ≤ lt ∧ lt ≤ 2) :
    Plan lt w (((six i j k).drop s ++ (six i j k).take s).take n) := by
  have pm : ((six i j k).drop s ++ (six i j k).take s).Perm (six i j k) := by
    have := List.perm_append_comm (l₁ := (six i j k).drop s) (l₂ := (six i j k).take s)
    rwa [List.take_append_drop] at this
  have le : ((six i j k).drop s ++ (six i j k).take s).length = 6 := by rw [pm.length_eq]; rfl
  have mem : ∀ r ∈ ((six i j k).drop s ++ (six i j k).take s).take n, r ∈ six i j k := fun r hr => pm.mem_iff.mp (List.mem_of_mem_take hr)
  have l2 : (((six i j k).drop s ++ (six i j k).take s).take n).length = min n 6 := by rw [List.length_take, le]
  refine ⟨⟨by omega, fun r hr => (six_good hi hj hk r (mem r hr)).2, hw⟩, by omega, by omega, ?_, fun r hr => (six_good hi hj hk r (mem r hr)).1, hl⟩
  rw [List.map_take]
  exact (List.take_sublist _ _).nodup ((pm.map Rw.y).nodup_iff.mpr (six_nd i j k))
theorem All_1p {n : Int} (h : 0 < n) (h2 : n.natAbs < 2 ^ 200) : Tm.All 1 (fun d => ∃ i : Int, 1 ≤ i ∧ i ≤ n ∧ d = dI i) (op2 addD (ok (dI 1)) (drw (ok (dI n)))) :=
  All_op2r (All_drw h h2) fun e ⟨i, a, b, q⟩ => ⟨dI (1 + i), by rw [q, addD_i], 1 + i, by omega, by omega, rfl⟩
theorem slD_lt {xs : List D} {i : Int} (h : 0 ≤ i) : slD (.lst xs) (some i) none = some (.lst (xs.drop i.toNat)) := congrArg (fun x => some (D.lst x)) (cut_lo h)
theorem plan_at : Tm.All 8 (fun d => ∃ lt w rs, d = planD lt w rs ∧ Plan lt w rs) l_plan_V := by
  unfold l_plan_V
  refine All_retV (All_bndL 3 5 (fun d => ∃ i j k : Int, (1 ≤ i ∧ i ≤ 6) ∧ (1 ≤ j ∧ j ≤ 6) ∧ (1 ≤ k ∧ k ≤ 6) ∧ d = .lst [dI i, dI j, dI k]) ?_ ?_ (by decide))
  · refine All_lstV (All_seqC 1 2 (All_1p (by decide) (by decide)) ?_ (by decide))
    rintro _ ⟨i, a1, a2, rfl⟩
    refine All_seqC 1 1 (All_1p (by decide) (by decide)) ?_ (by decide)
    rintro _ ⟨j, b1, b2, rfl⟩
    refine All_seqC 1 0 (All_1p (by decide) (by decide)) ?_ (by decide)
    rintro _ ⟨k, c1, c2, rfl⟩
    exact All_seqN ⟨i, j, k, ⟨a1, a2⟩, ⟨b1, b2⟩, ⟨c1, c2⟩, rfl⟩
  rintro _ ⟨i, j, k, hi, hj, hk, rfl⟩
  rw [op2_ok, ixD_l0, lif_some, op2_ok, ixD_l1, lif_some, op2_ok, ixD_l2, lif_some, tupV3, tupV3, tupV3, lstV3, okL, tupV3, tupV3, tupV3, lstV3, op2_ok, addD_l (by simp), lif_some, okL]
  show Tm.All 5 _ _
  have e6 : ([.tup [dS "make", dS "calc", dI i], .tup [dS "make", dS "r", dI j], .tup [dS "copy", dS "move", dI k]] ++ [.tup [dS "give", dS "send", dN], .tup [dS "jump", dS "go", dN], .tup [dS "jump", dS "a", dN]] : List D) = (six i j k).map rwD := rfl
  rw [e6]
  refine All_bndL 1 4 _ (All_drw (by decide) (by decide)) ?_ (by decide)
  rintro _ ⟨s, s1, s2, rfl⟩
  refine All_bndL 2 2 (fun d => ∃ n : Nat, 1 ≤ n ∧ d = dI (n : Int)) ?_ ?_ (by decide)
  · refine All_op2 (P1 := fun d => ∃ m : Int, 1 ≤ m ∧ d = .lst [dI 6, dI 6, dI m]) 1 1 ?_ (All_drw (by decide) (by decide)) ?_ (by decide)
    · refine All_lstV (All_seqC 0 1 (P := fun d => d = dI 6) rfl ?_ (by decide))
      rintro _ rfl
      refine All_seqC 0 1 (P := fun d => d = dI 6) rfl ?_ (by decide)
      rintro _ rfl
      refine All_seqC 1 0 (All_1p (by decide) (by decide)) ?_ (by decide)
      rintro _ ⟨m, m1, m2, rfl⟩
      exact All_seqN ⟨m, m1, rfl⟩
    · rintro _ _ ⟨m, m1, rfl⟩ ⟨z, z1, z2, rfl⟩
      have : z = 0 ∨ z = 1 ∨ z = 2 := by omega
      rcases this with rfl | rfl | rfl
      · exact ⟨dI 6, ixD_l0, 6, by omega, rfl⟩
      · exact ⟨dI 6, ixD_l1, 6, by omega, rfl⟩
      · exact ⟨dI m, ixD_l2, m.toNat, by omega, by rw [show ((m.toNat : Nat) : Int) = m by omega]⟩
  rintro _ ⟨n, n1, rfl⟩
  refine All_bndL 2 0 (fun d => ∃ lt w rs, d = planD lt w rs ∧ Plan lt w rs) ?_ (fun d p => p) (by decide)
  refine All_tupV (All_seqC 1 1 (All_drw (by decide) (by decide)) ?_ (by decide))
  rintro _ ⟨lt, l1, l2, rfl⟩
  refine All_seqC 1 0 (All_1p (by decide) (by decide)) ?_ (by decide)
  rintro _ ⟨w, w1, w2, rfl⟩
  have e : (op3 slD (op2 addD (op3 slD (ok (.lst ((six i j k).map rwD))) (intV (ok (dI s))) (ok none)) (op3 slD (ok (.lst ((six i j k).map rwD))) (ok none) (intV (ok (dI s))))) (ok none) (intV (ok (dI (n : Int)))) : Tm D) = ok (.lst ((((six i j k).drop s.toNat ++ (six i j k).take s.toNat).take n).map rwD)) := by
    rw [intV_ok, intV_ok, op3_ok, op3_ok, slD_lt s1, slD_l s1, lif_some, lif_some, op2_ok, addD_l (by simp [six]; omega), lif_some, op3_ok, slD_l (by omega), lif_some]
    simp [List.map_take, List.map_drop]
  rw [e]
  refine All_seqC 0 0 (P := fun d => d = .lst ((((six i j k).drop s.toNat ++ (six i j k).take s.toNat).take n).map rwD)) rfl ?_ (by decide)
  rintro _ rfl
  refine All_seqN ⟨lt, w.toNat, ((six i j k).drop s.toNat ++ (six i j k).take s.toNat).take n, ?_, plan_of hi hj hk n1 (by omega) (by omega)⟩
  show D.tup [dI lt, dI w, _] = D.tup [dI lt, dI ((w.toNat : Nat) : Int), _]
  rw [show ((w.toNat : Nat) : Int) = w by omega]
/-- the law's machine -/
def machB : D → List D → Om (Ot (List D) (List D)) := fun e (q : (List D)) =>
    (un3L e fun family label wait => (ifL (tst (op2 (eqD true) (ok family) (ok (dS "make"))))
    (bndL (appV q (mkV (Zd.c "Make") (fun C => ag2 (Make___init___V C)) [(ok label), (ok wait)])) fun found_1 =>
    (ok (.nx found_1)))
    (ifL (tst (op2 (eqD true) (ok family) (ok (dS "copy"))))
    (bndL (appV q (mkV (Zd.c "Copy") (fun C => ag2 (Copy___init___V C)) [(ok label), (ok wait)])) fun found_2 =>
    (ok (.nx found_2)))
    (bndL (appV q (ifL (tst (op2 (eqD true) (ok family) (ok (dS "give")))) (mkV (Zd.c "Give") (fun C => ag1 (Give___init___V C)) [(ok label)]) (mkV (Zd.c "Jump") (fun C => ag1 (Jump___init___V C)) [(ok label)]))) fun found_3 =>
    (ok (.nx found_3))))))
theorem line_lt {l : Nat} (h : l ≤ 900) : l < sizeLine := by have := @le_line (l + 1) (by omega); omega
theorem machB_at (Z : ZF) {r : Rw} (h : r.good) {q : List D} (hq : q.length ≤ 900) : machB (rwD r) q = ok (.nx (q ++ [kD r])) := by
  have hm := made_kind Z h
  obtain ⟨f, y, i⟩ := r
  unfold machB rwD
  simp only
  rw [un3_ok]
  cases f with
  | mk =>
    have hm : mkV (Zd.c "Make") (fun C => ag2 (Make___init___V C)) [ok (dS y), ok (Rw.dl ⟨.mk, y, i⟩)] = ok (kD ⟨.mk, y, i⟩) := hm
    have e : (tst (op2 (eqD true) (ok (dS Fam.mk.s)) (ok (dS "make"))) : Om Bool) = ok true := rfl
    rw [e, ifV_ok, if_pos rfl, hm, appV_ok _ (line_lt hq), okL]
  | cp =>
    have hm : mkV (Zd.c "Copy") (fun C => ag2 (Copy___init___V C)) [ok (dS y), ok (Rw.dl ⟨.cp, y, i⟩)] = ok (kD ⟨.cp, y, i⟩) := hm
    have e : (tst (op2 (eqD true) (ok (dS Fam.cp.s)) (ok (dS "make"))) : Om Bool) = ok false := rfl
    have e2 : (tst (op2 (eqD true) (ok (dS Fam.cp.s)) (ok (dS "copy"))) : Om Bool) = ok true := rfl
    rw [e, ifV_ok, if_neg (by decide), e2, ifV_ok, if_pos rfl, hm, appV_ok _ (line_lt hq), okL]
  | gv =>
    have hm : mkV (Zd.c "Give") (fun C => ag1 (Give___init___V C)) [ok (dS y)] = ok (kD ⟨.gv, y, i⟩) := hm
    have e : (tst (op2 (eqD true) (ok (dS Fam.gv.s)) (ok (dS "make"))) : Om Bool) = ok false := rfl
    have e2 : (tst (op2 (eqD true) (ok (dS Fam.gv.s)) (ok (dS "copy"))) : Om Bool) = ok false := rfl
    have e3 : (tst (op2 (eqD true) (ok (dS Fam.gv.s)) (ok (dS "give"))) : Om Bool) = ok true := rfl
    rw [e, ifV_ok, if_neg (by decide), e2, ifV_ok, if_neg (by decide), e3, ifV_ok, if_pos rfl, hm, appV_ok _ (line_lt hq), okL]
  | jp =>
    have hm : mkV (Zd.c "Jump") (fun C => ag1 (Jump___init___V C)) [ok (dS y)] = ok (kD ⟨.jp, y, i⟩) := hm
    have e : (tst (op2 (eqD true) (ok (dS Fam.jp.s)) (ok (dS "make"))) : Om Bool) = ok false := rfl
    have e2 : (tst (op2 (eqD true) (ok (dS Fam.jp.s)) (ok (dS "copy"))) : Om Bool) = ok false := rfl
    have e3 : (tst (op2 (eqD true) (ok (dS Fam.jp.s)) (ok (dS "give"))) : Om Bool) = ok false := rfl
    rw [e, ifV_ok, if_neg (by decide), e2, ifV_ok, if_neg (by decide), e3, ifV_ok, if_neg (by decide), hm, appV_ok _ (line_lt hq), okL]
theorem mach_loop (Z : ZF) : ∀ (rs : List Rw) (q : List D), (∀ r ∈ rs, r.good) → q.length + rs.length ≤ 900 → (forL machB (rs.map rwD) q : Om (Ot (List D) Unit)) = ok (.nx (q ++ rs.map kD))
  | [], q, _, _ => by rw [List.map_nil, List.map_nil, List.append_nil]; rfl
  | r :: rs, q, h, hl => by
    rw [List.length_cons] at hl
    rw [List.map_cons, forV_cons, machB_at Z (h r List.mem_cons_self) (by omega), okL, turnV_nx, mach_loop Z rs _ (fun x hx => h x (List.mem_cons_of_mem _ hx)) (by rw [List.length_append]; simp; omega), List.map_cons, List.append_assoc]
    rfl
theorem l_machine_at (Z : ZF) {lt : Int} {w : Nat} {rs : List Rw} (M : Plan lt w rs) : l_machine_V (planD lt w rs) = ok (mD lt w rs) := by
  have := mach_loop Z rs [] M.gd (by have := M.hi; simp; omega)
  have i2 : ixD (planD lt w rs) (dI 2) = some (.lst (rs.map rwD)) := rfl
  have i0 : ixD (planD lt w rs) (dI 0) = some (dI lt) := rfl
  have i1 : ixD (planD lt w rs) (dI 1) = some (dI (w : Int)) := rfl
  have mo := machine_of Z (lt := lt) (wd := (w : Int)) M.lo M.hi M.nd M.late (by have := M.wd; omega)
  unfold l_machine_V
  rw [lstV0, asLs_ok, okL, op2_ok, i2, lif_some, itV_ok, asIt_l, lif_some, okL]
  change retV (thL (forL machB (rs.map rwD) []) _) = _
  rw [this, thV_ok, thK_nx, List.nil_append, op2_ok, i0, lif_some, op2_ok, i1, lif_some]
  have e : clmV (m := Om) (Zd.c "Machine") [0, 1, 2] (ap4 Machine_of_V) (ok (.v (.ref (Zd.c "Machine")))) [ok (.lst (rs.map kD))] [ok (dI lt), ok (dI (w : Int))] = ok (mD lt w rs) := by
    unfold clmV
    simp only [seqV_cons, seqV_nil, ok_bnd]
    have : (ap4 Machine_of_V (.v (.ref (Zd.c "Machine")) :: prm [0, 1, 2] ([.lst (rs.map kD), dI lt, dI (w : Int)]))) = Machine_of_V (.v (.ref (Zd.c "Machine"))) (.lst (rs.map kD)) (dI lt) (dI (w : Int)) := rfl
    simp [this, mo]
  rw [e, okL, retV_rt]
theorem inR_small {n : Nat} (h : n ≤ 1000) : L2.DL.inR (n : Int) = true := by
  simp [L2.DL.inR]
  omega
theorem rng_small {m : Type → Type} [PM m] [LM m] {n : Nat} (h : n ≤ 1000) : (rng1 (ok (dI (n : Int))) : m (List D)) = ok ((List.range n).map fun (i : Nat) => dI (i : Int)) := by
  rw [rng1_ok (inR_small h), rngD_nat]
theorem pick_at {xs : List D} (h1 : 1 ≤ xs.length) (h2 : xs.length ≤ 900) : Tm.All 1 (fun d => d ∈ xs) (l_pick_V (.lst xs)) := by
  unfold l_pick_V
  rw [op1_ok, lenD_l', lif_some]
  refine All_retV (All_bndL 1 0 (fun d => d ∈ xs) (All_op2r (All_drw (by omega) (small200 (by omega))) ?_) (fun d p => p) (by decide))
  rintro _ ⟨i, a, b, rfl⟩
  have lt : i.toNat < xs.length := by omega
  exact ⟨xs[i.toNat], ixD_l a (List.getElem?_eq_getElem lt), List.getElem_mem lt⟩
structure OpPre (r : Rw) (o : Op) : Prop where
  r : o.r = r
  so : ∀ s ∈ o.so, isName s = true
  lo : o.r.fam.least ≤ o.so.length
  hi : o.so.length ≤ o.r.fam.most
  wr : o.r.fam.wr = true → ∃ x, o.t = some x ∧ isName x = true ∧ o.g = none
  gv : o.r.fam = .gv → o.t = none ∧ o.g = none
  jp : o.r.fam = .jp → o.t = none ∧ ∃ i : Nat, i < 41 ∧ o.g = some (i : Int)
theorem lims_t (f : Fam) : (op2 ixD (lstV [(tupV [(ok (dI 0)), (ok (dI 2))]), (tupV [(ok (dI 1)), (ok (dI 1))]), (tupV [(ok (dI 1)), (ok (dI 2))]), (tupV [(ok (dI 0)), (ok (dI 1))])]) (idxV (lstV [(ok (dS "make")), (ok (dS "copy")), (ok (dS "give")), (ok (dS "jump"))]) (ok (dS f.s))) : Tm D) = ok (.tup [dI (f.least : Int), dI (f.most : Int)]) := by
  have e : (idxV (lstV [(ok (dS "make")), (ok (dS "copy")), (ok (dS "give")), (ok (dS "jump"))]) (ok (dS f.s)) : Tm D) = ok (dI (f.ix : Int)) := by
    rw [lstV4]
    unfold idxV
    rw [ok_bnd]
    show bnd (ok (dS f.s)) _ = _
    rw [ok_bnd]
    cases f <;> rfl
  rw [e, tupV2, tupV2, tupV2, tupV2, lstV4, op2_ok]
  cases f <;> rfl
theorem strs_of {P : Str → Prop} : ∀ {xs : List D}, (∀ x ∈ xs, ∃ y, x = dS y ∧ P y) → ∃ ys : List Str, xs = ys.map dS ∧ ∀ y ∈ ys, P y
  | [], _ => ⟨[], rfl, fun _ h => nomatch h⟩
  | x :: xs, h => by
    obtain ⟨y, rfl, hy⟩ := h x List.mem_cons_self
    obtain ⟨ys, rfl, hys⟩ := strs_of fun z hz => h z (List.mem_cons_of_mem _ hz)
    refine ⟨y :: ys, rfl, fun z hz => ?_⟩
    rcases List.mem_cons.mp hz with rfl | hz
    · exact hy
    · exact hys z hz
/-- words that are names, signs, numbers -/
theorem low_ne {y : Str} (h : isName y = true) : y.length ≤ 8 ∧ 32 ∉ tl y := by
  unfold isName at h
  simp only [Bool.and_eq_true, decide_eq_true_eq, List.all_eq_true] at h
  refine ⟨h.1.2, fun z => ?_⟩
  have := h.2 32 z
  simp [lowC] at this
theorem line_big : 1000000 ≤ sizeLine := by decide +kernel
def srcs : List Str := ["a", "r", "s", "calc", "zzzzzzzz"]
def tgts : List Str := ["a", "r", "send", "b"]
theorem srcs_ok : ∀ y ∈ srcs, isName y = true := by decide +kernel
theorem tgts_ok : ∀ y ∈ tgts, isName y = true := by decide +kernel
def srcE : Tm D := penV (ap1 l_pick_V) [(lstV [(ok (dS "a")), (ok (dS "r")), (ok (dS "s")), (ok (dS "calc")), (ok (dS "zzzzzzzz"))])]
theorem srcE_at : Tm.All 1 (fun d => ∃ y, d = dS y ∧ isName y = true) srcE := by
  unfold srcE
  have e : (lstV [(ok (dS "a")), (ok (dS "r")), (ok (dS "s")), (ok (dS "calc")), (ok (dS "zzzzzzzz"))] : Tm D) = ok (.lst (srcs.map dS)) := by
    unfold lstV
    simp only [seqV_cons, seqV_nil, ok_bnd]
    rfl
  rw [e, penV1]
  refine All_to (pick_at (by simp [srcs]) (by simp [srcs])) fun d hd => ?_
  obtain ⟨y, hy, rfl⟩ := List.mem_map.mp hd
  exact ⟨y, rfl, srcs_ok y hy⟩
theorem pick_tgt : Tm.All 1 (fun d => ∃ y, d = dS y ∧ isName y = true) (penV (ap1 l_pick_V) [(lstV [(ok (dS "a")), (ok (dS "r")), (ok (dS "send")), (ok (dS "b"))])]) := by
  have e : (lstV [(ok (dS "a")), (ok (dS "r")), (ok (dS "send")), (ok (dS "b"))] : Tm D) = ok (.lst (tgts.map dS)) := by
    unfold lstV
    simp only [seqV_cons, seqV_nil, ok_bnd]
    rfl
  rw [e, penV1]
  refine All_to (pick_at (by simp [tgts]) (by simp [tgts])) fun d hd => ?_
  obtain ⟨y, hy, rfl⟩ := List.mem_map.mp hd
  exact ⟨y, rfl, tgts_ok y hy⟩
theorem lc_src {n : Nat} (hn : n ≤ 2) : Tm.All n (fun d => ∃ so : List Str, d = .lst (so.map dS) ∧ so.length = n ∧ ∀ s ∈ so, isName s = true) (lcL (rng1 (ok (dI (n : Int)))) fun e => stpL (ok true) srcE) := by
  have er := rng_small (m := Tm) (n := n) (by omega)
  have hl : ((List.range n).map fun (i : Nat) => dI (i : Int)).length = n := by simp
  have h9 : n ≤ 900 := by omega
  have h0 : 1 * n ≤ n := by omega
  have fin : ∀ a, (∃ xs : List D, a = D.lst xs ∧ xs.length = n ∧ ∀ x ∈ xs, ∃ y, x = dS y ∧ isName y = true) → ∃ so : List Str, a = .lst (so.map dS) ∧ so.length = n ∧ ∀ s ∈ so, isName s = true := by
    rintro _ ⟨xs, rfl, h1, h2⟩
    obtain ⟨ys, rfl, hy⟩ := strs_of h2
    exact ⟨ys, rfl, by simpa using h1, hy⟩
  with_reducible exact All_imp (@All_lc 1 n (fun d => ∃ y, d = dS y ∧ isName y = true) (fun _ => srcE) _ _ er hl h9 (fun d _ => srcE_at)) h0 fin
theorem two3 : 2 ≤ 3 := by decide
theorem operation_at {lt : Int} {w : Nat} {rs : List Rw} (M : Plan lt w rs) : Tm.All 11 (fun d => ∃ r o, r ∈ rs ∧ d = opD o ∧ OpPre r o) (l_operation_V (planD lt w rs)) := by
  unfold l_operation_V
  have i2 : ixD (planD lt w rs) (dI 2) = some (.lst (rs.map rwD)) := rfl
  rw [op2_ok, i2, lif_some, penV1]
  refine All_retV (All_bndL 1 10 _ (pick_at (by rw [List.length_map]; exact M.lo) (by rw [List.length_map]; have := M.hi; omega)) ?_ (by decide))
  intro d hd
  obtain ⟨r, hr, rfl⟩ := List.mem_map.mp hd
  show Tm.All 10 _ (un3L (.tup [dS r.fam.s, dS r.y, r.dl]) _)
  rw [un3_ok, lims_t, okL, un2_ok]
  have hm := most_le r.fam
  have ll : r.fam.least ≤ r.fam.most := by cases r.fam <;> decide
  refine All_bndL 1 9 (fun d => ∃ n : Nat, r.fam.least ≤ n ∧ n ≤ r.fam.most ∧ d = dI (n : Int)) ?_ ?_ (by decide)
  · rw [op2_ok, subV_i, lif_some, op2_ok, addD_i, lif_some]
    refine All_op2r (All_drw (by omega) (small200 (by omega))) ?_
    rintro _ ⟨i, a, b, rfl⟩
    exact ⟨_, addD_i, (r.fam.least + i).toNat, by omega, by omega, by rw [show (((r.fam.least + i).toNat : Nat) : Int) = r.fam.least + i by omega]⟩
  rintro _ ⟨n, n1, n2, rfl⟩
  with_reducible refine All_bndL 3 6 (fun d => ∃ so : List Str, d = .lst (so.map dS) ∧ so.length = n ∧ ∀ s ∈ so, isName s = true) ?_ ?_ (Nat.le_refl _)
  · with_reducible exact All_le (lc_src (Nat.le_trans n2 hm)) (Nat.le_trans (Nat.le_trans n2 hm) two3)
  rintro _ ⟨so, rfl, hl, hs⟩
  subst hl
  refine All_bndL 1 5 (fun d => ∃ t, d = oS t ∧ (r.fam.wr = true → ∃ x, t = some x ∧ isName x = true) ∧ (r.fam.wr = false → t = none)) ?_ ?_ (by decide)
  · have e : (tst (op2 (isD false) (ok r.dl) (ok dN)) : Tm Bool) = ok r.fam.wr := by
      unfold Rw.dl
      cases r.fam <;> rfl
    rw [e, ifV_ok]
    cases q : r.fam.wr with
    | true =>
      rw [if_pos rfl]
      refine All_to pick_tgt ?_
      rintro _ ⟨y, rfl, hy⟩
      exact ⟨some y, rfl, fun _ => ⟨y, rfl, hy⟩, fun z => nomatch z⟩
    | false =>
      rw [if_neg (by decide)]
      exact All_ok ⟨none, rfl, fun z => (nomatch z), fun _ => rfl⟩
  rintro _ ⟨t, rfl, t1, t2⟩
  refine All_bndL 1 0 (fun d => ∃ r o, r ∈ rs ∧ d = opD o ∧ OpPre r o) ?_ (fun d p => p) (by decide)
  have e2 : (op1 tupD (ok (.lst (so.map dS))) : Tm D) = ok (.tup (so.map dS)) := by rw [op1_ok]; rfl
  have e3 : (tst (op2 (eqD true) (ok (dS r.fam.s)) (ok (dS "jump"))) : Tm Bool) = ok (match r.fam with | .jp => true | _ => false) := by cases r.fam <;> rfl
  rw [e2, e3]
  refine All_tupV (All_seqC 0 1 (P := fun d => d = dS r.y) rfl ?_ (by decide))
  rintro _ rfl
  refine All_seqC 0 1 (P := fun d => d = oS t) rfl ?_ (by decide)
  rintro _ rfl
  refine All_seqC 0 1 (P := fun d => d = .tup (so.map dS)) rfl ?_ (by decide)
  rintro _ rfl
  refine All_seqC 1 0 (P := fun d => ∃ g : Option Int, d = oI g ∧ (r.fam = .jp → ∃ i : Nat, i < 41 ∧ g = some (i : Int)) ∧ (r.fam ≠ .jp → g = none)) ?_ ?_ (by decide)
  · rw [ifV_ok]
    cases q : r.fam with
    | jp =>
      rw [if_pos rfl]
      refine All_to (All_drw (by decide) (by decide)) ?_
      rintro _ ⟨i, a, b, rfl⟩
      exact ⟨some i, rfl, fun _ => ⟨i.toNat, by omega, by rw [show ((i.toNat : Nat) : Int) = i by omega]⟩, fun z => (z rfl).elim⟩
    | mk => exact All_ok (c := 1) ⟨none, rfl, fun z => (nomatch z), fun _ => rfl⟩
    | cp => exact All_ok (c := 1) ⟨none, rfl, fun z => (nomatch z), fun _ => rfl⟩
    | gv => exact All_ok (c := 1) ⟨none, rfl, fun z => (nomatch z), fun _ => rfl⟩
  rintro _ ⟨g, rfl, g1, g2⟩
  refine All_seqN ⟨r, ⟨r, t, so, g⟩, hr, rfl, ⟨rfl, hs, n1, n2, fun z => ?_, fun z => ?_, fun z => ?_⟩⟩
  · obtain ⟨x, e, hx⟩ := t1 z
    exact ⟨x, e, hx, g2 (fun q => by rw [show (Op.r ⟨r, t, so, g⟩) = r from rfl, q] at z; cases z)⟩
  · exact ⟨t2 (by rw [show r.fam = .gv from z]; rfl), g2 (by rw [show r.fam = .gv from z]; exact fun q => nomatch q)⟩
  · exact ⟨t2 (by rw [show r.fam = .jp from z]; rfl), g1 z⟩
end
end L2.K5
namespace L2.K5
open L2 L2.My L2.DL L2.NK NdefX PySem PySem.Spec PyProof.Rows
open PM
variable [Zd]
noncomputable section
open TL
theorem nm_len {y : Str} (h : isName y = true) : y.length ≤ sizeLine := by
  have := (low_ne h).1
  have := line_big
  omega
theorem okv_nm {y : Str} (h : isName y = true) : Okv (dS y) := .s y (nm_len h)
theorem val_nm {y : Str} (h : isName y = true) : Val (dS y) := ⟨okv_nm h, .inl ⟨_, rfl⟩⟩
theorem ok4 {n t so g : D} (vn : Val n) (vt : Okv t) (vs : Okv so) (vx : ∀ xs, so = .tup xs → xs.length ≤ 900 ∧ ∀ x ∈ xs, Okv x) (vg : Okv g) : OkOp (.tup [n, t, so, g]) :=
  ⟨.t _, fun n' t' so' g' e => by
    injection e with e
    injection e with e1 e
    injection e with e2 e
    injection e with e3 e
    injection e with e4 e
    subst e1 e2 e3 e4
    exact ⟨vn, vt, vs, vx, vg⟩⟩
theorem okn {xs : List D} (h : xs.length ≠ 4) : OkOp (.tup xs) := ⟨.t _, fun n t so g e => by
  injection e with e
  subst e
  exact absurd rfl h⟩
theorem okv_op {d : D} (h : Okv d) (hn : ∀ xs, d ≠ .tup xs) : OkOp d := ⟨h, fun n t so g e => absurd e (hn _)⟩
theorem okv_oS {o : Op} (h : ∀ x, o.t = some x → isName x = true) : Okv (oS o.t) := by
  cases q : o.t with
  | none => exact .n
  | some x => exact okv_nm (h x q)
theorem okv_oI (g : Option Int) : Okv (oI g) := by
  cases g with
  | none => exact .n
  | some i => exact .i i
theorem tgt_nm {r : Rw} {o : Op} (h : OpPre r o) : ∀ x, o.t = some x → isName x = true := fun x hx => by
  cases q : o.r.fam with
  | mk => obtain ⟨y, e, hy, _⟩ := h.wr (by rw [q]; rfl); rw [e] at hx; cases hx; exact hy
  | cp => obtain ⟨y, e, hy, _⟩ := h.wr (by rw [q]; rfl); rw [e] at hx; cases hx; exact hy
  | gv => rw [(h.gv q).1] at hx; cases hx
  | jp => rw [(h.jp q).1] at hx; cases hx
theorem src_v {r : Rw} {o : Op} (h : OpPre r o) : ∀ xs, (.tup (o.so.map dS) : D) = .tup xs → xs.length ≤ 900 ∧ ∀ x ∈ xs, Okv x := fun xs e => by
  injection e with e
  subst e
  refine ⟨by rw [List.length_map]; have := h.hi; have := most_le o.r.fam; omega, fun x hx => ?_⟩
  obtain ⟨s, hs, rfl⟩ := List.mem_map.mp hx
  exact okv_nm (h.so s hs)
/-- a drawn operation -/
structure Drawn (rs : List Rw) (o : Op) : Prop where
  pre : OpPre o.r o
  mem : o.r ∈ rs
theorem okop_opD {lt : Int} {w : Nat} {rs : List Rw} (M : Plan lt w rs) {o : Op} (h : Drawn rs o) : OkOp (opD o) :=
  ok4 (val_nm (M.nm _ h.mem)) (okv_oS (tgt_nm h.pre)) (.t _) (src_v h.pre) (okv_oI _)
theorem opB_opD {lt : Int} {w : Nat} {rs : List Rw} (M : Plan lt w rs) {o : Op} (h : Drawn rs o) : opB rs (opD o) = true := by
  show (match kindD rs (dS o.r.y) with | some r => tgB r (oS o.t) && (srB r.fam (.tup (o.so.map dS)) && glB r (oI o.g)) | none => false) = true
  have lk : kindD rs (dS o.r.y) = some o.r := look_mem M.nd h.mem
  rw [lk]
  have s1 : srB o.r.fam (.tup (o.so.map dS)) = true := by
    show ((decide (o.r.fam.least ≤ (o.so.map dS).length) && decide ((o.so.map dS).length ≤ o.r.fam.most)) && (o.so.map dS).all isNm) = true
    rw [List.length_map, decide_eq_true h.pre.lo, decide_eq_true h.pre.hi, List.all_map]
    simp only [Bool.true_and, List.all_eq_true]
    exact fun s hs => h.pre.so s hs
  show (tgB o.r (oS o.t) && (srB o.r.fam (.tup (o.so.map dS)) && glB o.r (oI o.g))) = true
  rw [s1, Bool.true_and]
  unfold tgB glB
  cases q : o.r.fam with
  | mk =>
    obtain ⟨x, e, hx, eg⟩ := h.pre.wr (by rw [q]; rfl)
    rw [e, eg]
    show (isName x && true) = true
    rw [hx]
    rfl
  | cp =>
    obtain ⟨x, e, hx, eg⟩ := h.pre.wr (by rw [q]; rfl)
    rw [e, eg]
    show (isName x && true) = true
    rw [hx]
    rfl
  | gv =>
    obtain ⟨e, eg⟩ := h.pre.gv q
    rw [e, eg]
    rfl
  | jp =>
    obtain ⟨e, i, hi, eg⟩ := h.pre.jp q
    rw [e, eg]
    show (true && (decide (0 ≤ (i : Int)) && decide ((i : Int) ≤ 40))) = true
    rw [decide_eq_true (by omega), decide_eq_true (by omega)]
    rfl
theorem drawn_at {lt : Int} {w : Nat} {rs : List Rw} (M : Plan lt w rs) : Tm.All 11 (fun d => ∃ o, d = opD o ∧ Drawn rs o) (l_operation_V (planD lt w rs)) := by
  refine All_to (operation_at M) ?_
  rintro _ ⟨r, o, hr, rfl, ho⟩
  have := ho.r
  subst this
  exact ⟨o, rfl, ho, hr⟩
/-- odd values -/
structure Wor (d : D) : Prop where
  v : Val d
  x : ∀ xs, d = .tup xs → xs.length ≤ 900 ∧ ∀ x ∈ xs, Okv x
def oddV : List D := [dN, dB true, dI 0, dI (-1), dI 41, dI (10 ^ 30), dS "", dS "A", dS "abcdefghi", dS "a", dS "r", .tup [], .tup [dS "a"], .lst [dS "a"], .dct [], dS "1"]
theorem small_s {y : Str} (h : y.length ≤ 1000) : Okv (dS y) := .s y (by have := line_big; omega)
theorem wor_s {y : Str} (h : y.length ≤ 1000) : Wor (dS y) := ⟨⟨small_s h, .inl ⟨_, rfl⟩⟩, fun _ e => nomatch e⟩
theorem wor_i (i : Int) : Wor (dI i) := ⟨⟨.i i, .inl ⟨_, rfl⟩⟩, fun _ e => nomatch e⟩
theorem odd_wor : ∀ d ∈ oddV, Wor d := by
  intro d hd
  simp only [oddV, List.mem_cons, List.not_mem_nil, or_false] at hd
  rcases hd with rfl | rfl | rfl | rfl | rfl | rfl | rfl | rfl | rfl | rfl | rfl | rfl | rfl | rfl | rfl | rfl
  · exact ⟨⟨.n, .inl ⟨_, rfl⟩⟩, fun _ e => nomatch e⟩
  · exact ⟨⟨.b _, .inl ⟨_, rfl⟩⟩, fun _ e => nomatch e⟩
  · exact wor_i _
  · exact wor_i _
  · exact wor_i _
  · exact wor_i _
  · exact wor_s (by decide +kernel)
  · exact wor_s (by decide +kernel)
  · exact wor_s (by decide +kernel)
  · exact wor_s (by decide +kernel)
  · exact wor_s (by decide +kernel)
  · exact ⟨⟨.t _, .inl ⟨_, rfl⟩⟩, fun xs e => by injection e with e; subst e; exact ⟨by simp, fun x hx => nomatch hx⟩⟩
  · refine ⟨⟨.t _, .inl ⟨_, rfl⟩⟩, fun xs e => ?_⟩
    injection e with e
    subst e
    refine ⟨by simp, fun x hx => ?_⟩
    rw [List.mem_singleton] at hx
    subst hx
    exact small_s (by decide +kernel)
  · exact ⟨⟨.l _, .inl ⟨_, rfl⟩⟩, fun _ e => nomatch e⟩
  · exact ⟨⟨.d, .inr rfl⟩, fun _ e => nomatch e⟩
  · exact wor_s (by decide +kernel)
theorem odd_list : (lstV [(ok dN), (ok (dB true)), (ok (dI 0)), (op1 negD (ok (dI 1))), (ok (dI 41)), (op2 powV (ok (dI 10)) (ok (dI 30))), (ok (dS "")), (ok (dS "A")), (ok (dS "abcdefghi")), (ok (dS "a")), (ok (dS "r")), (tupV []), (tupV [(ok (dS "a"))]), (lstV [(ok (dS "a"))]), (ok (.dct [])), (ok (dS "1"))] : Tm D) = ok (.lst oddV) := by
  have p1 : powV (dI 10) (dI 30) = some (dI (10 ^ 30)) := by
    show (if powB 10 30 = true then some (dI ((10 : Int) ^ (30 : Int).toNat)) else none) = _
    rw [if_pos (by decide +kernel)]
    rfl
  have n1 : negD (dI 1) = some (dI (-1)) := rfl
  rw [op1_ok, n1, lif_some, op2_ok, p1, lif_some, tupV0, tupV1, lstV1]
  unfold lstV
  simp only [seqV_cons, seqV_nil, ok_bnd]
  rfl
theorem worth_at : Tm.All 2 Wor (op2 ixD (op2 addD (ok (.lst oddV)) (lstV [(ok (dS "alike")), (drw (ok (dI 41)))])) (drw (ok (dI 18)))) := by
  refine All_op2 (P1 := fun d => ∃ i : Int, d = .lst (oddV ++ [dS "alike", dI i])) 1 1 ?_ (All_drw (by decide) (by decide)) ?_ (by decide)
  · refine All_op2r (P2 := fun d => ∃ i : Int, d = .lst [dS "alike", dI i]) (All_lstV (All_seqC 0 1 (P := fun d => d = dS "alike") rfl ?_ (by decide))) ?_
    · rintro _ rfl
      refine All_seqC 1 0 (All_drw (by decide) (by decide)) ?_ (by decide)
      rintro _ ⟨i, _, _, rfl⟩
      exact All_seqN ⟨i, rfl⟩
    · rintro _ ⟨i, rfl⟩
      exact ⟨_, addD_l (by simp [oddV]), i, rfl⟩
  · rintro _ _ ⟨i, rfl⟩ ⟨j, j1, j2, rfl⟩
    have l : (oddV ++ [dS "alike", dI i]).length = 18 := rfl
    have lt : j.toNat < (oddV ++ [dS "alike", dI i]).length := by omega
    refine ⟨_, ixD_l j1 (List.getElem?_eq_getElem lt), ?_⟩
    have hm := List.getElem_mem lt
    rcases List.mem_append.mp hm with hm | hm
    · exact odd_wor _ hm
    · rcases List.mem_cons.mp hm with e | hm
      · rw [e]; exact wor_s (by decide +kernel)
      · rw [List.mem_singleton] at hm
        rw [hm]
        exact wor_i _
theorem tst_i {m : Type → Type} [PM m] [LM m] {j k : Int} : (tst (op2 (eqD true) (ok (dI j)) (ok (dI k))) : m Bool) = ok (true == (j == k)) := by rw [op2_ok, eqD_i', lif_some, tst_ok]
theorem coin_at {α : Type} {Q : α → Prop} {a b : Tm α} (ha : Tm.All 0 Q a) (hb : Tm.All 0 Q b) : Tm.All 1 Q (ifL (tst (op2 (eqD true) (drw (ok (dI 2))) (ok (dI 0)))) a b) := by
  refine All_ifL (P := fun _ => True) 1 0 (All_tst (P := fun d => ∃ z, d = dB z) (All_op2l (All_drw (by decide) (by decide)) ?_) ?_) (fun _ => ha) (fun _ => hb) (by decide)
  · rintro _ ⟨i, _, _, rfl⟩
    exact ⟨_, eqD_i', _, rfl⟩
  · rintro _ ⟨z, rfl⟩
    exact ⟨z, rfl, trivial⟩
theorem slD_t {xs : List D} {i : Int} (h : 0 ≤ i) : slD (.tup xs) none (some i) = some (.tup (xs.take i.toNat)) := congrArg (fun x => some (D.tup x)) (cut_hi h)
theorem slD_tl {xs : List D} {i : Int} (h : 0 ≤ i) : slD (.tup xs) (some i) none = some (.tup (xs.drop i.toNat)) := congrArg (fun x => some (D.tup x)) (cut_lo h)
theorem bent_at {lt : Int} {w : Nat} {rs : List Rw} (M : Plan lt w rs) {o : Op} (h : Drawn rs o) : Tm.All 4 OkOp (l_bent_V (planD lt w rs) (opD o)) := by
  have vn : Val (dS o.r.y) := val_nm (M.nm _ h.mem)
  have vt := okv_oS (tgt_nm h.pre)
  have vx := src_v h.pre
  have vg := okv_oI o.g
  have sl : (o.so.map dS : List D).length ≤ 900 := (vx _ rfl).1
  have sl2 : o.so.length ≤ 2 := Nat.le_trans h.pre.hi (most_le _)
  unfold l_bent_V
  rw [okL]
  show Tm.All 4 _ (retV (un4L (.tup [dS o.r.y, oS o.t, .tup (o.so.map dS), oI o.g]) _))
  rw [un4_ok, odd_list, okL]
  refine All_retV (All_bndL 2 2 _ worth_at ?_ (by decide))
  intro d hw
  refine All_bndL 1 1 _ (All_drw (by decide) (by decide)) ?_ (by decide)
  rintro _ ⟨j, j1, j2, rfl⟩
  rw [tst_i, tst_i, tst_i, tst_i, tst_i, tst_i, tst_i, ifV_ok, ifV_ok, ifV_ok, ifV_ok, ifV_ok, ifV_ok]
  split
  · rw [tupV4, okL]
    exact All_ok (c := 1) (ok4 hw.v vt (.t _) vx vg)
  split
  · rw [tupV4, okL]
    exact All_ok (c := 1) (ok4 vn hw.v.ok (.t _) vx vg)
  split
  · rw [tupV4, okL]
    exact All_ok (c := 1) (ok4 vn vt hw.v.ok hw.x vg)
  split
  · rw [tupV4, okL]
    exact All_ok (c := 1) (ok4 vn vt (.t _) vx hw.v.ok)
  split
  · refine All_bndL 1 0 (fun d => OkOp d) (All_tupV (All_seqC 0 1 (P := fun d => d = dS o.r.y) rfl ?_ (by decide))) (fun d p => p) (by decide)
    rintro _ rfl
    refine All_seqC 0 1 (P := fun d => d = oS o.t) rfl ?_ (by decide)
    rintro _ rfl
    refine All_seqC 1 0 (P := fun d => ∃ xs : List D, d = .tup xs ∧ xs.length ≤ 900 ∧ ∀ x ∈ xs, Okv x) (coin_at ?_ ?_) ?_ (by decide)
    · rw [tupV1, op2_ok, addD_t (by simp; omega), lif_some]
      refine All_ok ⟨_, rfl, by simp; omega, fun x hx => ?_⟩
      rcases List.mem_append.mp hx with hx | hx
      · exact (vx _ rfl).2 x hx
      · rw [List.mem_singleton] at hx
        subst hx
        exact hw.v.ok
    · rw [intV_ok, op3_ok, slD_tl (by decide), lif_some]
      exact All_ok ⟨_, rfl, by rw [List.length_drop]; omega, fun x hx => (vx _ rfl).2 x (List.mem_of_mem_drop hx)⟩
    rintro _ ⟨xs, rfl, l9, hx⟩
    refine All_seqC 0 0 (P := fun d => d = oI o.g) rfl ?_ (by decide)
    rintro _ rfl
    exact All_seqN (ok4 vn vt (.t _) (fun ys e => by injection e with e; subst e; exact ⟨l9, hx⟩) vg)
  split
  · refine All_bndL 1 0 (fun d => OkOp d) (coin_at ?_ ?_) (fun d p => p) (by decide)
    · unfold opD
      rw [intV_ok, op3_ok, slD_t (by decide), lif_some]
      exact All_ok (okn (by simp))
    · unfold opD
      rw [tupV1, op2_ok, addD_t (by simp), lif_some]
      exact All_ok (okn (by simp))
  · refine All_bndL 1 0 (fun d => OkOp d) ?_ (fun d p => p) (by decide)
    rw [ifV_ok]
    split
    · have : listD (opD o) = some (.lst [dS o.r.y, oS o.t, .tup (o.so.map dS), oI o.g]) := rfl
      rw [op1_ok, this, lif_some]
      exact All_ok (c := 1) (okv_op (.l _) fun xs e => nomatch e)
    · have i2 : ixD (planD lt w rs) (dI 2) = some (.lst (rs.map rwD)) := rfl
      refine All_tupV (All_seqC 1 0 (P := fun d => ∃ r ∈ rs, d = dS r.y) ?_ ?_ (by decide))
      · rw [op2_ok, i2, lif_some, penV1]
        refine All_op2l (pick_at (by rw [List.length_map]; exact M.lo) (by rw [List.length_map]; have := M.hi; omega)) ?_
        intro d hd
        obtain ⟨r, hr, rfl⟩ := List.mem_map.mp hd
        exact ⟨_, rfl, r, hr, rfl⟩
      rintro _ ⟨r, hr, rfl⟩
      refine All_seqC 0 0 (P := fun d => d = oS o.t) rfl ?_ (by decide)
      rintro _ rfl
      refine All_seqC 0 0 (P := fun d => d = .tup (o.so.map dS)) rfl ?_ (by decide)
      rintro _ rfl
      refine All_seqC 0 0 (P := fun d => d = oI o.g) rfl ?_ (by decide)
      rintro _ rfl
      exact All_seqN (ok4 (val_nm (M.nm r hr)) vt (.t _) vx vg)
end
end L2.K5
namespace L2.K5
open L2 L2.My L2.DL L2.NK NdefX PySem PySem.Spec PyProof.Rows
open PM
variable [Zd]
noncomputable section
open TL
theorem row_of {xs : List D} (h : ∀ x ∈ xs, OkOp x) : OkRow (.tup xs) := ⟨.t _, fun ys e => by injection e with e; subst e; exact h⟩
theorem row_no {d : D} (h : Okv d) (hn : ∀ xs, d ≠ .tup xs) : OkRow d := ⟨h, fun xs e => absurd e (hn xs)⟩
theorem row_op {lt : Int} {w : Nat} {rs : List Rw} (M : Plan lt w rs) {o : Op} (h : Drawn rs o) : OkRow (opD o) := by
  refine row_of fun x hx => ?_
  rcases List.mem_cons.mp hx with rfl | hx
  · exact okv_op (okv_nm (M.nm _ h.mem)) fun xs e => nomatch e
  rcases List.mem_cons.mp hx with rfl | hx
  · refine okv_op (okv_oS (tgt_nm h.pre)) fun xs e => ?_
    cases q : o.t with
    | none => rw [q] at e; cases e
    | some x => rw [q] at e; cases e
  rcases List.mem_cons.mp hx with rfl | hx
  · refine okn ?_
    rw [List.length_map]
    have := h.pre.hi
    have := most_le o.r.fam
    omega
  rw [List.mem_singleton] at hx
  subst hx
  refine okv_op (okv_oI _) fun xs e => ?_
  cases q : o.g with
  | none => rw [q] at e; cases e
  | some x => rw [q] at e; cases e
/-- operations, one behind the other -/
def Ops (xs : List D) : Prop := ∀ x ∈ xs, OkOp x
theorem Ops.app {a b : List D} (ha : Ops a) (hb : Ops b) : Ops (a ++ b) := fun x hx => (List.mem_append.mp hx).elim (ha x) (hb x)
theorem Ops.take {a : List D} (ha : Ops a) (k : Nat) : Ops (a.take k) := fun x hx => ha x (List.mem_of_mem_take hx)
theorem Ops.drop {a : List D} (ha : Ops a) (k : Nat) : Ops (a.drop k) := fun x hx => ha x (List.mem_of_mem_drop hx)
theorem Ops.one {d : D} (h : OkOp d) : Ops [d] := fun x hx => by rw [List.mem_singleton] at hx; subst hx; exact h
theorem add_t {m : Type → Type} [PM m] [LM m] {a b : List D} (h : a.length + b.length ≤ 1000) : (op2 addD (ok (.tup a)) (ok (.tup b)) : m D) = ok (.tup (a ++ b)) := by rw [op2_ok, addD_t h, lif_some]
theorem cut_t {m : Type → Type} [PM m] [LM m] {a : List D} {i : Int} (h : 0 ≤ i) : (op3 slD (ok (.tup a)) (ok none) (intV (ok (dI i))) : m D) = ok (.tup (a.take i.toNat)) := by rw [intV_ok, op3_ok, slD_t h, lif_some]
theorem cut_tl {m : Type → Type} [PM m] [LM m] {a : List D} {i : Int} (h : 0 ≤ i) : (op3 slD (ok (.tup a)) (intV (ok (dI i))) (ok none) : m D) = ok (.tup (a.drop i.toNat)) := by rw [intV_ok, op3_ok, slD_tl h, lif_some]
theorem take_le {a : List D} {n k : Nat} (h : a.length ≤ n) : (a.take k).length ≤ n := by rw [List.length_take]; omega
theorem drop_le {a : List D} {n k : Nat} (h : a.length ≤ n) : (a.drop k).length ≤ n := by rw [List.length_drop]; omega
def nine (more : D) : List D := [dN, dI 0, dS "-", .dct [], .tup [dN], .tup [.tup []], .tup [more, more], .tup [more], more]
theorem toPy_op (o : Op) : ∃ p, toPy (opD o) = some p := by
  unfold opD
  have h2 : ∃ p, toPy (oS o.t) = some p := by cases o.t <;> exact ⟨_, rfl⟩
  have h4 : ∃ p, toPy (oI o.g) = some p := by cases o.g <;> exact ⟨_, rfl⟩
  obtain ⟨p2, e2⟩ := h2
  obtain ⟨p4, e4⟩ := h4
  have e3 : toPy (.tup (o.so.map dS)) = some (.tuple (o.so.map PyData.str)) := by rw [toPy, toPyAll_strs]; rfl
  refine ⟨.tuple [.str o.r.y, p2, .tuple (o.so.map PyData.str), p4], ?_⟩
  have e1 : toPy (dS o.r.y) = some (.str o.r.y) := rfl
  rw [toPy]
  simp [toPyAll, e1, e2, e3, e4]
theorem toPy_ops : ∀ l : List Op, ∃ ps, toPyAll (l.map opD) = some ps ∧ ps.length = l.length
  | [] => ⟨[], rfl, rfl⟩
  | r :: l => by
    obtain ⟨p, e⟩ := toPy_op r
    obtain ⟨ps, e2, e3⟩ := toPy_ops l
    exact ⟨p :: ps, by rw [List.map_cons, toPyAll, e, e2], by rw [List.length_cons, List.length_cons, e3]⟩
theorem ne_nil_t (os : List Op) : eqD false (.tup (os.map opD)) (.tup []) = some (dB (!os.isEmpty)) := by
  obtain ⟨ps, e, el⟩ := toPy_ops os
  unfold eqD
  have e1 : toPy (.tup (os.map opD)) = some (.tuple ps) := by rw [toPy, e]; rfl
  have e2 : toPy (.tup []) = some (.tuple []) := rfl
  rw [e1, e2]
  simp only
  rw [if_pos (Nat.le_trans (Nat.min_le_right _ _) (by simp [PyData.depth, PyData.depthAll]))]
  have : PyData.eqv (.tuple ps) (.tuple []) = os.isEmpty := by
    cases ps with
    | nil => cases os with
      | nil => simp [PyData.eqv, PyData.eqvAll]
      | cons o os => cases el
    | cons p ps => cases os with
      | nil => cases el
      | cons o os => simp [PyData.eqv, PyData.eqvAll]
  rw [this]
  cases os.isEmpty <;> rfl
def five (W : List D) (i : Int) (more : D) : List D := [.tup W, .tup (W.take i.toNat ++ [more] ++ W.drop i.toNat), .tup (W.take i.toNat ++ W.take (1 : Int).toNat ++ W.drop i.toNat), .tup (W.take i.toNat ++ (W.drop i.toNat).drop (1 : Int).toNat), .lst W]
theorem nine_rows {lt : Int} {w : Nat} {rs : List Rw} (M : Plan lt w rs) {o : Op} (h : Drawn rs o) : ∀ x ∈ nine (opD o), OkRow x := by
  have om := okop_opD M h
  intro x hx
  simp only [nine, List.mem_cons, List.not_mem_nil, or_false] at hx
  rcases hx with rfl | rfl | rfl | rfl | rfl | rfl | rfl | rfl | rfl
  · exact row_no .n fun xs e => nomatch e
  · exact row_no (.i _) fun xs e => nomatch e
  · exact row_no (small_s (by decide +kernel)) fun xs e => nomatch e
  · exact row_no .d fun xs e => nomatch e
  · exact row_of (Ops.one (okv_op .n fun xs e => nomatch e))
  · exact row_of (Ops.one (okn (by simp)))
  · exact row_of fun x hx => by
      rcases List.mem_cons.mp hx with rfl | hx
      · exact om
      · exact Ops.one om x hx
  · exact row_of (Ops.one om)
  · exact row_op M h
theorem things_at {lt : Int} {w : Nat} {rs : List Rw} (M : Plan lt w rs) {os : List Op} (hos : ∀ o ∈ os, Drawn rs o) (hl : os.length ≤ 10) : Tm.All 17 (fun d => ∃ xs : List D, d = .lst xs ∧ ∀ x ∈ xs, OkRow x) (l_things_V (planD lt w rs) (.tup (os.map opD))) := by
  have hW : Ops (os.map opD) := fun x hx => by
    obtain ⟨o, ho, rfl⟩ := List.mem_map.mp hx
    exact okop_opD M (hos o ho)
  have lW : (os.map opD : List D).length ≤ 10 := by rw [List.length_map]; exact hl
  have mW : ∀ x ∈ (os.map opD : List D), ∃ o, Drawn rs o ∧ x = opD o := fun x hx => by
    obtain ⟨o, ho, rfl⟩ := List.mem_map.mp hx
    exact ⟨o, hos o ho, rfl⟩
  have nn : (op2 (eqD false) (ok (.tup (os.map opD))) (tupV []) : Tm D) = ok (dB (!os.isEmpty)) := by rw [tupV0, op2_ok, ne_nil_t, lif_some]
  have lm : (os.map opD : List D).length = os.length := List.length_map ..
  unfold l_things_V
  rw [nn]
  generalize (os.map opD : List D) = W at hW lW mW lm
  have el : (op2 addD (op1 lenD (ok (.tup W))) (ok (dI 1)) : Tm D) = ok (dI ((W.length : Int) + 1)) := by rw [op1_ok, lenD_t', lif_some, op2_ok, addD_i, lif_some]
  refine All_retV (All_bndL 1 16 _ (All_drw' el (by omega) (small200 (by omega))) ?_ (by decide))
  rintro _ ⟨i, i1, i2, rfl⟩
  refine All_bndL 11 5 _ (drawn_at M) ?_ (by decide)
  rintro _ ⟨o, rfl, ho⟩
  have om := okop_opD M ho
  rw [cut_t i1, okL, cut_tl i1, okL, tupV1, cut_t (by decide), cut_tl (by decide)]
  have t1 := take_le (k := i.toNat) lW
  have t2 := drop_le (k := i.toNat) lW
  have t3 := take_le (k := (1 : Int).toNat) lW
  have t4 := drop_le (k := (1 : Int).toNat) t2
  rw [add_t (by simp; omega), add_t (by simp; omega), add_t (by simp; omega), add_t (by simp; omega), add_t (by omega)]
  have ll : listD (.tup W) = some (.lst W) := rfl
  rw [op1_ok, ll, lif_some]
  have e5 : (lstV [(ok (.tup W)), (ok (.tup (W.take i.toNat ++ [opD o] ++ W.drop i.toNat))), (ok (.tup (W.take i.toNat ++ W.take (1 : Int).toNat ++ W.drop i.toNat))), (ok (.tup (W.take i.toNat ++ (W.drop i.toNat).drop (1 : Int).toNat))), (ok (.lst W))] : Tm D) = ok (.lst (five W i (opD o))) := by
    unfold lstV
    simp only [seqV_cons, seqV_nil, ok_bnd]
    rfl
  rw [e5, asLs_ok, okL]
  have h5 : ∀ x ∈ five W i (opD o), OkRow x := by
    intro x hx
    simp only [five, List.mem_cons, List.not_mem_nil, or_false] at hx
    rcases hx with rfl | rfl | rfl | rfl | rfl
    · exact row_of hW
    · exact row_of (((hW.take _).app (Ops.one om)).app (hW.drop _))
    · exact row_of (((hW.take _).app (hW.take _)).app (hW.drop _))
    · exact row_of ((hW.take _).app ((hW.drop _).drop _))
    · exact row_no (.l _) fun xs e => nomatch e
  have l5 : (five W i (opD o)).length = 5 := rfl
  generalize five W i (opD o) = F at h5 l5
  refine All_thL (I := fun b => (∀ x ∈ b, OkRow x) ∧ b.length ≤ 7) 5 0 ?_ ?_ (by decide)
  · rw [tst_ok]
    unfold ifV
    rw [ok_bnd]
    split
    · rename_i hne
      have hpos : 1 ≤ W.length := by
        rw [lm]
        cases os with
        | nil => cases hne
        | cons a r => simp
      have el2 : (op1 lenD (ok (.tup W)) : Tm D) = ok (dI (W.length : Int)) := by rw [op1_ok, lenD_t', lif_some]
      refine All_bndL 1 4 _ (All_drw' el2 (by omega) (small200 (by omega))) ?_ (by decide)
      rintro _ ⟨s, s1, s2, rfl⟩
      have lt : s.toNat < W.length := by omega
      obtain ⟨o1, ho1, eo⟩ := mW _ (List.getElem_mem lt)
      have ix : ixD (.tup W) (dI s) = some (opD o1) := by rw [← eo]; exact ixD_t s1 (List.getElem?_eq_getElem lt)
      have u1 := take_le (k := s.toNat) lW
      have u2 := drop_le (k := (s + 1).toNat) lW
      rw [op2_ok, ix, lif_some, okL, cut_t s1, okL, op2_ok, addD_i, lif_some, cut_tl (by omega), okL]
      have x1 : OkOp (opD o1) := okop_opD M ho1
      have lF : F.length < sizeLine := by have := @le_line 900 (by omega); omega
      refine All_bndL 4 0 (fun xs => ∃ x, xs = F ++ [x] ∧ OkRow x) (All_appV (P := OkRow) (All_op2l (P1 := fun d => ∃ y, OkOp y ∧ d = .tup (W.take s.toNat ++ [y])) (All_op2r (P2 := fun d => ∃ y, OkOp y ∧ d = .tup [y]) (All_tupV (All_seqC 4 0 (P := OkOp) ?_ ?_ (by decide))) ?_) ?_) lF ?_) ?_ (by decide)
      · rw [penV2]
        exact bent_at M ho1
      · intro y hy
        exact All_seqN ⟨y, hy, rfl⟩
      · rintro _ ⟨y, hy, rfl⟩
        exact ⟨_, addD_t (by simp; omega), y, hy, rfl⟩
      · rintro _ ⟨y, hy, rfl⟩
        exact ⟨_, addD_t (by rw [List.length_append]; simp; omega), row_of (((hW.take _).app (Ops.one hy)).app (hW.drop _))⟩
      · intro d hd
        exact ⟨d, rfl, hd⟩
      rintro _ ⟨x, rfl, hx⟩
      have m4 : (tupV [(op2 ixD (ok (opD o1)) (ok (dI 0))), (op2 ixD (ok (opD o)) (ok (dI 1))), (op2 ixD (ok (opD o1)) (ok (dI 2))), (op2 ixD (ok (opD o1)) (ok (dI 3)))] : Tm D) = ok (.tup [dS o1.r.y, oS o.t, .tup (o1.so.map dS), oI o1.g]) := by
        have g2 : ixD (opD o1) (dI 2) = some (.tup (o1.so.map dS)) := rfl
        rw [op2_ok, op_n, lif_some, op2_ok, op_t, lif_some, op2_ok, g2, lif_some, op2_ok, op_g, lif_some, tupV4]
      have lF2 : (F ++ [x]).length < sizeLine := by have := @le_line 900 (by omega); rw [List.length_append]; simp; omega
      rw [m4, tupV1, add_t (by simp; omega), add_t (by rw [List.length_append]; simp; omega), appV_ok _ lF2, okL]
      have x2 : OkOp (.tup [dS o1.r.y, oS o.t, .tup (o1.so.map dS), oI o1.g]) := ok4 (val_nm (M.nm _ ho1.mem)) (okv_oS (tgt_nm ho.pre)) (.t _) (src_v ho1.pre) (okv_oI _)
      refine All_ok ⟨_, rfl, fun y hy => ?_, by rw [List.length_append, List.length_append]; simp; omega⟩
      rcases List.mem_append.mp hy with hy | hy
      · rcases List.mem_append.mp hy with hy | hy
        · exact h5 y hy
        · rw [List.mem_singleton] at hy
          subst hy
          exact hx
      · rw [List.mem_singleton] at hy
        subst hy
        exact row_of (((hW.take _).app (Ops.one x2)).app (hW.drop _))
    · exact All_ok ⟨_, rfl, h5, by omega⟩
  · rintro q ⟨hq, lq⟩
    have e9 : (lstV [(ok dN), (ok (dI 0)), (ok (dS "-")), (ok (.dct [])), (tupV [(ok dN)]), (tupV [(tupV [])]), (tupV [(ok (opD o)), (ok (opD o))]), (ok (.tup [opD o])), (ok (opD o))] : Tm D) = ok (.lst (nine (opD o))) := by
      rw [tupV0, tupV1, tupV1, tupV2]
      unfold lstV
      simp only [seqV_cons, seqV_nil, ok_bnd]
      rfl
    rw [e9, op2_ok, addD_l (by show q.length + 9 ≤ 1000; omega), lif_some, okL]
    refine All_ok ⟨_, rfl, fun x hx => ?_⟩
    rcases List.mem_append.mp hx with hx | hx
    · exact hq x hx
    · exact nine_rows M ho x hx
end
end L2.K5
namespace L2.K5
open L2 L2.My L2.DL L2.NK NdefX PySem PySem.Spec PyProof.Rows
open PM
variable [Zd]
noncomputable section
open TL
theorem js_s {m : Type → Type} [PM m] [LM m] {y acc : Str} {r : List (m D)} (h : (acc ++ y).length ≤ sizeLine) : jsV (ok (dS y) :: r) acc = jsV r (acc ++ y) := by
  show bnd (ok (dS y)) _ = _
  rw [ok_bnd]
  exact if_pos h
theorem fmt_s {y : Str} (h : y.length ≤ sizeLine) : fmtV false (dS y) = some (dS y) := by
  unfold fmtV fmtD
  simp [h]
theorem dig : ∀ i : Nat, i < 10 → (toString (i : Int) : Str).length ≤ 10 ∧ ((i : Int).natAbs).log2 < 1920 := by decide +kernel
theorem fmt_i {i : Int} (h : 0 ≤ i ∧ i < 10) : fmtV false (dI i) = some (dS (toString i)) ∧ (toString i : Str).length ≤ 10 := by
  obtain ⟨k, rfl⟩ := Int.eq_ofNat_of_zero_le h.1
  obtain ⟨a, b⟩ := dig k (by omega)
  refine ⟨?_, a⟩
  unfold fmtV fmtD
  simp only [b, if_true]
  rfl
theorem add_len (a b : Str) : (a ++ b).length = a.length + b.length := strLen_append a b
def kl (r : Rw) : Str := if r.fam.wr = true then Str.empty ++ r.fam.s ++ " " ++ r.y ++ " " ++ toString r.i else Str.empty ++ r.fam.s ++ " " ++ r.y
theorem fam_len (f : Fam) : f.s.length ≤ 4 := by cases f <;> decide +kernel
theorem sp_len : (" " : Str).length = 1 := rfl
theorem em_len : (Str.empty : Str).length = 0 := rfl
theorem kind_line_at (Z : ZF) {r : Rw} (hn : isName r.y = true) (h : 1 ≤ r.i ∧ r.i ≤ 6) : kind_line_V (kD r) = ok (dS (kl r)) ∧ (kl r).length ≤ 100 := by
  have ly := (low_ne hn).1
  have lf := fam_len r.fam
  have big := line_big
  obtain ⟨fi, li⟩ := fmt_i (i := r.i) ⟨by omega, by omega⟩
  have l1 : (Str.empty ++ r.fam.s).length ≤ 4 := by rw [add_len, em_len]; omega
  have l2 : (Str.empty ++ r.fam.s ++ " ").length ≤ 5 := by rw [add_len, sp_len]; omega
  have l3 : (Str.empty ++ r.fam.s ++ " " ++ r.y).length ≤ 13 := by rw [add_len]; omega
  have l4 : (Str.empty ++ r.fam.s ++ " " ++ r.y ++ " ").length ≤ 14 := by rw [add_len, sp_len]; omega
  have l5 : (Str.empty ++ r.fam.s ++ " " ++ r.y ++ " " ++ toString r.i).length ≤ 24 := by rw [add_len]; omega
  unfold kind_line_V
  have c0 : (tst (op2 (isD true) (op1 (fldD Zd.K "delay") (ok (kD r))) (ok dN)) : Om Bool) = ok (!r.fam.wr) := by
    rw [op1_ok, fld_delay Z, lif_some, op2_ok, isN_dl, lif_some, tst_ok]
    cases r.fam.wr <;> rfl
  have f1 : (op1 (fmtV false) (op1 (fldD Zd.K "family") (ok (kD r))) : Om D) = ok (dS r.fam.s) := by rw [op1_ok, fld_family Z, lif_some, op1_ok, fmt_s (by omega), lif_some]
  have f2 : (op1 (fmtV false) (op1 (fldD Zd.K "name") (ok (kD r))) : Om D) = ok (dS r.y) := by rw [op1_ok, fld_name Z, lif_some, op1_ok, fmt_s (by omega), lif_some]
  rw [c0, f1, f2, ifV_ok]
  unfold kl
  cases q : r.fam.wr with
  | false =>
    rw [if_pos (show (!false) = true from rfl), js_s (by omega), js_s (by omega), js_s (by omega), if_neg (by decide)]
    exact ⟨rfl, by omega⟩
  | true =>
    have dl : r.dl = dI r.i := by unfold Rw.dl; cases z : r.fam <;> rw [z] at q <;> first | rfl | cases q
    have f3 : (op1 (fmtV false) (op1 (fldD Zd.K "delay") (ok (kD r))) : Om D) = ok (dS (toString r.i)) := by rw [op1_ok, fld_delay Z, lif_some, dl, op1_ok, fi, lif_some]
    rw [if_neg (by decide), f3, js_s (by omega), js_s (by omega), js_s (by omega), js_s (by omega), js_s (by omega), if_pos rfl]
    exact ⟨rfl, by omega⟩
theorem sum_le (k : Nat) : ∀ (l : List Str), (∀ w ∈ l, w.length ≤ k) → (l.map (·.length)).sum ≤ l.length * k
  | [], _ => Nat.zero_le _
  | x :: r, h => by
    have ih := sum_le k r fun p hp => h p (List.mem_cons_of_mem _ hp)
    have := h x List.mem_cons_self
    rw [List.map_cons, List.sum_cons, List.length_cons, Nat.add_mul]
    omega
theorem fld_late (Z : ZF) {lt wd : Int} {rs : List Rw} : fldD Zd.K "late" (mD lt wd rs) = some (dI lt) := fld_at (Z.ma "late" (by simp)) rfl
theorem str_at (Z : ZF) {lt : Int} {w : Nat} {rs : List Rw} (M : Plan lt w rs) : ∃ z, Machine___str___V (mD lt w rs) = ok (dS z) := by
  have big := line_big
  have hl := M.hi
  unfold Machine___str___V
  have e : itV (op1 (fldD Zd.K "kinds") (ok (mD lt w rs)) : Om D) = ok (rs.map kD) := by rw [op1_ok, fld_kinds Z]; rfl
  have kr : ∀ r ∈ rs, kind_line_V (kD r) = ok (dS (kl r)) ∧ (kl r).length ≤ 100 := fun r hr => kind_line_at Z (M.nm r hr) (M.gd r hr).2.2
  rw [e, lcV_all kD (fun r => dS (kl r)) (le_line (by omega)) (fun r hr => by
    rw [calV1, (kr r hr).1, lft_ok]
    rfl), okL]
  obtain ⟨f1, l1⟩ := fmt_i (i := lt) ⟨M.late.1, by have := M.late.2; omega⟩
  obtain ⟨f2, l2⟩ := fmt_i (i := (w : Int)) ⟨by omega, by have := M.wd.2; omega⟩
  have ll : ("late " : Str).length = 5 := rfl
  have lw : ("width " : Str).length = 6 := rfl
  have a1 : (Str.empty ++ "late ").length = 5 := by rw [add_len, em_len, ll]
  have a2 : (Str.empty ++ "width ").length = 6 := by rw [add_len, em_len, lw]
  have a3 : (Str.empty ++ "late " ++ toString lt).length ≤ 15 := by rw [add_len]; omega
  have a4 : (Str.empty ++ "width " ++ toString (w : Int)).length ≤ 16 := by rw [add_len]; omega
  have j1 : (jsV [(ok (dS "late ")), (op1 (fmtV false) (op1 (fldD Zd.K "late") (ok (mD lt w rs))))] Str.empty : Om D) = ok (dS (Str.empty ++ "late " ++ toString lt)) := by
    rw [op1_ok, fld_late Z, lif_some, op1_ok, f1, lif_some, js_s (by omega), js_s (by omega)]
    rfl
  have j2 : (jsV [(ok (dS "width ")), (op1 (fmtV false) (op1 (fldD Zd.K "width") (ok (mD lt w rs))))] Str.empty : Om D) = ok (dS (Str.empty ++ "width " ++ toString (w : Int))) := by
    rw [op1_ok, fld_width Z, lif_some, op1_ok, f2, lif_some, js_s (by omega), js_s (by omega)]
    rfl
  rw [j1, j2]
  have ls : (lstSV [(false, ok (dS (Str.empty ++ "late " ++ toString lt))), (false, ok (dS (Str.empty ++ "width " ++ toString (w : Int)))), (true, ok (.lst (rs.map fun r => dS (kl r))))] : Om D) = ok (.lst (((Str.empty ++ "late " ++ toString lt) :: (Str.empty ++ "width " ++ toString (w : Int)) :: rs.map kl).map dS)) := by
    unfold lstSV
    have : (seqSV [(false, ok (dS (Str.empty ++ "late " ++ toString lt))), (false, ok (dS (Str.empty ++ "width " ++ toString (w : Int)))), (true, ok (.lst (rs.map fun r => dS (kl r))))] : Om (List D)) = ok (((Str.empty ++ "late " ++ toString lt) :: (Str.empty ++ "width " ++ toString (w : Int)) :: rs.map kl).map dS) := by
      simp [seqSV, asSeq, Function.comp_def]
    rw [this, ok_bnd, if_pos (le_line (by simp; omega))]
  have fit : Fits "\n" ((Str.empty ++ "late " ++ toString lt) :: (Str.empty ++ "width " ++ toString (w : Int)) :: rs.map kl) := by
    unfold Fits
    have s := sum_le 100 ((Str.empty ++ "late " ++ toString lt) :: (Str.empty ++ "width " ++ toString (w : Int)) :: rs.map kl) (fun x hx => by
      rcases List.mem_cons.mp hx with rfl | hx
      · omega
      rcases List.mem_cons.mp hx with rfl | hx
      · omega
      obtain ⟨r, hr, rfl⟩ := List.mem_map.mp hx
      exact (kr r hr).2)
    have n1 : ("\n" : Str).length = 1 := rfl
    rw [n1]
    simp only [List.length_cons, List.length_map] at s ⊢
    omega
  rw [ls, join_at fit, okL, retV_rt]
  exact ⟨_, rfl⟩
theorem strC_at (Z : ZF) {lt : Int} {w : Nat} {rs : List Rw} (M : Plan lt w rs) : ∃ z, strC (Zd.c "Machine") (foF (ap1 Machine___str___V)) (mD lt w rs) = some (dS z) := by
  obtain ⟨z, e⟩ := str_at Z M
  refine ⟨z, ?_⟩
  unfold strC mD
  simp only [if_true]
  show resS (toF (Machine___str___V (mD lt w rs))) = _
  rw [e]
  rfl
theorem repr_b (b : Bool) : ∃ z, reprQ (dB b) = some (dS z) := repr_Sh (sh_bl (n := 5) (h := 0) (Nat.le_refl _)) (le_line (by omega)) (by omega)
theorem All_lcb {c1 c n : Nat} {P : D → Prop} {a : D → Tm D} {l : Tm (List D)} (h : Tm.All c1 (fun ds => ds.length ≤ n) l) (hn : n ≤ 900) (ha : ∀ d, Tm.All c P (a d)) : Tm.All (c1 + c * n) (fun x => ∃ xs : List D, x = .lst xs ∧ xs.length ≤ n ∧ ∀ x ∈ xs, P x) (lcL l fun d => stpL (ok true) (a d)) := by
  unfold lcL lcV
  refine All_bnd c1 (c * n) _ h ?_ (Nat.le_refl _)
  intro ds hd
  rw [if_pos (le_line (by omega))]
  refine All_bnd (c * ds.length) 0 _ (All_lcG (P := P) ds fun d hd => ?_) ?_ (by have := Nat.mul_le_mul_left c hd; omega)
  · rw [stp_ok, if_pos rfl]
    exact All_bnd c 0 _ (ha d) (fun x p => All_ok ⟨x, rfl, p⟩) (by omega)
  · rintro xs ⟨h1, h2⟩
    exact All_ok ⟨xs, rfl, by omega, h2⟩
theorem ops_of {P : Op → Prop} : ∀ {xs : List D}, (∀ x ∈ xs, ∃ o, x = opD o ∧ P o) → ∃ os : List Op, xs = os.map opD ∧ ∀ o ∈ os, P o
  | [], _ => ⟨[], rfl, fun _ h => nomatch h⟩
  | x :: xs, h => by
    obtain ⟨y, rfl, hy⟩ := h x List.mem_cons_self
    obtain ⟨ys, rfl, hys⟩ := ops_of fun z hz => h z (List.mem_cons_of_mem _ hz)
    refine ⟨y :: ys, rfl, fun z hz => ?_⟩
    rcases List.mem_cons.mp hz with rfl | hz
    · exact hy
    · exact hys z hz
theorem line_at {lt : Int} {w : Nat} {rs : List Rw} (M : Plan lt w rs) : Tm.All 34 (fun d => ∃ os : List Op, d = .tup (os.map opD) ∧ os.length ≤ 3 ∧ ∀ o ∈ os, Drawn rs o) (op1 tupD (lcL (rng1 (drw (op2 addD (op2 ixD (ok (planD lt w rs)) (ok (dI 1))) (ok (dI 1))))) fun e_2 => stpL (ok true) (penV (ap1 l_operation_V) [(ok (planD lt w rs))]))) := by
  have hw := M.wd
  have i1 : ixD (planD lt w rs) (dI 1) = some (dI (w : Int)) := rfl
  have el : (op2 addD (op2 ixD (ok (planD lt w rs)) (ok (dI 1))) (ok (dI 1)) : Tm D) = ok (dI ((w : Int) + 1)) := by rw [op2_ok, i1, lif_some, op2_ok, addD_i, lif_some]
  have h1 : Tm.All 1 (fun ds => ds.length ≤ 3) (rng1 (drw (op2 addD (op2 ixD (ok (planD lt w rs)) (ok (dI 1))) (ok (dI 1))))) := by
    refine All_rng1 (All_drw' el (by omega) (small200 (by omega))) ?_
    rintro _ ⟨i, a, b, rfl⟩
    obtain ⟨k, rfl⟩ := Int.eq_ofNat_of_zero_le a
    refine ⟨(k : Int), rfl, inR_small (by omega), ?_⟩
    rw [rngD_nat, List.length_map, List.length_range]
    omega
  have := All_lcb (c := 11) (n := 3) (P := fun d => ∃ o, d = opD o ∧ Drawn rs o) (a := fun _ => penV (ap1 l_operation_V) [(ok (planD lt w rs))]) h1 (by decide) (fun d => by rw [penV1]; exact drawn_at M)
  refine All_op1 this ?_
  rintro _ ⟨xs, rfl, l, h⟩
  obtain ⟨os, rfl, ho⟩ := ops_of h
  exact ⟨_, rfl, os, rfl, by simpa using l, ho⟩
def opC (plan_here plant : D) : D → Unit → Tm (Ot Unit Unit) := fun e_4 (q_2 : Unit) =>
    (ifL (tst (op2 (isD false) (calV (ap2 is_operation_V) [(ok plant), (ok e_4)]) (ok (dB true))))
    (bndL (ok (dB false)) fun d => ok (.rt d))
    (bndL (penV (ap2 l_bent_V) [(ok plan_here), (ok e_4)]) fun bent_here =>
    (ifL (tst (op2 (eqD false) (op1 reprQ (kwV [1, 0] (ap2 is_operation_V) [(ok bent_here), (ok plant)])) (op1 reprQ (calV (ap2 l_is_operation_V) [(ok plan_here), (ok bent_here)]))))
    (bndL (ok (dB false)) fun d => ok (.rt d))
    (ok (.nx ())))))
theorem kw2 {m : Type → Type} [PM m] [LM m] {g : D → D → Om D} {a b : D} : kwV (m := m) [1, 0] (ap2 g) [ok a, ok b] = lft (g b a) := by
  unfold kwV
  simp only [seqV_cons, seqV_nil, ok_bnd]
  rfl
theorem opC_at (Z : ZF) {lt : Int} {w : Nat} {rs : List Rw} (M : Plan lt w rs) {o : Op} (h : Drawn rs o) : Tm.All 4 (fun x => ∃ b : Unit, x = .nx b ∧ True) (opC (planD lt w rs) (mD lt w rs) (opD o) ()) := by
  unfold opC
  have bb : isD false (dB true) (dB true) = some (dB false) := rfl
  rw [calV2, is_operation_any Z M.few (okop_opD M h), opB_opD M h, lft_ok, op2_ok, bb, lif_some, tst_ok, ifV_ok, if_neg (by decide), penV2]
  refine All_bndL 4 0 _ (bent_at M h) ?_ (by decide)
  intro d hd
  obtain ⟨z, ez⟩ := repr_b (opB rs d)
  rw [kw2, is_operation_any Z M.few hd, lft_ok, calV2, l_is_operation_any M.few hd, lft_ok, op1_ok, ez, lif_some, tst_ne, ifV_ok, if_neg (by decide)]
  exact All_ok ⟨(), rfl, trivial⟩
def rowC (plan_here plant : D) : D → Unit → Tm (Ot Unit Unit) := fun e_3 (q_3 : Unit) =>
    (ifL (tst (op2 (eqD false) (op1 reprQ (calV (ap2 is_row_V) [(ok plant), (ok e_3)])) (op1 reprQ (calV (ap2 l_is_row_V) [(ok plan_here), (ok e_3)]))))
    (bndL (ok (dB false)) fun d => ok (.rt d))
    (ok (.nx ())))
theorem rowC_at (Z : ZF) {lt : Int} {w : Nat} {rs : List Rw} (M : Plan lt w rs) {d : D} (h : OkRow d) : rowC (planD lt w rs) (mD lt w rs) d () = ok (.nx ()) := by
  unfold rowC
  obtain ⟨z, ez⟩ := repr_b (rowB rs w d)
  rw [calV2, is_row_any Z M.toMach h, lft_ok, calV2, l_is_row_any M.toMach h, lft_ok, op1_ok, ez, lif_some, tst_ne, ifV_ok, if_neg (by decide)]
theorem rowC_loop (Z : ZF) {lt : Int} {w : Nat} {rs : List Rw} (M : Plan lt w rs) : ∀ l : List D, (∀ d ∈ l, OkRow d) → (forL (rowC (planD lt w rs) (mD lt w rs)) l () : Tm (Ot Unit Unit)) = ok (.nx ())
  | [], _ => rfl
  | d :: l, h => by rw [forV_cons, rowC_at Z M (h d List.mem_cons_self), okL, turnV_nx, rowC_loop Z M l fun x hx => h x (List.mem_cons_of_mem _ hx)]
def lapB (plan_here plant : D) : D → Unit → Tm (Ot Unit Unit) := fun e_1 (q_1 : Unit) =>
    (bndL (op1 tupD (lcL (rng1 (drw (op2 addD (op2 ixD (ok plan_here) (ok (dI 1))) (ok (dI 1))))) fun e_2 => stpL (ok true) (penV (ap1 l_operation_V) [(ok plan_here)]))) fun line_so =>
    (bndL (itV (ok line_so)) fun ds => thL (forL (opC plan_here plant) ds ()) fun (q_2 : Unit) =>
    (bndL (itV (penV (ap2 l_things_V) [(ok plan_here), (ok line_so)])) fun ds => thL (forL (rowC plan_here plant) ds ()) fun (q_3 : Unit) =>
    (ok (.nx ())))))
theorem lapB_at (Z : ZF) {lt : Int} {w : Nat} {rs : List Rw} (M : Plan lt w rs) (e : D) : Tm.All 63 (fun x => ∃ b : Unit, x = .nx b ∧ True) (lapB (planD lt w rs) (mD lt w rs) e ()) := by
  unfold lapB
  refine All_bndL 34 29 _ (line_at M) ?_ (by decide)
  rintro _ ⟨os, rfl, l, ho⟩
  rw [itV_ok, asIt_t, lif_some, okL]
  refine All_thL (I := fun _ => True) 12 17 ?_ ?_ (by decide)
  · refine All_imp (All_for opD 4 (fun (r : List Op) (_ : Unit) => ∀ o ∈ r, Drawn rs o) _ (fun x r b i => ?_) os () ho) (by omega) ?_
    · refine All_to (opC_at Z M (i x List.mem_cons_self)) ?_
      rintro _ ⟨b', rfl, _⟩
      exact ⟨b', rfl, fun o h => i o (List.mem_cons_of_mem _ h)⟩
    · rintro _ ⟨b', rfl, _⟩
      exact ⟨b', rfl, trivial⟩
  rintro _ _
  refine All_bndL 17 0 (fun xs => ∀ x ∈ xs, OkRow x) ?_ ?_ (by decide)
  · rw [penV2]
    unfold itV
    refine All_bnd 17 0 _ (things_at M ho (by omega)) ?_ (by decide)
    rintro _ ⟨xs, rfl, hx⟩
    rw [asIt_l, lif_some]
    exact All_ok hx
  intro xs hx
  rw [rowC_loop Z M xs hx, thV_ok, thK_nx]
  exact All_ok ⟨(), rfl, trivial⟩
def lawB : D → Unit → Tm (Ot Unit Unit) := fun e (q : Unit) =>
    (bndL (penV (ap0 l_plan_V) []) fun plan_here =>
    (bndL (calV (ap1 l_machine_V) [(ok plan_here)]) fun plant =>
    (bndL (op1 (strC (Zd.c "Machine") (foF (ap1 Machine___str___V))) (ok plant)) fun shown =>
    (bndL (rng1 (ok (dI 6))) fun ds => thL (forL (lapB plan_here plant) ds ()) fun (q_1 : Unit) =>
    (ifL (orL (tst (op2 (isD false) (kwV [1, 0] (ap2 is_row_V) [(tupV []), (ok plant)]) (ok (dB true)))) (tst (op2 (isD false) (calV (ap2 is_operation_V) [(ok plant), (tupV [])]) (ok (dB false)))))
    (bndL (ok (dB false)) fun d => ok (.rt d))
    (ifL (tst (op2 (eqD false) (op1 (strC (Zd.c "Machine") (foF (ap1 Machine___str___V))) (ok plant)) (ok shown)))
    (bndL (ok (dB false)) fun d => ok (.rt d))
    (ok (.nx ()))))))))
theorem lawB_at (Z : ZF) (e : D) : Tm.All 386 (fun x => ∃ b : Unit, x = .nx b ∧ True) (lawB e ()) := by
  unfold lawB
  rw [penV0]
  refine All_bndL 8 378 _ plan_at ?_ (by decide)
  rintro _ ⟨lt, w, rs, rfl, M⟩
  obtain ⟨z, ez⟩ := strC_at Z M
  rw [calV1, l_machine_at Z M, lft_ok, okL, op1_ok, ez, lif_some, okL]
  have er : rng1 (m := Tm) (ok (dI 6)) = ok ((List.range 6).map fun (i : Nat) => dI (i : Int)) := rfl
  rw [er, okL]
  refine All_thL (I := fun _ => True) 378 0 ?_ ?_ (by decide)
  · exact All_imp (All_for (fun (i : Nat) => dI (i : Int)) 63 (fun _ _ => True) _ (fun x r _ _ => lapB_at Z M _) (List.range 6) () trivial) (by simp) fun _ p => p
  rintro _ _
  have r0 : rowB rs w (.tup []) = true := by
    show (decide (0 ≤ w) && (([] : List D).all (opB rs) && (decide ((([] : List D).filter jmp).length ≤ 1) && (ddT (([] : List D).filterMap (tnd rs)) == (([] : List D).filterMap (tnd rs)).length)))) = true
    rw [decide_eq_true (Nat.zero_le w)]
    rfl
  have bt : isD false (dB true) (dB true) = some (dB false) := rfl
  have bf : isD false (dB false) (dB false) = some (dB false) := rfl
  have k1 := is_row_any Z M.toMach (lt := lt) (d := .tup []) (row_of fun x hx => nomatch hx)
  have k2 := is_operation_any Z (lt := lt) (wd := (w : Int)) M.few (d := .tup []) (okn (by simp))
  have k3 : opB rs (.tup []) = false := rfl
  rw [tupV0, kw2, k1, r0, lft_ok, op2_ok, bt, lif_some, tst_ok, orB_ok, if_neg (by decide), calV2, k2, k3, lft_ok, op2_ok, bf, lif_some, tst_ok, ifV_ok, if_neg (by decide), tst_ne, ifV_ok, if_neg (by decide)]
  exact All_ok ⟨(), rfl, trivial⟩
theorem law_at (Z : ZF) : Tm.All 1544 (fun d => d = dB true) law_V := by
  unfold law_V
  have er : rng1 (m := Tm) (ok (dI 4)) = ok ((List.range 4).map fun (i : Nat) => dI (i : Int)) := rfl
  rw [er, okL]
  refine All_retV (All_thL (I := fun _ => True) 1544 0 ?_ ?_ (by decide))
  · change Tm.All 1544 _ (forL lawB _ ())
    exact All_imp (All_for (fun (i : Nat) => dI (i : Int)) 386 (fun _ _ => True) _ (fun x r _ _ => lawB_at Z _) (List.range 4) () trivial) (by simp) fun _ p => p
  · rintro _ _
    rw [okL]
    exact All_ok rfl
theorem law_wp (Z : ZF) : Tm.wp law_V 0 (fun d _ => d = dB true) fun _ _ => False := All_wp (law_at Z) (by decide) fun d h => h
end
end L2.K5
namespace L2.K5
open L2 L2.My L2.DL NdefX PySem PySem.Spec PyProof.Rows
open PM
variable [Zd]
theorem zf_mk (clMake : Cls Zd.K (Zd.c "Make"))
  (naMake_name : W.findIn Zd.K (.ref (Zd.c "Make")) "name" = some none)
  (naMake_delay : W.findIn Zd.K (.ref (Zd.c "Make")) "delay" = some none)
  (naMake_family : W.findIn Zd.K (.ref (Zd.c "Make")) "family" = some none)
  (ciMake : W.findIn Zd.K (.ref (Zd.c "Make")) "__class__" = some (some (.builtin "object.__class__")))
  (obMake : W.mroIn Zd.K (Zd.c "Make") (.type "object") = some true)
  (kkMake : W.kitOne Zd.K (.ref (Zd.c "Make")) (.ref (Zd.c "Kind")) = some true)
  (clCopy : Cls Zd.K (Zd.c "Copy"))
  (naCopy_name : W.findIn Zd.K (.ref (Zd.c "Copy")) "name" = some none)
  (naCopy_delay : W.findIn Zd.K (.ref (Zd.c "Copy")) "delay" = some none)
  (naCopy_family : W.findIn Zd.K (.ref (Zd.c "Copy")) "family" = some none)
  (ciCopy : W.findIn Zd.K (.ref (Zd.c "Copy")) "__class__" = some (some (.builtin "object.__class__")))
  (obCopy : W.mroIn Zd.K (Zd.c "Copy") (.type "object") = some true)
  (kkCopy : W.kitOne Zd.K (.ref (Zd.c "Copy")) (.ref (Zd.c "Kind")) = some true)
  (clGive : Cls Zd.K (Zd.c "Give"))
  (naGive_name : W.findIn Zd.K (.ref (Zd.c "Give")) "name" = some none)
  (naGive_delay : W.findIn Zd.K (.ref (Zd.c "Give")) "delay" = some none)
  (naGive_family : W.findIn Zd.K (.ref (Zd.c "Give")) "family" = some none)
  (ciGive : W.findIn Zd.K (.ref (Zd.c "Give")) "__class__" = some (some (.builtin "object.__class__")))
  (obGive : W.mroIn Zd.K (Zd.c "Give") (.type "object") = some true)
  (kkGive : W.kitOne Zd.K (.ref (Zd.c "Give")) (.ref (Zd.c "Kind")) = some true)
  (clJump : Cls Zd.K (Zd.c "Jump"))
  (naJump_name : W.findIn Zd.K (.ref (Zd.c "Jump")) "name" = some none)
  (naJump_delay : W.findIn Zd.K (.ref (Zd.c "Jump")) "delay" = some none)
  (naJump_family : W.findIn Zd.K (.ref (Zd.c "Jump")) "family" = some none)
  (ciJump : W.findIn Zd.K (.ref (Zd.c "Jump")) "__class__" = some (some (.builtin "object.__class__")))
  (obJump : W.mroIn Zd.K (Zd.c "Jump") (.type "object") = some true)
  (kkJump : W.kitOne Zd.K (.ref (Zd.c "Jump")) (.ref (Zd.c "Kind")) = some true)
  (clMachine : Cls Zd.K (Zd.c "Machine"))
  (naMachine_kinds : W.findIn Zd.K (.ref (Zd.c "Machine")) "kinds" = some none)
  (naMachine_late : W.findIn Zd.K (.ref (Zd.c "Machine")) "late" = some none)
  (naMachine_width : W.findIn Zd.K (.ref (Zd.c "Machine")) "width" = some none) : ZF := by
  refine ⟨?_, ?_, ?_, ?_⟩
  · intro x hx f hf
    simp only [kcs, List.mem_cons, List.not_mem_nil, or_false] at hx hf
    rcases hx with rfl | rfl | rfl | rfl <;> rcases hf with rfl | rfl | rfl
    · exact ⟨clMake, naMake_name⟩
    · exact ⟨clMake, naMake_delay⟩
    · exact ⟨clMake, naMake_family⟩
    · exact ⟨clCopy, naCopy_name⟩
    · exact ⟨clCopy, naCopy_delay⟩
    · exact ⟨clCopy, naCopy_family⟩
    · exact ⟨clGive, naGive_name⟩
    · exact ⟨clGive, naGive_delay⟩
    · exact ⟨clGive, naGive_family⟩
    · exact ⟨clJump, naJump_name⟩
    · exact ⟨clJump, naJump_delay⟩
    · exact ⟨clJump, naJump_family⟩
  · intro f hf
    simp only [List.mem_cons, List.not_mem_nil, or_false] at hf
    rcases hf with rfl | rfl | rfl
    · exact ⟨clMachine, naMachine_kinds⟩
    · exact ⟨clMachine, naMachine_late⟩
    · exact ⟨clMachine, naMachine_width⟩
  · intro x hx
    simp only [kcs, List.mem_cons, List.not_mem_nil, or_false] at hx
    rcases hx with rfl | rfl | rfl | rfl
    · exact ⟨clMake, ciMake, obMake⟩
    · exact ⟨clCopy, ciCopy, obCopy⟩
    · exact ⟨clGive, ciGive, obGive⟩
    · exact ⟨clJump, ciJump, obJump⟩
  · intro x hx
    simp only [kcs, List.mem_cons, List.not_mem_nil, or_false] at hx
    rcases hx with rfl | rfl | rfl | rfl
    · exact kkMake
    · exact kkCopy
    · exact kkGive
    · exact kkJump
end L2.K5
namespace L2.K5
open L2 L2.My L2.DL L2.HK NdefX PySem PySem.Spec PyProof.Rows
open PM
open He (ga ma)
def file : Str := PySem.Challenge.rw_latelands_k05_operations_and_rows.prog.main.file
theorem file_ok : ((PySem.Challenge.rw_latelands_k05_operations_and_rows.prog.main.file : Str) == file) = true := by decide +kernel
theorem super_ok : (PySem.Challenge.rw_latelands_k05_operations_and_rows.prog.main.scope.names.lookup ("super" : Str)).isSome = false := by kernel_rfl
theorem all_in [Zd] {w : World} {K : W.Frag} {h : Heap} {mg : Str → Option Value} {fa : Addr} (eK : Zd.K = K)
    {aMake aCopy aGive aJump aKind aMachine aInvalidMachine aNoName aSOURCES aWRITING_SORTS : Addr} (eMake : Zd.c "Make" = aMake) (eCopy : Zd.c "Copy" = aCopy) (eGive : Zd.c "Give" = aGive) (eJump : Zd.c "Jump" = aJump) (eKind : Zd.c "Kind" = aKind) (eMachine : Zd.c "Machine" = aMachine) (eInvalidMachine : Zd.c "InvalidMachine" = aInvalidMachine) (eNoName : Zd.c "NoName" = aNoName) (eSOURCES : Zd.c "SOURCES" = aSOURCES) (eWRITING_SORTS : Zd.c "WRITING_SORTS" = aWRITING_SORTS)
    (X : K.In h) (G : h.Ns mainGlobals mg) (hfa : mg "law" = some (.ref fa))
    (clMake : Cls K aMake)
    (naMake_name : W.findIn K (.ref aMake) "name" = some none)
    (naMake_delay : W.findIn K (.ref aMake) "delay" = some none)
    (naMake_family : W.findIn K (.ref aMake) "family" = some none)
    (ciMake : W.findIn K (.ref aMake) "__class__" = some (some (.builtin "object.__class__")))
    (obMake : W.mroIn K aMake (.type "object") = some true)
    (kkMake : W.kitOne K (.ref aMake) (.ref aKind) = some true)
    (clCopy : Cls K aCopy)
    (naCopy_name : W.findIn K (.ref aCopy) "name" = some none)
    (naCopy_delay : W.findIn K (.ref aCopy) "delay" = some none)
    (naCopy_family : W.findIn K (.ref aCopy) "family" = some none)
    (ciCopy : W.findIn K (.ref aCopy) "__class__" = some (some (.builtin "object.__class__")))
    (obCopy : W.mroIn K aCopy (.type "object") = some true)
    (kkCopy : W.kitOne K (.ref aCopy) (.ref aKind) = some true)
    (clGive : Cls K aGive)
    (naGive_name : W.findIn K (.ref aGive) "name" = some none)
    (naGive_delay : W.findIn K (.ref aGive) "delay" = some none)
    (naGive_family : W.findIn K (.ref aGive) "family" = some none)
    (ciGive : W.findIn K (.ref aGive) "__class__" = some (some (.builtin "object.__class__")))
    (obGive : W.mroIn K aGive (.type "object") = some true)
    (kkGive : W.kitOne K (.ref aGive) (.ref aKind) = some true)
    (clJump : Cls K aJump)
    (naJump_name : W.findIn K (.ref aJump) "name" = some none)
    (naJump_delay : W.findIn K (.ref aJump) "delay" = some none)
    (naJump_family : W.findIn K (.ref aJump) "family" = some none)
    (ciJump : W.findIn K (.ref aJump) "__class__" = some (some (.builtin "object.__class__")))
    (obJump : W.mroIn K aJump (.type "object") = some true)
    (kkJump : W.kitOne K (.ref aJump) (.ref aKind) = some true)
    (clMachine : Cls K aMachine)
    (naMachine_kinds : W.findIn K (.ref aMachine) "kinds" = some none)
    (naMachine_late : W.findIn K (.ref aMachine) "late" = some none)
    (naMachine_width : W.findIn K (.ref aMachine) "width" = some none)
    (d_within : DefAt K "within" s_within)
    (G0 : ExA K)
    (z_isinstance : W.nsIn K mainGlobals "isinstance" = some none)
    (z_bool : W.nsIn K mainGlobals "bool" = some none)
    (z_int : W.nsIn K mainGlobals "int" = some none)
    (d_is_name : DefAt K "is_name" s_is_name)
    (z_str : W.nsIn K mainGlobals "str" = some none)
    (z_len : W.nsIn K mainGlobals "len" = some none)
    (knLONGEST_NAME : ∃ u, W.nsIn K mainGlobals "LONGEST_NAME" = some (some u) ∧ RelV (.int 8) u)
    (z_all : W.nsIn K mainGlobals "all" = some none)
    (d_check_delay : DefAt K "check_delay" s_check_delay)
    (knLONGEST_DELAY : ∃ u, W.nsIn K mainGlobals "LONGEST_DELAY" = some (some u) ∧ RelV (.int 6) u)
    (n_InvalidMachine : W.nsIn K mainGlobals "InvalidMachine" = some (some (.ref aInvalidMachine)))
    (xInvalidMachine : ExK K aInvalidMachine)
    (hIInvalidMachine : MetAt K aInvalidMachine "__init__" "InvalidMachine.__init__" (inClass (top 2) 0))
    (tyInvalidMachine : ∃ f, W.findIn K (.ref aInvalidMachine) "__init__" = some (some (.ref f)) ∧ W.typeIn K (.ref f) = some (.type "function"))
    (tkInvalidMachine_reason : W.takerIn K aInvalidMachine "reason" = some none)
    (hMKind___init__ : MetAt K aKind "__init__" "Kind.__init__" s_Kind___init__)
    (knBARRED_NAME : ∃ u, W.nsIn K mainGlobals "BARRED_NAME" = some (some u) ∧ RelV (.str "alike") u)
    (sMMake___init__ : SupAt PySem.Challenge.rw_latelands_k05_operations_and_rows.prog K aMake "__init__" "Make.__init__" s_Make___init__)
    (z_super : W.nsIn K mainGlobals "super" = some none)
    (hop : W.nsIn K cStatics "thirdparty.any" = some none)
    (m1Make : W.mroIn K aMake (.ref aMake) = some true)
    (upMake : W.ks_superIn K aMake aMake "__init__" = W.findIn K (.ref aKind) "__init__")
    (tuKind : ∃ f, W.findIn K (.ref aKind) "__init__" = some (some (.ref f)) ∧ W.typeIn K (.ref f) = some (.type "function") ∧ W.fnIn K f = true)
    (sMCopy___init__ : SupAt PySem.Challenge.rw_latelands_k05_operations_and_rows.prog K aCopy "__init__" "Copy.__init__" s_Copy___init__)
    (m1Copy : W.mroIn K aCopy (.ref aCopy) = some true)
    (upCopy : W.ks_superIn K aCopy aCopy "__init__" = W.findIn K (.ref aKind) "__init__")
    (sMGive___init__ : SupAt PySem.Challenge.rw_latelands_k05_operations_and_rows.prog K aGive "__init__" "Give.__init__" s_Give___init__)
    (m1Give : W.mroIn K aGive (.ref aGive) = some true)
    (upGive : W.ks_superIn K aGive aGive "__init__" = W.findIn K (.ref aKind) "__init__")
    (sMJump___init__ : SupAt PySem.Challenge.rw_latelands_k05_operations_and_rows.prog K aJump "__init__" "Jump.__init__" s_Jump___init__)
    (m1Jump : W.mroIn K aJump (.ref aJump) = some true)
    (upJump : W.ks_superIn K aJump aJump "__init__" = W.findIn K (.ref aKind) "__init__")
    (d_check_late : DefAt K "check_late" s_check_late)
    (knMOST_LATE : ∃ u, W.nsIn K mainGlobals "MOST_LATE" = some (some u) ∧ RelV (.int 2) u)
    (d_check_width : DefAt K "check_width" s_check_width)
    (knMOST_WIDTH : ∃ u, W.nsIn K mainGlobals "MOST_WIDTH" = some (some u) ∧ RelV (.int 3) u)
    (d_are_kinds : DefAt K "are_kinds" s_are_kinds)
    (n_Kind : W.nsIn K mainGlobals "Kind" = some (some (.ref aKind)))
    (d_kind_line : DefAt K "kind_line" s_kind_line)
    (hMMachine_kind : MetAt K aMachine "kind" "Machine.kind" s_Machine_kind)
    (n_NoName : W.nsIn K mainGlobals "NoName" = some (some (.ref aNoName)))
    (xNoName : ExK K aNoName)
    (hINoName : MetAt K aNoName "__init__" "NoName.__init__" (inClass (top 4) 0))
    (tyNoName : ∃ f, W.findIn K (.ref aNoName) "__init__" = some (some (.ref f)) ∧ W.typeIn K (.ref f) = some (.type "function"))
    (tkNoName_name : W.takerIn K aNoName "name" = some none)
    (hMMachine___init__ : MetAt K aMachine "__init__" "Machine.__init__" s_Machine___init__)
    (n_Machine : W.nsIn K mainGlobals "Machine" = some (some (.ref aMachine)))
    (cvMachine_MOST_KINDS : ∃ (mc u : Value), ClX.CRead K aMachine mc ∧ ClX.CVal K aMachine mc "MOST_KINDS" (.int 12) u)
    (mMMachine_of : ClmAt K aMachine "of" "Machine.of" s_Machine_of)
    (z_tuple : W.nsIn K mainGlobals "tuple" = some none)
    (z_list : W.nsIn K mainGlobals "list" = some none)
    (mkMachine : W.makesIn K aMachine = true)
    (kpMachine : W.keepIn K (.ref aMachine) = true)
    (hMMachine___contains__ : MetAt K aMachine "__contains__" "Machine.__contains__" s_Machine___contains__)
    (hMMachine___str__ : MetAt K aMachine "__str__" "Machine.__str__" s_Machine___str__)
    (d_landing_of : DefAt K "landing_of" s_landing_of)
    (d_are_sources : DefAt K "are_sources" s_are_sources)
    (n_SOURCES : W.nsIn K mainGlobals "SOURCES" = some (some (.ref aSOURCES)))
    (ktSOURCES0 : KtAt K w.params aSOURCES "make" [.int 0, .int 2])
    (ktSOURCES1 : KtAt K w.params aSOURCES "copy" [.int 1, .int 1])
    (ktSOURCES2 : KtAt K w.params aSOURCES "give" [.int 1, .int 2])
    (ktSOURCES3 : KtAt K w.params aSOURCES "jump" [.int 0, .int 1])
    (d_is_operation : DefAt K "is_operation" s_is_operation)
    (n_WRITING_SORTS : W.nsIn K mainGlobals "WRITING_SORTS" = some (some (.ref aWRITING_SORTS)))
    (kdWRITING_SORTS : KdAt K aWRITING_SORTS [.str "make", .str "copy"])
    (knMOST_GOAL : ∃ u, W.nsIn K mainGlobals "MOST_GOAL" = some (some u) ∧ RelV (.int 40) u)
    (d_is_row : DefAt K "is_row" s_is_row)
    (z_set : W.nsIn K mainGlobals "set" = some none)
    (d__law_pick : DefAt K "_law_pick" s_l_pick)
    (z_abs : W.nsIn K mainGlobals "abs" = some none)
    (d__law_draw : DefAt K "_law_draw" sDraw)
    (d__law_plan : DefAt K "_law_plan" s_l_plan)
    (d__law_machine : DefAt K "_law_machine" s_l_machine)
    (mkMake : W.makesIn K aMake = true)
    (kpMake : W.keepIn K (.ref aMake) = true)
    (n_Make : W.nsIn K mainGlobals "Make" = some (some (.ref aMake)))
    (mkCopy : W.makesIn K aCopy = true)
    (kpCopy : W.keepIn K (.ref aCopy) = true)
    (n_Copy : W.nsIn K mainGlobals "Copy" = some (some (.ref aCopy)))
    (mkGive : W.makesIn K aGive = true)
    (kpGive : W.keepIn K (.ref aGive) = true)
    (n_Give : W.nsIn K mainGlobals "Give" = some (some (.ref aGive)))
    (mkJump : W.makesIn K aJump = true)
    (kpJump : W.keepIn K (.ref aJump) = true)
    (n_Jump : W.nsIn K mainGlobals "Jump" = some (some (.ref aJump)))
    (d__law_operation : DefAt K "_law_operation" s_l_operation)
    (z_range : W.nsIn K mainGlobals "range" = some none)
    (d__law_is_name : DefAt K "_law_is_name" s_l_is_name)
    (d__law_kind : DefAt K "_law_kind" s_l_kind)
    (d__law_is_operation : DefAt K "_law_is_operation" s_l_is_operation)
    (d__law_is_row : DefAt K "_law_is_row" s_l_is_row)
    (d__law_bent : DefAt K "_law_bent" s_l_bent)
    (d__law_things : DefAt K "_law_things" s_l_things)
    (d_law : DefAt K "law" s_law)
    (d__law_pen : DefAt K "_law_pen" sPen)
    (z_repr : W.nsIn K mainGlobals "repr" = some none) :
    ∃ fd : FuncData, (∀ (s : Shared) (v : Value), BindsTo s fd ⟨[v], []⟩ [("_law_script", v)]) ∧ ∀ base : Heap, K.In base → base.Ns mainGlobals mg → (∃ m, base.Ns sysModules m) → FnG (PySem.Challenge.rw_latelands_k05_operations_and_rows).prog w K mg base CX0 8 fa fd ["_law_script"] (L2.DL.spLaw K) := by
  subst eK
  subst eMake
  subst eCopy
  subst eGive
  subst eJump
  subst eKind
  subst eMachine
  subst eInvalidMachine
  subst eNoName
  subst eSOURCES
  subst eWRITING_SORTS
  obtain ⟨fwithin, ocwithin, kVwithin, dcwithin, pmwithin, cdwithin, ctwithin, odwithin, anwithin, slwithin, awithin, lwithin, cwithin, kwithin⟩ := d_within
  have Fwithin := fun_mk (st := s_within) lwithin cwithin kwithin
  have bwithin := Fwithin.binds (ps := ["value", "low", "high"]) fun _ _ _ _ _ _ us hl => match us, hl with | [_, _, _], _ => rfl
  have m_isinstance := W.mg_none_of X G z_isinstance
  have m_bool := W.mg_none_of X G z_bool
  have m_int := W.mg_none_of X G z_int
  obtain ⟨fis_name, ocis_name, kVis_name, dcis_name, pmis_name, cdis_name, ctis_name, odis_name, anis_name, slis_name, ais_name, lis_name, cis_name, kis_name⟩ := d_is_name
  have Fis_name := fun_mk (st := s_is_name) lis_name cis_name kis_name
  have bis_name := Fis_name.binds (ps := ["value"]) fun _ _ _ _ _ _ us hl => match us, hl with | [_], _ => rfl
  have m_str := W.mg_none_of X G z_str
  have m_len := W.mg_none_of X G z_len
  have m_all := W.mg_none_of X G z_all
  obtain ⟨fcheck_delay, occheck_delay, kVcheck_delay, dccheck_delay, pmcheck_delay, cdcheck_delay, ctcheck_delay, odcheck_delay, ancheck_delay, slcheck_delay, acheck_delay, lcheck_delay, ccheck_delay, kcheck_delay⟩ := d_check_delay
  have Fcheck_delay := fun_mk (st := s_check_delay) lcheck_delay ccheck_delay kcheck_delay
  have bcheck_delay := Fcheck_delay.binds (ps := ["delay"]) fun _ _ _ _ _ _ us hl => match us, hl with | [_], _ => rfl
  have g_InvalidMachine := W.mg_of X G n_InvalidMachine
  obtain ⟨fIInvalidMachine, ocIInvalidMachine, kVIInvalidMachine, dcIInvalidMachine, pmIInvalidMachine, cdIInvalidMachine, ctIInvalidMachine, odIInvalidMachine, anIInvalidMachine, slIInvalidMachine, aIInvalidMachine, jIInvalidMachine, lIInvalidMachine, cIInvalidMachine, kIInvalidMachine⟩ := hIInvalidMachine
  have FIInvalidMachine := fun_mk (st := (inClass (top 2) 0)) lIInvalidMachine cIInvalidMachine kIInvalidMachine
  have bIInvalidMachine := FIInvalidMachine.binds (ps := ["self", "reason"]) fun _ _ _ _ _ _ us hl => match us, hl with | [_, _], _ => rfl
  obtain ⟨ftInvalidMachine, etInvalidMachine, ty3InvalidMachine⟩ := tyInvalidMachine
  cases etInvalidMachine.symm.trans aIInvalidMachine
  obtain ⟨fMKind___init__, ocMKind___init__, kVMKind___init__, dcMKind___init__, pmMKind___init__, cdMKind___init__, ctMKind___init__, odMKind___init__, anMKind___init__, slMKind___init__, aMKind___init__, jMKind___init__, lMKind___init__, cMKind___init__, kMKind___init__⟩ := hMKind___init__
  have FMKind___init__ := fun_mk (st := s_Kind___init__) lMKind___init__ cMKind___init__ kMKind___init__
  have bMKind___init__ := FMKind___init__.binds (ps := ["self", "name"]) fun _ _ _ _ _ _ us hl => match us, hl with | [_, _], _ => rfl
  obtain ⟨fMMake___init__, coMMake___init__, ccMMake___init__, kVMMake___init__, dcMMake___init__, pmMMake___init__, ctMMake___init__, anMMake___init__, aMMake___init__, jMMake___init__, FMMake___init__⟩ := sMMake___init__
  have bMMake___init__ : Binds Zd.K (supFn "__init__" "Make.__init__" s_Make___init__ kVMMake___init__ dcMMake___init__ pmMMake___init__ anMMake___init__ (.ref coMMake___init__) ctMMake___init__ ccMMake___init__) ["self", "name", "delay"] [] := Binds.all fun us hl => match us, hl with | [_, _, _], _ => rfl
  have m_super := W.mg_none_of X G z_super
  obtain ⟨fMCopy___init__, coMCopy___init__, ccMCopy___init__, kVMCopy___init__, dcMCopy___init__, pmMCopy___init__, ctMCopy___init__, anMCopy___init__, aMCopy___init__, jMCopy___init__, FMCopy___init__⟩ := sMCopy___init__
  have bMCopy___init__ : Binds Zd.K (supFn "__init__" "Copy.__init__" s_Copy___init__ kVMCopy___init__ dcMCopy___init__ pmMCopy___init__ anMCopy___init__ (.ref coMCopy___init__) ctMCopy___init__ ccMCopy___init__) ["self", "name", "delay"] [] := Binds.all fun us hl => match us, hl with | [_, _, _], _ => rfl
  obtain ⟨fMGive___init__, coMGive___init__, ccMGive___init__, kVMGive___init__, dcMGive___init__, pmMGive___init__, ctMGive___init__, anMGive___init__, aMGive___init__, jMGive___init__, FMGive___init__⟩ := sMGive___init__
  have bMGive___init__ : Binds Zd.K (supFn "__init__" "Give.__init__" s_Give___init__ kVMGive___init__ dcMGive___init__ pmMGive___init__ anMGive___init__ (.ref coMGive___init__) ctMGive___init__ ccMGive___init__) ["self", "name"] [] := Binds.all fun us hl => match us, hl with | [_, _], _ => rfl
  obtain ⟨fMJump___init__, coMJump___init__, ccMJump___init__, kVMJump___init__, dcMJump___init__, pmMJump___init__, ctMJump___init__, anMJump___init__, aMJump___init__, jMJump___init__, FMJump___init__⟩ := sMJump___init__
  have bMJump___init__ : Binds Zd.K (supFn "__init__" "Jump.__init__" s_Jump___init__ kVMJump___init__ dcMJump___init__ pmMJump___init__ anMJump___init__ (.ref coMJump___init__) ctMJump___init__ ccMJump___init__) ["self", "name"] [] := Binds.all fun us hl => match us, hl with | [_, _], _ => rfl
  obtain ⟨fcheck_late, occheck_late, kVcheck_late, dccheck_late, pmcheck_late, cdcheck_late, ctcheck_late, odcheck_late, ancheck_late, slcheck_late, acheck_late, lcheck_late, ccheck_late, kcheck_late⟩ := d_check_late
  have Fcheck_late := fun_mk (st := s_check_late) lcheck_late ccheck_late kcheck_late
  have bcheck_late := Fcheck_late.binds (ps := ["late"]) fun _ _ _ _ _ _ us hl => match us, hl with | [_], _ => rfl
  obtain ⟨fcheck_width, occheck_width, kVcheck_width, dccheck_width, pmcheck_width, cdcheck_width, ctcheck_width, odcheck_width, ancheck_width, slcheck_width, acheck_width, lcheck_width, ccheck_width, kcheck_width⟩ := d_check_width
  have Fcheck_width := fun_mk (st := s_check_width) lcheck_width ccheck_width kcheck_width
  have bcheck_width := Fcheck_width.binds (ps := ["width"]) fun _ _ _ _ _ _ us hl => match us, hl with | [_], _ => rfl
  obtain ⟨fare_kinds, ocare_kinds, kVare_kinds, dcare_kinds, pmare_kinds, cdare_kinds, ctare_kinds, odare_kinds, anare_kinds, slare_kinds, aare_kinds, lare_kinds, care_kinds, kare_kinds⟩ := d_are_kinds
  have Fare_kinds := fun_mk (st := s_are_kinds) lare_kinds care_kinds kare_kinds
  have bare_kinds := Fare_kinds.binds (ps := ["values"]) fun _ _ _ _ _ _ us hl => match us, hl with | [_], _ => rfl
  have g_Kind := W.mg_of X G n_Kind
  obtain ⟨fkind_line, ockind_line, kVkind_line, dckind_line, pmkind_line, cdkind_line, ctkind_line, odkind_line, ankind_line, slkind_line, akind_line, lkind_line, ckind_line, kkind_line⟩ := d_kind_line
  have Fkind_line := fun_mk (st := s_kind_line) lkind_line ckind_line kkind_line
  have bkind_line := Fkind_line.binds (ps := ["kind"]) fun _ _ _ _ _ _ us hl => match us, hl with | [_], _ => rfl
  obtain ⟨fMMachine_kind, ocMMachine_kind, kVMMachine_kind, dcMMachine_kind, pmMMachine_kind, cdMMachine_kind, ctMMachine_kind, odMMachine_kind, anMMachine_kind, slMMachine_kind, aMMachine_kind, jMMachine_kind, lMMachine_kind, cMMachine_kind, kMMachine_kind⟩ := hMMachine_kind
  have FMMachine_kind := fun_mk (st := s_Machine_kind) lMMachine_kind cMMachine_kind kMMachine_kind
  have bMMachine_kind := FMMachine_kind.binds (ps := ["self", "name"]) fun _ _ _ _ _ _ us hl => match us, hl with | [_, _], _ => rfl
  have g_NoName := W.mg_of X G n_NoName
  obtain ⟨fINoName, ocINoName, kVINoName, dcINoName, pmINoName, cdINoName, ctINoName, odINoName, anINoName, slINoName, aINoName, jINoName, lINoName, cINoName, kINoName⟩ := hINoName
  have FINoName := fun_mk (st := (inClass (top 4) 0)) lINoName cINoName kINoName
  have bINoName := FINoName.binds (ps := ["self", "name"]) fun _ _ _ _ _ _ us hl => match us, hl with | [_, _], _ => rfl
  obtain ⟨ftNoName, etNoName, ty3NoName⟩ := tyNoName
  cases etNoName.symm.trans aINoName
  obtain ⟨fMMachine___init__, ocMMachine___init__, kVMMachine___init__, dcMMachine___init__, pmMMachine___init__, cdMMachine___init__, ctMMachine___init__, odMMachine___init__, anMMachine___init__, slMMachine___init__, aMMachine___init__, jMMachine___init__, lMMachine___init__, cMMachine___init__, kMMachine___init__⟩ := hMMachine___init__
  have FMMachine___init__ := fun_mk (st := s_Machine___init__) lMMachine___init__ cMMachine___init__ kMMachine___init__
  have g_Machine := W.mg_of X G n_Machine
  obtain ⟨mcMMachine_of, pMMachine_of, fMMachine_of, ocMMachine_of, kVMMachine_of, dcMMachine_of, pmMMachine_of, cdMMachine_of, ctMMachine_of, odMMachine_of, anMMachine_of, slMMachine_of, rdMMachine_of, gaMMachine_of, atMMachine_of, rcMMachine_of, fiMMachine_of, lMMachine_of, cMMachine_of, kMMachine_of⟩ := mMMachine_of
  have FMMachine_of := fun_mk (st := s_Machine_of) lMMachine_of cMMachine_of kMMachine_of
  have m_tuple := W.mg_none_of X G z_tuple
  have m_list := W.mg_none_of X G z_list
  obtain ⟨fMMachine___contains__, ocMMachine___contains__, kVMMachine___contains__, dcMMachine___contains__, pmMMachine___contains__, cdMMachine___contains__, ctMMachine___contains__, odMMachine___contains__, anMMachine___contains__, slMMachine___contains__, aMMachine___contains__, jMMachine___contains__, lMMachine___contains__, cMMachine___contains__, kMMachine___contains__⟩ := hMMachine___contains__
  have FMMachine___contains__ := fun_mk (st := s_Machine___contains__) lMMachine___contains__ cMMachine___contains__ kMMachine___contains__
  have bMMachine___contains__ := FMMachine___contains__.binds (ps := ["self", "x"]) fun _ _ _ _ _ _ us hl => match us, hl with | [_, _], _ => rfl
  obtain ⟨fMMachine___str__, ocMMachine___str__, kVMMachine___str__, dcMMachine___str__, pmMMachine___str__, cdMMachine___str__, ctMMachine___str__, odMMachine___str__, anMMachine___str__, slMMachine___str__, aMMachine___str__, jMMachine___str__, lMMachine___str__, cMMachine___str__, kMMachine___str__⟩ := hMMachine___str__
  have FMMachine___str__ := fun_mk (st := s_Machine___str__) lMMachine___str__ cMMachine___str__ kMMachine___str__
  have bMMachine___str__ := FMMachine___str__.binds (ps := ["self"]) fun _ _ _ _ _ _ us hl => match us, hl with | [_], _ => rfl
  obtain ⟨flanding_of, oclanding_of, kVlanding_of, dclanding_of, pmlanding_of, cdlanding_of, ctlanding_of, odlanding_of, anlanding_of, sllanding_of, alanding_of, llanding_of, clanding_of, klanding_of⟩ := d_landing_of
  have Flanding_of := fun_mk (st := s_landing_of) llanding_of clanding_of klanding_of
  have blanding_of := Flanding_of.binds (ps := ["machine", "operation"]) fun _ _ _ _ _ _ us hl => match us, hl with | [_, _], _ => rfl
  obtain ⟨fare_sources, ocare_sources, kVare_sources, dcare_sources, pmare_sources, cdare_sources, ctare_sources, odare_sources, anare_sources, slare_sources, aare_sources, lare_sources, care_sources, kare_sources⟩ := d_are_sources
  have Fare_sources := fun_mk (st := s_are_sources) lare_sources care_sources kare_sources
  have bare_sources := Fare_sources.binds (ps := ["family", "value"]) fun _ _ _ _ _ _ us hl => match us, hl with | [_, _], _ => rfl
  have g_SOURCES := W.mg_of X G n_SOURCES
  obtain ⟨fis_operation, ocis_operation, kVis_operation, dcis_operation, pmis_operation, cdis_operation, ctis_operation, odis_operation, anis_operation, slis_operation, ais_operation, lis_operation, cis_operation, kis_operation⟩ := d_is_operation
  have Fis_operation := fun_mk (st := s_is_operation) lis_operation cis_operation kis_operation
  have bis_operation := Fis_operation.binds (ps := ["machine", "value"]) fun _ _ _ _ _ _ us hl => match us, hl with | [_, _], _ => rfl
  have g_WRITING_SORTS := W.mg_of X G n_WRITING_SORTS
  obtain ⟨fis_row, ocis_row, kVis_row, dcis_row, pmis_row, cdis_row, ctis_row, odis_row, anis_row, slis_row, ais_row, lis_row, cis_row, kis_row⟩ := d_is_row
  have Fis_row := fun_mk (st := s_is_row) lis_row cis_row kis_row
  have bis_row := Fis_row.binds (ps := ["machine", "value"]) fun _ _ _ _ _ _ us hl => match us, hl with | [_, _], _ => rfl
  have m_set := W.mg_none_of X G z_set
  obtain ⟨f_law_pick, oc_law_pick, kV_law_pick, dc_law_pick, pm_law_pick, cd_law_pick, ct_law_pick, od_law_pick, an_law_pick, sl_law_pick, a_law_pick, l_law_pick, c_law_pick, k_law_pick⟩ := d__law_pick
  have F_law_pick := fun_mk (st := s_l_pick) l_law_pick c_law_pick k_law_pick
  have b_law_pick := F_law_pick.binds (ps := ["_law_pen_here", "_law_some"]) fun _ _ _ _ _ _ us hl => match us, hl with | [_, _], _ => rfl
  have m_abs := W.mg_none_of X G z_abs
  obtain ⟨f_law_draw, oc_law_draw, kV_law_draw, dc_law_draw, pm_law_draw, cd_law_draw, ct_law_draw, od_law_draw, an_law_draw, sl_law_draw, a_law_draw, l_law_draw, c_law_draw, k_law_draw⟩ := d__law_draw
  have F_law_draw := fun_mk (st := sDraw) l_law_draw c_law_draw k_law_draw
  have b_law_draw := F_law_draw.binds (ps := ["_law_pen_here", "_law_many"]) fun _ _ _ _ _ _ us hl => match us, hl with | [_, _], _ => rfl
  obtain ⟨f_law_plan, oc_law_plan, kV_law_plan, dc_law_plan, pm_law_plan, cd_law_plan, ct_law_plan, od_law_plan, an_law_plan, sl_law_plan, a_law_plan, l_law_plan, c_law_plan, k_law_plan⟩ := d__law_plan
  have F_law_plan := fun_mk (st := s_l_plan) l_law_plan c_law_plan k_law_plan
  have b_law_plan := F_law_plan.binds (ps := ["_law_pen_here"]) fun _ _ _ _ _ _ us hl => match us, hl with | [_], _ => rfl
  obtain ⟨f_law_machine, oc_law_machine, kV_law_machine, dc_law_machine, pm_law_machine, cd_law_machine, ct_law_machine, od_law_machine, an_law_machine, sl_law_machine, a_law_machine, l_law_machine, c_law_machine, k_law_machine⟩ := d__law_machine
  have F_law_machine := fun_mk (st := s_l_machine) l_law_machine c_law_machine k_law_machine
  have b_law_machine := F_law_machine.binds (ps := ["_law_plan_here"]) fun _ _ _ _ _ _ us hl => match us, hl with | [_], _ => rfl
  have g_Make := W.mg_of X G n_Make
  have g_Copy := W.mg_of X G n_Copy
  have g_Give := W.mg_of X G n_Give
  have g_Jump := W.mg_of X G n_Jump
  obtain ⟨f_law_operation, oc_law_operation, kV_law_operation, dc_law_operation, pm_law_operation, cd_law_operation, ct_law_operation, od_law_operation, an_law_operation, sl_law_operation, a_law_operation, l_law_operation, c_law_operation, k_law_operation⟩ := d__law_operation
  have F_law_operation := fun_mk (st := s_l_operation) l_law_operation c_law_operation k_law_operation
  have b_law_operation := F_law_operation.binds (ps := ["_law_pen_here", "_law_plan_here"]) fun _ _ _ _ _ _ us hl => match us, hl with | [_, _], _ => rfl
  have m_range := W.mg_none_of X G z_range
  obtain ⟨f_law_is_name, oc_law_is_name, kV_law_is_name, dc_law_is_name, pm_law_is_name, cd_law_is_name, ct_law_is_name, od_law_is_name, an_law_is_name, sl_law_is_name, a_law_is_name, l_law_is_name, c_law_is_name, k_law_is_name⟩ := d__law_is_name
  have F_law_is_name := fun_mk (st := s_l_is_name) l_law_is_name c_law_is_name k_law_is_name
  have b_law_is_name := F_law_is_name.binds (ps := ["_law_worth_so"]) fun _ _ _ _ _ _ us hl => match us, hl with | [_], _ => rfl
  obtain ⟨f_law_kind, oc_law_kind, kV_law_kind, dc_law_kind, pm_law_kind, cd_law_kind, ct_law_kind, od_law_kind, an_law_kind, sl_law_kind, a_law_kind, l_law_kind, c_law_kind, k_law_kind⟩ := d__law_kind
  have F_law_kind := fun_mk (st := s_l_kind) l_law_kind c_law_kind k_law_kind
  have b_law_kind := F_law_kind.binds (ps := ["_law_plan_here", "_law_label"]) fun _ _ _ _ _ _ us hl => match us, hl with | [_, _], _ => rfl
  obtain ⟨f_law_is_operation, oc_law_is_operation, kV_law_is_operation, dc_law_is_operation, pm_law_is_operation, cd_law_is_operation, ct_law_is_operation, od_law_is_operation, an_law_is_operation, sl_law_is_operation, a_law_is_operation, l_law_is_operation, c_law_is_operation, k_law_is_operation⟩ := d__law_is_operation
  have F_law_is_operation := fun_mk (st := s_l_is_operation) l_law_is_operation c_law_is_operation k_law_is_operation
  have b_law_is_operation := F_law_is_operation.binds (ps := ["_law_plan_here", "_law_worth_so"]) fun _ _ _ _ _ _ us hl => match us, hl with | [_, _], _ => rfl
  obtain ⟨f_law_is_row, oc_law_is_row, kV_law_is_row, dc_law_is_row, pm_law_is_row, cd_law_is_row, ct_law_is_row, od_law_is_row, an_law_is_row, sl_law_is_row, a_law_is_row, l_law_is_row, c_law_is_row, k_law_is_row⟩ := d__law_is_row
  have F_law_is_row := fun_mk (st := s_l_is_row) l_law_is_row c_law_is_row k_law_is_row
  have b_law_is_row := F_law_is_row.binds (ps := ["_law_plan_here", "_law_worth_so"]) fun _ _ _ _ _ _ us hl => match us, hl with | [_, _], _ => rfl
  obtain ⟨f_law_bent, oc_law_bent, kV_law_bent, dc_law_bent, pm_law_bent, cd_law_bent, ct_law_bent, od_law_bent, an_law_bent, sl_law_bent, a_law_bent, l_law_bent, c_law_bent, k_law_bent⟩ := d__law_bent
  have F_law_bent := fun_mk (st := s_l_bent) l_law_bent c_law_bent k_law_bent
  have b_law_bent := F_law_bent.binds (ps := ["_law_pen_here", "_law_plan_here", "_law_one"]) fun _ _ _ _ _ _ us hl => match us, hl with | [_, _, _], _ => rfl
  obtain ⟨f_law_things, oc_law_things, kV_law_things, dc_law_things, pm_law_things, cd_law_things, ct_law_things, od_law_things, an_law_things, sl_law_things, a_law_things, l_law_things, c_law_things, k_law_things⟩ := d__law_things
  have F_law_things := fun_mk (st := s_l_things) l_law_things c_law_things k_law_things
  have b_law_things := F_law_things.binds (ps := ["_law_pen_here", "_law_plan_here", "_law_line_so"]) fun _ _ _ _ _ _ us hl => match us, hl with | [_, _, _], _ => rfl
  obtain ⟨flaw, oclaw, kVlaw, dclaw, pmlaw, cdlaw, ctlaw, odlaw, anlaw, sllaw, alaw, llaw, claw, klaw⟩ := d_law
  have ela := hfa.symm.trans (W.mg_of X G alaw)
  cases ela
  have Flaw := fun_mk (st := s_law) llaw claw klaw
  obtain ⟨f_law_pen, oc_law_pen, kV_law_pen, dc_law_pen, pm_law_pen, cd_law_pen, ct_law_pen, od_law_pen, an_law_pen, sl_law_pen, a_law_pen, l_law_pen, c_law_pen, k_law_pen⟩ := d__law_pen
  have F_law_pen := fun_mk (st := sPen) l_law_pen c_law_pen k_law_pen
  have b_law_pen := F_law_pen.binds (ps := ["_law_script"]) fun _ _ _ _ _ _ us hl => match us, hl with | [_], _ => rfl
  have m_repr := W.mg_none_of X G z_repr
  refine ⟨W.fnOf "law" "law" (defArgs s_law) (defBody s_law) (defScope s_law) .none kVlaw dclaw pmlaw anlaw cdlaw ctlaw, fun s v => .of_eq rfl, fun base _ _ hs => ?_⟩
  obtain ⟨ms, hs⟩ := hs
  have gwithin : FnG (PySem.Challenge.rw_latelands_k05_operations_and_rows).prog w Zd.K mg base (L2.CX (PySem.Challenge.rw_latelands_k05_operations_and_rows).prog w) 1 fwithin _ ["value", "low", "high"] (spF Zd.K [.b, .b, .b] (foF (ap3 within_V))) := vok_within Fwithin G0 m_isinstance m_bool m_int
  have Hk_LONGEST_NAME_KnA : KnA mg "LONGEST_NAME" (.int 8) := ⟨knLONGEST_NAME.imp fun u hu => ⟨W.mg_of X G hu.1, hu.2⟩⟩
  have gis_name : FnG (PySem.Challenge.rw_latelands_k05_operations_and_rows).prog w Zd.K mg base (L2.CX (PySem.Challenge.rw_latelands_k05_operations_and_rows).prog w) 1 fis_name _ ["value"] (spF Zd.K [.b] (foF (ap1 is_name_V))) := vok_is_name Fis_name G0 m_isinstance m_str m_len Hk_LONGEST_NAME_KnA m_all
  have Hc_within_CalG : CalG (PySem.Challenge.rw_latelands_k05_operations_and_rows).prog w Zd.K mg base (L2.CX (PySem.Challenge.rw_latelands_k05_operations_and_rows).prog w) 1 "within" (spF Zd.K [.b, .b, .b] (foF (ap3 within_V))) := ⟨fwithin, _, _, gwithin, W.mg_of X G awithin, kwithin, bwithin⟩
  have Hk_LONGEST_DELAY_KnA : KnA mg "LONGEST_DELAY" (.int 6) := ⟨knLONGEST_DELAY.imp fun u hu => ⟨W.mg_of X G hu.1, hu.2⟩⟩
  have xrInvalidMachine : ExR (PySem.Challenge.rw_latelands_k05_operations_and_rows).prog w Zd.K mg base "InvalidMachine" (Zd.c "InvalidMachine") "reason" := ⟨xInvalidMachine, g_InvalidMachine, fIInvalidMachine, _, aIInvalidMachine, ty3InvalidMachine, iniF1 FIInvalidMachine ⟨rfl, rfl, rfl, by decide +kernel, rfl, by decide +kernel, by decide +kernel⟩ rfl xInvalidMachine tkInvalidMachine_reason (by decide +kernel) (by decide +kernel), bIInvalidMachine⟩
  have Hc_InvalidMachine_ExR : ExR (PySem.Challenge.rw_latelands_k05_operations_and_rows).prog w Zd.K mg base "InvalidMachine" (Zd.c "InvalidMachine") "reason" := xrInvalidMachine
  have gcheck_delay : FnG (PySem.Challenge.rw_latelands_k05_operations_and_rows).prog w Zd.K mg base (L2.CX (PySem.Challenge.rw_latelands_k05_operations_and_rows).prog w) 3 fcheck_delay _ ["delay"] (spF Zd.K [.b] (foF (ap1 check_delay_V))) := vok_check_delay Fcheck_delay Hc_within_CalG Hk_LONGEST_DELAY_KnA Hc_InvalidMachine_ExR
  have Hc_is_name_CalG : CalG (PySem.Challenge.rw_latelands_k05_operations_and_rows).prog w Zd.K mg base (L2.CX (PySem.Challenge.rw_latelands_k05_operations_and_rows).prog w) 1 "is_name" (spF Zd.K [.b] (foF (ap1 is_name_V))) := ⟨fis_name, _, _, gis_name, W.mg_of X G ais_name, kis_name, bis_name⟩
  have Hk_BARRED_NAME_KnA : KnA mg "BARRED_NAME" (.str "alike") := ⟨knBARRED_NAME.imp fun u hu => ⟨W.mg_of X G hu.1, hu.2⟩⟩
  have gMKind___init__ : FnG (PySem.Challenge.rw_latelands_k05_operations_and_rows).prog w Zd.K mg base (L2.CX (PySem.Challenge.rw_latelands_k05_operations_and_rows).prog w) 3 fMKind___init__ _ ["self", "name"] (spI Zd.K [.s] (fun _ => True) (foI fun C => ag1 (Kind___init___V C))) := vok_Kind___init__ FMKind___init__ Hc_is_name_CalG Hk_BARRED_NAME_KnA Hc_InvalidMachine_ExR
  obtain ⟨fuKind, euKind, tu1Kind, tu2Kind⟩ := tuKind
  cases euKind.symm.trans aMKind___init__
  have HB_BelowVMake : BelowV (PySem.Challenge.rw_latelands_k05_operations_and_rows).prog w Zd.K mg base 3 (Zd.c "Make") ["self", "name"] [.s] (fun _ => True) (fun C => ag1 (Kind___init___V C)) := ⟨m1Make, trivial, fMKind___init__, _, upMake.trans aMKind___init__, tu1Kind, tu2Kind, gMKind___init__, bMKind___init__⟩
  have Hc_check_delay_CalG : CalG (PySem.Challenge.rw_latelands_k05_operations_and_rows).prog w Zd.K mg base (L2.CX (PySem.Challenge.rw_latelands_k05_operations_and_rows).prog w) 3 "check_delay" (spF Zd.K [.b] (foF (ap1 check_delay_V))) := ⟨fcheck_delay, _, _, gcheck_delay, W.mg_of X G acheck_delay, kcheck_delay, bcheck_delay⟩
  have gMMake___init__ : FnG (PySem.Challenge.rw_latelands_k05_operations_and_rows).prog w Zd.K mg base (L2.CX (PySem.Challenge.rw_latelands_k05_operations_and_rows).prog w) 4 fMMake___init__ _ ["self", "name", "delay"] (spI Zd.K [.s, .s] (fun C => C = Zd.c "Make") (foI fun C => ag2 (Make___init___V C))) := vok_Make___init__ FMMake___init__ m_super hop HB_BelowVMake Hc_check_delay_CalG
  have HB_BelowVCopy : BelowV (PySem.Challenge.rw_latelands_k05_operations_and_rows).prog w Zd.K mg base 3 (Zd.c "Copy") ["self", "name"] [.s] (fun _ => True) (fun C => ag1 (Kind___init___V C)) := ⟨m1Copy, trivial, fMKind___init__, _, upCopy.trans aMKind___init__, tu1Kind, tu2Kind, gMKind___init__, bMKind___init__⟩
  have gMCopy___init__ : FnG (PySem.Challenge.rw_latelands_k05_operations_and_rows).prog w Zd.K mg base (L2.CX (PySem.Challenge.rw_latelands_k05_operations_and_rows).prog w) 4 fMCopy___init__ _ ["self", "name", "delay"] (spI Zd.K [.s, .s] (fun C => C = Zd.c "Copy") (foI fun C => ag2 (Copy___init___V C))) := vok_Copy___init__ FMCopy___init__ m_super hop HB_BelowVCopy Hc_check_delay_CalG
  have HB_BelowVGive : BelowV (PySem.Challenge.rw_latelands_k05_operations_and_rows).prog w Zd.K mg base 3 (Zd.c "Give") ["self", "name"] [.s] (fun _ => True) (fun C => ag1 (Kind___init___V C)) := ⟨m1Give, trivial, fMKind___init__, _, upGive.trans aMKind___init__, tu1Kind, tu2Kind, gMKind___init__, bMKind___init__⟩
  have gMGive___init__ : FnG (PySem.Challenge.rw_latelands_k05_operations_and_rows).prog w Zd.K mg base (L2.CX (PySem.Challenge.rw_latelands_k05_operations_and_rows).prog w) 4 fMGive___init__ _ ["self", "name"] (spI Zd.K [.s] (fun C => C = Zd.c "Give") (foI fun C => ag1 (Give___init___V C))) := vok_Give___init__ FMGive___init__ m_super hop HB_BelowVGive
  have HB_BelowVJump : BelowV (PySem.Challenge.rw_latelands_k05_operations_and_rows).prog w Zd.K mg base 3 (Zd.c "Jump") ["self", "name"] [.s] (fun _ => True) (fun C => ag1 (Kind___init___V C)) := ⟨m1Jump, trivial, fMKind___init__, _, upJump.trans aMKind___init__, tu1Kind, tu2Kind, gMKind___init__, bMKind___init__⟩
  have gMJump___init__ : FnG (PySem.Challenge.rw_latelands_k05_operations_and_rows).prog w Zd.K mg base (L2.CX (PySem.Challenge.rw_latelands_k05_operations_and_rows).prog w) 4 fMJump___init__ _ ["self", "name"] (spI Zd.K [.s] (fun C => C = Zd.c "Jump") (foI fun C => ag1 (Jump___init___V C))) := vok_Jump___init__ FMJump___init__ m_super hop HB_BelowVJump
  have Hk_MOST_LATE_KnA : KnA mg "MOST_LATE" (.int 2) := ⟨knMOST_LATE.imp fun u hu => ⟨W.mg_of X G hu.1, hu.2⟩⟩
  have gcheck_late : FnG (PySem.Challenge.rw_latelands_k05_operations_and_rows).prog w Zd.K mg base (L2.CX (PySem.Challenge.rw_latelands_k05_operations_and_rows).prog w) 3 fcheck_late _ ["late"] (spF Zd.K [.b] (foF (ap1 check_late_V))) := vok_check_late Fcheck_late Hc_within_CalG Hk_MOST_LATE_KnA Hc_InvalidMachine_ExR
  have Hk_MOST_WIDTH_KnA : KnA mg "MOST_WIDTH" (.int 3) := ⟨knMOST_WIDTH.imp fun u hu => ⟨W.mg_of X G hu.1, hu.2⟩⟩
  have gcheck_width : FnG (PySem.Challenge.rw_latelands_k05_operations_and_rows).prog w Zd.K mg base (L2.CX (PySem.Challenge.rw_latelands_k05_operations_and_rows).prog w) 3 fcheck_width _ ["width"] (spF Zd.K [.b] (foF (ap1 check_width_V))) := vok_check_width Fcheck_width Hc_within_CalG Hk_MOST_WIDTH_KnA Hc_InvalidMachine_ExR
  have Hc_Kind_NmC : NmC mg "Kind" (Zd.c "Kind") := ⟨g_Kind⟩
  have gare_kinds : FnG (PySem.Challenge.rw_latelands_k05_operations_and_rows).prog w Zd.K mg base (L2.CX (PySem.Challenge.rw_latelands_k05_operations_and_rows).prog w) 1 fare_kinds _ ["values"] (spF Zd.K [.b] (foF (ap1 are_kinds_V))) := vok_are_kinds Fare_kinds G0 m_all m_isinstance Hc_Kind_NmC
  have gkind_line : FnG (PySem.Challenge.rw_latelands_k05_operations_and_rows).prog w Zd.K mg base (L2.CX (PySem.Challenge.rw_latelands_k05_operations_and_rows).prog w) 1 fkind_line _ ["kind"] (spF Zd.K [.b] (foF (ap1 kind_line_V))) := vok_kind_line Fkind_line
  have xrNoName : ExR (PySem.Challenge.rw_latelands_k05_operations_and_rows).prog w Zd.K mg base "NoName" (Zd.c "NoName") "name" := ⟨xNoName, g_NoName, fINoName, _, aINoName, ty3NoName, iniF1 FINoName ⟨rfl, rfl, rfl, by decide +kernel, rfl, by decide +kernel, by decide +kernel⟩ rfl xNoName tkNoName_name (by decide +kernel) (by decide +kernel), bINoName⟩
  have Hc_NoName_ExR : ExR (PySem.Challenge.rw_latelands_k05_operations_and_rows).prog w Zd.K mg base "NoName" (Zd.c "NoName") "name" := xrNoName
  have gMMachine_kind : FnG (PySem.Challenge.rw_latelands_k05_operations_and_rows).prog w Zd.K mg base (L2.CX (PySem.Challenge.rw_latelands_k05_operations_and_rows).prog w) 3 fMMachine_kind _ ["self", "name"] (spF Zd.K [.b, .s] (foF (ap2 Machine_kind_V))) := vok_Machine_kind FMMachine_kind Hc_NoName_ExR
  have Hc_CV_Machine_A_MOST_KINDS_CvC : CvC Zd.K mg "Machine" "MOST_KINDS" (Zd.c "Machine") (.int 12) := ⟨g_Machine, cvMachine_MOST_KINDS⟩
  have Hc_are_kinds_CalG : CalG (PySem.Challenge.rw_latelands_k05_operations_and_rows).prog w Zd.K mg base (L2.CX (PySem.Challenge.rw_latelands_k05_operations_and_rows).prog w) 1 "are_kinds" (spF Zd.K [.b] (foF (ap1 are_kinds_V))) := ⟨fare_kinds, _, _, gare_kinds, W.mg_of X G aare_kinds, kare_kinds, bare_kinds⟩
  have Hc_check_late_CalG : CalG (PySem.Challenge.rw_latelands_k05_operations_and_rows).prog w Zd.K mg base (L2.CX (PySem.Challenge.rw_latelands_k05_operations_and_rows).prog w) 3 "check_late" (spF Zd.K [.b] (foF (ap1 check_late_V))) := ⟨fcheck_late, _, _, gcheck_late, W.mg_of X G acheck_late, kcheck_late, bcheck_late⟩
  have Hc_check_width_CalG : CalG (PySem.Challenge.rw_latelands_k05_operations_and_rows).prog w Zd.K mg base (L2.CX (PySem.Challenge.rw_latelands_k05_operations_and_rows).prog w) 3 "check_width" (spF Zd.K [.b] (foF (ap1 check_width_V))) := ⟨fcheck_width, _, _, gcheck_width, W.mg_of X G acheck_width, kcheck_width, bcheck_width⟩
  have gMMachine___init__ : FnB (PySem.Challenge.rw_latelands_k05_operations_and_rows).prog w Zd.K mg base (L2.CX (PySem.Challenge.rw_latelands_k05_operations_and_rows).prog w) 4 fMMachine___init__ _ ["self", "late", "width", "kinds"] (spI Zd.K [.s, .s, .s] (fun _ => True) (foI fun C => ag3 (Machine___init___V C))) := vok_Machine___init__ FMMachine___init__ m_len Hc_CV_Machine_A_MOST_KINDS_CvC Hc_are_kinds_CalG Hc_InvalidMachine_ExR Hc_check_late_CalG Hc_check_width_CalG
  have Hc_MKS_Machine_MkS : MkS (PySem.Challenge.rw_latelands_k05_operations_and_rows).prog w Zd.K mg base 4 (Zd.c "Machine") ["late", "width"] "kinds" (spI Zd.K ([.s, .s] ++ [.s]) (fun _ => True) (foI fun C => ag3 (Machine___init___V C))) := ⟨fMMachine___init__, _, ⟨mkMachine, aMMachine___init__, jMMachine___init__, kpMachine⟩, gMMachine___init__, fun self rest ws hl => match rest, ws, hl with | [], [_, _], _ => rfl | _ :: _, [_, _], _ => rfl⟩
  have Hc_KP_Machine_W.keepIn : W.keepIn Zd.K (.ref (Zd.c "Machine")) = true := kpMachine
  have gMMachine_of : FnG (PySem.Challenge.rw_latelands_k05_operations_and_rows).prog w Zd.K mg base (L2.CX (PySem.Challenge.rw_latelands_k05_operations_and_rows).prog w) 6 fMMachine_of _ ["cls", "kinds", "late", "width"] (spF Zd.K [.b, .s, .s, .s] (foF (ap4 Machine_of_V))) := vok_Machine_of FMMachine_of G0 m_isinstance m_tuple m_list Hc_MKS_Machine_MkS Hc_KP_Machine_W.keepIn
  have gMMachine___contains__ : FnG (PySem.Challenge.rw_latelands_k05_operations_and_rows).prog w Zd.K mg base (L2.CX (PySem.Challenge.rw_latelands_k05_operations_and_rows).prog w) 1 fMMachine___contains__ _ ["self", "x"] (spF Zd.K [.b, .b] (foF (ap2 Machine___contains___V))) := vok_Machine___contains__ FMMachine___contains__
  have Hc_kind_line_CalG : CalG (PySem.Challenge.rw_latelands_k05_operations_and_rows).prog w Zd.K mg base (L2.CX (PySem.Challenge.rw_latelands_k05_operations_and_rows).prog w) 1 "kind_line" (spF Zd.K [.b] (foF (ap1 kind_line_V))) := ⟨fkind_line, _, _, gkind_line, W.mg_of X G akind_line, kkind_line, bkind_line⟩
  have gMMachine___str__ : FnG (PySem.Challenge.rw_latelands_k05_operations_and_rows).prog w Zd.K mg base (L2.CX (PySem.Challenge.rw_latelands_k05_operations_and_rows).prog w) 2 fMMachine___str__ _ ["self"] (spF Zd.K [.b] (foF (ap1 Machine___str___V))) := vok_Machine___str__ FMMachine___str__ Hc_kind_line_CalG
  have Hc_Machine_M_kind_MetC : MetC (PySem.Challenge.rw_latelands_k05_operations_and_rows).prog w Zd.K mg base 3 (Zd.c "Machine") "kind" (spF Zd.K [.b, .s] (foF (ap2 Machine_kind_V))) := ⟨clMachine, fMMachine_kind, _, _, ⟨aMMachine_kind, jMMachine_kind, kMMachine_kind⟩, gMMachine_kind, bMMachine_kind⟩
  have glanding_of : FnG (PySem.Challenge.rw_latelands_k05_operations_and_rows).prog w Zd.K mg base (L2.CX (PySem.Challenge.rw_latelands_k05_operations_and_rows).prog w) 4 flanding_of _ ["machine", "operation"] (spF Zd.K [.b, .b] (foF (ap2 landing_of_V))) := vok_landing_of Flanding_of Hc_Machine_M_kind_MetC
  have Hk_SOURCES_KnT : KnT Zd.K w mg "SOURCES" (Zd.c "SOURCES") [("make", (.tup [(dI 0), (dI 2)])), ("copy", (.tup [(dI 1), (dI 1)])), ("give", (.tup [(dI 1), (dI 2)])), ("jump", (.tup [(dI 0), (dI 1)]))] := ⟨g_SOURCES, fun y d e => by
    simp only [List.lookup_cons] at e
    split at e
    · rename_i hh
      cases e
      rw [eq_of_beq hh]
      exact KtAt.get ktSOURCES0 (fun G => by repeat (first | exact .nil | refine .cons (.v _) ?_))
    split at e
    · rename_i hh
      cases e
      rw [eq_of_beq hh]
      exact KtAt.get ktSOURCES1 (fun G => by repeat (first | exact .nil | refine .cons (.v _) ?_))
    split at e
    · rename_i hh
      cases e
      rw [eq_of_beq hh]
      exact KtAt.get ktSOURCES2 (fun G => by repeat (first | exact .nil | refine .cons (.v _) ?_))
    split at e
    · rename_i hh
      cases e
      rw [eq_of_beq hh]
      exact KtAt.get ktSOURCES3 (fun G => by repeat (first | exact .nil | refine .cons (.v _) ?_))
    cases e⟩
  have gare_sources : FnG (PySem.Challenge.rw_latelands_k05_operations_and_rows).prog w Zd.K mg base (L2.CX (PySem.Challenge.rw_latelands_k05_operations_and_rows).prog w) 2 fare_sources _ ["family", "value"] (spF Zd.K [.b, .b] (foF (ap2 are_sources_V))) := vok_are_sources Fare_sources G0 Hk_SOURCES_KnT m_isinstance m_tuple m_len m_all Hc_is_name_CalG
  have Hc_Machine_D_contains_DunDef : DunDef (PySem.Challenge.rw_latelands_k05_operations_and_rows).prog w Zd.K mg base 1 "__contains__" (Zd.c "Machine") (spF Zd.K [.b, .b] (foF (ap2 Machine___contains___V))) := ⟨fMMachine___contains__, _, _, aMMachine___contains__, jMMachine___contains__, gMMachine___contains__, bMMachine___contains__⟩
  have Hk_WRITING_SORTS_KnD : KnD Zd.K mg "WRITING_SORTS" (Zd.c "WRITING_SORTS") (.tup [(dS "make"), (dS "copy")]) := ⟨g_WRITING_SORTS, fun G => KdAt.rd kdWRITING_SORTS (by repeat (first | exact .nil | refine .cons (.v _) ?_))⟩
  have Hk_MOST_GOAL_KnA : KnA mg "MOST_GOAL" (.int 40) := ⟨knMOST_GOAL.imp fun u hu => ⟨W.mg_of X G hu.1, hu.2⟩⟩
  have Hc_are_sources_CalG : CalG (PySem.Challenge.rw_latelands_k05_operations_and_rows).prog w Zd.K mg base (L2.CX (PySem.Challenge.rw_latelands_k05_operations_and_rows).prog w) 2 "are_sources" (spF Zd.K [.b, .b] (foF (ap2 are_sources_V))) := ⟨fare_sources, _, _, gare_sources, W.mg_of X G aare_sources, kare_sources, bare_sources⟩
  have gis_operation : FnG (PySem.Challenge.rw_latelands_k05_operations_and_rows).prog w Zd.K mg base (L2.CX (PySem.Challenge.rw_latelands_k05_operations_and_rows).prog w) 4 fis_operation _ ["machine", "value"] (spF Zd.K [.b, .s] (foF (ap2 is_operation_V))) := vok_is_operation Fis_operation G0 m_isinstance m_tuple m_len Hc_Machine_D_contains_DunDef Hc_Machine_M_kind_MetC Hk_WRITING_SORTS_KnD Hc_within_CalG Hk_MOST_GOAL_KnA Hc_are_sources_CalG Hc_is_name_CalG
  have Hc_is_operation_CalG : CalG (PySem.Challenge.rw_latelands_k05_operations_and_rows).prog w Zd.K mg base (L2.CX (PySem.Challenge.rw_latelands_k05_operations_and_rows).prog w) 4 "is_operation" (spF Zd.K [.b, .s] (foF (ap2 is_operation_V))) := ⟨fis_operation, _, _, gis_operation, W.mg_of X G ais_operation, kis_operation, bis_operation⟩
  have Hc_landing_of_CalG : CalG (PySem.Challenge.rw_latelands_k05_operations_and_rows).prog w Zd.K mg base (L2.CX (PySem.Challenge.rw_latelands_k05_operations_and_rows).prog w) 4 "landing_of" (spF Zd.K [.b, .b] (foF (ap2 landing_of_V))) := ⟨flanding_of, _, _, glanding_of, W.mg_of X G alanding_of, klanding_of, blanding_of⟩
  have gis_row : FnG (PySem.Challenge.rw_latelands_k05_operations_and_rows).prog w Zd.K mg base (L2.CX (PySem.Challenge.rw_latelands_k05_operations_and_rows).prog w) 5 fis_row _ ["machine", "value"] (spF Zd.K [.b, .b] (foF (ap2 is_row_V))) := vok_is_row Fis_row G0 m_isinstance m_tuple m_len m_all Hc_is_operation_CalG Hc_landing_of_CalG m_set
  have Hc__law_draw_CalG : CalG (PySem.Challenge.rw_latelands_k05_operations_and_rows).prog w Zd.K mg base (L2.CX (PySem.Challenge.rw_latelands_k05_operations_and_rows).prog w) 1 "_law_draw" spDraw := ⟨f_law_draw, _, _, FnG.any (ok_draw F_law_draw m_int m_len m_abs), W.mg_of X G a_law_draw, k_law_draw, b_law_draw⟩
  have g_law_pick : FnG (PySem.Challenge.rw_latelands_k05_operations_and_rows).prog w Zd.K mg base (L2.CX (PySem.Challenge.rw_latelands_k05_operations_and_rows).prog w) 2 f_law_pick _ ["_law_pen_here", "_law_some"] (spT Zd.K [.b] (ap1 l_pick_V)) := vok_l_pick F_law_pick Hc__law_draw_CalG m_len
  have g_law_plan : FnG (PySem.Challenge.rw_latelands_k05_operations_and_rows).prog w Zd.K mg base (L2.CX (PySem.Challenge.rw_latelands_k05_operations_and_rows).prog w) 2 f_law_plan _ ["_law_pen_here"] (spT Zd.K [] (ap0 l_plan_V)) := vok_l_plan F_law_plan Hc__law_draw_CalG
  have Hc_Make_MkC : MkC (PySem.Challenge.rw_latelands_k05_operations_and_rows).prog w Zd.K mg base 4 "Make" (Zd.c "Make") ["self", "name", "delay"] (spI Zd.K [.s, .s] (fun C => C = Zd.c "Make") (foI fun C => ag2 (Make___init___V C))) := ⟨⟨fMMake___init__, _, ⟨mkMake, aMMake___init__, jMMake___init__, kpMake⟩, gMMake___init__, bMMake___init__⟩, g_Make⟩
  have Hc_Copy_MkC : MkC (PySem.Challenge.rw_latelands_k05_operations_and_rows).prog w Zd.K mg base 4 "Copy" (Zd.c "Copy") ["self", "name", "delay"] (spI Zd.K [.s, .s] (fun C => C = Zd.c "Copy") (foI fun C => ag2 (Copy___init___V C))) := ⟨⟨fMCopy___init__, _, ⟨mkCopy, aMCopy___init__, jMCopy___init__, kpCopy⟩, gMCopy___init__, bMCopy___init__⟩, g_Copy⟩
  have Hc_Give_MkC : MkC (PySem.Challenge.rw_latelands_k05_operations_and_rows).prog w Zd.K mg base 4 "Give" (Zd.c "Give") ["self", "name"] (spI Zd.K [.s] (fun C => C = Zd.c "Give") (foI fun C => ag1 (Give___init___V C))) := ⟨⟨fMGive___init__, _, ⟨mkGive, aMGive___init__, jMGive___init__, kpGive⟩, gMGive___init__, bMGive___init__⟩, g_Give⟩
  have Hc_Jump_MkC : MkC (PySem.Challenge.rw_latelands_k05_operations_and_rows).prog w Zd.K mg base 4 "Jump" (Zd.c "Jump") ["self", "name"] (spI Zd.K [.s] (fun C => C = Zd.c "Jump") (foI fun C => ag1 (Jump___init___V C))) := ⟨⟨fMJump___init__, _, ⟨mkJump, aMJump___init__, jMJump___init__, kpJump⟩, gMJump___init__, bMJump___init__⟩, g_Jump⟩
  have Hc_Machine_M_of_K_1_late_width_ClmC : ClmC (PySem.Challenge.rw_latelands_k05_operations_and_rows).prog w Zd.K mg base 6 (Zd.c "Machine") "of" 1 ["late", "width"] [0, 1, 2] (spF Zd.K [.b, .s, .s, .s] (foF (ap4 Machine_of_V))) := ⟨mcMMachine_of, pMMachine_of, fMMachine_of, _, _, ⟨rdMMachine_of, gaMMachine_of⟩, ⟨atMMachine_of, rcMMachine_of, fiMMachine_of⟩, gMMachine_of, fun s us ws _ h1 h2 => match us, h1, ws, h2 with | [_], _, [_, _], _ => .of_eq rfl⟩
  have Hc_Machine_NmC : NmC mg "Machine" (Zd.c "Machine") := ⟨g_Machine⟩
  have g_law_machine : FnG (PySem.Challenge.rw_latelands_k05_operations_and_rows).prog w Zd.K mg base (L2.CX (PySem.Challenge.rw_latelands_k05_operations_and_rows).prog w) 7 f_law_machine _ ["_law_plan_here"] (spF Zd.K [.b] (foF (ap1 l_machine_V))) := vok_l_machine F_law_machine Hc_Make_MkC Hc_Copy_MkC Hc_Give_MkC Hc_Jump_MkC Hc_Machine_M_of_K_1_late_width_ClmC Hc_Machine_NmC
  have Hc__law_pick_CalG : CalG (PySem.Challenge.rw_latelands_k05_operations_and_rows).prog w Zd.K mg base (L2.CX (PySem.Challenge.rw_latelands_k05_operations_and_rows).prog w) 2 "_law_pick" (spT Zd.K [.b] (ap1 l_pick_V)) := ⟨f_law_pick, _, _, g_law_pick, W.mg_of X G a_law_pick, k_law_pick, b_law_pick⟩
  have g_law_operation : FnG (PySem.Challenge.rw_latelands_k05_operations_and_rows).prog w Zd.K mg base (L2.CX (PySem.Challenge.rw_latelands_k05_operations_and_rows).prog w) 3 f_law_operation _ ["_law_pen_here", "_law_plan_here"] (spT Zd.K [.b] (ap1 l_operation_V)) := vok_l_operation F_law_operation Hc__law_pick_CalG Hc__law_draw_CalG m_range m_tuple
  have g_law_is_name : FnG (PySem.Challenge.rw_latelands_k05_operations_and_rows).prog w Zd.K mg base (L2.CX (PySem.Challenge.rw_latelands_k05_operations_and_rows).prog w) 1 f_law_is_name _ ["_law_worth_so"] (spF Zd.K [.b] (foF (ap1 l_is_name_V))) := vok_l_is_name F_law_is_name G0 m_isinstance m_str m_len
  have g_law_kind : FnG (PySem.Challenge.rw_latelands_k05_operations_and_rows).prog w Zd.K mg base (L2.CX (PySem.Challenge.rw_latelands_k05_operations_and_rows).prog w) 1 f_law_kind _ ["_law_plan_here", "_law_label"] (spF Zd.K [.b, .b] (foF (ap2 l_kind_V))) := vok_l_kind F_law_kind G0 m_isinstance m_str
  have Hc__law_kind_CalG : CalG (PySem.Challenge.rw_latelands_k05_operations_and_rows).prog w Zd.K mg base (L2.CX (PySem.Challenge.rw_latelands_k05_operations_and_rows).prog w) 1 "_law_kind" (spF Zd.K [.b, .b] (foF (ap2 l_kind_V))) := ⟨f_law_kind, _, _, g_law_kind, W.mg_of X G a_law_kind, k_law_kind, b_law_kind⟩
  have Hc__law_is_name_CalG : CalG (PySem.Challenge.rw_latelands_k05_operations_and_rows).prog w Zd.K mg base (L2.CX (PySem.Challenge.rw_latelands_k05_operations_and_rows).prog w) 1 "_law_is_name" (spF Zd.K [.b] (foF (ap1 l_is_name_V))) := ⟨f_law_is_name, _, _, g_law_is_name, W.mg_of X G a_law_is_name, k_law_is_name, b_law_is_name⟩
  have g_law_is_operation : FnG (PySem.Challenge.rw_latelands_k05_operations_and_rows).prog w Zd.K mg base (L2.CX (PySem.Challenge.rw_latelands_k05_operations_and_rows).prog w) 2 f_law_is_operation _ ["_law_plan_here", "_law_worth_so"] (spF Zd.K [.b, .s] (foF (ap2 l_is_operation_V))) := vok_l_is_operation F_law_is_operation G0 m_isinstance m_tuple m_len Hc__law_kind_CalG Hc__law_is_name_CalG m_bool m_int
  have Hc__law_is_operation_CalG : CalG (PySem.Challenge.rw_latelands_k05_operations_and_rows).prog w Zd.K mg base (L2.CX (PySem.Challenge.rw_latelands_k05_operations_and_rows).prog w) 2 "_law_is_operation" (spF Zd.K [.b, .s] (foF (ap2 l_is_operation_V))) := ⟨f_law_is_operation, _, _, g_law_is_operation, W.mg_of X G a_law_is_operation, k_law_is_operation, b_law_is_operation⟩
  have g_law_is_row : FnG (PySem.Challenge.rw_latelands_k05_operations_and_rows).prog w Zd.K mg base (L2.CX (PySem.Challenge.rw_latelands_k05_operations_and_rows).prog w) 3 f_law_is_row _ ["_law_plan_here", "_law_worth_so"] (spF Zd.K [.b, .b] (foF (ap2 l_is_row_V))) := vok_l_is_row F_law_is_row G0 m_isinstance m_tuple m_len Hc__law_is_operation_CalG Hc__law_kind_CalG m_set
  have g_law_bent : FnG (PySem.Challenge.rw_latelands_k05_operations_and_rows).prog w Zd.K mg base (L2.CX (PySem.Challenge.rw_latelands_k05_operations_and_rows).prog w) 3 f_law_bent _ ["_law_pen_here", "_law_plan_here", "_law_one"] (spT Zd.K [.b, .s] (ap2 l_bent_V)) := vok_l_bent F_law_bent Hc__law_draw_CalG m_list Hc__law_pick_CalG
  have Hc__law_operation_CalG : CalG (PySem.Challenge.rw_latelands_k05_operations_and_rows).prog w Zd.K mg base (L2.CX (PySem.Challenge.rw_latelands_k05_operations_and_rows).prog w) 3 "_law_operation" (spT Zd.K [.b] (ap1 l_operation_V)) := ⟨f_law_operation, _, _, g_law_operation, W.mg_of X G a_law_operation, k_law_operation, b_law_operation⟩
  have Hc__law_bent_CalG : CalG (PySem.Challenge.rw_latelands_k05_operations_and_rows).prog w Zd.K mg base (L2.CX (PySem.Challenge.rw_latelands_k05_operations_and_rows).prog w) 3 "_law_bent" (spT Zd.K [.b, .s] (ap2 l_bent_V)) := ⟨f_law_bent, _, _, g_law_bent, W.mg_of X G a_law_bent, k_law_bent, b_law_bent⟩
  have g_law_things : FnG (PySem.Challenge.rw_latelands_k05_operations_and_rows).prog w Zd.K mg base (L2.CX (PySem.Challenge.rw_latelands_k05_operations_and_rows).prog w) 4 f_law_things _ ["_law_pen_here", "_law_plan_here", "_law_line_so"] (spT Zd.K [.b, .s] (ap2 l_things_V)) := vok_l_things F_law_things Hc__law_draw_CalG m_len Hc__law_operation_CalG m_list Hc__law_bent_CalG
  have Hc__law_pen_CalG : CalG (PySem.Challenge.rw_latelands_k05_operations_and_rows).prog w Zd.K mg base (L2.CX (PySem.Challenge.rw_latelands_k05_operations_and_rows).prog w) 1 "_law_pen" (spPen Zd.K) := ⟨f_law_pen, _, _, FnG.any (ok_pen F_law_pen m_list), W.mg_of X G a_law_pen, k_law_pen, b_law_pen⟩
  have Hc__law_plan_CalG : CalG (PySem.Challenge.rw_latelands_k05_operations_and_rows).prog w Zd.K mg base (L2.CX (PySem.Challenge.rw_latelands_k05_operations_and_rows).prog w) 2 "_law_plan" (spT Zd.K [] (ap0 l_plan_V)) := ⟨f_law_plan, _, _, g_law_plan, W.mg_of X G a_law_plan, k_law_plan, b_law_plan⟩
  have Hc__law_machine_CalG : CalG (PySem.Challenge.rw_latelands_k05_operations_and_rows).prog w Zd.K mg base (L2.CX (PySem.Challenge.rw_latelands_k05_operations_and_rows).prog w) 7 "_law_machine" (spF Zd.K [.b] (foF (ap1 l_machine_V))) := ⟨f_law_machine, _, _, g_law_machine, W.mg_of X G a_law_machine, k_law_machine, b_law_machine⟩
  have Hc_Machine_D_str_DunDef : DunDef (PySem.Challenge.rw_latelands_k05_operations_and_rows).prog w Zd.K mg base 2 "__str__" (Zd.c "Machine") (spF Zd.K [.b] (foF (ap1 Machine___str___V))) := ⟨fMMachine___str__, _, _, aMMachine___str__, jMMachine___str__, gMMachine___str__, bMMachine___str__⟩
  have Hw_is_operation_CalP : CalP (PySem.Challenge.rw_latelands_k05_operations_and_rows).prog w Zd.K mg base (L2.CX (PySem.Challenge.rw_latelands_k05_operations_and_rows).prog w) 4 "is_operation" (spF Zd.K [.b, .s] (foF (ap2 is_operation_V))) ["value", "machine"] [1, 0] := ⟨fis_operation, _, _, gis_operation, W.mg_of X G ais_operation, kis_operation, fun s ws hl => match ws, hl with | [_, _], _ => .of_eq rfl⟩
  have Hc__law_things_CalG : CalG (PySem.Challenge.rw_latelands_k05_operations_and_rows).prog w Zd.K mg base (L2.CX (PySem.Challenge.rw_latelands_k05_operations_and_rows).prog w) 4 "_law_things" (spT Zd.K [.b, .s] (ap2 l_things_V)) := ⟨f_law_things, _, _, g_law_things, W.mg_of X G a_law_things, k_law_things, b_law_things⟩
  have Hc_is_row_CalG : CalG (PySem.Challenge.rw_latelands_k05_operations_and_rows).prog w Zd.K mg base (L2.CX (PySem.Challenge.rw_latelands_k05_operations_and_rows).prog w) 5 "is_row" (spF Zd.K [.b, .b] (foF (ap2 is_row_V))) := ⟨fis_row, _, _, gis_row, W.mg_of X G ais_row, kis_row, bis_row⟩
  have Hc__law_is_row_CalG : CalG (PySem.Challenge.rw_latelands_k05_operations_and_rows).prog w Zd.K mg base (L2.CX (PySem.Challenge.rw_latelands_k05_operations_and_rows).prog w) 3 "_law_is_row" (spF Zd.K [.b, .b] (foF (ap2 l_is_row_V))) := ⟨f_law_is_row, _, _, g_law_is_row, W.mg_of X G a_law_is_row, k_law_is_row, b_law_is_row⟩
  have Hw_is_row_CalP : CalP (PySem.Challenge.rw_latelands_k05_operations_and_rows).prog w Zd.K mg base (L2.CX (PySem.Challenge.rw_latelands_k05_operations_and_rows).prog w) 5 "is_row" (spF Zd.K [.b, .b] (foF (ap2 is_row_V))) ["value", "machine"] [1, 0] := ⟨fis_row, _, _, gis_row, W.mg_of X G ais_row, kis_row, fun s ws hl => match ws, hl with | [_, _], _ => .of_eq rfl⟩
  exact vok_law Flaw (law_wp (zf_mk clMake naMake_name naMake_delay naMake_family ciMake obMake kkMake clCopy naCopy_name naCopy_delay naCopy_family ciCopy obCopy kkCopy clGive naGive_name naGive_delay naGive_family ciGive obGive kkGive clJump naJump_name naJump_delay naJump_family ciJump obJump kkJump clMachine naMachine_kinds naMachine_late naMachine_width)) hs Hc__law_pen_CalG m_range Hc__law_plan_CalG Hc__law_machine_CalG Hc_Machine_D_str_DunDef m_str m_tuple Hc__law_draw_CalG Hc__law_operation_CalG Hc_is_operation_CalG Hc__law_bent_CalG m_repr Hw_is_operation_CalP Hc__law_is_operation_CalG Hc__law_things_CalG Hc_is_row_CalG Hc__law_is_row_CalG Hw_is_row_CalP
def fl0 : List (W.Frag → Bool) := [fun K => clB K (ga K "Make"),
  fun K => decide (W.findIn K (.ref (ga K "Make")) "name" = some none),
  fun K => decide (W.findIn K (.ref (ga K "Make")) "delay" = some none),
  fun K => decide (W.findIn K (.ref (ga K "Make")) "family" = some none),
  fun K => decide (W.findIn K (.ref (ga K "Make")) "__class__" = some (some (.builtin "object.__class__"))),
  fun K => decide (W.mroIn K (ga K "Make") (.type "object") = some true),
  fun K => decide (W.kitOne K (.ref (ga K "Make")) (.ref (ga K "Kind")) = some true),
  fun K => clB K (ga K "Copy"),
  fun K => decide (W.findIn K (.ref (ga K "Copy")) "name" = some none),
  fun K => decide (W.findIn K (.ref (ga K "Copy")) "delay" = some none),
  fun K => decide (W.findIn K (.ref (ga K "Copy")) "family" = some none),
  fun K => decide (W.findIn K (.ref (ga K "Copy")) "__class__" = some (some (.builtin "object.__class__"))),
  fun K => decide (W.mroIn K (ga K "Copy") (.type "object") = some true),
  fun K => decide (W.kitOne K (.ref (ga K "Copy")) (.ref (ga K "Kind")) = some true),
  fun K => clB K (ga K "Give"),
  fun K => decide (W.findIn K (.ref (ga K "Give")) "name" = some none),
  fun K => decide (W.findIn K (.ref (ga K "Give")) "delay" = some none),
  fun K => decide (W.findIn K (.ref (ga K "Give")) "family" = some none),
  fun K => decide (W.findIn K (.ref (ga K "Give")) "__class__" = some (some (.builtin "object.__class__"))),
  fun K => decide (W.mroIn K (ga K "Give") (.type "object") = some true)]
def fl1 : List (W.Frag → Bool) := [fun K => decide (W.kitOne K (.ref (ga K "Give")) (.ref (ga K "Kind")) = some true),
  fun K => clB K (ga K "Jump"),
  fun K => decide (W.findIn K (.ref (ga K "Jump")) "name" = some none),
  fun K => decide (W.findIn K (.ref (ga K "Jump")) "delay" = some none),
  fun K => decide (W.findIn K (.ref (ga K "Jump")) "family" = some none),
  fun K => decide (W.findIn K (.ref (ga K "Jump")) "__class__" = some (some (.builtin "object.__class__"))),
  fun K => decide (W.mroIn K (ga K "Jump") (.type "object") = some true),
  fun K => decide (W.kitOne K (.ref (ga K "Jump")) (.ref (ga K "Kind")) = some true),
  fun K => clB K (ga K "Machine"),
  fun K => decide (W.findIn K (.ref (ga K "Machine")) "kinds" = some none),
  fun K => decide (W.findIn K (.ref (ga K "Machine")) "late" = some none),
  fun K => decide (W.findIn K (.ref (ga K "Machine")) "width" = some none),
  fun K => defB K "within",
  fun K => exaB K,
  fun K => decide (W.nsIn K mainGlobals "isinstance" = some none),
  fun K => decide (W.nsIn K mainGlobals "bool" = some none),
  fun K => decide (W.nsIn K mainGlobals "int" = some none),
  fun K => defB K "is_name",
  fun K => decide (W.nsIn K mainGlobals "str" = some none),
  fun K => decide (W.nsIn K mainGlobals "len" = some none)]
def fl2 : List (W.Frag → Bool) := [fun K => knB K "LONGEST_NAME" (.int 8),
  fun K => decide (W.nsIn K mainGlobals "all" = some none),
  fun K => defB K "check_delay",
  fun K => knB K "LONGEST_DELAY" (.int 6),
  fun K => decide (W.nsIn K mainGlobals "InvalidMachine" = some (some (.ref (ga K "InvalidMachine")))),
  fun K => exB K (ga K "InvalidMachine") "ValueError" "ValueError.__new__" [.type "ValueError", .type "Exception", .type "BaseException", .type "object"],
  fun K => metB K (ga K "InvalidMachine") "__init__" "InvalidMachine.__init__",
  fun K => tyB K (ga K "InvalidMachine") "__init__",
  fun K => decide (W.takerIn K (ga K "InvalidMachine") "reason" = some none),
  fun K => metB K (ga K "Kind") "__init__" "Kind.__init__",
  fun K => knB K "BARRED_NAME" (.str "alike"),
  fun K => supB K (ga K "Make") "__init__" "Make.__init__" file,
  fun K => decide (W.nsIn K mainGlobals "super" = some none),
  fun K => decide (W.nsIn K cStatics "thirdparty.any" = some none),
  fun K => decide (W.mroIn K (ga K "Make") (.ref (ga K "Make")) = some true),
  fun K => decide (W.ks_superIn K (ga K "Make") (ga K "Make") "__init__" = W.findIn K (.ref (ga K "Kind")) "__init__"),
  fun K => tyB K (ga K "Kind") "__init__",
  fun K => supB K (ga K "Copy") "__init__" "Copy.__init__" file,
  fun K => decide (W.mroIn K (ga K "Copy") (.ref (ga K "Copy")) = some true),
  fun K => decide (W.ks_superIn K (ga K "Copy") (ga K "Copy") "__init__" = W.findIn K (.ref (ga K "Kind")) "__init__")]
def fl3 : List (W.Frag → Bool) := [fun K => supB K (ga K "Give") "__init__" "Give.__init__" file,
  fun K => decide (W.mroIn K (ga K "Give") (.ref (ga K "Give")) = some true),
  fun K => decide (W.ks_superIn K (ga K "Give") (ga K "Give") "__init__" = W.findIn K (.ref (ga K "Kind")) "__init__"),
  fun K => supB K (ga K "Jump") "__init__" "Jump.__init__" file,
  fun K => decide (W.mroIn K (ga K "Jump") (.ref (ga K "Jump")) = some true),
  fun K => decide (W.ks_superIn K (ga K "Jump") (ga K "Jump") "__init__" = W.findIn K (.ref (ga K "Kind")) "__init__"),
  fun K => defB K "check_late",
  fun K => knB K "MOST_LATE" (.int 2),
  fun K => defB K "check_width",
  fun K => knB K "MOST_WIDTH" (.int 3),
  fun K => defB K "are_kinds",
  fun K => decide (W.nsIn K mainGlobals "Kind" = some (some (.ref (ga K "Kind")))),
  fun K => defB K "kind_line",
  fun K => metB K (ga K "Machine") "kind" "Machine.kind",
  fun K => decide (W.nsIn K mainGlobals "NoName" = some (some (.ref (ga K "NoName")))),
  fun K => exB K (ga K "NoName") "LookupError" "LookupError.__new__" [.type "KeyError", .type "LookupError", .type "Exception", .type "BaseException", .type "object"],
  fun K => metB K (ga K "NoName") "__init__" "NoName.__init__",
  fun K => tyB K (ga K "NoName") "__init__",
  fun K => decide (W.takerIn K (ga K "NoName") "name" = some none),
  fun K => metB K (ga K "Machine") "__init__" "Machine.__init__"]
def fl4 : List (W.Frag → Bool) := [fun K => decide (W.nsIn K mainGlobals "Machine" = some (some (.ref (ga K "Machine")))),
  fun K => cvB K (ga K "Machine") "MOST_KINDS" (.int 12),
  fun K => clmB K (ga K "Machine") "of" "Machine.of",
  fun K => decide (W.nsIn K mainGlobals "tuple" = some none),
  fun K => decide (W.nsIn K mainGlobals "list" = some none),
  fun K => decide (W.makesIn K (ga K "Machine") = true),
  fun K => decide (W.keepIn K (.ref (ga K "Machine")) = true),
  fun K => metB K (ga K "Machine") "__contains__" "Machine.__contains__",
  fun K => metB K (ga K "Machine") "__str__" "Machine.__str__",
  fun K => defB K "landing_of",
  fun K => defB K "are_sources",
  fun K => decide (W.nsIn K mainGlobals "SOURCES" = some (some (.ref (ga K "SOURCES")))),
  fun K => ktB K (ga K "SOURCES") "make" [.int 0, .int 2],
  fun K => ktB K (ga K "SOURCES") "copy" [.int 1, .int 1],
  fun K => ktB K (ga K "SOURCES") "give" [.int 1, .int 2],
  fun K => ktB K (ga K "SOURCES") "jump" [.int 0, .int 1],
  fun K => defB K "is_operation",
  fun K => decide (W.nsIn K mainGlobals "WRITING_SORTS" = some (some (.ref (ga K "WRITING_SORTS")))),
  fun K => kdB K (ga K "WRITING_SORTS") [.str "make", .str "copy"],
  fun K => knB K "MOST_GOAL" (.int 40)]
def fl5 : List (W.Frag → Bool) := [fun K => defB K "is_row",
  fun K => decide (W.nsIn K mainGlobals "set" = some none),
  fun K => defB K "_law_pick",
  fun K => decide (W.nsIn K mainGlobals "abs" = some none),
  fun K => defB K "_law_draw",
  fun K => defB K "_law_plan",
  fun K => defB K "_law_machine",
  fun K => decide (W.makesIn K (ga K "Make") = true),
  fun K => decide (W.keepIn K (.ref (ga K "Make")) = true),
  fun K => decide (W.nsIn K mainGlobals "Make" = some (some (.ref (ga K "Make")))),
  fun K => decide (W.makesIn K (ga K "Copy") = true),
  fun K => decide (W.keepIn K (.ref (ga K "Copy")) = true),
  fun K => decide (W.nsIn K mainGlobals "Copy" = some (some (.ref (ga K "Copy")))),
  fun K => decide (W.makesIn K (ga K "Give") = true),
  fun K => decide (W.keepIn K (.ref (ga K "Give")) = true),
  fun K => decide (W.nsIn K mainGlobals "Give" = some (some (.ref (ga K "Give")))),
  fun K => decide (W.makesIn K (ga K "Jump") = true),
  fun K => decide (W.keepIn K (.ref (ga K "Jump")) = true),
  fun K => decide (W.nsIn K mainGlobals "Jump" = some (some (.ref (ga K "Jump")))),
  fun K => defB K "_law_operation"]
def fl6 : List (W.Frag → Bool) := [fun K => decide (W.nsIn K mainGlobals "range" = some none),
  fun K => defB K "_law_is_name",
  fun K => defB K "_law_kind",
  fun K => defB K "_law_is_operation",
  fun K => defB K "_law_is_row",
  fun K => defB K "_law_bent",
  fun K => defB K "_law_things",
  fun K => defB K "law",
  fun K => defB K "_law_pen",
  fun K => decide (W.nsIn K mainGlobals "repr" = some none)]
def fl : List (W.Frag → Bool) := fl0 ++ fl1 ++ fl2 ++ fl3 ++ fl4 ++ fl5 ++ fl6
def fn0 : List (W.Frag → Addr) := [fun K => ga K "within",
  fun K => ga K "is_name",
  fun K => ga K "check_delay",
  fun K => ma K (ga K "InvalidMachine") "__init__",
  fun K => ma K (ga K "Kind") "__init__",
  fun K => ma K (ga K "Make") "__init__",
  fun K => ma K (ga K "Copy") "__init__",
  fun K => ma K (ga K "Give") "__init__",
  fun K => ma K (ga K "Jump") "__init__",
  fun K => ga K "check_late",
  fun K => ga K "check_width",
  fun K => ga K "are_kinds",
  fun K => ga K "kind_line",
  fun K => ma K (ga K "Machine") "kind",
  fun K => ma K (ga K "NoName") "__init__",
  fun K => ma K (ga K "Machine") "__init__",
  fun K => cmA K (ga K "Machine") "of",
  fun K => ma K (ga K "Machine") "__contains__",
  fun K => ma K (ga K "Machine") "__str__",
  fun K => ga K "landing_of"]
def fn1 : List (W.Frag → Addr) := [fun K => ga K "are_sources",
  fun K => ga K "is_operation",
  fun K => ga K "is_row",
  fun K => ga K "_law_pick",
  fun K => ga K "_law_draw",
  fun K => ga K "_law_plan",
  fun K => ga K "_law_machine",
  fun K => ga K "_law_operation",
  fun K => ga K "_law_is_name",
  fun K => ga K "_law_kind",
  fun K => ga K "_law_is_operation",
  fun K => ga K "_law_is_row",
  fun K => ga K "_law_bent",
  fun K => ga K "_law_things",
  fun K => ga K "law",
  fun K => ga K "_law_pen"]
def fn : List (W.Frag → Addr) := fn0 ++ fn1
def vs0 : List FnW := [fnV "within" "within" s_within,
  fnV "is_name" "is_name" s_is_name,
  fnV "check_delay" "check_delay" s_check_delay,
  fnV "__init__" "InvalidMachine.__init__" (inClass (top 2) 0),
  fnV "__init__" "Kind.__init__" s_Kind___init__,
  fnV "__init__" "Make.__init__" s_Make___init__,
  fnV "__init__" "Copy.__init__" s_Copy___init__,
  fnV "__init__" "Give.__init__" s_Give___init__,
  fnV "__init__" "Jump.__init__" s_Jump___init__,
  fnV "check_late" "check_late" s_check_late,
  fnV "check_width" "check_width" s_check_width,
  fnV "are_kinds" "are_kinds" s_are_kinds,
  fnV "kind_line" "kind_line" s_kind_line,
  fnV "kind" "Machine.kind" s_Machine_kind,
  fnV "__init__" "NoName.__init__" (inClass (top 4) 0),
  fnV "__init__" "Machine.__init__" s_Machine___init__,
  fnV "of" "Machine.of" s_Machine_of,
  fnV "__contains__" "Machine.__contains__" s_Machine___contains__,
  fnV "__str__" "Machine.__str__" s_Machine___str__,
  fnV "landing_of" "landing_of" s_landing_of]
def vs1 : List FnW := [fnV "are_sources" "are_sources" s_are_sources,
  fnV "is_operation" "is_operation" s_is_operation,
  fnV "is_row" "is_row" s_is_row,
  fnV "_law_pick" "_law_pick" s_l_pick,
  fnV "_law_draw" "_law_draw" sDraw,
  fnV "_law_plan" "_law_plan" s_l_plan,
  fnV "_law_machine" "_law_machine" s_l_machine,
  fnV "_law_operation" "_law_operation" s_l_operation,
  fnV "_law_is_name" "_law_is_name" s_l_is_name,
  fnV "_law_kind" "_law_kind" s_l_kind,
  fnV "_law_is_operation" "_law_is_operation" s_l_is_operation,
  fnV "_law_is_row" "_law_is_row" s_l_is_row,
  fnV "_law_bent" "_law_bent" s_l_bent,
  fnV "_law_things" "_law_things" s_l_things,
  fnV "law" "law" s_law,
  fnV "_law_pen" "_law_pen" sPen]
def vs : List FnW := vs0 ++ vs1
def ts : List Tab := [(fun K => ga K "SOURCES", ["make", "copy", "give", "jump"])]
theorem all_hk {w : World} {K : W.Frag} {h : Heap} {mg : Str → Option Value} {fa : Addr} (X : K.In h) (G : h.Ns mainGlobals mg) (hfa : mg "law" = some (.ref fa)) (c : Says fl fn vs ts w K) :
    ∃ fd : FuncData, (∀ (s : Shared) (v : Value), BindsTo s fd ⟨[v], []⟩ [("_law_script", v)]) ∧ ∀ base : Heap, K.In base → base.Ns mainGlobals mg → (∃ m, base.Ns sysModules m) → FnG (PySem.Challenge.rw_latelands_k05_operations_and_rows).prog w K mg base CX0 8 fa fd ["_law_script"] (L2.DL.spLaw K) :=
  @all_in ⟨K, fun x => ga K x⟩ w K h mg fa rfl (ga K "Make") (ga K "Copy") (ga K "Give") (ga K "Jump") (ga K "Kind") (ga K "Machine") (ga K "InvalidMachine") (ga K "NoName") (ga K "SOURCES") (ga K "WRITING_SORTS") rfl rfl rfl rfl rfl rfl rfl rfl rfl rfl X G hfa
    (cl_ok (c.fact 0 rfl))
    (of_decide_eq_true (c.fact 1 rfl))
    (of_decide_eq_true (c.fact 2 rfl))
    (of_decide_eq_true (c.fact 3 rfl))
    (of_decide_eq_true (c.fact 4 rfl))
    (of_decide_eq_true (c.fact 5 rfl))
    (of_decide_eq_true (c.fact 6 rfl))
    (cl_ok (c.fact 7 rfl))
    (of_decide_eq_true (c.fact 8 rfl))
    (of_decide_eq_true (c.fact 9 rfl))
    (of_decide_eq_true (c.fact 10 rfl))
    (of_decide_eq_true (c.fact 11 rfl))
    (of_decide_eq_true (c.fact 12 rfl))
    (of_decide_eq_true (c.fact 13 rfl))
    (cl_ok (c.fact 14 rfl))
    (of_decide_eq_true (c.fact 15 rfl))
    (of_decide_eq_true (c.fact 16 rfl))
    (of_decide_eq_true (c.fact 17 rfl))
    (of_decide_eq_true (c.fact 18 rfl))
    (of_decide_eq_true (c.fact 19 rfl))
    (of_decide_eq_true (c.fact 20 rfl))
    (cl_ok (c.fact 21 rfl))
    (of_decide_eq_true (c.fact 22 rfl))
    (of_decide_eq_true (c.fact 23 rfl))
    (of_decide_eq_true (c.fact 24 rfl))
    (of_decide_eq_true (c.fact 25 rfl))
    (of_decide_eq_true (c.fact 26 rfl))
    (of_decide_eq_true (c.fact 27 rfl))
    (cl_ok (c.fact 28 rfl))
    (of_decide_eq_true (c.fact 29 rfl))
    (of_decide_eq_true (c.fact 30 rfl))
    (of_decide_eq_true (c.fact 31 rfl))
    (def_ok (c.fact 32 rfl) (c.fn_ 0 rfl rfl))
    (exa_ok (c.fact 33 rfl))
    (of_decide_eq_true (c.fact 34 rfl))
    (of_decide_eq_true (c.fact 35 rfl))
    (of_decide_eq_true (c.fact 36 rfl))
    (def_ok (c.fact 37 rfl) (c.fn_ 1 rfl rfl))
    (of_decide_eq_true (c.fact 38 rfl))
    (of_decide_eq_true (c.fact 39 rfl))
    (kn_ok (c.fact 40 rfl))
    (of_decide_eq_true (c.fact 41 rfl))
    (def_ok (c.fact 42 rfl) (c.fn_ 2 rfl rfl))
    (kn_ok (c.fact 43 rfl))
    (of_decide_eq_true (c.fact 44 rfl))
    (ex_ok (c.fact 45 rfl) PySem.F.excBase_ValueError PySem.F.store_ValueError)
    (met_ok (c.fact 46 rfl) (c.fn_ 3 rfl rfl))
    (ty2_ok (c.fact 47 rfl))
    (of_decide_eq_true (c.fact 48 rfl))
    (met_ok (c.fact 49 rfl) (c.fn_ 4 rfl rfl))
    (kn_ok (c.fact 50 rfl))
    (sup_ok (c.fact 51 rfl) (c.fn_ 5 rfl rfl) file_ok super_ok)
    (of_decide_eq_true (c.fact 52 rfl))
    (of_decide_eq_true (c.fact 53 rfl))
    (of_decide_eq_true (c.fact 54 rfl))
    (of_decide_eq_true (c.fact 55 rfl))
    (ty3_ok (c.fact 56 rfl))
    (sup_ok (c.fact 57 rfl) (c.fn_ 6 rfl rfl) file_ok super_ok)
    (of_decide_eq_true (c.fact 58 rfl))
    (of_decide_eq_true (c.fact 59 rfl))
    (sup_ok (c.fact 60 rfl) (c.fn_ 7 rfl rfl) file_ok super_ok)
    (of_decide_eq_true (c.fact 61 rfl))
    (of_decide_eq_true (c.fact 62 rfl))
    (sup_ok (c.fact 63 rfl) (c.fn_ 8 rfl rfl) file_ok super_ok)
    (of_decide_eq_true (c.fact 64 rfl))
    (of_decide_eq_true (c.fact 65 rfl))
    (def_ok (c.fact 66 rfl) (c.fn_ 9 rfl rfl))
    (kn_ok (c.fact 67 rfl))
    (def_ok (c.fact 68 rfl) (c.fn_ 10 rfl rfl))
    (kn_ok (c.fact 69 rfl))
    (def_ok (c.fact 70 rfl) (c.fn_ 11 rfl rfl))
    (of_decide_eq_true (c.fact 71 rfl))
    (def_ok (c.fact 72 rfl) (c.fn_ 12 rfl rfl))
    (met_ok (c.fact 73 rfl) (c.fn_ 13 rfl rfl))
    (of_decide_eq_true (c.fact 74 rfl))
    (ex_ok (c.fact 75 rfl) PySem.F.excBase_LookupError L2.HK.Keys_store)
    (met_ok (c.fact 76 rfl) (c.fn_ 14 rfl rfl))
    (ty2_ok (c.fact 77 rfl))
    (of_decide_eq_true (c.fact 78 rfl))
    (met_ok (c.fact 79 rfl) (c.fn_ 15 rfl rfl))
    (of_decide_eq_true (c.fact 80 rfl))
    (cv_ok (c.fact 81 rfl))
    (clm_ok (c.fact 82 rfl) (c.fn_ 16 rfl rfl))
    (of_decide_eq_true (c.fact 83 rfl))
    (of_decide_eq_true (c.fact 84 rfl))
    (of_decide_eq_true (c.fact 85 rfl))
    (of_decide_eq_true (c.fact 86 rfl))
    (met_ok (c.fact 87 rfl) (c.fn_ 17 rfl rfl))
    (met_ok (c.fact 88 rfl) (c.fn_ 18 rfl rfl))
    (def_ok (c.fact 89 rfl) (c.fn_ 19 rfl rfl))
    (def_ok (c.fact 90 rfl) (c.fn_ 20 rfl rfl))
    (of_decide_eq_true (c.fact 91 rfl))
    (kt_ok (c.fact 92 rfl) (c.tab 0 rfl))
    (kt_ok (c.fact 93 rfl) (c.tab 0 rfl))
    (kt_ok (c.fact 94 rfl) (c.tab 0 rfl))
    (kt_ok (c.fact 95 rfl) (c.tab 0 rfl))
    (def_ok (c.fact 96 rfl) (c.fn_ 21 rfl rfl))
    (of_decide_eq_true (c.fact 97 rfl))
    (kd_ok (c.fact 98 rfl))
    (kn_ok (c.fact 99 rfl))
    (def_ok (c.fact 100 rfl) (c.fn_ 22 rfl rfl))
    (of_decide_eq_true (c.fact 101 rfl))
    (def_ok (c.fact 102 rfl) (c.fn_ 23 rfl rfl))
    (of_decide_eq_true (c.fact 103 rfl))
    (def_ok (c.fact 104 rfl) (c.fn_ 24 rfl rfl))
    (def_ok (c.fact 105 rfl) (c.fn_ 25 rfl rfl))
    (def_ok (c.fact 106 rfl) (c.fn_ 26 rfl rfl))
    (of_decide_eq_true (c.fact 107 rfl))
    (of_decide_eq_true (c.fact 108 rfl))
    (of_decide_eq_true (c.fact 109 rfl))
    (of_decide_eq_true (c.fact 110 rfl))
    (of_decide_eq_true (c.fact 111 rfl))
    (of_decide_eq_true (c.fact 112 rfl))
    (of_decide_eq_true (c.fact 113 rfl))
    (of_decide_eq_true (c.fact 114 rfl))
    (of_decide_eq_true (c.fact 115 rfl))
    (of_decide_eq_true (c.fact 116 rfl))
    (of_decide_eq_true (c.fact 117 rfl))
    (of_decide_eq_true (c.fact 118 rfl))
    (def_ok (c.fact 119 rfl) (c.fn_ 27 rfl rfl))
    (of_decide_eq_true (c.fact 120 rfl))
    (def_ok (c.fact 121 rfl) (c.fn_ 28 rfl rfl))
    (def_ok (c.fact 122 rfl) (c.fn_ 29 rfl rfl))
    (def_ok (c.fact 123 rfl) (c.fn_ 30 rfl rfl))
    (def_ok (c.fact 124 rfl) (c.fn_ 31 rfl rfl))
    (def_ok (c.fact 125 rfl) (c.fn_ 32 rfl rfl))
    (def_ok (c.fact 126 rfl) (c.fn_ 33 rfl rfl))
    (def_ok (c.fact 127 rfl) (c.fn_ 34 rfl rfl))
    (def_ok (c.fact 128 rfl) (c.fn_ 35 rfl rfl))
    (of_decide_eq_true (c.fact 129 rfl))
def names0 : List Str := ["__name__",
  "LandError",
  "InvalidMachine",
  "InvalidText",
  "NoName",
  "within",
  "LONGEST_NAME",
  "LONGEST_DELAY",
  "BARRED_NAME",
  "is_name",
  "check_delay",
  "Kind",
  "Make",
  "Copy",
  "Give",
  "Jump",
  "MOST_GOAL",
  "SOURCES",
  "WRITING_SORTS",
  "is_operation"]
def names1 : List Str := ["are_sources",
  "is_row",
  "landing_of",
  "MOST_LATE",
  "MOST_WIDTH",
  "HEADS",
  "DELAYS",
  "DELAYED_SORTS",
  "PLAIN_SORTS",
  "Machine",
  "check_late",
  "check_width",
  "are_kinds",
  "kind_line",
  "read_parts",
  "words_at",
  "check_line",
  "wrong_in_head",
  "wrong_in_kind",
  "is_free"]
def names2 : List Str := ["read_kind",
  "_law_pen",
  "_law_draw",
  "_law_pick",
  "_law_plan",
  "_law_machine",
  "_law_operation",
  "_law_is_name",
  "_law_kind",
  "_law_is_operation",
  "_law_is_row",
  "_law_bent",
  "_law_things"]
def names : List Str := names0 ++ names1 ++ names2
abbrev RR : W.OpenRow := W.OpenLaw.row PySem.Challenge.rw_latelands_k05_operations_and_rows
abbrev qv : Program := W.view RR.prog [58]
abbrev Run (w : World) : Prop := HandSHeadRun.RunEq RR qv (hk 700 fl fn vs ts) (ob 700 fl fn ts) 6000 names w
theorem runF (w : World) : Run (w.withFollow "special-get-raises" false) := by
  intro os
  kernel_rfl
theorem runT (w : World) : Run (w.withFollow "special-get-raises" true) := by
  intro os
  kernel_rfl
theorem run (w : World) : Run w := W.byRow2 "special-get-raises" (P := Run) runF runT w
end L2.K5
open L2 L2.My PySem PySem.W PySem.Spec PyProof.Rows
set_option maxRecDepth 100000 in
set_option maxHeartbeats 0 in
theorem PySem.Challenge.cw_latelands_k05_operations_and_rows_holds : PySem.Challenge.rw_latelands_k05_operations_and_rows.Holds := by
  w_on; o_law
  refine HandSHeadRun.head_any (r := OpenLaw.row PySem.Challenge.rw_latelands_k05_operations_and_rows) (q := L2.K5.qv) (H := L2.HK.hk 700 L2.K5.fl L2.K5.fn L2.K5.vs L2.K5.ts) (ob := L2.HK.ob 700 L2.K5.fl L2.K5.fn L2.K5.ts) (M := 6000) (loose := L2.K5.names) (d := HandSHeadRun.topDef (OpenLaw.row PySem.Challenge.rw_latelands_k05_operations_and_rows).prog 58) (kwd := []) L2.HK.ob_eq
    (by kernel_rfl) (fun s => by kernel_rfl) L2.K5.run (by kernel_rfl) (by kernel_rfl) (by kernel_rfl) (by rfl) (by first | assumption | decide +kernel) (by decide +kernel) ⟨rfl, rfl, rfl, rfl, rfl, by decide +kernel⟩ ?hw ?hc
  case hw => w_witness2
  case hc =>
    refine L2.HK.top_k (l := PySem.Challenge.rw_latelands_k05_operations_and_rows) (n := 63) (k := 8) (x := "_law_script") (sp := L2.DL.spLaw) (by decide +kernel) rfl (by decide) (by kernel_rfl) ⟨rfl, by decide, by decide⟩ ?F (fun K H a ns hl hO hS => ⟨a, ns, rfl, hS, fun _ => rfl⟩)
    intro w mg fa h Y G hmg0
    obtain ⟨K, KX, c⟩ := Y
    have hmg : mg ("law" : PySem.Str) = some (.ref fa) := by
      have e : (HandSHeadRun.topDef (OpenLaw.row PySem.Challenge.rw_latelands_k05_operations_and_rows).prog 58).name = ("law" : PySem.Str) := by kernel_rfl
      rw [← e]
      exact hmg0
    exact ⟨K, KX, L2.K5.all_hk KX G hmg c⟩
