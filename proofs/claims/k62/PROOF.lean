import PyProof.Rows.All
import Wide.All
import OpenK.AllK
import Wide.FinOn
import PyProof.ReprRoads
import HandS.ForMost
import HandS.IsInst
import HandS.More
import HandS.DeepEq
import HandS.SetKeys
import HandS.Lambda
import HandS.TupAny
import HandS.TupMul
import HandS.Style
import HandS.Deep
import HandS.Wide
import HandS.ExcInit
import HandS.ExcIs
import HandS.ExcField
import HandS.RaiseMore
import HandS.EndBits
import HandS.Walk
import PyProof.FactsAll.dict_1
import PyProof.FactsAll.dict_2
import PyProof.NeKinds
import PyProof.FactsAll.subtypes_3
import PyProof.FactsAll.subtypes_4
import KE.KExcIs
import HandS.SetTxt0
import HandS.Set
import HandS.SetFor
import KE.KRevSl
import HandS.Codes
import PyProof.Rows.CountFlat
import HandS.TupSets
import KE.KStrOpen
import PyProof.ReprLen
import HandS.Head0
import HandS.Head1
import HandS.Head2
import HandS.HeadEnd
import HandS.HeadHook1
import HandS.HeadHook2
import HandS.HeadHook3
import HandS.HeadHook4
import PySem.Challenge.RW_fourfaces_k62_torn_logs_judged
set_option Elab.async false
set_option linter.all false
set_option maxRecDepth 100000
set_option maxHeartbeats 2000000
/-! ## Promises that are kept where nothing is being shown (no repr is open), and where sys.modules stands -/
namespace Quiet
open PySem PySem.Spec PyProof.Rows L2

/-- nothing is being shown -/
abbrev Calm (A : Around) : Prop := A.guards = some []
/-- the base has what stands at sys.modules -/
def HasMods (base : Heap) : Prop := ∃ o, base.get? sysModules = some o

structure Keeps (P : Program) (w : World) (K : PySem.W.Frag) (mg : Str → Option Value) (base : Heap) (k : Nat) (f : Addr) (fd : FuncData) (ps : List Str) (sp : Sp) : Prop where
  many : ∀ vs H Q E, sp vs H Q E → vs.length = ps.length
  go : ∀ (A : Around) (outer : List Env) (s : Shared) (H : Hp) (args : Args) (us : List Value) (vs : List V) (Q : VK) (E : XK), Calm A → Room k A → Env0 P w K mg base A outer s H →
    BindsTo s fd args (ps.zip us) → Vals vs us → sp vs H Q E → codeAny (model P w) A (.call (.ref f) args) (CR CX0 outer P w H s Q E) s

theorem calm_deeper {A : Around} {env : Env} (h : Calm A) : Calm (A.deeper env) := by
  unfold Calm at *
  simp [Around.deeper, Around.under, pushGuards, Code.guards, Code.isGuard, h]

/-- a def of the text, by its body, where nothing is being shown -/
theorem keeps_of {P : Program} {w : World} {K : PySem.W.Frag} {mg : Str → Option Value} {base : Heap} {x qual : Str} {st : Stmt} {f : Addr} {fd : FuncData} {N ps : List Str} {k : Nat} {sp : Sp}
    (F : Fun K x qual st f fd) (S : FnScope N ps (defScope st)) (many : ∀ vs H Q E, sp vs H Q E → vs.length = ps.length)
    (body : ∀ (cdv : Value) (A : Around) (outer : List Env) (s : Shared) (H : Hp) (vs : List V) (Q : VK) (E : XK), Calm (A.deeper (envOfC qual (defScope st) s.heap.objs.size f cdv)) →
      Room k (A.deeper (envOfC qual (defScope st) s.heap.objs.size f cdv)) → sp vs H Q E →
      ∃ t, PSs (cxOf CX0 P w K mg base N qual (defScope st) f cdv A outer s H E).nox (defBody st) t ∧ t { nx := fun _ H' => Q .non H', rt := Q } (start N vs) H) :
    Keeps P w K mg base (k + 1) f fd ps sp := by
  obtain ⟨oc, od, kV, doc, pm, an, cdv, ct, osl, rfl, lk, hcd⟩ := F.ex
  refine ⟨many, ?_⟩
  intro A outer s H args us vs Q E hc hr e0 hb hv hs
  refine LamX.run_ofS lk hcd S hr e0 hb hv (many _ _ _ _ hs) ?_
  intro hr2
  obtain ⟨t, h1, h2⟩ := body cdv A outer s H vs Q E (calm_deeper hc) hr2 hs
  exact ⟨t, h1.nox, h2⟩
/-- a promise that is kept anywhere is kept there -/
theorem Keeps.ofAny {P : Program} {w : World} {K : PySem.W.Frag} {mg : Str → Option Value} {base : Heap} {k : Nat} {f : Addr} {fd : FuncData} {ps : List Str} {sp : Sp}
    (G : FnOk P w K mg base CX0 k f fd ps sp) : Keeps P w K mg base k f fd ps sp := ⟨G.len, fun A outer s H args us vs Q E _ hr e0 => G.run A outer s H args us vs Q E hr e0⟩

section
variable {X : Cx} {k : Nat} {f : Addr} {fd : FuncData} {ps : List Str} {sp : Sp} {x : Str} {p pos : Pos} {e : Expr} {es : List Expr} {t : TA}
/-- f(e, ..) of such a def -/
theorem pe_quiet (G : Keeps X.prog X.w X.K X.mg X.base k f fd ps sp) (hc : Calm X.A) (hr : Room k X.A) (hg : Gl X x) (hm : X.mg x = some (.ref f)) (hk : PySem.W.keepIn X.K (.ref f) = true) (hb : Binds X.K fd ps [])
    (ha : PA X (e :: es) t) (hdb : (x == ("__debug__" : Str)) = false := by decide) (he : starEach (e :: es) X.env = (false, eval e X.env) :: starEach es X.env := by rfl)
    (hpl : (backTo pos (starEach es X.env)).any (·.1) = false := by rfl) : PE X (.Call (.Name x p) (e :: es) [] pos) (tCall sp [] (fun _ _ _ => False) t) := by
  constructor
  intro pins s σ H Q I h
  apply wpAny_Call_Name_kw
  apply ld_glob I hg hm (hd := hdb)
  refine PySem.W.callWith_K (h₀ := X.base) I.ok.mod.kin hk ?_ he hpl
  refine thn (ha.run pos pins s σ H _ I h) ?_
  rintro us s1 ⟨vs, H1, I1, r, q⟩
  refine ⟨I1.kIn, ?_⟩
  have q0 : sp vs H1 Q (fun _ _ _ => False) := by simpa using q
  have hl : us.length = ps.length := by rw [← r.length]; exact G.many _ _ _ _ q0
  have bt : BindsTo s1 fd ⟨us, []⟩ (ps.zip us) := by
    have z := hb s1 us I1.kIn (by simpa using hl)
    simpa using z
  refine wpAny_call (codeAny_mono (G.go X.A X.stack s1 H1 ⟨us, []⟩ us vs Q _ hc hr I1.env0 bt r q0) ?_)
  intro res s2 hq
  match res, hq with
  | .ok (.ret u), hq => exact I1.after hq
end
end Quiet
set_option Elab.async false
set_option linter.all false
set_option maxRecDepth 100000
set_option maxHeartbeats 2000000
namespace Quiet
open PySem PySem.Spec PyProof.Rows L2

mutual
/-- the value v is the data d, laid out in objects that are tracked -/
inductive Is (H : Hp) : V → PyData → Prop
  | non : Is H .non .none
  | bl (b : Bool) : Is H (.bl b) (.bool b)
  | int (i : Int) : Is H (.int i) (.int i)
  | str (x : Str) : Is H (.str x) (.str x)
  | lst {a : Addr} {xs : List V} {ds : List PyData} : H a = some (.lst xs) → Are H xs ds → Is H (.ref a) (.list ds)
  | tup {a : Addr} {xs : List V} {ds : List PyData} : H a = some (.tup xs) → Are H xs ds → Is H (.ref a) (.tuple ds)
  | dic {a : Addr} {kvs : List (Key × V)} {ds : List (PyData × PyData)} : H a = some (.dK kvs) → AreKv H kvs ds → Is H (.ref a) (.dict ds)
inductive Are (H : Hp) : List V → List PyData → Prop
  | nil : Are H [] []
  | cons {v : V} {vs : List V} {d : PyData} {ds : List PyData} : Is H v d → Are H vs ds → Are H (v :: vs) (d :: ds)
inductive AreKv (H : Hp) : List (Key × V) → List (PyData × PyData) → Prop
  | nil : AreKv H [] []
  | cons {k : Str} {v : V} {r : List (Key × V)} {d : PyData} {ds : List (PyData × PyData)} : Is H v d → AreKv H r ds → AreKv H ((.inr k, v) :: r) ((.str k, d) :: ds)
end

section
variable {X : Cx} {pins : List (Addr × Obj)} {σ : L2.St} {H : Hp} {s : Shared}
theorem pairs_read {prog : Program} {w : World} : ∀ {es : List DictEntry} {vs : List (Key × Value)} {kvs : List (Key × V)} {ds : List (PyData × PyData)},
    Pairs (mixKind prog w) es vs → KV kvs vs → AreKv H kvs ds → (∃ as, ReadsAll s.heap (es.map (·.key)) (ds.map (·.1)) as ∧ as = []) ∧ Vals (kvs.map (·.2)) (es.map (·.val)) := by
  intro es
  induction es with
  | nil =>
    intro vs kvs ds hp hk ha
    cases hp
    cases hk
    cases ha
    exact ⟨⟨[], .nil, rfl⟩, .nil⟩
  | cons e es ih =>
    intro vs kvs ds hp hk ha
    cases hp with
    | cons q1 q2 h2 =>
      cases hk with
      | cons g1 g2 =>
        cases ha with
        | @cons kk vv rr dd ds' a1 a2 =>
          obtain ⟨⟨as, r1, r2⟩, r3⟩ := ih h2 g2 a2
          obtain ⟨e1, e2⟩ := g1
          have e1' : (Sum.inr kk : Key) = _ := e1
          rw [← e1'] at q1
          have q1' : keyIs (Sum.inr kk) e.key = true := q1
          rcases keyIs_shape q1' with ⟨i, t, z, _⟩ | ⟨y, t, z, hy⟩
          · exact nomatch z
          · obtain rfl : kk = y := Sum.inr.inj z
            refine ⟨⟨[], ?_, rfl⟩, .cons (show L2.RelV vv e.val from q2 ▸ e2) r3⟩
            show ReadsAll s.heap (e.key :: _) _ _
            rw [hy]
            have := ReadsAll.cons (Reads.str (h := s.heap) kk t) r1
            rw [r2] at this
            exact this

mutual
theorem Is.read (I : Inv X pins σ H s) : ∀ (d : PyData) (v : V) (u : Value), Is H v d → RelV v u → ∃ as, Reads s.heap u d as ∧ ∀ b ∈ as, ∃ o, H b = some o
  | .none, _, _, h, r => by
    cases h
    cases r
    exact ⟨_, Reads.none, by simp⟩
  | .bool b, _, _, h, r => by
    cases h
    cases r
    exact ⟨_, Reads.bool b, by simp⟩
  | .int i, _, _, h, r => by
    cases h
    obtain ⟨t, rfl⟩ := r
    exact ⟨_, Reads.int i t, by simp⟩
  | .str x, _, _, h, r => by
    cases h
    obtain ⟨t, rfl⟩ := r
    exact ⟨_, Reads.str x t, by simp⟩
  | .list ds, _, _, h, r => by
    cases h with
    | lst hs ha =>
      cases r
      obtain ⟨_, its, n, rv, e⟩ := I.hok _ _ hs
      obtain ⟨as, hr, hm⟩ := Are.read I ds _ its ha rv
      exact ⟨_, Reads.list e rfl rfl (by simpa using hr), fun b hb => by
        rcases List.mem_cons.mp hb with z | z
        · rw [z]; exact ⟨_, hs⟩
        · exact hm b z⟩
  | .tuple ds, _, _, h, r => by
    cases h with
    | tup hs ha =>
      cases r
      obtain ⟨_, its, rv, o, e, c, n, hd⟩ := I.hok _ _ hs
      obtain ⟨as, hr, hm⟩ := Are.read I ds _ its ha rv
      exact ⟨_, Reads.tuple e c hd (by simpa using hr), hm⟩
  | .dict ds, _, _, h, r => by
    cases h with
    | dic hs ha =>
      cases r
      obtain ⟨_, _, vs, kv, o, es, ep, e, c, hd, _, hp, _⟩ := I.hok _ _ hs
      obtain ⟨⟨as, q1, q2⟩, q3⟩ := pairs_read (s := s) hp kv ha
      obtain ⟨bs, hr, hm⟩ := AreKv.read I ds _ _ ha q3
      refine ⟨_, Reads.dict e c.1 hd q1 hr, fun b hb => ?_⟩
      rw [q2] at hb
      rcases List.mem_append.mp hb with z | z
      · obtain rfl := List.mem_singleton.mp z
        exact ⟨_, hs⟩
      · exact hm b z
theorem Are.read (I : Inv X pins σ H s) : ∀ (ds : List PyData) (vs : List V) (us : List Value), Are H vs ds → Vals vs us → ∃ as, ReadsAll s.heap us ds as ∧ ∀ b ∈ as, ∃ o, H b = some o
  | [], _, _, h, r => by
    cases h
    cases r
    exact ⟨_, ReadsAll.nil, by simp⟩
  | d :: ds, _, _, h, r => by
    cases h with
    | cons h1 h2 =>
      cases r with
      | cons r1 r2 =>
        obtain ⟨as, q1, m1⟩ := Is.read I d _ _ h1 r1
        obtain ⟨bs, q2, m2⟩ := Are.read I ds _ _ h2 r2
        exact ⟨_, ReadsAll.cons q1 q2, fun b hb => (List.mem_append.mp hb).elim (m1 b) (m2 b)⟩
theorem AreKv.read (I : Inv X pins σ H s) : ∀ (ds : List (PyData × PyData)) (kvs : List (Key × V)) (us : List Value), AreKv H kvs ds → Vals (kvs.map (·.2)) us → ∃ as, ReadsAll s.heap us (ds.map (·.2)) as ∧ ∀ b ∈ as, ∃ o, H b = some o
  | [], _, _, h, r => by
    cases h
    cases r
    exact ⟨_, ReadsAll.nil, by simp⟩
  | (k, d) :: ds, _, _, h, r => by
    cases h with
    | cons h1 h2 =>
      cases r with
      | cons r1 r2 =>
        obtain ⟨as, q1, m1⟩ := Is.read I d _ _ h1 r1
        obtain ⟨bs, q2, m2⟩ := AreKv.read I ds _ _ h2 r2
        exact ⟨_, ReadsAll.cons q1 q2, fun b hb => (List.mem_append.mp hb).elim (m1 b) (m2 b)⟩
end

/-- repr(x), x any data -/
def rShow : List V → Hp → VK → Prop := fun vs H Q => ∃ (v : V) (d : PyData), vs = [v] ∧ Is H v d ∧ d.showable = true ∧ d.depth ≤ 60 ∧ d.shown.length ≤ sizeLine ∧ Q (.str d.shown) H
theorem call_repr (hg : Calm X.A) (hm : HasMods X.base) (hu : X.A.units + 64 < cLine) : CallR X (.builtin "repr") rShow := by
  intro pins s σ H xs us Q I r h
  obtain ⟨v, d, rfl, hd, hs, hk, hz, q⟩ := h
  obtain ⟨u, rfl, ru⟩ := Vals.one r
  obtain ⟨as, hr, hmem⟩ := Is.read I d v u hd ru
  have nomod : sysModules ∉ as := fun z => by
    obtain ⟨o, ho⟩ := hmem _ z
    obtain ⟨ob, hb⟩ := hm
    have := (I.bs _ _ hb).2
    rw [ho] at this
    cases this
  cases hr with
  | none =>
    exact PySem.P.repr_of_none ⟨.str _, H, I.tok _, ⟨_, rfl⟩, by simpa only [PyData.shown] using q⟩
  | bool b =>
    refine PySem.P.repr_of_bool ⟨.str _, H, I.tok _, ⟨_, rfl⟩, ?_⟩
    simpa only [PyData.shown] using q
  | int i t =>
    have hi : i.natAbs.log2 < 1920 := by simpa [PyData.showable] using hs
    exact PySem.P.repr_of_int hi ⟨.str _, H, I.tok _, ⟨_, rfl⟩, by simpa only [PyData.shown] using q⟩
  | str x t =>
    exact PySem.P.repr_of_str ⟨.str _, H, I.tok _, ⟨_, rfl⟩, by simpa only [PyData.shown] using q⟩ (by simpa only [PyData.shown] using hz)
  | list h1 h2 h3 h4 =>
    exact repr_of_reads' (h₀ := s.heap) (Reads.list h1 h2 h3 h4) hs (fun _ => nomod) hg (by omega) (fun _ _ z => z) (fun h' t tk k => ⟨.str _, H, I.kept k, ⟨_, rfl⟩, q⟩) hz
  | tuple h1 h2 h3 h4 =>
    exact repr_of_reads' (h₀ := s.heap) (Reads.tuple h1 h2 h3 h4) hs (fun _ => nomod) hg (by omega) (fun _ _ z => z) (fun h' t tk k => ⟨.str _, H, I.kept k, ⟨_, rfl⟩, q⟩) hz
  | dict h1 h2 h3 h4 h5 =>
    exact repr_of_reads' (h₀ := s.heap) (Reads.dict h1 h2 h3 h4 h5) hs (fun _ => nomod) hg (by omega) (fun _ _ z => z) (fun h' t tk k => ⟨.str _, H, I.kept k, ⟨_, rfl⟩, q⟩) hz
end
end Quiet
set_option Elab.async false
set_option linter.all false
set_option maxRecDepth 100000
set_option maxHeartbeats 2000000
namespace Quiet
open PySem PySem.Spec PyProof.Rows L2

/-- what the call of the law is to leave behind -/
abbrev LawEnd (s₁ : Shared) (r : Result) (s' : Shared) : Prop := r = .ok (.ret (.bool true)) ∧ OldK s₁.heap s'.heap ∧ s'.os = s₁.os ∧ AllBare s'.gens

section
variable {P : Program} {w : World} {K : PySem.W.Frag} {mg mb : Str → Option Value} {k : Nat} {fa a : Addr} {fd : FuncData} {x : Str} {sp : Sp} {s₁ : Shared} {vs : List Value} {ns : List Int}

/-- from an abstract heap in which the script, at most, is known -/
theorem law_from (KX : K.In s₁.heap) (g0 : s₁.heap.Ns mainGlobals mg) (b0 : s₁.heap.Ns builtinsNs mb) (bb : ∀ y : Str, y ≠ "__name__" → mb y = bootBuiltins y) (lim : s₁.heap.NoLimit) (bare : s₁.gens = #[])
    (mods : ∃ mm, s₁.heap.Ns sysModules mm) (ha : s₁.heap.get? a = some { cls := .type "list", data := .seq vs.toArray }) (hr : Room k callerA)
    (F : ∀ base : Heap, K.In base → base.Ns mainGlobals mg → HasMods base → Keeps P w K mg base k fa fd [x] sp) (bind : ∀ (s : Shared) (u : Value), BindsTo s fd ⟨[u], []⟩ [(x, u)])
    (H : Hp) (only : ∀ b, H b = none ∨ (b = a ∧ ∃ o xs, H b = some (.frz o (.lst xs)))) (hok : HOk P w H s₁.heap) (hK : H a ≠ none → K.lookup a = none)
    (hsp : sp [.ref a] H (fun v _ => v = .bl true) fun _ _ _ => False) :
    codeAny (model P w) callerA (.call (.ref fa) ⟨[.ref a], []⟩) (LawEnd s₁) s₁ := by
  have untr : ∀ {b : Addr} {o : Obj} {es : Array DictEntry} {ep : Nat}, s₁.heap.get? b = some o → o.data = .dict es ep → H b = none := by
    intro b o es ep e d
    rcases only b with z | ⟨z, _⟩
    · exact z
    · rw [z, ha] at e
      cases e
      cases (show Data.seq vs.toArray _ = Data.dict es ep from d)
  have ns_of : ∀ {b : Addr} {m : Str → Option Value}, s₁.heap.Ns b m → (hidT s₁.heap H).Ns b m := by
    rintro b m ⟨o, es, ep, e, d, r⟩
    exact ⟨o, es, ep, hidT_get e (untr e d), d, r⟩
  have kb : K.In (hidT s₁.heap H) := by
    intro b o e
    refine hidT_get (KX b o e) ?_
    rcases only b with z | ⟨z, _⟩
    · exact z
    · cases q : H b with
      | none => rfl
      | some u =>
        have := hK (by rw [← z, q]; simp)
        rw [← z, e] at this
        cases this
  have hmods : HasMods (hidT s₁.heap H) := by
    obtain ⟨mm, hm⟩ := mods
    obtain ⟨o, _, _, e, _⟩ := ns_of hm
    exact ⟨o, e⟩
  have md : Mod K mg (hidT s₁.heap H) := ⟨kb, ns_of g0, ⟨mb, ns_of b0, bb⟩, by
    obtain ⟨mc, h1, h2⟩ := lim
    exact ⟨mc, ns_of h1, h2⟩⟩
  have e0 : Env0 P w K mg (hidT s₁.heap H) callerA [] s₁ H :=
    { frames := rfl, mod := md, bs := fun b o e => of_hidT e, bsz := Nat.le_of_eq (hidT_size _ _), funs := trivial, frf := (fun b hb => absurd (show b ∈ ([] : List Addr) from hb) (by simp)), hok := hok, bare := .of_eq bare }
  have run := (F _ kb (ns_of g0) hmods).go callerA [] s₁ H ⟨[.ref a], []⟩ [.ref a] [.ref a] _ _ rfl hr e0 (bind s₁ (.ref a)) (.cons rfl .nil) hsp
  refine codeAny_mono run ?_
  intro r s' h
  match r, h with
  | .ok (.ret u), h =>
    obtain ⟨v, H', os, br, un, hok', rv, hv⟩ := h
    cases (show v = .bl true from hv)
    cases (show u = Value.bool true from rv)
    refine ⟨rfl, OldK.of_keep ?_, os, br⟩
    intro b o e
    rcases only b with z | ⟨_, ob, xs, z⟩
    · exact un.keep b o e z (fun q => absurd (show b ∈ ([] : List Addr) from q) (by simp)) (by simp)
    · have z2 := un.frzs b ob _ z
      have e1 := (hok b _ z).1
      have e2 := (hok' b _ z2).1
      rw [e] at e1
      cases e1
      exact e2

/-- the law's call, where its def keeps its promise in quiet -/
theorem law_quiet (KX : K.In s₁.heap) (g0 : s₁.heap.Ns mainGlobals mg) (b0 : s₁.heap.Ns builtinsNs mb) (bb : ∀ y : Str, y ≠ "__name__" → mb y = bootBuiltins y) (lim : s₁.heap.NoLimit) (bare : s₁.gens = #[])
    (mods : ∃ mm, s₁.heap.Ns sysModules mm) (ha : s₁.heap.get? a = some { cls := .type "list", data := .seq vs.toArray }) (hi : IntsAre vs ns) (hl : ns.length ≤ sizeLine) (hr : Room k callerA)
    (F : ∀ base : Heap, K.In base → base.Ns mainGlobals mg → HasMods base → Keeps P w K mg base k fa fd [x] sp) (bind : ∀ (s : Shared) (u : Value), BindsTo s fd ⟨[u], []⟩ [(x, u)])
    (hsp : ∀ H : Hp, SqL K H a (ns.map V.int) → sp [.ref a] H (fun v _ => v = .bl true) fun _ _ _ => False) :
    codeAny (model P w) callerA (.call (.ref fa) ⟨[.ref a], []⟩) (LawEnd s₁) s₁ := by
  have rv := vals_ints hi
  have lenV := hi.length
  cases hk : K.lookup a with
  | some o =>
    have e := KX a o hk
    rw [ha] at e
    cases e
    refine law_from KX g0 b0 bb lim bare mods ha hr F bind (fun _ => none) (fun _ => .inl rfl) (fun b u z => by cases (show (none : Option HO) = some u from z)) (fun z => (z rfl).elim) (hsp _ (.inr ?_))
    exact ⟨_, vs.toArray, _, hk, rfl, rfl, rfl, by rw [List.size_toArray, lenV]; exact hl, by simpa using rv⟩
  | none =>
    have hS : (fun b => if b = a then some (HO.frz { cls := .type "list", data := .seq vs.toArray } (.lst (ns.map V.int))) else none : Hp) a = some (.frz { cls := .type "list", data := .seq vs.toArray } (.lst (ns.map V.int))) := if_pos rfl
    refine law_from KX g0 b0 bb lim bare mods ha hr F bind (fun b => if b = a then some (.frz { cls := .type "list", data := .seq vs.toArray } (.lst (ns.map V.int))) else none) ?_ ?_ (fun _ => hk) (hsp _ (.inl (.inr ⟨_, hS⟩)))
    · intro b
      by_cases hb : b = a
      · exact .inr ⟨hb, _, _, if_pos hb⟩
      · exact .inl (if_neg hb)
    · intro b u z
      by_cases hb : b = a
      · subst hb
        rw [show _ = _ from hS] at z
        cases z
        exact ⟨ha, by rw [List.length_map]; exact hl, vs, _, rv, ha⟩
      · cases (if_neg hb).symm.trans z
end

/-- what is left of the row's statement, once its head is done -/
theorem walk_quiet {l : PySem.W.OpenLaw} {n k : Nat} {q : Program} {loose : List Str} {XP : (Str → Option Value) → Heap → Prop} {YP : World → Heap → Prop} {d : DefRec} {K : Params → PySem.W.Frag} {sp : PySem.W.Frag → Sp} {x : Str}
    (hn : l.most = some n) (hn2 : n ≤ sizeLine) (hdf : d.params.defaults = []) (hr : Room k callerA) (hq : importsNone q = true) (hY : ∀ (w : World) (h : Heap), YP w h → (K w.params).In h)
    (F : ∀ (w : World) (mg : Str → Option Value) (fa : Addr) (h : Heap), (K w.params).In h → h.Ns mainGlobals mg → mg d.name = some (.ref fa) →
      ∃ fd : FuncData, (∀ (s : Shared) (u : Value), BindsTo s fd ⟨[u], []⟩ [(x, u)]) ∧
        ∀ base : Heap, (K w.params).In base → base.Ns mainGlobals mg → HasMods base → Keeps l.prog w (K w.params) mg base k fa fd [x] (sp (K w.params)))
    (hsp : ∀ (K : PySem.W.Frag) (H : Hp) (a : Addr) (ns : List Int), ns.length ≤ n → SqL K H a (ns.map V.int) → sp K [.ref a] H (fun v _ => v = .bl true) fun _ _ _ => False) :
    PySem.W.WalkO q loose XP YP l.row.toRowW d [] (fun f vs => PySem.call f vs) := by
  refine Att.attach_call hn hdf ?_
  intro w s₀ s₁ mg mb fa o pm cd doc a vs ns G Y ho hd hcd hmg hobj hints hlen hg
  have KX := hY w _ Y
  obtain ⟨fd, hb, hF⟩ := F w mg fa _ KX G.T.g hmg
  obtain ⟨mm, hm, _⟩ := (G.T.seer hq).mods
  exact law_quiet KX G.T.g G.T.b G.T.builtins G.T.nolimit hg ⟨mm, hm⟩ hobj hints (Nat.le_trans hlen hn2) hr hF hb fun H hS => hsp _ H a ns hlen hS
end Quiet
set_option Elab.async false
set_option linter.all false
set_option maxRecDepth 100000
set_option maxHeartbeats 2000000
namespace Quiet
open PySem PySem.Spec PyProof.Rows L2

theorem units_of {A : Around} {k : Nat} (hr : Room k A) : A.units + 64 < cLine := by have := hr.un; omega

/-! ### rules joined: which one it is, the reading says by the values -/
section
variable {X : Cx}
theorem op_or {f : Value → Value → Sem Value} {r r' : R2} (h : OpR X f r) (h' : OpR X f r') : OpR X f (fun x y H Q => r x y H Q ∨ r' x y H Q) := by
  intro pins s σ H x y v u Q I rx ry q
  rcases q with q | q
  · exact h pins s σ H x y v u Q I rx ry q
  · exact h' pins s σ H x y v u Q I rx ry q
theorem call_or {f : Value} {r r' : List V → Hp → VK → Prop} (h : CallR X f r) (h' : CallR X f r') : CallR X f (fun xs H Q => r xs H Q ∨ r' xs H Q) := by
  intro pins s σ H xs us Q I rx q
  rcases q with q | q
  · exact h pins s σ H xs us Q I rx q
  · exact h' pins s σ H xs us Q I rx q

/-- a + b: ints; texts; lists; tuples -/
def rAddS : R2 := fun x y H Q => ∃ i j, x = V.str i ∧ y = V.str j ∧ i.length + j.length ≤ sizeLine ∧ Q (V.str (i ++ j)) H
def rAddU (K : PySem.W.Frag) : R2 := fun x y H Q => rI0 (fun i j => V.int (i + j)) x y H Q ∨ (rAddS x y H Q ∨ (rCat x y H Q ∨ rCatA K x y H Q))
theorem op_addU : OpR X (binaryOp .Add) (rAddU X.K) := op_or op_add (op_or op_add_str (op_or op_cat op_catA))
/-- a * b: ints; list times int; tuple times int -/
def rMulU (K : PySem.W.Frag) : R2 := fun x y H Q => rI CMul (fun i j => V.int (i * j)) x y H Q ∨ (rRep x y H Q ∨ rRepT K x y H Q)
theorem op_mulU : OpR X (binaryOp .Mult) (rMulU X.K) := op_or op_mul (op_or op_rep op_repT)

/-- data compared by ==, no dict in them -/
def rEqIs : R2 := fun x y H Q => ∃ d e, Is H x d ∧ Is H y e ∧ d.canLay0 = true ∧ e.canLay0 = true ∧ (d.depth ≤ 60 ∨ e.depth ≤ 60) ∧ Q (.bl (PyData.eqv d e)) H
def rNeIs : R2 := fun x y H Q => ∃ d e, Is H x d ∧ Is H y e ∧ d.canLay0 = true ∧ e.canLay0 = true ∧ (d.depth ≤ 60 ∨ e.depth ≤ 60) ∧ Q (.bl (!PyData.eqv d e)) H
theorem op_eqIs (hu : X.A.units + 64 < cLine) : OpR X (compareOp .Eq) rEqIs := by
  intro pins s σ H x y v u Q I rx ry ⟨d, e, hd, he, c1, c2, hk, q⟩
  obtain ⟨as, r1, _⟩ := Is.read I d x v hd rx
  obtain ⟨bs, r2, _⟩ := Is.read I e y u he ry
  exact SeqAt.compareEq_reads r1 r2 c1 c2 (by omega) ⟨.bl _, H, I, rfl, q⟩
theorem op_neIs (hu : X.A.units + 64 < cLine) : OpR X (compareOp .NotEq) rNeIs := by
  intro pins s σ H x y v u Q I rx ry ⟨d, e, hd, he, c1, c2, hk, q⟩
  obtain ⟨as, r1, _⟩ := Is.read I d x v hd rx
  obtain ⟨bs, r2, _⟩ := Is.read I e y u he ry
  exact SeqAt.compareNe_reads r1 r2 c1 c2 (by omega) ⟨.bl _, H, I, rfl, q⟩
def rEqU (K : PySem.W.Frag) : R2 := fun x y H Q => rEq x y H Q ∨ (rEqIs x y H Q ∨ rEqV K x y H Q)
theorem op_eqU (hu : X.A.units + 64 < cLine) : OpR X (compareOp .Eq) (rEqU X.K) := op_or op_eq (op_or (op_eqIs hu) (op_eqV hu))
def rNeU : R2 := fun x y H Q => rNe x y H Q ∨ rNeIs x y H Q
theorem op_neU (hu : X.A.units + 64 < cLine) : OpR X (compareOp .NotEq) rNeU := op_or op_ne (op_neIs hu)
/-- a in b: a flat thing in a list or tuple of flat things; a text in a text -/
def rInS (neg : Bool) : R2 := fun x y H Q => ∃ i j, x = V.str i ∧ y = V.str j ∧ Q (V.bl (if neg then (Builtin.Str.occurrences j i 0 j.length 1).isEmpty else !(Builtin.Str.occurrences j i 0 j.length 1).isEmpty)) H
theorem op_inS : OpR X (compareOp .In) (rInS false) := op_in_str
theorem op_notInS : OpR X (compareOp .NotIn) (rInS true) := by
  intro pins s σ H x y v u Q I rx ry ⟨i, j, e1, e2, q⟩
  exact op_notIn_str pins s σ H x y v u Q I rx ry ⟨i, j, e1, e2, by simpa using q⟩
def rInU (K : PySem.W.Frag) : R2 := fun x y H Q => rIn K false x y H Q ∨ rInS false x y H Q
theorem op_inU : OpR X (compareOp .In) (rInU X.K) := op_or op_in_seq op_inS
def rNotInU (K : PySem.W.Frag) : R2 := fun x y H Q => rIn K true x y H Q ∨ rInS true x y H Q
theorem op_notInU : OpR X (compareOp .NotIn) (rNotInU X.K) := op_or op_notIn_seq op_notInS
/-- len -/
def rLenV (K : PySem.W.Frag) : List V → Hp → VK → Prop := fun xs H Q => ∃ x n, xs = [x] ∧ LenV K x H n ∧ Q (V.int ↑n) H
def rLenD : List V → Hp → VK → Prop := fun xs H Q => ∃ a kvs, xs = [V.ref a] ∧ H a = some (HO.dK kvs) ∧ Q (V.int (kvs.length : Nat)) H
theorem call_lenU : CallR X (.builtin "len") (fun xs H Q => rLenV X.K xs H Q ∨ rLenD xs H Q) := call_or call_len call_lenD
/-- isinstance, of one class, of several -/
theorem call_isiU : CallR X (.builtin "isinstance") (fun xs H Q => rIsi X.K xs H Q ∨ rIsiT X.K xs H Q) := call_or call_isi call_isiT
/-- slices: of a list, a tuple, a text -/
theorem sl_U : SlR X (fun x lo hi H Q => rSlL X.K x lo hi H Q ∨ (rSlA X.K x lo hi H Q ∨ rSlS x lo hi H Q)) := SlR.or sl_list (SlR.or sl_tupA sl_str)
/-- what a for walks: a list, a tuple -/
def iSeq (K : PySem.W.Frag) (tl : TE) : TI := fun σ H R => tl σ H fun x H1 => ∃ a, x = .ref a ∧ (((∃ xs, SqL K H1 a xs) ∧ R (Itl K a) H1) ∨ ((∃ xs, SqT K H1 a xs) ∧ R (Itt K a) H1))
theorem pi_seq {tg l : Expr} {tl : TE} (hl : PE X l tl) : PI X tg l (iSeq X.K tl) := by
  refine ⟨fun pins s σ H R I h => ?_⟩
  refine thn (hl.run pins s σ H _ I h) ?_
  rintro v s1 ⟨x, H1, I1, r1, a, e, q⟩
  have hv : PE X l (fun _ H Q => Q x H) → True := fun _ => trivial
  rcases q with ⟨hs, q⟩ | ⟨hs, q⟩
  · subst e
    obtain ⟨xs, hq⟩ := hs
    cases r1
    obtain ⟨its, rv, p, hz⟩ := I1.list hq
    refine wpAny_pyIter_list p.isList ?_
    refine ⟨s1.heap.objs.size, [s1.heap.objs.size], _, _, H1, rfl, I1.kept (t' := s1.toks) (fun b o e => Heap.get?_push_of_some _ e), turn_list a _, ⟨_, Heap.get?_push_size _ rfl, rfl, rfl⟩, ?_, q⟩
    intro b hb
    obtain rfl := List.mem_singleton.mp hb
    exact I1.fpOk (Nat.le_refl _) (I1.hok.fresh (Nat.le_refl _))
  · subst e
    obtain ⟨xs, hq⟩ := hs
    cases r1
    obtain ⟨its, rv, p, hz⟩ := I1.tuple hq
    refine wpAny_pyIter_tuple (show s1.heap.IsTuple a its.toArray from p) ?_
    refine ⟨s1.heap.objs.size, [s1.heap.objs.size], _, _, H1, rfl, I1.kept (t' := s1.toks) (fun b o e => Heap.get?_push_of_some _ e), turn_tuple a _, ⟨_, Heap.get?_push_size _ rfl, rfl, rfl⟩, ?_, q⟩
    intro b hb
    obtain rfl := List.mem_singleton.mp hb
    exact I1.fpOk (Nat.le_refl _) (I1.hok.fresh (Nat.le_refl _))
/-- xs[i] of a list that is tracked, for xs[i] op= e -/
theorem get_list : PGet X (fun o i H Q => ∃ p xs k v, o = V.ref p ∧ i = V.int k ∧ H p = some (.lst xs) ∧ 0 ≤ k ∧ k < 2 ^ 63 ∧ xs[k.toNat]? = some v ∧ Q v H) := by
  intro pins s σ H o i ov iv Q I ro ri ⟨p, xs, k, v, e1, e2, hp, h0, h1, hv, q⟩
  subst e1 e2
  cases ro
  obtain ⟨t, rfl⟩ := ri
  obtain ⟨its, r, pl, _⟩ := I.list (SqL.of hp)
  obtain ⟨u, hu, ru⟩ := r.get hv
  exact wpAny_getItem_list pl.isList h0 h1 (by simpa using hu) ⟨v, H, I, ru, q⟩
end
section
variable {X : Cx} (K : PySem.W.Frag) (hK : X.K = K)
include hK
theorem addK : OpR X (binaryOp .Add) (rAddU K) := hK ▸ op_addU
theorem mulK : OpR X (binaryOp .Mult) (rMulU K) := hK ▸ op_mulU
theorem eqK (hu : X.A.units + 64 < cLine) : OpR X (compareOp .Eq) (rEqU K) := hK ▸ op_eqU hu
theorem inK : OpR X (compareOp .In) (rInU K) := hK ▸ op_inU
theorem notInK : OpR X (compareOp .NotIn) (rNotInU K) := hK ▸ op_notInU
theorem lenK : CallR X (.builtin "len") (fun xs H Q => rLenV K xs H Q ∨ rLenD xs H Q) := hK ▸ call_lenU
theorem isiK : CallR X (.builtin "isinstance") (fun xs H Q => rIsi K xs H Q ∨ rIsiT K xs H Q) := hK ▸ call_isiU
theorem slK : SlR X (fun x lo hi H Q => rSlL K x lo hi H Q ∨ (rSlA K x lo hi H Q ∨ rSlS x lo hi H Q)) := hK ▸ sl_U
theorem ixK : IxR X (rIx K) := hK ▸ ix_seq
def rListOf : List V → Hp → VK → Prop := fun xs H Q => ∃ (p : Addr) (ys : List V), xs = [V.ref p] ∧ (SqL K H p ys ∨ SqT K H p ys) ∧ ∀ (l : Addr), H l = none → Q (V.ref l) (upd H l (HO.lst ys))
theorem listK : CallR X (.type "list") (rListOf K) := hK ▸ call_list_of
def rTupleOf : List V → Hp → VK → Prop := fun xs H Q => ∃ (p : Addr) (ys : List V), xs = [V.ref p] ∧ ((SqL K H p ys ∧ ∀ (l : Addr), H l = none → Q (V.ref l) (upd H l (HO.tup ys))) ∨ SqT K H p ys ∧ Q (V.ref p) H)
theorem tupleK : CallR X (.type "tuple") (rTupleOf K) := hK ▸ call_tuple_of
theorem allK (hc : X.calm = true) : CallR X (.builtin "all") (rAll K) := hK ▸ cr_all hc
theorem sumK (hc : X.calm = true) : CallR X (.builtin "sum") (rSum K) := hK ▸ cr_sum hc
theorem sortK : CallR X (.builtin "sorted") (rSortedS K) := hK ▸ cr_sortedS
theorem pi_seqK {tg l : Expr} {tl : TE} (hl : PE X l tl) : PI X tg l (iSeq K tl) := hK ▸ pi_seq hl
theorem pg_tupK {es : List Expr} {k : Nat} {t : TGs} {n : Nat} {pos : Pos} (hc : X.calm = true) (h : PGs X es t) (hn : (assignEach es X.env).length = n := by rfl) (hst : (assignEach es X.env).findIdx? (·.1) = none := by rfl) : PG X (.Tuple es k pos) (gTup K n t) := hK ▸ pg_tup hc h hn hst
end
end Quiet
set_option Elab.async false
set_option linter.all false
set_option maxRecDepth 100000
set_option maxHeartbeats 2000000
namespace Quiet
open PySem PySem.Spec PyProof.Rows L2

theorem same_upd {H : Hp} {a : Addr} {o : HO} (h : H a = none) : Same H (upd H a o) := fun b u e => by
  rw [upd_ne (ne_of_none e h)]
  exact e
/-- what is tracked stays, but for the object at D, which is new to H1 -/
theorem same_over {H1 H : Hp} {a : Addr} {o : HO} (h : H1 a = none) (s : Same H1 H) : Same H1 (upd H a o) := fun b u e => by
  rw [upd_ne (ne_of_none e h)]
  exact s b u e
theorem take_one {α : Type} : ∀ {l : List α} {i : Nat} {x : α}, l[i]? = some x → l.take (i + 1) = l.take i ++ [x]
  | [], _, _, h => by simp at h
  | a :: l, 0, x, h => by
    have e : a = x := Option.some.inj h
    subst e
    rfl
  | a :: l, i + 1, x, h => by
    have ih := take_one (l := l) (i := i) (x := x) h
    show a :: l.take (i + 1) = a :: l.take i ++ [x]
    rw [ih]
    rfl
mutual
theorem Is.same {H H' : Hp} (s : Same H H') : ∀ {d : PyData} {v : V}, Is H v d → Is H' v d
  | .none, _, h => by cases h; exact .non
  | .bool b, _, h => by cases h; exact .bl b
  | .int i, _, h => by cases h; exact .int i
  | .str x, _, h => by cases h; exact .str x
  | .list ds, _, h => by
    cases h with
    | lst e k => exact .lst (s _ _ e) (Are.same s k)
  | .tuple ds, _, h => by
    cases h with
    | tup e k => exact .tup (s _ _ e) (Are.same s k)
  | .dict ds, _, h => by
    cases h with
    | dic e k => exact .dic (s _ _ e) (AreKv.same s k)
theorem Are.same {H H' : Hp} (s : Same H H') : ∀ {ds : List PyData} {vs : List V}, Are H vs ds → Are H' vs ds
  | [], _, h => by cases h; exact .nil
  | d :: ds, _, h => by
    cases h with
    | cons a b => exact .cons (Is.same s a) (Are.same s b)
theorem AreKv.same {H H' : Hp} (s : Same H H') : ∀ {ds : List (PyData × PyData)} {kvs : List (Key × V)}, AreKv H kvs ds → AreKv H' kvs ds
  | [], _, h => by cases h; exact .nil
  | (k, d) :: ds, _, h => by
    cases h with
    | cons a b => exact .cons (Is.same s a) (AreKv.same s b)
end
theorem Are.length {H : Hp} : ∀ {ds : List PyData} {vs : List V}, Are H vs ds → vs.length = ds.length
  | [], _, h => by cases h; rfl
  | d :: ds, _, h => by
    cases h with
    | cons a b => simp only [List.length_cons, Are.length b]
theorem Are.get {H : Hp} : ∀ {ds : List PyData} {vs : List V} {i : Nat} {d : PyData}, Are H vs ds → ds[i]? = some d → ∃ v, vs[i]? = some v ∧ Is H v d
  | [], _, _, _, _, e => by simp at e
  | d :: ds, _, 0, _, h, e => by
    cases h with
    | cons a b =>
      simp at e
      subst e
      exact ⟨_, rfl, a⟩
  | d :: ds, _, i + 1, x, h, e => by
    cases h with
    | cons a b =>
      obtain ⟨v, h1, h2⟩ := Are.get (i := i) b (by simpa using e)
      exact ⟨v, by simpa using h1, h2⟩
theorem Are.at' {H : Hp} {ds : List PyData} {vs : List V} {i : Nat} {v : V} (h : Are H vs ds) (e : vs[i]? = some v) : ∃ d, ds[i]? = some d ∧ Is H v d := by
  have hl := h.length
  have hi : i < ds.length := by
    have := (List.getElem?_eq_some_iff.mp e).1
    omega
  obtain ⟨v', e', q⟩ := h.get (List.getElem?_eq_getElem hi)
  rw [e] at e'
  cases e'
  exact ⟨_, List.getElem?_eq_getElem hi, q⟩
theorem Are.append {H : Hp} : ∀ {ds : List PyData} {vs : List V} {es : List PyData} {ws : List V}, Are H vs ds → Are H ws es → Are H (vs ++ ws) (ds ++ es)
  | [], _, _, _, h, k => by cases h; exact k
  | d :: ds, _, _, _, h, k => by
    cases h with
    | cons a b => exact .cons a (Are.append b k)

/-- a comprehension over what is walked, whose elements (and tests) change nothing that is tracked -/
theorem comp_fm {α : Type} {J : It} {G : Hp → Prop} {Y : Nat → Hp → V → Hp → Prop} {g : TG} {tt : TT} {te : TE} {vs : List Nat} {σ : L2.St} {H1 : Hp} {D : Addr} {Qd : Hp → Prop} (ys : List α) (h : α → Option V)
    (w : Walk J ys.length G Y) (hD : H1 D = none) (hz : ys.length < sizeLine) (hG : ∀ H, Same H1 H → G H)
    (step : ∀ (i : Nat) (a : α) (x : V) (H H' : Hp) (R : Option V → Hp → Prop), ys[i]? = some a → Same H1 H → Y i H x H' → (∀ H4, Same H H4 → R (h a) H4) →
      g x (wipe σ vs) H' fun σ2 H2 => wipe σ2 vs = wipe σ vs ∧ tt σ2 H2 fun b H3 => if b = true then te σ2 H3 fun y H4 => R (some y) H4 else R none H3)
    (fin : ∀ H, Same H1 H → H D = some (.lst (ys.filterMap h)) → Qd H) :
    ∃ W : Nat → Nat → Hp → Prop, (∃ m, W 0 m (upd H1 D (.lst []))) ∧ ∀ i m H, W i m H → (J.stop i H ∧ Qd H) ∨ (J.go i H ∧ ∃ Nx : Hp → Prop, (∀ H', Nx H' → ∃ m', m' < m ∧ W (i + 1) m' H') ∧ ∀ x H', J.yld i H x H' →
      g x (wipe σ vs) H' fun σ2 H2 => wipe σ2 vs = wipe σ vs ∧ tt σ2 H2 fun b H3 => if b = true then te σ2 H3 fun y H4 => ∃ acc, H4 D = some (.lst acc) ∧ acc.length < sizeLine ∧ Nx (upd H4 D (.lst (acc ++ [y]))) else Nx H3) := by
  have cut : ∀ i, ((ys.take i).filterMap h).length ≤ ys.length := fun i => Nat.le_trans (List.length_filterMap_le _ _) (List.length_take_le' _ _)
  refine lc_it w (fun i H => Same H1 H ∧ H D = some (.lst ((ys.take i).filterMap h))) ⟨same_upd hD, by rw [upd_same]; rfl⟩ (fun i H _ p => hG H p.1) ?_ ?_
  · rintro i x H H' hi ⟨s1, hd⟩ hy
    have ha : ys[i]? = some ys[i] := List.getElem?_eq_getElem hi
    have step' := step i ys[i] x H H' (fun o H4 => match o with
      | some y => ∃ acc, H4 D = some (.lst acc) ∧ acc.length < sizeLine ∧ (Same H1 (upd H4 D (.lst (acc ++ [y]))) ∧ upd H4 D (.lst (acc ++ [y])) D = some (.lst ((ys.take (i + 1)).filterMap h)))
      | none => Same H1 H4 ∧ H4 D = some (.lst ((ys.take (i + 1)).filterMap h))) ha s1 hy ?_
    · exact step'
    · intro H4 s4
      have e4 := s4 D _ hd
      rw [take_one ha, List.filterMap_append]
      cases q : h ys[i] with
      | some y =>
        refine ⟨_, e4, Nat.lt_of_le_of_lt (cut i) hz, same_over hD (s1.trans s4), ?_⟩
        rw [upd_same]
        simp [q]
      | none =>
        refine ⟨s1.trans s4, ?_⟩
        rw [e4]
        simp [q]
  · rintro H ⟨s1, hd⟩
    rw [List.take_length] at hd
    exact fin H s1 hd

/-- .. without a test -/
theorem comp_map {α : Type} {J : It} {G : Hp → Prop} {Y : Nat → Hp → V → Hp → Prop} {g : TG} {te : TE} {vs : List Nat} {σ : L2.St} {H1 : Hp} {D : Addr} {Qd : Hp → Prop} (ys : List α) (h : α → V)
    (w : Walk J ys.length G Y) (hD : H1 D = none) (hz : ys.length < sizeLine) (hG : ∀ H, Same H1 H → G H)
    (step : ∀ (i : Nat) (a : α) (x : V) (H H' : Hp) (R : V → Hp → Prop), ys[i]? = some a → Same H1 H → Y i H x H' → (∀ H4, Same H H4 → R (h a) H4) →
      g x (wipe σ vs) H' fun σ2 H2 => wipe σ2 vs = wipe σ vs ∧ te σ2 H2 R)
    (fin : ∀ H, Same H1 H → H D = some (.lst (ys.map h)) → Qd H) :
    ∃ W : Nat → Nat → Hp → Prop, (∃ m, W 0 m (upd H1 D (.lst []))) ∧ ∀ i m H, W i m H → (J.stop i H ∧ Qd H) ∨ (J.go i H ∧ ∃ Nx : Hp → Prop, (∀ H', Nx H' → ∃ m', m' < m ∧ W (i + 1) m' H') ∧ ∀ x H', J.yld i H x H' →
      g x (wipe σ vs) H' fun σ2 H2 => wipe σ2 vs = wipe σ vs ∧ tYes σ2 H2 fun b H3 => if b = true then te σ2 H3 fun y H4 => ∃ acc, H4 D = some (.lst acc) ∧ acc.length < sizeLine ∧ Nx (upd H4 D (.lst (acc ++ [y]))) else Nx H3) := by
  refine lc_it w (fun i H => Same H1 H ∧ H D = some (.lst ((ys.take i).map h))) ⟨same_upd hD, by rw [upd_same]; rfl⟩ (fun i H _ p => hG H p.1) ?_ ?_
  · rintro i x H H' hi ⟨s1, hd⟩ hy
    have ha : ys[i]? = some ys[i] := List.getElem?_eq_getElem hi
    refine step i ys[i] x H H' (fun y H4 => ∃ acc, H4 D = some (.lst acc) ∧ acc.length < sizeLine ∧ (Same H1 (upd H4 D (.lst (acc ++ [y]))) ∧ upd H4 D (.lst (acc ++ [y])) D = some (.lst ((ys.take (i + 1)).map h)))) ha s1 hy ?_
    intro H4 s4
    refine ⟨_, s4 D _ hd, ?_, same_over hD (s1.trans s4), ?_⟩
    · rw [List.length_map]
      exact Nat.lt_of_le_of_lt (List.length_take_le' _ _) hz
    · rw [upd_same, take_one ha, List.map_append]
      rfl
  · rintro H ⟨s1, hd⟩
    rw [List.take_length] at hd
    exact fin H s1 hd
end Quiet
set_option Elab.async false
set_option linter.all false
set_option maxRecDepth 100000
set_option maxHeartbeats 2000000
namespace Quiet
open PySem PySem.Spec PyProof.Rows L2 PySem.SeqAt Sem

theorem sub_sd : isSubtype (.type "str") (.type "dict") = pure false := F.sub_str_dict
theorem sub_ds : isSubtype (.type "dict") (.type "str") = pure false := F.sub_dict_str
abbrev dob (es : Array DictEntry) (ep : Nat) : Obj := { cls := .type "dict", dict := none, data := .dict es ep, slots := #[] }
theorem dict_eq_no (l : Addr) (es : Array DictEntry) (ep : Nat) (b : Str) (u : Tok) :
    Meets (Builtin.«dict.__eq__» ⟨[.ref l, .str b u], []⟩) (fun _ R s => s.heap.get? l = some (dob es ep) ∧ R (.ok (.ret .notImplemented)) s) :=
  .of_wp fun prog w A R s h => by
    obtain ⟨hp, g, d, tk, os⟩ := s
    obtain ⟨hl, h⟩ := h
    have f1 := sub_sd
    wp_walk using wpAny_loadPart' hl, wpAny_load hl
    refine wpAny_of_eq sub_sd ?_
    wp_walk using wpAny_loadPart' hl, wpAny_load hl
    exact ⟨_, rfl, h⟩
theorem dict_ne_no (l : Addr) (es : Array DictEntry) (ep : Nat) (b : Str) (u : Tok) :
    Meets (Builtin.«dict.__ne__» ⟨[.ref l, .str b u], []⟩) (fun _ R s => s.heap.get? l = some (dob es ep) ∧ R (.ok (.ret .notImplemented)) s) :=
  .of_wp fun prog w A R s h => by
    obtain ⟨hp, g, d, tk, os⟩ := s
    obtain ⟨hl, h⟩ := h
    have f1 := sub_sd
    wp_walk using wpAny_loadPart' hl, wpAny_load hl
    refine wpAny_of_eq sub_sd ?_
    wp_walk using wpAny_loadPart' hl, wpAny_load hl
    exact ⟨_, rfl, h⟩
theorem str_eq_no (l : Addr) (es : Array DictEntry) (ep : Nat) (b : Str) (u : Tok) :
    Meets (Builtin.«str.__eq__» ⟨[.str b u, .ref l], []⟩) (fun _ R s => s.heap.get? l = some (dob es ep) ∧ R (.ok (.ret .notImplemented)) s) :=
  .of_wp fun prog w A R s h => by
    obtain ⟨hp, g, d, tk, os⟩ := s
    obtain ⟨hl, h⟩ := h
    have f1 := sub_ds
    wp_walk using wpAny_loadPart' hl, wpAny_load hl
    exact ⟨_, rfl, h⟩
theorem str_ne_no (l : Addr) (es : Array DictEntry) (ep : Nat) (b : Str) (u : Tok) :
    Meets (Builtin.«str.__ne__» ⟨[.str b u, .ref l], []⟩) (fun _ R s => s.heap.get? l = some (dob es ep) ∧ R (.ok (.ret .notImplemented)) s) :=
  .of_wp fun prog w A R s h => by
    obtain ⟨hp, g, d, tk, os⟩ := s
    obtain ⟨hl, h⟩ := h
    have f1 := sub_ds
    wp_walk using wpAny_loadPart' hl, wpAny_load hl
    exact ⟨_, rfl, h⟩
section
variable {A : Around} {s : Shared}
theorem rc_dict_str {l : Addr} {es : Array DictEntry} {ep : Nat} (b : Str) (u : Tok) (ho : s.heap.get? l = some (dob es ep)) (hu : A.units < cLine) : RcAt A s (.ref l) (.str b u) false := fun prog w E Q h => by
  exact rc_eq_decline_or (k := false) ⟨_, ho, rfl⟩ (typeIs_str s b u) (by decide) sub_sd F.slot_dict_eq F.slot_str_eq_refl
    (fun _ hq => call_meets F.slot_dict_eq ⟨_, ho, rfl⟩ F.entry_dict_eq (F.args_dict_eq_2 _ _) (dict_eq_no l es ep b u) ⟨ho, hq⟩)
    (fun _ hq => call_meets F.slot_str_eq_refl (typeIs_str s b u) F.entry_str_eq (F.args_str_eq_2 _ _) (str_eq_no l es ep b u) ⟨ho, hq⟩)
    (fun _ hq => wpAny_of_eq (rfl : isSame (.ref l) (.str b u) = pure false) hq) (.inr hu) h
theorem rcne_dict_str {l : Addr} {es : Array DictEntry} {ep : Nat} (b : Str) (u : Tok) (ho : s.heap.get? l = some (dob es ep)) (hu : A.units < cLine) : RcNeAt A s (.ref l) (.str b u) true := fun prog w E Q h => by
  exact rc_ne_decline_or (k := false) ⟨_, ho, rfl⟩ (typeIs_str s b u) (by decide) sub_sd F.slot_dict_ne F.slot_str_ne_refl
    (fun _ hq => call_meets F.slot_dict_ne ⟨_, ho, rfl⟩ F.entry_dict_ne (F.args_dict_ne_2 _ _) (dict_ne_no l es ep b u) ⟨ho, hq⟩)
    (fun _ hq => call_meets F.slot_str_ne_refl (typeIs_str s b u) F.entry_str_ne (F.args_str_ne_2 _ _) (str_ne_no l es ep b u) ⟨ho, hq⟩)
    (fun _ hq => wpAny_of_eq (rfl : isSame (.ref l) (.str b u) = pure false) hq) (.inr hu) h
end
/-- is the data this text? -/
def isText (t : Str) : PyData → Bool | .str x => x == t | _ => false
def rEqT : R2 := fun x y H Q => ∃ d t, Is H x d ∧ y = .str t ∧ Q (.bl (isText t d)) H
def rNeT : R2 := fun x y H Q => ∃ d t, Is H x d ∧ y = .str t ∧ Q (.bl (!isText t d)) H
section
variable {X : Cx}
theorem dict_obj {pins : List (Addr × Obj)} {σ : L2.St} {H : Hp} {s : Shared} {a : Addr} {kvs : List (Key × V)} (I : L2.Inv X pins σ H s) (h : H a = some (.dK kvs)) : ∃ es ep, s.heap.get? a = some (dob es ep) := by
  obtain ⟨_, _, vs, _, o, es, ep, e, c, hd, _⟩ := I.hok _ _ h
  obtain ⟨oc, od, oda, osl⟩ := o
  obtain ⟨h1, h2, h3⟩ := c
  dsimp only at h1 h2 h3 hd
  subst h1 h2 h3 hd
  exact ⟨es, ep, e⟩
theorem op_eqT (hu : X.A.units + 64 < cLine) : OpR X (compareOp .Eq) rEqT := by
  intro pins s σ H x y v u Q I rx ry ⟨d, t, hd, e, q⟩
  subst e
  obtain ⟨tk, rfl⟩ := ry
  have hu' : X.A.units < cLine := by omega
  have fin : ∀ b, isText t d = b → EP X pins σ Q (.bool b) s := fun b eb => ⟨.bl b, H, I, rfl, by rw [← eb]; exact q⟩
  cases hd with
  | non => cases rx; exact RcAt.none_str t tk _ _ _ _ (fin _ rfl)
  | bl b => cases rx; exact RcAt.bool_str b t tk _ _ _ _ (fin _ rfl)
  | int i => obtain ⟨t1, rfl⟩ := rx; exact RcAt.int_str i t1 t tk _ _ _ _ (fin _ rfl)
  | str z => obtain ⟨t1, rfl⟩ := rx; exact RcAt.str_str z t1 t tk _ _ _ _ (fin _ rfl)
  | lst h1 h2 =>
    cases rx
    obtain ⟨_, its, n, rv, ho⟩ := I.hok _ _ h1
    exact RcAt.list_str (items := its.toArray) t tk ⟨_, ho, rfl, n, rfl⟩ hu' _ _ _ _ (fin _ rfl)
  | tup h1 h2 =>
    cases rx
    obtain ⟨_, its, rv, o, ho, c, n, hd⟩ := I.hok _ _ h1
    exact RcAt.tuple_str (items := its.toArray) t tk ⟨o, ho, c, n, hd⟩ hu' _ _ _ _ (fin _ rfl)
  | dic h1 h2 =>
    cases rx
    obtain ⟨es, ep, ho⟩ := dict_obj I h1
    exact rc_dict_str t tk ho hu' _ _ _ _ (fin _ rfl)
theorem op_neT (hu : X.A.units + 64 < cLine) : OpR X (compareOp .NotEq) rNeT := by
  intro pins s σ H x y v u Q I rx ry ⟨d, t, hd, e, q⟩
  subst e
  obtain ⟨tk, rfl⟩ := ry
  have hu' : X.A.units < cLine := by omega
  have fin : ∀ b, (!isText t d) = b → EP X pins σ Q (.bool b) s := fun b eb => ⟨.bl b, H, I, rfl, by rw [← eb]; exact q⟩
  cases hd with
  | non => cases rx; exact RcNeAt.none_str t tk _ _ _ _ (fin _ rfl)
  | bl b => cases rx; exact RcNeAt.bool_str b t tk _ _ _ _ (fin _ rfl)
  | int i => obtain ⟨t1, rfl⟩ := rx; exact RcNeAt.int_str i t1 t tk _ _ _ _ (fin _ rfl)
  | str z => obtain ⟨t1, rfl⟩ := rx; exact RcNeAt.str_str z t1 t tk _ _ _ _ (fin _ rfl)
  | lst h1 h2 =>
    cases rx
    obtain ⟨_, its, n, rv, ho⟩ := I.hok _ _ h1
    exact RcNeAt.list_str (items := its.toArray) t tk ⟨_, ho, rfl, n, rfl⟩ hu' _ _ _ _ (fin _ rfl)
  | tup h1 h2 =>
    cases rx
    obtain ⟨_, its, rv, o, ho, c, n, hd⟩ := I.hok _ _ h1
    exact RcNeAt.tuple_str (items := its.toArray) t tk ⟨o, ho, c, n, hd⟩ hu' _ _ _ _ (fin _ rfl)
  | dic h1 h2 =>
    cases rx
    obtain ⟨es, ep, ho⟩ := dict_obj I h1
    exact rcne_dict_str t tk ho hu' _ _ _ _ (fin _ rfl)
end
end Quiet
set_option Elab.async false
set_option linter.all false
set_option maxRecDepth 100000
set_option maxHeartbeats 2000000
namespace Quiet
open PySem PySem.Spec PyProof.Rows L2

/-! ### exceptions as values -/
/-- an exception of the class at C, its fields -/
def Xc (H : Hp) (a C : Addr) (fs : List (Str × V)) : Prop := (fs = [] ∧ H a = some (exo a C none)) ∨ ∃ dx, H a = some (exo a C (some dx)) ∧ H dx = some (exd dx fs)
theorem Xc.same {H H' : Hp} {a C : Addr} {fs : List (Str × V)} (s : Same H H') (x : Xc H a C fs) : Xc H' a C fs := by
  rcases x with ⟨e, h⟩ | ⟨dx, h1, h2⟩
  · exact .inl ⟨e, s _ _ h⟩
  · exact .inr ⟨dx, s _ _ h1, s _ _ h2⟩
section
variable {X : Cx} {pins : List (Addr × Obj)} {σ : L2.St} {H : Hp} {s : Shared}
theorem Xc.inst {a C : Addr} {fs : List (Str × V)} (I : Inv X pins σ H s) (x : Xc H a C fs) : ∃ ox od, PySem.W.InstAt s.heap a ox C od := by
  rcases x with ⟨_, h⟩ | ⟨dx, h, h2⟩
  · obtain ⟨t1, ho⟩ := exo_at I.hok h
    exact ⟨_, none, ho, rfl, rfl, trivial⟩
  · obtain ⟨t1, ho⟩ := exo_at I.hok h
    obtain ⟨mA, hns, _⟩ := exd_at I.hok h2
    obtain ⟨od, hod, _⟩ := lookIn_ns hns
    exact ⟨_, some od, ho, rfl, rfl, hod⟩
end
/-- isinstance of it -/
def rIsX (K : PySem.W.Frag) : List V → Hp → VK → Prop := fun xs H Q => ∃ (a C : Addr) (fs : List (Str × V)) (c : V) (cv : Value) (b : Bool), xs = [.ref a, c] ∧ Xc H a C fs ∧ ExcC K C ∧ (∀ u, RelV c u → u = cv) ∧ PySem.W.kitOne K (.ref C) cv = some b ∧ Q (.bl b) H
section
variable {X : Cx}
theorem call_isX : CallR X (.builtin "isinstance") (rIsX X.K) := by
  intro pins s σ H xs us Q I r h
  obtain ⟨a, C, fs, c, cv, b, rfl, hx, T, hcv, e, q⟩ := h
  cases r with
  | cons rx rr =>
    cases rr with
    | cons rt rr =>
      cases rr
      cases rx
      have ec := hcv _ rt
      subst ec
      obtain ⟨ox, od, J⟩ := hx.inst I
      obtain ⟨cd, hcl, _⟩ := PySem.W.any_some T.hd
      exact PySem.W.kia_one (PySem.W.kitx_exc (by rw [hcl]; rfl) T.hg T.hk T.hs T.ha T.hn T.ht T.hm) I.kIn J e (fun z => nomatch z) fun tk => ⟨.bl b, H, I.kept (t' := tk) fun _ _ z => z, rfl, q⟩
/-- e.f, a field that its own __init__ has set -/
def tXv (K : PySem.W.Frag) (f : Str) (te : TE) : TE := fun σ H Q => te σ H fun x H1 => ∃ (a C dx : Addr) (fs : List (Str × V)) (v : V), x = .ref a ∧ H1 a = some (exo a C (some dx)) ∧ H1 dx = some (exd dx fs) ∧ XfC K C ∧ PySem.W.findIn K (.ref C) f = some none ∧ fs.lookup f = some v ∧ Q v H1
theorem pe_xv {e : Expr} {te : TE} {pos : Pos} {n : Str} (he : PE X e te) (hb : attributeBase e n X.env (eval e X.env) = eval e X.env := by rfl) : PE X (.Attribute e n pos) (tXv X.K n te) := by
  refine ⟨fun pins s σ H Q I h => ?_⟩
  refine attr_of hb (thn (he.run pins s σ H _ I h) fun u s1 ⟨x, H1, I1, rx, a, C, dx, fs, v, ex, h1, h2, T, hno, l, q⟩ => ?_)
  subst ex
  obtain rfl : u = Value.ref a := rx
  obtain ⟨t1, ho⟩ := exo_at I1.hok h1
  obtain ⟨mA, hns, hr⟩ := exd_at I1.hok h2
  obtain ⟨od, hod, hl⟩ := lookIn_ns hns
  obtain ⟨u, hu, ru⟩ := RelO.some_of (v := v) (o := mA n) (by rw [← l]; exact hr n)
  have J : PySem.W.InstAt s1.heap a _ C (some od) := ⟨ho, rfl, rfl, hod⟩
  exact HandSPX.exc_get I1.kIn J T.ga T.gg T.exC (PySem.W.findObj_own T.hdC hno rfl (by rw [hl, hu])) (handed_of ru) ⟨v, H1, I1.tok _, ru, q⟩
/-- C(e, ..) as a value, C's own __init__ keeping sp -/
def tMkV (C : Addr) (sp : Sp) (ta : TA) : TE := fun σ H Q => ta σ H fun vs H1 => vs.length ≤ 1000 ∧ ∀ a, H1 a = none → sp (.ref a :: vs) (upd H1 a (exo a C none)) (fun v H2 => v = .non ∧ Q (.ref a) H2) (fun _ _ _ => False)
variable {CX : CXT} {x : Str} {C fI : Addr} {k : Nat} {fd : FuncData} {ps : List Str} {sp : Sp} {p pos : Pos} {e : Expr} {es : List Expr} {ta : TA}
theorem mk_run {pins : List (Addr × Obj)} {σ : L2.St} {H1 : Hp} {s1 : Shared} {us : List Value} {vs : List V} {Q : VK} (T : OexC X.K C) (iC : PySem.W.findIn X.K (.ref C) "__init__" = some (some (.ref fI))) (tI : PySem.W.typeIn X.K (.ref fI) = some (.type "function"))
    (F1 : FnOk X.prog X.w X.K X.mg X.base CX k fI fd ps sp) (hr : Room (k + 1) X.A) (hb : Binds X.K fd ps []) (hx : Passes CX X (fun _ _ _ => False)) (I1 : Inv X pins σ H1 s1) (r1 : Vals vs us) (hz : vs.length ≤ 1000)
    (q1 : ∀ a, H1 a = none → sp (.ref a :: vs) (upd H1 a (exo a C none)) (fun v H2 => v = .non ∧ Q (.ref a) H2) (fun _ _ _ => False)) :
    wpAny (model X.prog X.w) X.A (call (.ref C) us) (EP X pins σ Q) X.xe s1 := by
  obtain ⟨nm, q, N, bs, bm, sn, sub, ab, col, dd, k0, k1, k2, k3, k5, hC, hbm⟩ := T.cls
  obtain ⟨hp, g, dr, tk, os⟩ := s1
  have up : hp.objs.size ≤ hp.objs.size + 1 := Nat.le_succ _
  have free : H1 (hp.objs.size + 1) = none := I1.hok.fresh up
  have hq := q1 (hp.objs.size + 1) free
  have old : ∀ b o, hp.get? b = some o → ((hp.push (PySem.W.kdv_tup us)).push (PySem.HandSPX.excO C hp.objs.size)).get? b = some o := fun b o e => Heap.get?_push_of_some _ (Heap.get?_push_of_some _ e)
  have new : ((hp.push (PySem.W.kdv_tup us)).push (PySem.HandSPX.excO C hp.objs.size)).get? (hp.objs.size + 1) = some (PySem.HandSPX.excO C hp.objs.size) := by heap_get
  have I2 : Inv X pins σ (upd H1 (hp.objs.size + 1) (exo (hp.objs.size + 1) C none)) ⟨(hp.push (PySem.W.kdv_tup us)).push (PySem.HandSPX.excO C hp.objs.size), g, dr, tk, os⟩ :=
    I1.laid (t' := tk) (a := hp.objs.size + 1) (o := exo (hp.objs.size + 1) C none) old up (exo_ok new)
  have r2 : Vals (V.ref (hp.objs.size + 1) :: vs) (Value.ref (hp.objs.size + 1) :: us) := .cons rfl r1
  have len : (Value.ref (hp.objs.size + 1) :: us).length = ps.length := by
    have e := r2.length
    rw [F1.len _ _ _ _ hq] at e
    exact e.symm
  have lus : us.length ≤ sizeLine := by
    rw [← Paired.length r1, sizeLine_eq]
    omega
  refine wpAny_call (PySem.HandSPX.call_own F.excBase_ValueError (fun Y => PySem.HandSPX.refsVE_contains Y bm hbm) (I1.kIn _ _ hC) (PySem.W.looks_findIn I1.kIn iC) (fun self => PySem.W.bind_fn I1.kIn self tI) lus
    (codeAny_mono (F1.run _ X.stack _ _ ⟨Value.ref (hp.objs.size + 1) :: us, []⟩ (Value.ref (hp.objs.size + 1) :: us) _ _ (fun _ _ _ => False) (hr.make C us []) (I2.env0.make C us []) (by
      have z := hb _ (Value.ref (hp.objs.size + 1) :: us) I2.kIn (by simpa using len)
      simpa using z) r2 hq) fun r s' hq' => ?_))
  match r, hq' with
  | .error er, hq' => exact hx pins σ _ _ er s' I2 hq'
  | .ok (.ret u), hq' =>
    obtain ⟨v, H2, os2, bare2, un2, hok2, rv, ev, q2⟩ := hq'
    subst ev
    exact ⟨rv, .ref (hp.objs.size + 1), H2, I2.call' (ch := []) os2 un2 hok2 bare2 (fun b z => absurd z (by simp)), rfl, q2⟩
theorem pe_mkV (T : OexC X.K C) (iC : PySem.W.findIn X.K (.ref C) "__init__" = some (some (.ref fI))) (tI : PySem.W.typeIn X.K (.ref fI) = some (.type "function"))
    (F1 : FnOk X.prog X.w X.K X.mg X.base CX k fI fd ps sp) (hr : Room (k + 1) X.A) (hb : Binds X.K fd ps []) (hx : Passes CX X (fun _ _ _ => False)) (hg : Gl X x) (hm : X.mg x = some (.ref C)) (ha : PA X (e :: es) ta)
    (hdb : (x == ("__debug__" : Str)) = false := by decide) (he : starEach (e :: es) X.env = (false, eval e X.env) :: starEach es X.env := by rfl) (hpl : (backTo pos (starEach es X.env)).any (·.1) = false := by rfl) :
    PE X (.Call (.Name x p) (e :: es) [] pos) (tMkV C sp ta) := by
  refine ⟨fun pins s σ H Q I h => ?_⟩
  refine wpAny_Call_Name_kw (ld_glob I hg hm ?_ hdb)
  exact PySem.W.callWith_K (h₀ := X.base) I.ok.mod.kin T.kC (thn (ha.run pos pins s σ H _ I h) fun us s1 ⟨vs, H1, I1, r1, hz, q1⟩ => ⟨I1.kIn, mk_run T iC tI F1 hr hb hx I1 r1 hz q1⟩) he hpl
theorem pe_mkV0 (T : OexC X.K C) (iC : PySem.W.findIn X.K (.ref C) "__init__" = some (some (.ref fI))) (tI : PySem.W.typeIn X.K (.ref fI) = some (.type "function"))
    (F1 : FnOk X.prog X.w X.K X.mg X.base CX k fI fd ps sp) (hr : Room (k + 1) X.A) (hb : Binds X.K fd ps []) (hx : Passes CX X (fun _ _ _ => False)) (hg : Gl X x) (hm : X.mg x = some (.ref C))
    (hdb : (x == ("__debug__" : Str)) = false := by decide) : PE X (.Call (.Name x p) [] [] pos) (tMkV C sp tNil) := by
  refine ⟨fun pins s σ H Q I h => ?_⟩
  refine wpAny_Call_Name_kw (ld_glob I hg hm ?_ hdb)
  obtain ⟨hz, q1⟩ := h
  exact PySem.W.callWith_K0 I.kIn T.kC (mk_run (us := []) T iC tI F1 hr hb hx I .nil hz q1)
end
end Quiet
set_option Elab.async false
set_option linter.all false
set_option maxRecDepth 100000
set_option maxHeartbeats 4000000
namespace Quiet
open PySem PySem.Spec PyProof.Rows L2 PySem.Froz

/-! ### sets of texts -/
/-- by which the payload can be walked -/
structure Wk (w : World) (D : SD) : Prop where
  ris : Ris D.2.2.place.toList
  led : w.params.followText "set-order" = true ∨ D.2.2.led = true
/-- the set of the texts l stands at a -/
def TxSet (P : Program) (w : World) (h : Heap) (a : Addr) (l : List Str) : Prop := ∃ D : SD, h.get? a = some (sObj "set" D) ∧ TxOk P w D l ∧ l.Nodup ∧ Wk w D
section
variable {P : Program} {w : World} {A : Around} {E : Value → Shared → Prop} {s : Shared}
theorem TxSet.on {h h' : Heap} {a : Addr} {l : List Str} (S : TxSet P w h a l) (k : ∀ o, h.get? a = some o → h'.get? a = some o) : TxSet P w h' a l := by
  obtain ⟨D, e, r⟩ := S
  exact ⟨D, k _ e, r⟩
theorem wk_tail {ep : Nat} {es1 : Array (Int × Value)} {t2 : SetTable} {b : Bool} (hr : Ris t2.place.toList) (hl : w.params.followText "set-order" = true ∨ t2.led = true) : Wk w (tailTx ep es1 t2 b) := by
  unfold tailTx
  split
  · exact ⟨relayAll_ris t2 es1 _, hl.imp id fun z => (relayAll_led t2 es1 _).trans z⟩
  · exact ⟨hr, hl⟩
theorem wk_add {D : SD} {h : Int} {v : Value} (W : Wk w D) : Wk w (addTx h v D) := by
  obtain ⟨es, ep, t⟩ := D
  have r1 := layNew_ris t es h v W.ris
  have l1 : w.params.followText "set-order" = true ∨ (layNew t es h v).2.1.led = true := W.led.imp id fun z => (layNew_led t es h v).trans z
  unfold addTx
  refine wk_tail ?_ ?_
  · split
    · exact r1
    · exact r1
  · split
    · exact l1
    · exact l1
/-- a text that is there already -/
theorem add_old {a : Addr} {D : SD} {l : List Str} {k : Str} {u : Tok} {Q : Bool → Shared → Prop} (ho : s.heap.get? a = some (sObj "set" D)) (F : TxOk P w D l) (hk : k ∈ l) (hb : l.length < scanBound) (q : Q false s) :
    wpAny (model P w) A (setAddHashed a (.str k u) (hashStr w k)) Q E s := by
  obtain ⟨es, ep, t⟩ := D
  have hd : (sObj "set" (es, ep, t)).data = .set es ep t := rfl
  have fit' : t.fits es.size = true := F.fit
  have el' : ElemsOf (strKind P w) es.toList := F.el
  have sz' : es.size < scanBound := (show es.size = l.length from F.sz) ▸ hb
  unfold setAddHashed setAddHashedIn
  refine wpAny_holding (wpAny_bind (wpAny_setState_of ho hd fit' ?_))
  dsimp only
  rw [byScan_of (x := Value.str k u) rfl sz' el']
  simp only [↓reduceIte]
  unfold setAddByScan
  refine wpAny_bind (wpAny_bind (wpAny_rule ?_))
  refine wpAny_bind (wpAny_setScan_of (knd := strKind P w) (k := k) (is_str k u) ho hd fit' el' ?_)
  obtain ⟨e, he, z⟩ := (F.mem k).mp hk
  cases r : List.findIdx? (fun e => (strKind P w).is k e.2) es.toList with
  | some j =>
    dsimp only
    exact wpAny_pure (wpAny_pure q)
  | none =>
    have c := List.findIdx?_eq_none_iff.mp r e he
    rw [z] at c
    cases c
/-- a text is added -/
theorem add_text {a : Addr} {l : List Str} {k : Str} {u : Tok} {Q : Bool → Shared → Prop} (S : TxSet P w s.heap a l) (hb : l.length + 1 < scanBound)
    (q : ∀ b h', Heap.SameBut a s.heap h' → TxSet P w h' a (if k ∈ l then l else k :: l) → Q b { s with heap := h' }) : wpAny (model P w) A (setAddHashed a (.str k u) (hashStr w k)) Q E s := by
  obtain ⟨D, e, F, nd, W⟩ := S
  by_cases hk : k ∈ l
  · refine add_old e F hk (by omega) ?_
    have := q false s.heap (Heap.SameBut.refl a s.heap) (by rw [if_pos hk]; exact ⟨D, e, F, nd, W⟩)
    exact this
  · refine add_x e F hk hb (q true _ (Heap.SameBut.update ..) ?_)
    rw [if_neg hk]
    exact ⟨_, get_upd _ e rfl, add_ok u F, List.nodup_cons.mpr ⟨hk, nd⟩, wk_add W⟩
/-- set(..), by what its beginning does -/
theorem set_by {x : Value} {Q : Value → Shared → Prop} 
    (body : ∀ z : Shared, z = { s with heap := s.heap.push { cls := .type "set", dict := none, data := .set #[] 0 (.fresh 0 0 (!w.params.followText "set-order")) } } →
      wpAny (model P w) A.in1.in1 (Builtin.«set.__init__» ⟨[.ref s.heap.objs.size, x], []⟩)
        (fun fin s' => match fin with | .done f => wants (fun r s₂ => r = .none ∧ Q (.ref s.heap.objs.size) s₂) E (.ok f) s' | .again c' => c'.quiet = true ∧ codeAny (model P w) A.in1 c' (wants (fun r s₂ => r = .none ∧ Q (.ref s.heap.objs.size) s₂) E) s')
        (fun e s' => wants (fun r s₂ => r = .none ∧ Q (.ref s.heap.objs.size) s₂) E (.error e) s') z) :
    wpAny (model P w) A (call (.type "set") [x]) Q E s := by
  obtain ⟨c0, tl0, mro0⟩ := F.called_set.mro
  have made0 := F.called_set.made
  have sub0 := F.called_set.sub
  refine wpAny_call (codeAny_of_tree ?_)
  show wpAny _ _ (callAny (.type "set") _) _ _ _
  refine wpAny_pure ⟨Code.quiet_builtin _ (by decide +kernel), codeAny_builtin F.entry_type_call ?_⟩
  rw [Around.under_plain (weight_type_call_type "set" [x] []) rfl]
  have nt0 := F.called_set.notType
  have cc0 := F.called_set.canCreate
  have ck0 := F.typeCall_set_1 x
  repeat (any_goals (first | assumption | wp_step))
  refine codeAny_mono (code_set_led1 x (E := E) (Q₁ := fun o z => o = .ref s.heap.objs.size ∧ z = { s with heap := s.heap.push { cls := .type "set", dict := none, data := .set #[] 0 (.fresh 0 0 (!w.params.followText "set-order")) } }) ⟨rfl, rfl⟩) fun r z hr => ?_
  match r, hr with
  | .ok (.ret o), hr =>
    obtain ⟨rfl, hz⟩ := hr
    have bd := body z hz
    have ty : z.TypeIs (.ref s.heap.objs.size) "set" := by
      rw [hz]
      exact ⟨_, Heap.get?_push_size _ rfl, rfl⟩
    have li0 := F.called_set.init.lookup
    have bi0 := F.called_set.init.bind (.ref s.heap.objs.size)
    repeat (any_goals (first | assumption | wp_step))
    refine codeAny_mono (codeAny_call_builtin (R := wants (fun r s₂ => r = .none ∧ Q (.ref s.heap.objs.size) s₂) E) F.called_set.init.plain F.entry_set_init (check_set_init_1 ty bd)) fun r2 z2 hr2 => ?_
    match r2, hr2 with
    | .ok (.ret r), hr2 =>
      obtain ⟨rfl, hq⟩ := hr2
      repeat (any_goals (first | assumption | wp_step))
    | .error e, hr2 => exact hr2
  | .error e, hr => exact hr
end
end Quiet
set_option Elab.async false
set_option linter.all false
set_option maxRecDepth 100000
set_option maxHeartbeats 4000000
namespace Quiet
open PySem PySem.Spec PyProof.Rows L2 PySem.Froz

/-- the texts, each once, as they were met: the last that is new ahead -/
def met : List Str → List Str → List Str
  | l, [] => l
  | l, x :: r => met (if x ∈ l then l else x :: l) r
theorem met_mem : ∀ (r l : List Str) (k : Str), k ∈ met l r ↔ k ∈ l ∨ k ∈ r
  | [], l, k => by simp [met]
  | x :: r, l, k => by
    rw [met, met_mem r, List.mem_cons]
    by_cases h : x ∈ l
    · rw [if_pos h]
      constructor
      · rintro (z | z)
        · exact .inl z
        · exact .inr (.inr z)
      · rintro (z | z | z)
        · exact .inl z
        · exact .inl (z ▸ h)
        · exact .inr z
    · rw [if_neg h, List.mem_cons]
      constructor
      · rintro ((z | z) | z)
        · exact .inr (.inl z)
        · exact .inl z
        · exact .inr (.inr z)
      · rintro (z | z | z)
        · exact .inl (.inr z)
        · exact .inl (.inl z)
        · exact .inr z
theorem met_nodup : ∀ (r l : List Str), l.Nodup → (met l r).Nodup
  | [], _, h => h
  | x :: r, l, h => by
    rw [met]
    refine met_nodup r _ ?_
    split
    · exact h
    · exact List.nodup_cons.mpr ⟨by assumption, h⟩
theorem met_len : ∀ (r l : List Str), (met l r).length ≤ l.length + r.length
  | [], l => Nat.le_refl _
  | x :: r, l => by
    rw [met]
    have := met_len r (if x ∈ l then l else x :: l)
    have h2 : (if x ∈ l then l else x :: l).length ≤ l.length + 1 := by split <;> simp
    simp only [List.length_cons] at *
    omega
section
variable {P : Program} {w : World} {A : Around} {E : Value → Shared → Prop} {s : Shared}
theorem upd_texts {I : Addr} {fp wr : List Addr} {G : Array GenState → Array GenState → Prop} {n : Nat} {Pv : Nat → Value → Prop} {St : Nat → Shared → Prop} {R : Result → Shared → Prop}
    (W : WalksS P w A.in1 I fp wr G n Pv St) (S : Addr) (nS : S ∉ fp) (xs : List Str) (len : xs.length = n) (val : ∀ i v, Pv i v → ∃ x t, xs[i]? = some x ∧ v = .str x t) :
    ∀ (m i : Nat) (l : List Str) (z : Shared), n - i = m → i ≤ n → St i z → TxSet P w z.heap S l → l.length + m + 1 < scanBound →
      (∀ z', Moved (S :: wr) G z z' → TxSet P w z'.heap S (met l (xs.drop i)) → R (.ok (.ret .none)) z') →
      codeAny (model P w) A (.builtin "set.update.loop" ⟨[.ref S, .ref I], []⟩) R z := by
  have nW : S ∉ wr := fun h => nS (W.sub _ h)
  have up : ∀ b ∈ wr, b ∈ S :: wr := fun b hb => List.mem_cons_of_mem _ hb
  intro m
  induction m with
  | zero =>
    intro i l z hm hi st hS hb k
    have e : i = xs.length := by omega
    refine codeAny_builtin F.entry_set_update_loop ?_
    rw [Around.under_plainId F.plain_set_update_loop _]
    show wpAny _ A.in1 (pyNext (.ref I) >>= _) _ _ z
    refine wpAny_bind (W.done z _ _ (by rw [← show i = n from by omega]; exact st) fun z' mv => ?_)
    refine wpAny_pure (k z' (mv.mono up) ?_)
    rw [e, List.drop_length]
    exact hS.on fun o e => mv.heap S o nW e
  | succ m ih =>
    intro i l z hm hi st hS hb k
    have lt : i < n := by omega
    refine codeAny_builtin F.entry_set_update_loop ?_
    rw [Around.under_plainId F.plain_set_update_loop _]
    show wpAny _ A.in1 (pyNext (.ref I) >>= _) _ _ z
    refine wpAny_bind (W.item i z _ _ lt st fun v z' pv st' mv => ?_)
    obtain ⟨x, t, hx, rfl⟩ := val i v pv
    have dr : xs.drop i = x :: xs.drop (i + 1) := by
      obtain ⟨h1, h2⟩ := List.getElem?_eq_some_iff.mp hx
      rw [List.drop_eq_getElem_cons h1, h2]
    show wpAny _ A.in1 (holding [Value.str x t] (setAdd S (.str x t)) >>= _) _ _ z'
    refine wpAny_bind (wpAny_holding ?_)
    unfold setAdd
    refine wpAny_holding (wpAny_bind ((strKind P w).pyHash (k := x) (is_str x t) ?_))
    refine add_text (s := { z' with toks := z'.toks + 1 }) (l := l) (hS.on fun o e => mv.heap S o nW e) (by omega) fun b h' sb hS2 => ?_
    have le : (if x ∈ l then l else x :: l).length ≤ l.length + 1 := by split <;> simp
    refine wpAny_pure ⟨plainId_quiet F.plain_set_update_loop _, ih (i + 1) _ _ (by omega) lt (W.frame _ z' _ _ st' (Nat.le_succ _) fun b hb o e => ?_) hS2 (by omega) fun z2 mv2 hS3 => ?_⟩
    · rw [sb.2 b (fun h : b = S => nS (h ▸ hb))]
      exact e
    · refine k z2 (Moved.trans W.gtrans ((mv.mono up).then_heap (Nat.le_succ _) fun b o hb e => ?_) mv2) ?_
      · rw [sb.2 b (fun h : b = S => hb (h ▸ List.mem_cons_self))]
        exact e
      · rw [dr, met]
        exact hS3
/-- a set that is new -/
theorem txSet_new {h : Heap} {a : Addr} (e : h.get? a = some { cls := .type "set", dict := none, data := .set #[] 0 (.fresh 0 0 (!w.params.followText "set-order")) }) : TxSet P w h a [] :=
  ⟨(#[], 0, .fresh 0 0 (!w.params.followText "set-order")), e, TxOk.nil (by rfl), List.nodup_nil, List.Pairwise.nil, by
    show _ ∨ (!w.params.followText "set-order") = true
    cases w.params.followText "set-order"
    · exact .inr rfl
    · exact .inl rfl⟩
theorem text_at {its : List Value} {xs : List Str} (h : StrsAre its xs) : ∀ {i : Nat} {v : Value}, its[i]? = some v → ∃ x t, xs[i]? = some x ∧ v = .str x t := by
  induction h with
  | nil =>
    intro i v e
    simp at e
  | cons x t r ih =>
    intro i v e
    cases i with
    | zero =>
      simp at e
      exact ⟨x, t, rfl, e.symm⟩
    | succ i => simpa using ih (by simpa using e)
/-- what the set's beginning does: it walks a list or tuple of texts -/
theorem init_texts {T : String} {l : Addr} {its : Array Value} {xs : List Str} {Q : Value → Shared → Prop} (hh : A.handled = none) (hT : T = "list" ∧ s.heap.IsList l its ∨ T = "tuple" ∧ s.heap.IsTuple l its) (hi : StrsAre its.toList xs) (hb : xs.length + 1 < scanBound)
    (k : ∀ (h' : Heap) (tk : Nat), TxSet P w h' s.heap.objs.size (met [] xs) → (∀ b o, s.heap.get? b = some o → h'.get? b = some o) → Q (.ref s.heap.objs.size) { s with heap := h', toks := tk }) :
    wpAny (model P w) A (call (.type "set") [.ref l]) Q E s := by
  refine set_by fun z hz => ?_
  have size : xs.length = its.size := by
    have := hi.length
    simpa using this.symm
  obtain ⟨ol, el⟩ : ∃ o, s.heap.get? l = some o := by
    rcases hT with ⟨_, o, e, _⟩ | ⟨_, o, e, _⟩
    · exact ⟨o, e⟩
    · exact ⟨o, e⟩
  have ll : l < s.heap.objs.size := Heap.lt_size el
  have h3 : A.in1.in1.in1.handled = none := by simp [hh]
  have new : z.heap.get? s.heap.objs.size = some { cls := .type "set", dict := none, data := .set #[] 0 (.fresh 0 0 (!w.params.followText "set-order")) } := by
    rw [hz]
    exact Heap.get?_push_size _ rfl
  have zs : z.heap.objs.size = s.heap.objs.size + 1 := by
    rw [hz]
    exact Heap.size_push ..
  have old : ∀ b o, s.heap.get? b = some o → z.heap.get? b = some o := fun b o e => by
    rw [hz]
    exact Heap.get?_push_of_some _ e
  have ends : ∀ {G : Obj} (z' : Shared), Moved [s.heap.objs.size, z.heap.objs.size] (fun a b => b = a) { z with heap := z.heap.push G } z' → TxSet P w z'.heap s.heap.objs.size (met [] (xs.drop 0)) → Q (.ref s.heap.objs.size) z' := fun z' mv hS => by
    obtain ⟨h', g', d', tk', os'⟩ := z'
    have eg : g' = s.gens := by
      have := mv.gens
      rw [hz] at this
      exact this
    have ed : d' = s.drawn := by
      have := mv.drawn
      rw [hz] at this
      exact this
    have eo : os' = s.os := by
      have := mv.os
      rw [hz] at this
      exact this
    subst eg ed eo
    refine k h' tk' hS fun b o e => ?_
    have lb : b < s.heap.objs.size := Heap.lt_size e
    refine mv.heap b o (fun q => ?_) (Heap.get?_push_of_some _ (old _ _ e))
    rcases List.mem_cons.mp q with q | q
    · exact Nat.ne_of_lt lb q
    · exact Nat.ne_of_lt (by rw [zs]; exact Nat.lt_succ_of_lt lb) (List.mem_singleton.mp q)
  rcases hT with ⟨rfl, hl⟩ | ⟨rfl, hl⟩
  · have hl' : z.heap.IsList l its := by
      obtain ⟨o, e, r⟩ := hl
      exact ⟨o, old _ _ e, r⟩
    obtain ⟨⟨oc, od, odt, osl⟩, oe, occ, on, odd⟩ := hl'
    simp only at occ odd
    subst occ odd
    have f1 := F.sub_list_set
    have f2 := F.sub_list_frozenset
    have f3 : (Value.type "list" == Value.type "dict") = false := by decide
    have hl1 : z.heap.IsList l its := ⟨_, oe, rfl, on, rfl⟩
    unfold Builtin.«set.__init__» noKeywords Builtin.Frozenset.updateFrom
    generalize hPI : pyIter = PI
    wp_walk
    subst hPI
    refine wpAny_pyIter_list hl1 (wpAny_bind (wpAny_runValue ?_))
    have nI : l ≠ z.heap.objs.size := Nat.ne_of_lt (by rw [zs]; exact Nat.lt_succ_of_lt ll)
    refine upd_texts (P := P) (w := w) ((Walks.list h3 _ l nI its).toS) s.heap.objs.size (fun q => ?_) xs size (fun i v hv => text_at hi (by rw [Array.getElem?_toList]; exact hv)) xs.length 0 [] _ (by omega) (Nat.zero_le _) ⟨⟨_, Heap.get?_push_size _ rfl, rfl, rfl⟩, hl1.push _⟩ (txSet_new (Heap.get?_push_of_some _ new)) (by simpa using hb) fun z' mv hS => ?_
    · rcases List.mem_cons.mp q with q | q
      · exact Nat.ne_of_lt (by rw [zs]; exact Nat.lt_succ_self _) q
      · exact Nat.ne_of_gt ll (List.mem_singleton.mp q)
    · show wpAny _ _ _ _ _ _
      refine wpAny_pure ?_
      show wpAny _ _ (ret Value.none) _ _ _
      exact wpAny_pure ⟨rfl, ends _ mv hS⟩
  · have hl' : z.heap.IsTuple l its := by
      obtain ⟨o, e, r⟩ := hl
      exact ⟨o, old _ _ e, r⟩
    obtain ⟨⟨oc, od, odt, osl⟩, oe, occ, on, odd⟩ := hl'
    simp only at occ odd
    subst occ odd
    have f1 := F.sub_tuple_set
    have f2 := F.sub_tuple_frozenset
    have f3 : (Value.type "tuple" == Value.type "dict") = false := by decide
    have hl1 : z.heap.IsTuple l its := ⟨_, oe, rfl, on, rfl⟩
    unfold Builtin.«set.__init__» noKeywords Builtin.Frozenset.updateFrom
    generalize hPI : pyIter = PI
    wp_walk
    subst hPI
    refine wpAny_pyIter_tuple hl1 (wpAny_bind (wpAny_runValue ?_))
    have nI : l ≠ z.heap.objs.size := Nat.ne_of_lt (by rw [zs]; exact Nat.lt_succ_of_lt ll)
    refine upd_texts (P := P) (w := w) ((Walks.tuple h3 _ l nI its).toS) s.heap.objs.size (fun q => ?_) xs size (fun i v hv => text_at hi (by rw [Array.getElem?_toList]; exact hv)) xs.length 0 [] _ (by omega) (Nat.zero_le _) ⟨⟨_, Heap.get?_push_size _ rfl, rfl, rfl⟩, hl1.push _⟩ (txSet_new (Heap.get?_push_of_some _ new)) (by simpa using hb) fun z' mv hS => ?_
    · rcases List.mem_cons.mp q with q | q
      · exact Nat.ne_of_lt (by rw [zs]; exact Nat.lt_succ_self _) q
      · exact Nat.ne_of_gt ll (List.mem_singleton.mp q)
    · show wpAny _ _ _ _ _ _
      refine wpAny_pure ?_
      show wpAny _ _ (ret Value.none) _ _ _
      exact wpAny_pure ⟨rfl, ends _ mv hS⟩
theorem perm_sub : ∀ (l xs : List Str), l.Nodup → (∀ x ∈ l, x ∈ xs) → xs.length ≤ l.length → xs.Perm l
  | [], xs, _, _, h => by
    have : xs = [] := List.length_eq_zero_iff.mp (Nat.le_zero.mp h)
    rw [this]
  | a :: l, xs, nd, sub, h => by
    obtain ⟨n1, n2⟩ := List.nodup_cons.mp nd
    have ha := sub a List.mem_cons_self
    have pe := List.perm_cons_erase ha
    refine pe.trans (List.Perm.cons a (perm_sub l _ n2 (fun x hx => ?_) ?_))
    · exact (List.mem_erase_of_ne (fun (e : x = a) => n1 (e ▸ hx))).mpr (sub x (List.mem_cons_of_mem _ hx))
    · have := pe.length_eq
      simp only [List.length_cons] at this h
      omega
/-- sorted(set) -/
theorem sort_texts {a : Addr} {l : List Str} {Q : Value → Shared → Prop} (S : TxSet P w s.heap a l) (hh : A.handled = none) (h64 : l.length < 64)
    (k : ∀ z p (out : Array Value) (c : Nat) (ys : List Str), (∀ b o, s.heap.get? b = some o → z.heap.get? b = some o) → z.gens = s.gens → z.os = s.os → s.heap.objs.size ≤ p →
      z.heap.get? p = some (seqObj "list" out c) → StrsAre out.toList ys → ys.Perm l → sortedS ys = true → Q (.ref p) z) : wpAny (model P w) A (call (.builtin "sorted") [.ref a]) Q E s := by
  obtain ⟨⟨es, ep, t⟩, e, F0, nd, W⟩ := S
  have size : es.size = l.length := F0.sz
  have fit' : t.fits es.size = true := F0.fit
  have el' : ElemsOf (strKind P w) es.toList := F0.el
  have mem' : ∀ k : Str, k ∈ l ↔ ∃ e ∈ es.toList, (strKind P w).is k e.2 = true := F0.mem
  refine Calls.call_function_entry kind_sorted plain_sorted entry_sorted (args_sorted1 _) ?_
  unfold Builtin.«sorted»
  refine wpAny_bind (m := checkCount "sorted" 1 1 _) (wpAny_pure ?_)
  refine wpAny_bind (collect_set (A := A.in1) hh ⟨_, e, rfl, rfl⟩ fit' (by rw [size]; unfold scanBound; omega) W.ris W.led fun z vs k1 zs g1 o1 pm => ?_)
  have lv : vs.length = l.length := by rw [pm.length_eq, List.length_map, Array.length_toList, size]
  have hx : StrsAre vs (vs.map strOf) := strsAre_map vs fun v hv => by
    obtain ⟨q, hq, rfl⟩ := List.mem_map.mp (pm.mem_iff.mp hv)
    obtain ⟨⟨x, h1, _⟩, _⟩ := el' q hq
    obtain ⟨tk, e1⟩ := Value.isStrOf_shape (x := x) (v := q.2) h1
    exact ⟨x, tk, e1⟩
  have hp : (vs.map strOf).Perm l := perm_sub l _ nd (fun x hx => by
    obtain ⟨q, hq, z⟩ := (mem' x).mp hx
    obtain ⟨tk, e1⟩ := Value.isStrOf_shape (x := x) (v := q.2) z
    exact List.mem_map.mpr ⟨q.2, pm.mem_iff.mpr (List.mem_map.mpr ⟨q, hq, rfl⟩), by rw [e1]; rfl⟩) (by rw [List.length_map, lv]; exact Nat.le_refl _)
  refine wpAny_bind (wpAny_newList ?_ (by rw [lv, sizeLine_eq]; omega))
  have at0 : (z.heap.push (seqObj "list" vs.toArray 0)).get? z.heap.objs.size = some (seqObj "list" vs.toArray 0) := Heap.get?_push_size _ rfl
  refine wpAny_bind (wpAny_holding (wpAny_call_entry slot_list_sort ⟨_, at0, rfl⟩ entry_list_sort (list_sort_treeK strKind_oneLt at0 hx.keysOf (fun v₁ v₂ rest e => keyKind_strs (by rw [← e]; exact hx)) (by omega) fun st' a1 a2 => ⟨_, rfl, ?_⟩) (args_list_sort _)))
  obtain ⟨ys, y1, y2, y3⟩ := sorted_out_str hx a1 a2
  obtain ⟨c, hc⟩ := sortedHeap_at (vs := vs) (out := (arrOf st').map (·.2)) at0
  refine wpAny_pure ⟨_, rfl, k _ z.heap.objs.size _ c ys (fun b u q => ?_) g1 o1 zs hc y1 (y2.trans hp) y3⟩
  have q1 := k1 b u q
  have lt := Heap.lt_size q1
  show (sortedHeap (z.heap.push (seqObj "list" vs.toArray 0)) z.heap.objs.size vs _).get? b = some u
  rw [sortedHeap_old (Nat.ne_of_lt lt) (by rw [size_push']; exact Nat.lt_succ_of_lt lt)]
  exact Heap.get?_push_of_some _ q1
end
/-! ### as rules -/
def TxO (P : Program) (w : World) (a : Addr) (l : List Str) : HO := .ext fun h => TxSet P w h a l
theorem txO_new {w : World} {P : Program} {H : Hp} {h : Heap} {a : Addr} {l : List Str} (R : TxSet P w h a l) : ObjOk P w H h a (TxO P w a l) := by
  have ⟨D, e, _⟩ := R
  exact ⟨R, ⟨_, e⟩, fun h1 h2 p k => TxSet.on p k⟩
section
variable {X : Cx} (K : PySem.W.Frag) (hK : X.K = K)
/-- set(texts) -/
def rSetT (K : PySem.W.Frag) (P : Program) (w : World) : List V → Hp → VK → Prop := fun xs H Q => ∃ (a : Addr) (ks : List Str), xs = [V.ref a] ∧ (SqL K H a (ks.map V.str) ∨ SqT K H a (ks.map V.str)) ∧ ks.length < 64 ∧
  ∀ p, H p = none → Q (.ref p) (upd H p (TxO P w p (met [] ks)))
theorem call_setT (hc : X.calm = true) : CallR X (.type "set") (rSetT X.K X.prog X.w) := by
  intro pins s σ H xs us Q I r h
  obtain ⟨a, ks, rfl, hs, h64, q⟩ := h
  rw [Vals.ref1 r]
  obtain ⟨its, rv, hT⟩ : ∃ its : List Value, Vals (ks.map V.str) its ∧ ∃ T, T = "list" ∧ s.heap.IsList a its.toArray ∨ T = "tuple" ∧ s.heap.IsTuple a its.toArray := by
    rcases hs with hs | hs
    · obtain ⟨its, rv, p, _⟩ := I.list hs
      exact ⟨its, rv, _, .inl ⟨rfl, p.isList⟩⟩
    · obtain ⟨its, rv, p, _⟩ := I.tuple hs
      exact ⟨its, rv, _, .inr ⟨rfl, p⟩⟩
  obtain ⟨T, hT⟩ := hT
  refine init_texts (P := X.prog) (w := X.w) (I.ok.hd hc) hT (by simpa using rv.strs) (by unfold scanBound; omega) fun h' tk S k => ?_
  exact ⟨.ref s.heap.objs.size, upd H s.heap.objs.size (TxO X.prog X.w s.heap.objs.size (met [] ks)), I.laid (t' := tk) k (Nat.le_refl _) (txO_new S), rfl, q _ (I.hok.fresh (Nat.le_refl _))⟩
/-- sorted(set of texts) -/
def rSortT (P : Program) (w : World) : List V → Hp → VK → Prop := fun vs H Q => ∃ (a : Addr) (l : List Str), vs = [V.ref a] ∧ H a = some (TxO P w a l) ∧ l.length < 64 ∧
  ∀ (ys : List Str) (p : Addr), ys.Perm l → sortedS ys = true → H p = none → Q (.ref p) (upd H p (.lst (ys.map V.str)))
theorem call_sortT (hc : X.calm = true) : CallR X (.builtin "sorted") (rSortT X.prog X.w) := by
  intro pins s σ H vs us Q I r h
  obtain ⟨a, l, rfl, ha, h64, q⟩ := h
  have S : TxSet X.prog X.w s.heap a l := (I.hok a _ ha).1
  rw [Vals.ref1 r]
  refine sort_texts S (I.ok.hd hc) h64 fun z p out c ys k g o lp hp hy pm so => ?_
  have len : (ys.map V.str).length ≤ sizeLine := by rw [List.length_map, pm.length_eq, sizeLine_eq]; omega
  have none' : H p = none := I.hok.fresh lp
  have J : Inv X pins σ (upd H p (.lst (ys.map V.str))) { s with heap := z.heap, gens := z.gens, drawn := z.drawn, toks := z.toks } :=
    I.call (ch := []) (Un.laid k lp none') (I.hok.laid k lp ⟨len, out.toList, c, vals_of_strs hy, hp⟩) (by rw [g]; exact I.bare) (fun _ z => nomatch z)
  have e : z = { s with heap := z.heap, gens := z.gens, drawn := z.drawn, toks := z.toks } := by
    cases z
    cases s
    cases o
    rfl
  rw [e]
  exact ⟨.ref p, _, J, rfl, q ys p pm so none'⟩
end
end Quiet
namespace Quiet
open PySem PySem.Spec L2
section
variable {X : Cx} (K : PySem.W.Frag) (P : Program) (w : World) (hK : X.K = K) (hP : X.prog = P) (hw : X.w = w) (hc : X.calm = true)
include hP hw hc
theorem sortTK : CallR X (.builtin "sorted") (rSortT P w) := hP ▸ hw ▸ call_sortT hc
include hK
theorem setK : CallR X (.type "set") (rSetT K P w) := hK ▸ hP ▸ hw ▸ call_setT hc
end
end Quiet
set_option Elab.async false
set_option linter.all false
set_option maxRecDepth 100000
set_option maxHeartbeats 2000000
namespace Quiet
open PySem PySem.Spec PyProof.Rows L2 PySem.SeqAt Sem

/-- xs == [], xs != [], t == (): whatever stands in them -/
def rEq0L : R2 := fun x y H Q => ∃ a b xs, x = .ref a ∧ y = .ref b ∧ H a = some (.lst xs) ∧ H b = some (.lst []) ∧ Q (.bl xs.isEmpty) H
def rNe0L : R2 := fun x y H Q => ∃ a b xs, x = .ref a ∧ y = .ref b ∧ H a = some (.lst xs) ∧ H b = some (.lst []) ∧ Q (.bl (!xs.isEmpty)) H
def rEq0T : R2 := fun x y H Q => ∃ a b xs, x = .ref a ∧ y = .ref b ∧ H a = some (.tup xs) ∧ H b = some (.tup []) ∧ Q (.bl xs.isEmpty) H
section
variable {X : Cx}
theorem op_eq0L (hu : X.A.units + 64 < cLine) : OpR X (compareOp .Eq) rEq0L := by
  intro pins s σ H x y v u Q I rx ry ⟨a, b, xs, e1, e2, ha, hb, q⟩
  subst e1 e2
  cases rx
  cases ry
  obtain ⟨us, r1, p1, _⟩ := I.list (SqL.of ha)
  obtain ⟨ws, r2, p2, _⟩ := I.list (SqL.of hb)
  cases r2
  have hu' : X.A.units < cLine := by omega
  have l1 := r1.length
  cases xs with
  | nil =>
    cases r1
    exact RcAt.lists (e := fun _ => true) p1.isList p2.isList rfl hu' (fun j h1 _ => absurd h1 (Nat.not_lt_zero j)) _ _ _ _ ⟨.bl true, H, I, rfl, q⟩
  | cons x xs =>
    refine RcAt.lists_lengths p1.isList p2.isList ?_ hu' _ _ _ _ ⟨.bl false, H, I, rfl, q⟩
    rw [List.size_toArray, ← l1]
    rfl
theorem op_ne0L (hu : X.A.units + 64 < cLine) : OpR X (compareOp .NotEq) rNe0L := by
  intro pins s σ H x y v u Q I rx ry ⟨a, b, xs, e1, e2, ha, hb, q⟩
  subst e1 e2
  cases rx
  cases ry
  obtain ⟨us, r1, p1, _⟩ := I.list (SqL.of ha)
  obtain ⟨ws, r2, p2, _⟩ := I.list (SqL.of hb)
  cases r2
  have hu' : X.A.units < cLine := by omega
  have l1 := r1.length
  cases xs with
  | nil =>
    cases r1
    exact RcNeAt.lists (e := fun _ => true) p1.isList p2.isList rfl hu' (fun j h1 _ => absurd h1 (Nat.not_lt_zero j)) _ _ _ _ ⟨.bl false, H, I, rfl, q⟩
  | cons x xs =>
    refine RcNeAt.lists_lengths p1.isList p2.isList ?_ hu' _ _ _ _ ⟨.bl true, H, I, rfl, q⟩
    rw [List.size_toArray, ← l1]
    rfl
theorem op_eq0T (hu : X.A.units + 64 < cLine) : OpR X (compareOp .Eq) rEq0T := by
  intro pins s σ H x y v u Q I rx ry ⟨a, b, xs, e1, e2, ha, hb, q⟩
  subst e1 e2
  cases rx
  cases ry
  obtain ⟨us, r1, p1, _⟩ := I.tuple (SqT.of ha)
  obtain ⟨ws, r2, p2, _⟩ := I.tuple (SqT.of hb)
  cases r2
  have hu' : X.A.units < cLine := by omega
  have l1 := r1.length
  have e : ((List.range (min us.toArray.size ([] : List Value).toArray.size)).all (fun _ => true) && us.toArray.size == ([] : List Value).toArray.size) = xs.isEmpty := by
    rw [List.size_toArray, ← l1]
    cases xs <;> simp
  refine RcAt.tuples (e := fun _ => true) p1 p2 hu' (fun j _ h2 => absurd h2 (Nat.not_lt_zero j)) _ _ _ _ ?_
  rw [e]
  exact ⟨.bl _, H, I, rfl, q⟩
end
end Quiet
set_option Elab.async false
set_option linter.all false
set_option maxRecDepth 100000
set_option maxHeartbeats 4000000
namespace Quiet
open PySem PySem.Spec PyProof.Rows L2 HT

/-! ### t[::-1] of a tuple -/
section
variable {prog : Program} {w : World} {A : Around} {E : Value → Shared → Prop} {s : Shared}
theorem back_parts (n : Nat) : Builtin.Slice.sliceAdjust none none (-1) (n : Int) = ((n : Int) - 1, -1) := by
  unfold Builtin.Slice.sliceAdjust
  simp
theorem back_count (n : Nat) : Builtin.Slice.slicePlaces ((n : Int) - 1) (-1) (-1) = n := by
  unfold Builtin.Slice.slicePlaces
  have h1 : ¬ ((-1 : Int) > 0) := by omega
  simp only [h1, if_false]
  split <;> first | omega | (simp; omega) | simp
theorem fm_map {α β : Type} (f : α → Option β) (g : α → β) : ∀ {l : List α}, (∀ m ∈ l, f m = some (g m)) → l.filterMap f = l.map g
  | [], _ => rfl
  | x :: l, h => by
    rw [List.filterMap_cons_some (h x List.mem_cons_self), List.map_cons, fm_map f g fun m hm => h m (List.mem_cons_of_mem _ hm)]
theorem back_pick (xs : Array Value) : ((List.range xs.size).filterMap fun (m : Nat) => xs[(((xs.size : Nat) : Int) - 1 + (m : Int) * (-1)).toNat]?) = xs.toList.reverse := by
  have g : ∀ m ∈ List.range xs.size, xs[(((xs.size : Nat) : Int) - 1 + (m : Int) * (-1)).toNat]? = some (xs.toList.reverse.getD m Value.none) := fun m hm => by
    have hm' := List.mem_range.mp hm
    have e : (((xs.size : Nat) : Int) - 1 + (m : Int) * (-1)).toNat = xs.size - 1 - m := by omega
    have l1 : m < xs.toList.reverse.length := by
      rw [List.length_reverse, Array.length_toList]
      exact hm'
    rw [e, List.getD_eq_getElem?_getD, List.getElem?_eq_getElem l1, List.getElem_reverse]
    rw [← Array.getElem?_toList, List.getElem?_eq_getElem (by rw [Array.length_toList]; omega)]
    simp
  rw [fm_map _ _ g]
  refine List.ext_getElem (by simp) fun i h1 h2 => ?_
  rw [List.getElem_map, List.getElem_range, List.getD_eq_getElem?_getD, List.getElem?_eq_getElem h2]
  rfl
theorem back_applied {sl : Addr} {u : Tok} {n : Nat} {Q : Int × Int × Nat → Shared → Prop} (hs : s.heap.IsSliceOf sl .none .none (.int (-1) u)) (h : Q ((n : Int) - 1, -1, n) s) :
    wpAny (model prog w) A (Builtin.Slice.sliceApplied (.ref sl) (pure (n : Int))) Q E s := by
  obtain ⟨os, ho, hc, hd⟩ := id hs
  unfold Builtin.Slice.sliceApplied Builtin.Slice.sliceFields
  refine wpAny_bind (wpAny_bind (wpAny_field ho hd (x := .none) rfl (wpAny_bind (wpAny_field ho hd (x := .none) rfl (wpAny_bind (wpAny_field ho hd (x := .int (-1) u) rfl (wpAny_pure ?_)))))))
  refine wpAny_bind (slicePart_int ?_)
  show wpAny _ _ (if ((-1 : Int) == 0) = true then _ else _) _ _ s
  rw [if_neg (by decide)]
  refine wpAny_bind (slicePart_none (wpAny_bind (slicePart_none (wpAny_bind (wpAny_pure ?_)))))
  show wpAny _ _ (match Builtin.Slice.sliceAdjust none none (-1) (n : Int) with | (lo, hi) => pure (lo, (-1 : Int), Builtin.Slice.slicePlaces lo hi (-1))) _ _ s
  rw [back_parts n]
  show wpAny _ _ (pure ((n : Int) - 1, (-1 : Int), Builtin.Slice.slicePlaces ((n : Int) - 1) (-1) (-1))) _ _ s
  rw [back_count]
  exact wpAny_pure h
theorem getItem_back {t sl : Addr} {its : Array Value} {u : Tok} {Q : Value → Shared → Prop} (ht : IsTup s.heap t its) (hs : s.heap.IsSliceOf sl .none .none (.int (-1) u)) (z : its.size ≤ sizeLine)
    (h : Q (.ref s.heap.objs.size) { s with heap := s.heap.push { cls := .type "tuple", data := .seq its.toList.reverse.toArray } }) : wpAny (model prog w) A (getItem (.ref t) (.ref sl)) Q E s := by
  have room : sizeOk (.seq its.toList.reverse.toArray) := by
    show its.toList.reverse.toArray.size ≤ sizeLine
    rw [List.size_toArray, List.length_reverse, Array.length_toList]
    exact z
  obtain ⟨os, ho, hc, hd⟩ := id hs
  have ty : s.TypeIs (.ref sl) "slice" := ⟨os, ho, hc⟩
  unfold getItem
  try with_reducible refine wpAny_holding ?_
  first | refine wpAny_bind (wpAny_pure ?_) | skip
  refine wpAny_bind (wpAny_sequenceKey ht.typeIs (by decide) ?_)
  refine wpAny_bind (wpAny_callSpecial?_slot (name := Str.ofString "__getitem__") ht.typeIs PyProof.Rows.slot_tuple_getitem (wpAny_call_entry PyProof.Rows.slot_tuple_getitem ht.typeIs entry_tuple_getitem ?_ (args_tuple_getitem _ _)))
  show wpAny _ _ (Builtin.Tuple.tupleItemsOf (.ref t) >>= _) _ _ s
  refine wpAny_bind (tupleItemsOf_ ht (wpAny_bind (wpAny_typeOf ty ?_)))
  rw [if_pos (by decide)]
  refine wpAny_bind (back_applied hs ?_)
  have no : ¬ (((((its.size : Nat) : Int) - 1) == 0 && (-1 : Int) == 1 && its.size == its.size) = true) := by simp
  show wpAny _ _ (if ((((its.size : Nat) : Int) - 1) == 0 && (-1 : Int) == 1 && its.size == its.size) = true then _ else _) _ _ s
  rw [if_neg no, back_pick]
  first
    | exact wpAny_bind (m := Builtin.Tuple.tupleExact _) (wpAny_newObj_type (wpAny_pure ⟨_, rfl, wpAny_pure h⟩) room)
    | exact wpAny_bind (m := Builtin.Tuple.tupleExact _) (wpAny_newObj_type (wpAny_bind (wpAny_pure (wpAny_pure ⟨_, rfl, wpAny_pure h⟩))) room)
    | exact wpAny_bind (wpAny_bind (m := Builtin.Tuple.tupleExact _) (wpAny_newObj_type (wpAny_pure (wpAny_pure ⟨_, rfl, wpAny_pure h⟩)) room))
    | exact wpAny_bind (wpAny_bind (m := Builtin.Tuple.tupleExact _) (wpAny_newObj_type (wpAny_pure ⟨_, rfl, wpAny_pure h⟩) room))
end
def tRevT (K : PySem.W.Frag) (te : TE) : TE := fun σ H Q => te σ H fun x H1 => ∃ a xs, x = .ref a ∧ SqT K H1 a xs ∧ ∀ p, H1 p = none → Q (.ref p) (upd H1 p (.tup xs.reverse))
theorem pe_revT {X : Cx} {e : Expr} {te : TE} {k : Nat} {p1 p2 p3 pos : Pos} (he : PE X e te) : PE X (.Subscript e (.Slice none none (some (.UnaryOp .USub (.Constant (.int 1) k p1) p2)) p3) pos) (tRevT X.K te) := by
  refine ⟨fun pins s σ H Q I h => ?_⟩
  refine Subscript_ (thn (he.run pins s σ H _ I h) fun v s1 ⟨x, H1, I1, r1, a, xs, ex, hx, q⟩ => ?_)
  subst ex
  cases r1
  have minus : PO X (some (.UnaryOp .USub (.Constant (.int 1) k p1) p2)) (tPart (tUn (rU fun i => .int (-i)) (tC (.int 1)))) := po_some (pe_un un_neg pe_int)
  refine wpAny_Slice (thn (po_none.run pins s1 σ H1 (fun o H2 => o = none ∧ H2 = H1) I1 ⟨rfl, rfl⟩) fun vl s2 ⟨l, H2, I2, pl, el, e2⟩ => ?_)
  subst el e2
  refine thn (po_none.run pins s2 σ H2 (fun o H3 => o = none ∧ H3 = H2) I2 ⟨rfl, rfl⟩) fun vu s3 ⟨u, H3, I3, pu, eu, e3⟩ => ?_
  subst eu e3
  refine thn (minus.run pins s3 σ H3 (fun o H4 => o = some (-1) ∧ H4 = H3) I3 ⟨1, rfl, -1, rfl, rfl, rfl⟩) fun vs s4 ⟨o, H4, I4, ps, eo, e4⟩ => ?_
  subst eo e4
  cases pl
  cases pu
  cases ps with
  | int _ t =>
  have I5 : Inv X pins σ H4 { s4 with heap := s4.heap.push { cls := .type "slice", data := .fields #[.none, .none, .int (-1) t] } } := I4.kept (t' := s4.toks) fun b ob q => Heap.get?_push_of_some _ q
  obtain ⟨its, r, ht, hz⟩ := I5.tuple hx
  have len := r.length
  show wpAny (model X.prog X.w) X.A (subscriptTail e (.Slice none none (some (.UnaryOp .USub (.Constant (.int 1) k p1) p2)) p3) (.ref a) (.ref s4.heap.objs.size)) (EP X pins σ Q) X.xe { s4 with heap := s4.heap.push { cls := .type "slice", data := .fields #[.none, .none, .int (-1) t] } }
  refine tail_any (ops := [.ref a, .ref s4.heap.objs.size]) ht.typeIs (PyProof.Rows.slot_tuple_getitem.lookup) ?_ (by with_unfolding_all rfl)
  refine getItem_back (u := t) ht (Heap.IsSliceOf.new _ .none .none (.int (-1) t)) (by rw [List.size_toArray]; omega) ?_
  refine ⟨.ref _, _, I5.laid (t' := s4.toks) (o := .tup xs.reverse) (fun b ob q => Heap.get?_push_of_some _ q) (Nat.le_refl _) ?_, rfl, q _ (I5.hok.fresh (Nat.le_refl _))⟩
  exact ⟨by rw [List.length_reverse]; exact hz, _, by simpa using r.reverse, IsTup.new _ _⟩
theorem revT {X : Cx} (K : PySem.W.Frag) (hK : X.K = K) {e : Expr} {te : TE} {k : Nat} {p1 p2 p3 pos : Pos} (he : PE X e te) : PE X (.Subscript e (.Slice none none (some (.UnaryOp .USub (.Constant (.int 1) k p1) p2)) p3) pos) (tRevT K te) := hK ▸ pe_revT he
end Quiet
set_option Elab.async false
set_option linter.all false
set_option maxRecDepth 100000
set_option maxHeartbeats 4000000
namespace Gn
open PySem PySem.Spec PyProof.Rows L2 Quiet
/-! ### data -/
/-- the name of its class -/
def tyn : PyData → String
  | .none => "NoneType" | .bool _ => "bool" | .int _ => "int" | .str _ => "str" | .list _ => "list" | .tuple _ => "tuple" | .dict _ => "dict"
theorem ty_of {K : PySem.W.Frag} {H : Hp} {v : V} {d : PyData} (h : Is H v d) : TyX K H v (.type (tyn d)) := by
  cases h with
  | non => exact .base .non
  | bl b => exact .base (.bl b)
  | int i => exact .base (.int i)
  | str x => exact .base (.str x)
  | lst h _ => exact .base (.lst h)
  | tup h _ => exact .base (.tup h)
  | dic h _ => exact .base (.dK h)
theorem q_isi {K : PySem.W.Frag} {H : Hp} {v : V} {d : PyData} {T : String} {b : Bool} {Q : VK} (h : Is H v d) (e : kitB (tyn d) T = some b) (q : Q (.bl b) H) :
    rIsi K [v, .ty T] H Q ∨ rIsiT K [v, .ty T] H Q := .inl ⟨v, .ty T, .type (tyn d), .type T, b, rfl, .ty T, ty_of h, kit_ty e, q⟩
def iInt : PyData → Bool | .int _ => true | .bool _ => true | _ => false
def isTruth : PyData → Bool | .bool _ => true | _ => false
def iStr : PyData → Bool | .str _ => true | _ => false
def iTup : PyData → Bool | .tuple _ => true | _ => false
def iLst : PyData → Bool | .list _ => true | _ => false
def iDic : PyData → Bool | .dict _ => true | _ => false
theorem k_int (d : PyData) : kitB (tyn d) "int" = some (iInt d) := by cases d <;> (dsimp only [tyn, iInt, isTruth, iStr, iTup, iLst, iDic]; decide +kernel)
theorem k_bool (d : PyData) : kitB (tyn d) "bool" = some (isTruth d) := by cases d <;> (dsimp only [tyn, iInt, isTruth, iStr, iTup, iLst, iDic]; decide +kernel)
theorem k_str (d : PyData) : kitB (tyn d) "str" = some (iStr d) := by cases d <;> (dsimp only [tyn, iInt, isTruth, iStr, iTup, iLst, iDic]; decide +kernel)
theorem k_tup (d : PyData) : kitB (tyn d) "tuple" = some (iTup d) := by cases d <;> (dsimp only [tyn, iInt, isTruth, iStr, iTup, iLst, iDic]; decide +kernel)
theorem k_lst (d : PyData) : kitB (tyn d) "list" = some (iLst d) := by cases d <;> (dsimp only [tyn, iInt, isTruth, iStr, iTup, iLst, iDic]; decide +kernel)
theorem k_dic (d : PyData) : kitB (tyn d) "dict" = some (iDic d) := by cases d <;> (dsimp only [tyn, iInt, isTruth, iStr, iTup, iLst, iDic]; decide +kernel)
def isInt (d : PyData) : Bool := iInt d && !isTruth d
/-- a choice by a truth -/
theorem if_b {b : Bool} {A B : Prop} (h1 : b = true → A) (h2 : b = false → B) : if b = true then A else B := by
  cases b with
  | true => rw [if_pos rfl]; exact h1 rfl
  | false => rw [if_neg Bool.false_ne_true]; exact h2 rfl
def spInt : Sp := fun vs H Q _ => ∃ (v : V) (d : PyData), vs = [v] ∧ Is H v d ∧ Q (.bl (isInt d)) H
def spTruth : Sp := fun vs H Q _ => ∃ (v : V) (d : PyData), vs = [v] ∧ Is H v d ∧ Q (.bl (isTruth d)) H
section
variable {P : Program} {w : World} {K : PySem.W.Frag} {mg : Str → Option Value} {base : Heap}
/-! ### names -/
theorem q_len {K : PySem.W.Frag} {H : Hp} {x : Str} {Q : VK} (hz : x.length ≤ sizeLine) (q : Q (.int (x.length : Nat)) H) : rLenV K [V.str x] H Q ∨ rLenD [V.str x] H Q := .inl ⟨_, _, rfl, ⟨hz, rfl⟩, q⟩
def letters : Str := "abcdefghijklmnopqrstuvwxyz"
def low (c : Nat) : Bool := decide (c ∈ letters.cps.toList)
def nameB (x : Str) : Bool := decide (1 ≤ x.length) && decide (x.length ≤ 8) && x.cps.toList.all low
def isName : PyData → Bool | .str x => nameB x | _ => false
/-- not too big to be measured -/
def Small (d : PyData) : Prop := d.weight ≤ 1000000
theorem small_str {x : Str} (h : Small (.str x)) : x.length ≤ 1000000 := by
  have : x.cps.size ≤ 1000000 := by simpa [Small, PyData.weight] using h
  exact this
def spName : Sp := fun vs H Q _ => ∃ (v : V) (d : PyData), vs = [v] ∧ Is H v d ∧ Small d ∧ ∀ H', Same H H' → Q (.bl (isName d)) H'
theorem sz1 {n : Nat} (h : n ≤ 1000000) : n ≤ sizeLine := Nat.le_trans h (by decide)
theorem sz2 {n : Nat} (h : n ≤ 1000000) : n < sizeLine := Nat.lt_of_le_of_lt h (by decide)
end

/-! ### lists and tuples, item by item -/
def Sq (K : PySem.W.Frag) (H : Hp) (a : Addr) (xs : List V) : Prop := SqL K H a xs ∨ SqT K H a xs
theorem Sq.same {K : PySem.W.Frag} {H H' : Hp} {a : Addr} {xs : List V} (s : Same H H') (h : Sq K H a xs) : Sq K H' a xs := by
  rcases h with h | h
  · exact .inl (s.seq h)
  · refine .inr ?_
    rcases h with (h | ⟨o, h⟩) | h
    · exact .inl (.inl (s _ _ h))
    · exact .inl (.inr ⟨o, s _ _ h⟩)
    · exact .inr h
theorem q_ix {K : PySem.W.Frag} {H : Hp} {a : Addr} {xs : List V} {z : Int} {i : Nat} {v : V} {Q : VK} (h : Sq K H a xs) (e : z = (i : Int)) (hv : xs[i]? = some v) (q : Q v H) : rIx K (.ref a) (.int z) H Q := by
  subst e
  rcases h with h | h
  · exact .inl ⟨a, xs, _, v, rfl, rfl, h, atI_nat hv, q⟩
  · exact .inr (.inl ⟨a, xs, _, v, rfl, rfl, h, atI_nat hv, q⟩)
theorem q_lenSq {K : PySem.W.Frag} {H : Hp} {a : Addr} {xs : List V} {Q : VK} (h : Sq K H a xs) (q : Q (.int (xs.length : Nat)) H) : rLenV K [V.ref a] H Q ∨ rLenD [V.ref a] H Q := by
  refine .inl ⟨_, _, rfl, ?_, q⟩
  rcases h with h | h
  · exact .inl ⟨xs, h, rfl⟩
  · exact .inr ⟨xs, h, rfl⟩
theorem q_add {K : PySem.W.Frag} {i j : Int} {H : Hp} {Q : VK} (q : Q (.int (i + j)) H) : rAddU K (.int i) (.int j) H Q := .inl ⟨i, j, rfl, rfl, q⟩
theorem q_eqi {K : PySem.W.Frag} {i j : Int} {H : Hp} {Q : VK} (q : Q (.bl (decide (i = j))) H) : rEqU K (.int i) (.int j) H Q := .inl ⟨rfl, by
  have e : decide (V.int i = V.int j) = decide (i = j) := by simp
  rw [e]
  exact q⟩
theorem q_nei {i j : Int} {H : Hp} {Q : VK} (q : Q (.bl (!decide (i = j))) H) : rNeU (.int i) (.int j) H Q := .inl ⟨rfl, by
  have e : decide (V.int i = V.int j) = decide (i = j) := by simp
  first
    | (rw [e]; exact q)
    | (simp only [ne_eq, decide_not]; rw [e]; exact q)⟩
/-! ### texts that rise -/
def slt (x y : Str) : Bool := decide (x.cps.toList < y.cps.toList)
def asc : List Str → Bool
  | x :: y :: r => slt x y && asc (y :: r)
  | _ => true
def ascAt (xs : List Str) (i : Nat) : Bool := match xs[i]?, xs[i + 1]? with
  | some x, some y => slt x y
  | _, _ => true
theorem all_asc : ∀ xs : List Str, (List.range (xs.length - 1)).all (ascAt xs) = asc xs
  | [] => rfl
  | [_] => rfl
  | x :: y :: r => by
    have ih := all_asc (y :: r)
    have e : (x :: y :: r).length - 1 = ((y :: r).length - 1) + 1 := by simp
    rw [e, List.range_succ_eq_map, List.all_cons, List.all_map]
    show (slt x y && _) = (slt x y && asc (y :: r))
    rw [← ih]
    rfl
def spAsc (K : PySem.W.Frag) : Sp := fun vs H Q _ => ∃ (a : Addr) (xs : List Str), vs = [.ref a] ∧ Sq K H a (xs.map V.str) ∧ xs.length ≤ 1000000 ∧ ∀ H', Same H H' → Q (.bl (asc xs)) H'
section
variable {P : Program} {w : World} {K : PySem.W.Frag} {mg : Str → Option Value} {base : Heap}
end

/-! ### sizes -/
theorem len_weight : ∀ ds : List PyData, ds.length ≤ PyData.weightAll ds
  | [] => Nat.zero_le _
  | d :: ds => by
    have := len_weight ds
    simp only [List.length_cons, PyData.weightAll]
    omega
theorem mem_weight : ∀ {ds : List PyData} {d : PyData}, d ∈ ds → d.weight ≤ PyData.weightAll ds
  | d :: ds, e, h => by
    simp only [PyData.weightAll]
    rcases List.mem_cons.mp h with rfl | h
    · omega
    · have := mem_weight h
      omega
theorem small_tup {ds : List PyData} (h : Small (.tuple ds)) : ds.length ≤ 1000000 ∧ ∀ d ∈ ds, Small d := by
  have h' : PyData.weightAll ds ≤ 1000000 := by simpa [Small, PyData.weight] using h
  exact ⟨Nat.le_trans (len_weight ds) h', fun d hd => Nat.le_trans (mem_weight hd) h'⟩
/-! ### texts among data -/
def textOf : PyData → Str | .str x => x | _ => Str.ofString ""
theorem are_texts {H : Hp} : ∀ {ds : List PyData} {vs : List V}, Are H vs ds → (∀ d ∈ ds, ∃ x, d = .str x) → vs = (ds.map textOf).map V.str
  | [], _, h, _ => by cases h; rfl
  | d :: ds, _, h, k => by
    cases h with
    | cons a b =>
      obtain ⟨x, rfl⟩ := k d List.mem_cons_self
      cases a
      rw [are_texts b fun e he => k e (List.mem_cons_of_mem _ he)]
      rfl
theorem name_text {d : PyData} (h : isName d = true) : ∃ x, d = .str x := by
  cases d <;> first | exact ⟨_, rfl⟩ | (exact absurd h (by simp [isName]))
theorem names_text {ds : List PyData} (h : ds.all isName = true) : ∀ d ∈ ds, ∃ x, d = .str x := fun d hd => name_text (List.all_eq_true.mp h d hd)
def isNames : PyData → Bool | .tuple ds => ds.all isName && asc (ds.map textOf) | _ => false
def isPair : PyData → Bool | .tuple [a, b] => isName a && isTruth b | _ => false
def askOf : PyData → Str | .tuple (a :: _) => textOf a | _ => Str.ofString ""
def arePairs : PyData → Bool | .tuple ds => !ds.isEmpty && ds.all isPair && asc (ds.map askOf) | _ => false
def at' (ds : List PyData) (i : Nat) : PyData := ds.getD i .none
def isFact : PyData → Bool
  | .tuple ds => if ds.length < 2 then false else if isText "never" (at' ds 0) then decide (ds.length = 2) && arePairs (at' ds 1)
    else if !isText "after" (at' ds 0) || !decide (ds.length = 5) then false else ((ds.drop 1).take 3).all isName && isTruth (at' ds 4)
  | _ => false
def isWordOf (ks : List Str) : PyData → Bool | .tuple [.str x, b] => decide (x ∈ ks) && isName b | _ => false
def isLone (k : Str) : PyData → Bool | .tuple [.str x] => decide (x = k) | _ => false
def isWay (d : PyData) : Bool := isLone "on" d || isWordOf ["leave", "again", "raise", "stop"] d
def isExit (d : PyData) : Bool := isLone "end" d || isWordOf ["raise", "stop"] d
/-- a def that tells whether a thing is so -/
def spB (p : PyData → Bool) : Sp := fun vs H Q _ => ∃ (v : V) (d : PyData), vs = [v] ∧ Is H v d ∧ Small d ∧ ∀ H', Same H H' → Q (.bl (p d)) H'
theorem pair_is {d : PyData} (h : isPair d = true) : ∃ x b, d = .tuple [.str x, .bool b] := by
  match d, h with
  | .tuple [a, b], h =>
    have h' : isName a = true ∧ isTruth b = true := by simpa [isPair] using h
    obtain ⟨x, rfl⟩ := name_text h'.1
    cases b <;> first | exact ⟨_, _, rfl⟩ | exact absurd h'.2 (by simp [isTruth])
section
variable {P : Program} {w : World} {K : PySem.W.Frag} {mg : Str → Option Value} {base : Heap}
end

theorem cut_at {ds : List PyData} {xs : List V} {H : Hp} (hs : Are H xs ds) {i : Nat} (hi : i < ds.length) : ∃ v, xs[i]? = some v ∧ Is H v (at' ds i) := by
  obtain ⟨v, h1, h2⟩ := hs.get (List.getElem?_eq_getElem hi)
  refine ⟨v, h1, ?_⟩
  have e : at' ds i = ds[i] := by simp [at', List.getD_eq_getElem?_getD, List.getElem?_eq_getElem hi]
  rw [e]
  exact h2
theorem mem_at {ds : List PyData} {i : Nat} (hi : i < ds.length) : at' ds i ∈ ds := by
  have e : at' ds i = ds[i] := by simp [at', List.getD_eq_getElem?_getD, List.getElem?_eq_getElem hi]
  rw [e]
  exact List.getElem_mem hi
theorem Are.drop {H : Hp} : ∀ (n : Nat) {ds : List PyData} {vs : List V}, Are H vs ds → Are H (vs.drop n) (ds.drop n)
  | 0, _, _, h => h
  | n + 1, [], _, h => by cases h; exact .nil
  | n + 1, d :: ds, _, h => by
    cases h with
    | cons a b => exact Are.drop n b
theorem Are.take {H : Hp} : ∀ (n : Nat) {ds : List PyData} {vs : List V}, Are H vs ds → Are H (vs.take n) (ds.take n)
  | 0, _, _, h => .nil
  | n + 1, [], _, h => by cases h; exact .nil
  | n + 1, d :: ds, _, h => by
    cases h with
    | cons a b => exact .cons a (Are.take n b)
section
variable {P : Program} {w : World} {K : PySem.W.Frag} {mg : Str → Option Value} {base : Heap}
end

theorem in_texts (x : Str) : ∀ ks : List Str, inV (.str x) (ks.map V.str) = decide (x ∈ ks)
  | [] => by simp [inV]
  | y :: ks => by
    have ih := in_texts x ks
    unfold inV at ih ⊢
    rw [List.map_cons, List.any_cons, ih]
    by_cases e : y = x
    · subst e
      simp [eqV]
    · have e' : ¬ x = y := fun z => e z.symm
      simp [eqV, e, e']
theorem flat_texts : ∀ ks : List Str, (ks.map V.str).all flatV = true
  | [] => rfl
  | y :: ks => by
    rw [List.map_cons, List.all_cons, flat_texts ks]
    rfl
theorem q_inTexts {K : PySem.W.Frag} {H : Hp} {x : Str} {a : Addr} {ks : List Str} {Q : VK} (h : Sq K H a (ks.map V.str)) (q : Q (.bl (decide (x ∈ ks))) H) : rInU K (.str x) (.ref a) H Q := by
  refine .inl ⟨a, ks.map V.str, rfl, h, rfl, flat_texts ks, ?_⟩
  rw [in_texts]
  exact q
section
variable {P : Program} {w : World} {K : PySem.W.Frag} {mg : Str → Option Value} {base : Heap}
def spWordOf (K : PySem.W.Frag) : Sp := fun vs H Q _ => ∃ (v : V) (d : PyData) (a : Addr) (ks : List Str), vs = [v, .ref a] ∧ Is H v d ∧ Small d ∧ Sq K H a (ks.map V.str) ∧ ∀ H', Same H H' → Q (.bl (isWordOf ks d)) H'
end

/-! ### the bag of draws -/
/-- a bag stands at p -/
def Bag (H : Hp) (p : Addr) : Prop := ∃ (q : Addr) (b0 b1 b2 : Int) (cs : List Int), H p = some (.lst [.int b0, .int b1, .int b2, .ref q]) ∧ H q = some (.lst (cs.map V.int)) ∧
  0 ≤ b0 ∧ 0 ≤ b1 ∧ b1 < 2147483647 ∧ 0 ≤ b2 ∧ cs.length ≤ 63 ∧ ∀ c ∈ cs, 0 ≤ c
/-- something was drawn, made: the bag at p may have changed, all else that was tracked stands -/
structure Ext (p : Addr) (H H' : Hp) : Prop where
  bag : Bag H' p
  inner : ∀ (b0 b1 b2 : Int) (q : Addr), H p = some (.lst [.int b0, .int b1, .int b2, .ref q]) → ∃ c0 c1 c2 : Int, H' p = some (.lst [.int c0, .int c1, .int c2, .ref q])
  keep : ∀ b o, b ≠ p → H b = some o → H' b = some o
theorem Ext.refl {p : Addr} {H : Hp} (h : Bag H p) : Ext p H H := ⟨h, fun _ _ _ _ e => ⟨_, _, _, e⟩, fun _ _ _ e => e⟩
theorem Ext.trans {p : Addr} {H H1 H2 : Hp} (a : Ext p H H1) (b : Ext p H1 H2) : Ext p H H2 := ⟨b.bag, fun _ _ _ _ e => let ⟨_, _, _, e1⟩ := a.inner _ _ _ _ e; b.inner _ _ _ _ e1, fun c o n e => b.keep c o n (a.keep c o n e)⟩
theorem Bag.same {p : Addr} {H H' : Hp} (h : Bag H p) (s : Same H H') : Bag H' p := by
  obtain ⟨q, b0, b1, b2, cs, h1, h2, r⟩ := h
  exact ⟨q, b0, b1, b2, cs, s _ _ h1, s _ _ h2, r⟩
theorem Ext.same {p : Addr} {H H' : Hp} (h : Bag H p) (s : Same H H') : Ext p H H' := ⟨h.same s, fun _ _ _ _ e => ⟨_, _, _, s _ _ e⟩, fun b o _ e => s b o e⟩
/-- an object that is new to H is written: the bag stays -/
theorem Ext.over {p a : Addr} {H H1 : Hp} {o : HO} (hB : Bag H p) (x : Ext p H H1) (n : H a = none) : Ext p H (upd H1 a o) := by
  obtain ⟨q, b0, b1, b2, cs, h1, h2, _⟩ := hB
  have nap : a ≠ p := fun z => by rw [z, h1] at n; cases n
  have naq : a ≠ q := fun z => by rw [z, h2] at n; cases n
  obtain ⟨bq, c0, c1, c2, ds, k1, k2, r⟩ := x.bag
  obtain ⟨e0, e1, e2, e3⟩ := x.inner _ _ _ _ h1
  have ebq : bq = q := by
    rw [k1] at e3
    cases e3
    rfl
  subst ebq
  refine ⟨⟨bq, c0, c1, c2, ds, by rw [upd_ne nap.symm]; exact k1, by rw [upd_ne naq.symm]; exact k2, r⟩, fun d0 d1 d2 q' e => ?_, fun b u nb e => ?_⟩
  · obtain ⟨f0, f1, f2, f3⟩ := x.inner _ _ _ _ e
    exact ⟨f0, f1, f2, by rw [upd_ne nap.symm]; exact f3⟩
  · rw [upd_ne (ne_of_none e n)]
    exact x.keep b u nb e
theorem Ext.then {p : Addr} {H H1 H2 : Hp} (a : Ext p H H1) (s : Same H1 H2) : Ext p H H2 := a.trans (.same a.bag s)
theorem atl {xs : List V} {z : Int} {i : Nat} (e : z = (i : Int)) (hi : i < xs.length) : ixN xs.length z = some i := by
  subst e
  simp [ixN, hi]
/-- one of as many: the number drawn -/
def spTake : Sp := fun vs H Q _ => ∃ (p : Addr) (m : Int), vs = [.ref p, .int m] ∧ 0 < m ∧ m < 1073741824 ∧ Bag H p ∧ ∀ (v : Int) (H' : Hp), 0 ≤ v → v < m → Ext p H H' → Q (.int v) H'
theorem q_geI {i j : Int} {H : Hp} {Q : VK} (q : Q (.bl (decide (j ≤ i))) H) : rI0 (fun i j => V.bl (decide (j ≤ i))) (.int i) (.int j) H Q := ⟨i, j, rfl, rfl, q⟩
section
variable {P : Program} {w : World} {K : PySem.W.Frag} {mg : Str → Option Value} {base : Heap}
end

theorem Sq.ext {K : PySem.W.Frag} {H H' : Hp} {p a : Addr} {xs : List V} (x : Ext p H H') (n : a ≠ p) (h : Sq K H a xs) : Sq K H' a xs := by
  rcases h with (h | ⟨o, h⟩) | h
  · rcases h with h | ⟨o, h⟩
    · exact .inl (.inl (.inl (x.keep _ _ n h)))
    · exact .inl (.inl (.inr ⟨o, x.keep _ _ n h⟩))
  all_goals first
    | (rcases h with (h | ⟨o, h⟩) | h
       · exact .inr (.inl (.inl (x.keep _ _ n h)))
       · exact .inr (.inl (.inr ⟨o, x.keep _ _ n h⟩))
       · exact .inr (.inr h))
    | exact .inl (.inr h)
    | exact .inl (.inr ⟨_, h⟩)
theorem Bag.upd {p a : Addr} {H : Hp} {o : HO} (h : Bag H p) (n : H a = none) : Bag (upd H a o) p := h.same (same_upd n)
theorem Bag.at {p : Addr} {H : Hp} (h : Bag H p) : ∃ o, H p = some o := by
  obtain ⟨q, b0, b1, b2, cs, h1, _⟩ := h
  exact ⟨_, h1⟩
theorem Bag.ne {p a : Addr} {H : Hp} (h : Bag H p) (n : H a = none) : a ≠ p := fun z => by
  obtain ⟨o, e⟩ := h.at
  rw [z, e] at n
  cases n
/-- the bag that the law begins with -/
def spBag (K : PySem.W.Frag) : Sp := fun vs H Q _ => ∃ (a : Addr) (ns : List Int), vs = [.ref a] ∧ SqL K H a (ns.map V.int) ∧ ∀ (p : Addr) (H' : Hp), Bag H' p → Q (.ref p) H'
/-- one of several things -/
def spOne (K : PySem.W.Frag) : Sp := fun vs H Q _ => ∃ (p : Addr) (t : V), vs = [.ref p, t] ∧ Bag H p ∧
  ((∃ a xs, t = .ref a ∧ a ≠ p ∧ Sq K H a xs ∧ 0 < xs.length ∧ xs.length ≤ 1000000 ∧ ∀ (i : Nat) (v : V) (H' : Hp), xs[i]? = some v → Ext p H H' → Q v H') ∨
    (∃ z : Str, t = .str z ∧ 0 < z.length ∧ z.length ≤ 1000000 ∧ ∀ (c : Nat) (H' : Hp), c ∈ z.cps.toList → Ext p H H' → Q (.str ⟨#[c]⟩) H'))
/-- the things in another order -/
def spMixed (K : PySem.W.Frag) : Sp := fun vs H Q _ => ∃ (p a : Addr) (xs : List V), vs = [.ref p, .ref a] ∧ Bag H p ∧ a ≠ p ∧ SqL K H a xs ∧ xs.length ≤ 1000 ∧
  ∀ (q : Addr) (ys : List V) (H' : Hp), ys.Perm xs → H' q = some (.lst ys) → q ≠ p → Ext p H H' → Q (.ref q) H'
section
variable {P : Program} {w : World} {K : PySem.W.Frag} {mg : Str → Option Value} {base : Heap}
end

/-- a text such as a name is -/
def Nm (x : Str) : Prop := 1 ≤ x.length ∧ x.length ≤ 8 ∧ ∀ c ∈ x.cps.toList, c < 128
def menu : List Str := ["do", "of", "case", "end", "if", "else", "loop", "block", "leave", "again", "mark", "yes", "no", "at", "try", "on"]
def nmB (x : Str) : Bool := decide (1 ≤ x.length) && decide (x.length ≤ 8) && x.cps.toList.all fun c => decide (c < 128)
theorem nm_of {x : Str} (h : nmB x = true) : Nm x := by
  simp only [nmB, Bool.and_eq_true, decide_eq_true_eq, List.all_eq_true] at h
  exact ⟨h.1.1, h.1.2, h.2⟩
theorem menu_nm : ∀ x ∈ menu, Nm x := fun x hx => nm_of (by
  have : menu.all nmB = true := by decide +kernel
  exact List.all_eq_true.mp this x hx)
theorem menu_split : Txt.split (Str.ofString "do of case end if else loop block leave again mark yes no at try on") (Str.ofString " ") = menu := by decide +kernel
/-- names, as many as asked for -/
def spNames : Sp := fun vs H Q _ => ∃ (p : Addr) (m : Int), vs = [.ref p, .int m] ∧ 0 ≤ m ∧ m ≤ 8 ∧ Bag H p ∧
  ∀ (a : Addr) (xs : List Str) (H' : Hp), (xs.length : Int) = m → (∀ x ∈ xs, Nm x) → H' a = some (.tup (xs.map V.str)) → a ≠ p → Ext p H H' → Q (.ref a) H'
theorem cutV_map {α : Type} (f : α → V) (xs : List α) (lo hi : Option Int) : cutV (xs.map f) lo hi = ((xs.drop (HT.sIx xs.length 0 lo)).take (HT.sIx xs.length xs.length hi - HT.sIx xs.length 0 lo)).map f := by
  unfold cutV
  rw [List.length_map, ← List.map_drop, ← List.map_take]
def cutL {α : Type} (xs : List α) (lo hi : Option Int) : List α := (xs.drop (HT.sIx xs.length 0 lo)).take (HT.sIx xs.length xs.length hi - HT.sIx xs.length 0 lo)
theorem cutL_mem {α : Type} {xs : List α} {lo hi : Option Int} {x : α} (h : x ∈ cutL xs lo hi) : x ∈ xs := List.mem_of_mem_drop (List.mem_of_mem_take h)
theorem cutL_len {α : Type} (xs : List α) (lo hi : Option Int) : (cutL xs lo hi).length ≤ xs.length := by
  unfold cutL
  refine Nat.le_trans (List.length_take_le' _ _) ?_
  rw [List.length_drop]
  omega
theorem cutL_from {α : Type} (xs : List α) {v : Int} (h : 0 ≤ v) : (cutL xs (some v) none).length = xs.length - min v.toNat xs.length := by
  unfold cutL
  rw [List.length_take, List.length_drop]
  have e : HT.sIx xs.length 0 (some v) = min v.toNat xs.length := by
    show (if v < 0 then _ else _) = _
    rw [if_neg (by omega)]
  rw [e]
  show min (xs.length - min v.toNat xs.length) _ = _
  omega
theorem cutL_to {α : Type} (xs : List α) {v : Int} (h : 0 ≤ v) : (cutL xs none (some v)).length = min v.toNat xs.length := by
  unfold cutL
  rw [List.length_take, List.length_drop]
  have e : HT.sIx xs.length xs.length (some v) = min v.toNat xs.length := by
    show (if v < 0 then _ else _) = _
    rw [if_neg (by omega)]
  rw [e]
  show min (min v.toNat xs.length - 0) (xs.length - 0) = _
  omega
theorem range_get {n i c : Nat} (h : (List.range n)[i]? = some c) : c = i ∧ i < n := by
  obtain ⟨h1, h2⟩ := List.getElem?_eq_some_iff.mp h
  rw [List.getElem_range] at h2
  rw [List.length_range] at h1
  exact ⟨h2.symm, h1⟩
theorem aaa_nm (i : Nat) (h : i < 8) : Nm (cutS (Str.ofString "aaaaaaaa") none (some (0 + (i : Int) + 1))) := nm_of (by
  have : (List.range 8).all (fun i => nmB (cutS (Str.ofString "aaaaaaaa") none (some (0 + (i : Int) + 1)))) = true := by decide +kernel
  exact List.all_eq_true.mp this i (List.mem_range.mpr h))
def abc : Str := "abcdefghijklmnopqrstuvwxyz"
theorem abc_len : abc.cps.toList.length = 26 := by decide +kernel
theorem abc_len' : abc.length = 26 := by decide +kernel
theorem abc_lo : ∀ c ∈ abc.cps.toList, c < 128 := by
  have : abc.cps.toList.all (fun c => decide (c < 128)) = true := by decide +kernel
  intro c hc
  exact of_decide_eq_true (List.all_eq_true.mp this c hc)
def letter (z : Int) : Nat := abc.cps.toList.getD (z % 26).toNat 0
theorem letter_get (z : Int) : abc.cps.toList[(z % 26).toNat]? = some (letter z) := by
  have h : (z % 26).toNat < abc.cps.toList.length := by
    rw [abc_len]
    omega
  unfold letter
  rw [List.getD_eq_getElem?_getD, List.getElem?_eq_getElem h]
  rfl
theorem letter_at (z : Int) : atI abc.cps.toList (z % 26) = some (letter z) := by
  have := atI_nat (letter_get z)
  rwa [show (((z % 26).toNat : Nat) : Int) = z % 26 from by omega] at this
theorem letter_lo (z : Int) : letter z < 128 := abc_lo _ (List.mem_of_getElem? (letter_get z))
theorem nm_behind {x : Str} {c : Nat} (l : x.length ≤ 7) (h : ∀ c ∈ x.cps.toList, c < 128) (hc : c < 128) : Nm (x ++ ⟨#[c]⟩) := by
  have e : (x ++ (⟨#[c]⟩ : Str)).cps = x.cps ++ #[c] := rfl
  have e2 : (x ++ (⟨#[c]⟩ : Str)).length = x.length + 1 := by
    show (x.cps ++ #[c]).size = x.cps.size + 1
    simp
  refine ⟨by omega, by omega, fun d hd => ?_⟩
  rw [e, Array.toList_append] at hd
  rcases List.mem_append.mp hd with z | z
  · exact h d z
  · rw [List.mem_singleton.mp z]
    exact hc
theorem p0' (x : Int) (h : 0 < x) : 0 < x := h
section
variable {P : Program} {w : World} {K : PySem.W.Frag} {mg : Str → Option Value} {base : Heap}
end

/-! ### the law's own looks -/
theorem fm_none {α β : Type} (p : α → Bool) (f : α → β) : ∀ xs : List α, (xs.filterMap fun x => if p x then none else some (f x)).isEmpty = xs.all p
  | [] => rfl
  | x :: xs => by
    cases h : p x with
    | true => rw [List.filterMap_cons_none (by rw [h]; rfl), fm_none p f xs, List.all_cons, h, Bool.true_and]
    | false =>
      rw [List.filterMap_cons_some (b := f x) (by rw [h]; rfl), List.all_cons, h]
      rfl
section
variable {P : Program} {w : World} {K : PySem.W.Frag} {mg : Str → Option Value} {base : Heap}
def isLoneOf (ks : List Str) : PyData → Bool | .tuple [.str x] => decide (x ∈ ks) | _ => false
theorem lone_of (k : Str) (d : PyData) : isLoneOf [k] d = isLone k d := by
  unfold isLoneOf isLone
  split <;> simp
def spLawWord (K : PySem.W.Frag) : Sp := fun vs H Q _ => ∃ (v : V) (d : PyData) (a b : Addr) (ks ls : List Str), vs = [v, .ref a, .ref b] ∧ Is H v d ∧ Small d ∧ Sq K H a (ks.map V.str) ∧ Sq K H b (ls.map V.str) ∧
  ∀ H', Same H H' → Q (.bl (isLoneOf ks d || isWordOf ls d)) H'
end

/-! ### texts that rise, and sorted texts -/
theorem str_ext {x y : Str} (h : x.cps.toList = y.cps.toList) : x = y := by
  cases x
  cases y
  simp only at h
  rw [Array.toList_inj.mp h]
theorem asc_pw : ∀ {xs : List Str}, asc xs = true → xs.Pairwise fun x y => x.cps.toList < y.cps.toList
  | [], _ => .nil
  | [_], _ => List.pairwise_singleton _ _
  | x :: y :: r, h => by
    have h' : slt x y = true ∧ asc (y :: r) = true := by
      rw [asc, Bool.and_eq_true] at h
      exact h
    have ih := asc_pw h'.2
    have h1 : x.cps.toList < y.cps.toList := of_decide_eq_true h'.1
    refine List.pairwise_cons.mpr ⟨fun z hz => ?_, ih⟩
    rcases List.mem_cons.mp hz with e | hz
    · rw [e]
      exact h1
    · exact List.lt_trans h1 ((List.pairwise_cons.mp ih).1 z hz)
theorem rise_pw : ∀ {x : Str} {r : List Str}, risingS x r = true → (x :: r).Pairwise fun x y => x.cps.toList ≤ y.cps.toList
  | _, [], _ => List.pairwise_singleton _ _
  | x, y :: r, h => by
    have h' : ltCps y.cps.toList x.cps.toList = false ∧ risingS y r = true := by
      rw [risingS, Bool.and_eq_true, Bool.not_eq_true'] at h
      exact h
    have ih := rise_pw h'.2
    have h1 : x.cps.toList ≤ y.cps.toList := by
      have := h'.1
      rw [ltCps_eq, decide_eq_false_iff_not] at this
      exact List.not_lt.mp this
    refine List.pairwise_cons.mpr ⟨fun z hz => ?_, ih⟩
    rcases List.mem_cons.mp hz with e | hz
    · rw [e]
      exact h1
    · exact List.le_trans h1 ((List.pairwise_cons.mp ih).1 z hz)
theorem sorted_pw : ∀ {ys : List Str}, sortedS ys = true → ys.Pairwise fun x y => x.cps.toList ≤ y.cps.toList
  | [], _ => .nil
  | _ :: _, h => rise_pw h
theorem asc_of : ∀ {ys : List Str}, (ys.Pairwise fun x y => x.cps.toList ≤ y.cps.toList) → ys.Nodup → asc ys = true
  | [], _, _ => rfl
  | [_], _, _ => rfl
  | x :: y :: r, h, nd => by
    obtain ⟨h1, h2⟩ := List.pairwise_cons.mp h
    obtain ⟨n1, n2⟩ := List.nodup_cons.mp nd
    rw [asc, asc_of h2 n2, Bool.and_true]
    refine decide_eq_true ?_
    have le := h1 y List.mem_cons_self
    have ne : x.cps.toList ≠ y.cps.toList := fun e => n1 (by rw [str_ext e]; exact List.mem_cons_self)
    exact Classical.byContradiction fun n => ne (List.le_antisymm le (List.not_lt.mp n))
theorem asc_iff {xs ys : List Str} (p : ys.Perm (met [] xs)) (s : sortedS ys = true) : decide (xs = ys) = asc xs := by
  rw [Bool.eq_iff_iff, decide_eq_true_eq]
  constructor
  · intro e
    rw [e]
    exact asc_of (sorted_pw s) (p.nodup_iff.mpr (met_nodup xs [] List.nodup_nil))
  · intro a
    have pw := asc_pw a
    have nd : xs.Nodup := pw.imp fun h e => by
      rw [e] at h
      exact List.lt_irrefl _ h
    have pm : (met [] xs).Perm xs := perm_sub xs _ nd (fun x hx => (met_mem xs [] x).mpr (.inr hx)) (by have := met_len xs []; simpa using this)
    exact List.Perm.eq_of_pairwise (le := fun x y : Str => x.cps.toList ≤ y.cps.toList) (fun x y _ _ h1 h2 => str_ext (List.le_antisymm h1 h2)) (pw.imp fun h => List.le_of_lt h) (sorted_pw s) (p.trans pm).symm
/-! ### lists of texts as data -/
theorem are_strs {H : Hp} : ∀ xs : List Str, Are H (xs.map V.str) (xs.map .str)
  | [] => .nil
  | x :: xs => .cons (.str x) (are_strs xs)
theorem eqv_strs : ∀ xs ys : List Str, PyData.eqvAll (xs.map .str) (ys.map .str) = decide (xs = ys)
  | [], [] => rfl
  | [], _ :: _ => by simp [PyData.eqvAll]
  | _ :: _, [] => by simp [PyData.eqvAll]
  | x :: xs, y :: ys => by
    simp only [List.map_cons, PyData.eqvAll, PyData.eqv, eqv_strs xs ys]
    rw [Bool.eq_iff_iff]
    simp
def okT (x : Str) : Prop := ∀ c ∈ x.cps.toList, c < 128
theorem depth_strs : ∀ xs : List Str, PyData.depthAll (xs.map .str) = 0
  | [] => rfl
  | x :: xs => by
    simp only [List.map_cons, PyData.depthAll, PyData.depth, depth_strs xs, Nat.max_self]
theorem strOk_of {x : Str} (h : okT x) : PyData.strOk x = true := by
  unfold PyData.strOk
  rw [Array.all_eq_true']
  intro c hc
  have := h c (by simpa using hc)
  exact decide_eq_true (Nat.lt_trans this (by decide))
theorem lay_strs : ∀ {xs : List Str}, (∀ x ∈ xs, okT x) → PyData.canLayAll0 (xs.map .str) = true
  | [], _ => rfl
  | x :: xs, h => by
    simp only [List.map_cons, PyData.canLayAll0, PyData.canLay0, Bool.and_eq_true]
    exact ⟨strOk_of (h x List.mem_cons_self), lay_strs fun y hy => h y (List.mem_cons_of_mem _ hy)⟩
theorem q_eqTexts {K : PySem.W.Frag} {H : Hp} {p q : Addr} {xs ys : List Str} {Q : VK} (hp : H p = some (.lst (xs.map V.str))) (hq : H q = some (.lst (ys.map V.str))) (ox : ∀ x ∈ xs, okT x) (oy : ∀ x ∈ ys, okT x)
    (k : Q (.bl (decide (xs = ys))) H) : rEqU K (.ref p) (.ref q) H Q := by
  refine .inr (.inl ⟨.list (xs.map .str), .list (ys.map .str), .lst hp (are_strs xs), .lst hq (are_strs ys), lay_strs ox, lay_strs oy, .inl ?_, ?_⟩)
  · simp only [PyData.depth, depth_strs]
    decide
  · show Q (.bl (PyData.eqvAll _ _)) H
    rw [eqv_strs]
    exact k

/-- tuples of names, of pairs, that are not too long for a set -/
structure Few (d : PyData) : Prop where
  names : ∀ ds, d = .tuple ds → ds.all isName = true → ds.length < 64
  pairs : ∀ ds es, d = .tuple ds → at' ds 1 = .tuple es → es.all isPair = true → es.length < 64
def spF (p : PyData → Bool) : Sp := fun vs H Q _ => ∃ (v : V) (d : PyData), vs = [v] ∧ Is H v d ∧ Small d ∧ Few d ∧ ∀ H', Same H H' → Q (.bl (p d)) H'
theorem zip_all (p : PyData → Bool) : ∀ {xs : List V} {ds : List PyData}, xs.length = ds.length → (xs.zip ds).all (fun x => p x.2) = ds.all p
  | [], [], _ => rfl
  | _ :: xs, d :: ds, h => by
    rw [List.zip_cons_cons, List.all_cons, List.all_cons, zip_all p (by simpa using h)]
  | [], _ :: _, h => by simp at h
  | _ :: _, [], h => by simp at h
theorem zip_at {xs : List V} {ds : List PyData} {i : Nat} {x : V × PyData} (h : (xs.zip ds)[i]? = some x) : xs[i]? = some x.1 ∧ ds[i]? = some x.2 := List.getElem?_zip_eq_some.mp h
theorem zip_len {xs : List V} {ds : List PyData} (h : xs.length = ds.length) : (xs.zip ds).length = xs.length := by
  rw [List.length_zip]
  omega
theorem fm_len {α β : Type} (p : α → Bool) (f : α → β) (xs : List α) : decide ((xs.filterMap fun x => if p x then some (f x) else none).length = xs.length) = xs.all p := by
  have e : (xs.filterMap fun x => if p x then some (f x) else none) = (xs.filter p).map f := by
    induction xs with
    | nil => rfl
    | cons x xs ih =>
      cases h : p x with
      | true => rw [List.filterMap_cons_some (b := f x) (by rw [h]; rfl), List.filter_cons_of_pos h, List.map_cons, ih]
      | false => rw [List.filterMap_cons_none (by rw [h]; rfl), List.filter_cons_of_neg (by rw [h]; exact Bool.false_ne_true), ih]
  rw [e, List.length_map, Bool.eq_iff_iff, decide_eq_true_eq, List.all_eq_true]
  exact List.length_filter_eq_length_iff
theorem name_ok {d : PyData} (h : isName d = true) : okT (textOf d) := by
  obtain ⟨x, rfl⟩ := name_text h
  have h' : nameB x = true := h
  rw [nameB, Bool.and_eq_true, List.all_eq_true] at h'
  intro c hc
  have h2 := of_decide_eq_true (h'.2 c hc)
  have : letters.cps.toList.all (fun c => decide (c < 128)) = true := by decide +kernel
  exact of_decide_eq_true (List.all_eq_true.mp this c h2)
section
variable {P : Program} {w : World} {K : PySem.W.Frag} {mg : Str → Option Value} {base : Heap}
end

/-- the seven truths of a thing -/
def seven (d : PyData) : List Bool := [isInt d, isTruth d, isName d, isNames d, isFact d, isWay d, isExit d]
def spTold : Sp := fun vs H Q _ => ∃ (v : V) (d : PyData), vs = [v] ∧ Is H v d ∧ Small d ∧ Few d ∧ ∀ H' r, Same H H' → H' r = some (.lst ((seven d).map V.bl)) → H r = none → Q (.ref r) H'
theorem Same.none {H H' : Hp} {a : Addr} (s : Same H H') (e : H' a = none) : H a = none := by
  cases h : H a with
  | none => rfl
  | some o => rw [s _ _ h] at e; cases e
section
variable {P : Program} {w : World} {K : PySem.W.Frag} {mg : Str → Option Value} {base : Heap}
end

/-! ### data that does not lean on some of the objects -/
/-- without what stands at some places -/
def hide (S : Addr → Bool) (H : Hp) : Hp := fun b => if S b = true then none else H b
theorem hide_ne {S : Addr → Bool} {b : Addr} {H : Hp} (n : S b = false) : hide S H b = H b := if_neg (by rw [n]; exact Bool.false_ne_true)
theorem hide_some {S : Addr → Bool} {b : Addr} {H : Hp} {o : HO} (e : hide S H b = some o) : S b = false ∧ H b = some o := by
  cases h : S b with
  | true =>
    rw [hide, if_pos h] at e
    cases e
  | false =>
    rw [hide_ne h] at e
    exact ⟨rfl, e⟩
theorem hide_in {S : Addr → Bool} {H : Hp} : Same (hide S H) H := fun b o e => (hide_some e).2
theorem hide_mono {S : Addr → Bool} {H H' : Hp} (s : Same H H') : Same (hide S H) (hide S H') := fun b o e => by
  obtain ⟨n, e⟩ := hide_some e
  rw [hide_ne n]
  exact s b o e
theorem hide_ext {S : Addr → Bool} {p : Addr} {H H' : Hp} (hp : S p = true) (x : Ext p H H') : Same (hide S H) (hide S H') := fun b o e => by
  obtain ⟨n, e⟩ := hide_some e
  rw [hide_ne n]
  exact x.keep b o (fun z => by rw [z, hp] at n; cases n) e
/-- these places are tracked -/
def Trk (S : Addr → Bool) (H : Hp) : Prop := ∀ b, S b = true → ∃ o, H b = some o
theorem Trk.no {S : Addr → Bool} {H : Hp} {a : Addr} (t : Trk S H) (n : H a = none) : S a = false := by
  cases h : S a with
  | false => rfl
  | true =>
    obtain ⟨o, e⟩ := t a h
    rw [n] at e
    cases e
theorem Trk.same {S : Addr → Bool} {H H' : Hp} (t : Trk S H) (s : Same H H') : Trk S H' := fun b h => by
  obtain ⟨o, e⟩ := t b h
  exact ⟨o, s _ _ e⟩
theorem Trk.ext {S : Addr → Bool} {p : Addr} {H H' : Hp} (t : Trk S H) (x : Ext p H H') : Trk S H' := fun b h => by
  obtain ⟨o, e⟩ := t b h
  by_cases n : b = p
  · rw [n]
    exact x.bag.at
  · exact ⟨o, x.keep b o n e⟩
theorem ne_p {S : Addr → Bool} {p a : Addr} (hp : S p = true) (n : S a = false) : a ≠ p := fun z => by
  rw [z, hp] at n
  cases n
/-- what is tracked in the first is in the second -/
def Dom (G H : Hp) : Prop := ∀ a, H a = none → G a = none
theorem Dom.refl (G : Hp) : Dom G G := fun _ h => h
theorem Dom.trans {G H I : Hp} (a : Dom G H) (b : Dom H I) : Dom G I := fun x h => a x (b x h)
theorem Dom.same {H H' : Hp} (s : Same H H') : Dom H H' := fun a h => Same.none s h
theorem Dom.ext {p : Addr} {H H' : Hp} (x : Ext p H H') : Dom H H' := fun a h => by
  by_cases n : a = p
  · obtain ⟨o, e⟩ := x.bag.at
    rw [n, e] at h
    cases h
  · cases q : H a with
    | none => rfl
    | some o => rw [x.keep a o n q] at h; cases h
/-- a value, new to the heap -/
def NewV (G : Hp) (v : V) : Prop := ∀ a, v = .ref a → G a = none
theorem NewV.dom {G H : Hp} {v : V} (d : Dom G H) (n : NewV H v) : NewV G v := fun a e => d a (n a e)
/-! ### what displays give -/
section
variable (S : Addr → Bool) (G : Hp) (σ : L2.St) (H1 : Hp)
/-- the expression gives this data, newly made -/
def Gives (te : TE) (d : PyData) : Prop := ∀ (H : Hp) (Q : VK), Same H1 H → (∀ v H', Is (hide S H') v d → NewV G v → Same H H' → Q v H') → te σ H Q
def GivesAll (ta : TA) (ds : List PyData) : Prop := ∀ (H : Hp) (Q : List V → Hp → Prop), Same H1 H → (∀ vs H', Are (hide S H') vs ds → (∀ v ∈ vs, NewV G v) → Same H H' → Q vs H') → ta σ H Q
end
section
variable {S : Addr → Bool} {G : Hp} {σ : L2.St} {H1 : Hp}
theorem g_non : Gives S G σ H1 (tC .non) .none := fun H Q _ k => k _ H .non (fun a e => by cases e) (Same.refl H)
theorem g_bl {b : Bool} : Gives S G σ H1 (tC (.bl b)) (.bool b) := fun H Q _ k => k _ H (.bl b) (fun a e => by cases e) (Same.refl H)
theorem g_int {i : Int} : Gives S G σ H1 (tC (.int i)) (.int i) := fun H Q _ k => k _ H (.int i) (fun a e => by cases e) (Same.refl H)
theorem g_str {x : Str} : Gives S G σ H1 (tC (.str x)) (.str x) := fun H Q _ k => k _ H (.str x) (fun a e => by cases e) (Same.refl H)
theorem g_nil : GivesAll S G σ H1 tNil [] := fun H Q _ k => k [] H .nil (fun v h => by cases h) (Same.refl H)
theorem g_cons {te : TE} {ta : TA} {d : PyData} {ds : List PyData} (a : Gives S G σ H1 te d) (b : GivesAll S G σ H1 ta ds) : GivesAll S G σ H1 (tCons te ta) (d :: ds) := fun H Q s k =>
  a H _ s fun v H2 h n s2 => b H2 _ (s.trans s2) fun vs H3 hs ns s3 => k (v :: vs) H3 (.cons (Is.same (hide_mono s3) h) hs) (fun u hu => by
    rcases List.mem_cons.mp hu with e | hu
    · rw [e]; exact n
    · exact ns u hu) (s2.trans s3)
theorem new_at {H H2 : Hp} {a : Addr} (hT : Trk S H1) (hD : Dom G H1) (s : Same H1 H) (s2 : Same H H2) (n : H2 a = none) (o : HO) : S a = false ∧ NewV G (.ref a) ∧ Same H (upd H2 a o) ∧ Same (hide S H2) (hide S (upd H2 a o)) ∧ hide S (upd H2 a o) a = some o := by
  have ne : S a = false := (hT.same (s.trans s2)).no n
  refine ⟨ne, fun b e => ?_, s2.trans (same_upd n), hide_mono (same_upd n), by rw [hide_ne ne]; exact upd_same⟩
  cases e
  exact hD a (Same.none (s.trans s2) n)
theorem g_lst {ta : TA} {ds : List PyData} (hT : Trk S H1) (hD : Dom G H1) (h : GivesAll S G σ H1 ta ds) (l : ds.length ≤ 1000000) : Gives S G σ H1 (tLst ta) (.list ds) := fun H Q s k =>
  h H _ s fun vs H2 hs _ s2 => ⟨sz1 (by rw [hs.length]; exact l), fun a n => by
    obtain ⟨ne, nw, s3, s4, e⟩ := new_at hT hD s s2 n (.lst vs)
    exact k _ _ (.lst e (Are.same s4 hs)) nw s3⟩
theorem g_tup {ta : TA} {ds : List PyData} (hT : Trk S H1) (hD : Dom G H1) (h : GivesAll S G σ H1 ta ds) (l : ds.length ≤ 1000000) : Gives S G σ H1 (tTup ta) (.tuple ds) := fun H Q s k =>
  h H _ s fun vs H2 hs _ s2 => ⟨sz1 (by rw [hs.length]; exact l), fun a n => by
    obtain ⟨ne, nw, s3, s4, e⟩ := new_at hT hD s s2 n (.tup vs)
    exact k _ _ (.tup e (Are.same s4 hs)) nw s3⟩
theorem g_dnew (hT : Trk S H1) (hD : Dom G H1) : Gives S G σ H1 tDNewK (.dict []) := fun H Q s k a n => by
  obtain ⟨ne, nw, s3, s4, e⟩ := new_at hT hD s (Same.refl H) n (.dK [])
  exact k _ _ (.dic e .nil) nw s3
theorem g_neg {i : Int} : Gives S G σ H1 (tUn (rU fun i => .int (-i)) (tC (.int i))) (.int (-i)) := fun H Q _ k => ⟨i, rfl, k _ H (.int _) (fun a e => by cases e) (Same.refl H)⟩
theorem g_pow {i j : Int} (c : CPow i j) : Gives S G σ H1 (tOp (rI CPow fun i j => .int (i ^ j.toNat)) (tC (.int i)) (tC (.int j))) (.int (i ^ j.toNat)) := fun H Q _ k =>
  ⟨i, j, rfl, rfl, c, k _ H (.int _) (fun a e => by cases e) (Same.refl H)⟩
end

section
variable {S : Addr → Bool} {G : Hp} {σ : L2.St} {H1 : Hp}
/-- {"a": "b"} -/
theorem g_d1 {x y : Str} (hT : Trk S H1) (hD : Dom G H1) : Gives S G σ H1 (tDisp [(tC (.str x), tC (.str y))]) (.dict [(.str x, .str y)]) := fun H Q s k q n => by
  refine ⟨upd_same, [(.inr x, .str y)], rfl, by show 1 ≤ 15; decide, ?_⟩
  have ne : S q = false := (hT.same s).no n
  have e0 : mergeK [] [(Sum.inr x, V.str y)] = [(Sum.inr x, V.str y)] := rfl
  rw [e0]
  refine k _ _ (.dic (kvs := [(.inr x, .str y)]) (by rw [hide_ne ne]; exact upd_same) (.cons (.str y) .nil)) (fun b e => by cases e; exact hD q (Same.none s n)) ?_
  exact same_over n (same_upd n)
/-- {"a": ()} -/
theorem g_d2 {x : Str} (hT : Trk S H1) (hD : Dom G H1) : Gives S G σ H1 (tDisp [(tC (.str x), tTup tNil)]) (.dict [(.str x, .tuple [])]) := fun H Q s k q n => by
  refine ⟨Nat.zero_le _, fun a na => ?_⟩
  have ne : S q = false := (hT.same s).no n
  have nea : S a = false := ((hT.same s).same (same_upd n)).no na
  have naq : q ≠ a := fun z => by rw [← z, upd_same] at na; cases na
  refine ⟨same_upd na _ _ upd_same, [(.inr x, .ref a)], rfl, by show 1 ≤ 15; decide, ?_⟩
  have e0 : mergeK [] [(Sum.inr x, V.ref a)] = [(Sum.inr x, V.ref a)] := rfl
  rw [e0]
  refine k _ _ (.dic (kvs := [(.inr x, .ref a)]) (by rw [hide_ne ne]; exact upd_same) (.cons (.tup (xs := []) (by rw [hide_ne nea, upd_ne naq.symm]; exact upd_same) .nil) .nil)) (fun b e => by cases e; exact hD q (Same.none s n)) ?_
  exact same_over n ((same_upd n).trans (same_upd na))
theorem are_rep {H : Hp} {v : V} {d : PyData} (h : Is H v d) : ∀ n : Nat, Are H (List.replicate n v) (List.replicate n d)
  | 0 => .nil
  | n + 1 => .cons h (are_rep h n)
theorem flat_rep (v : V) : ∀ n : Nat, (List.replicate n [v]).flatten = List.replicate n v
  | 0 => rfl
  | n + 1 => by
    rw [List.replicate_succ, List.flatten_cons, flat_rep v n]
    rfl
/-- [i] * n -/
theorem g_rep {K : PySem.W.Frag} {i j : Int} {te : TE} (hT : Trk S H1) (hD : Dom G H1) (h : te = tC (.int j)) (h0 : 0 ≤ j) (hj : j ≤ 1000000) :
    Gives S G σ H1 (tOp (rMulU K) (tLst (tCons (tC (.int i)) tNil)) te) (.list (List.replicate j.toNat (.int i))) := fun H Q s k => by
  subst h
  refine ⟨by show 1 ≤ sizeLine; decide, fun a n => .inr (.inl ⟨a, j, [.int i], rfl, rfl, upd_same, by omega, by omega, by show 1 * j.toNat ≤ sizeLine; rw [Nat.one_mul]; exact sz1 (by omega), fun b nb => ?_⟩)⟩
  rw [flat_rep]
  have nb' : S b = false := ((hT.same s).same (same_upd n)).no nb
  refine k _ _ (.lst (by rw [hide_ne nb']; exact upd_same) (are_rep (.int i) _)) (fun c e => by cases e; exact hD b (Same.none s (Same.none (same_upd n) nb))) ((same_upd n).trans (same_upd nb))
/-- what stands in a slot -/
theorem g_var {i : Nat} {v : V} {d : PyData} (e : σ[i]? = some (some v)) (h : Is (hide S H1) v d) (n : NewV G v) : Gives S G σ H1 (tVar i) d := fun H Q s k => ⟨v, e, k v H (Is.same (hide_mono s) h) n (Same.refl H)⟩
theorem g_op {r : R2} {ta tb : TE} {da db dc : PyData} (a : Gives S G σ H1 ta da) (b : Gives S G σ H1 tb db)
    (c : ∀ v u H Q, Same H1 H → Is (hide S H) v da → Is (hide S H) u db → (∀ x H', Is (hide S H') x dc → NewV G x → Same H H' → Q x H') → r v u H Q) : Gives S G σ H1 (tOp r ta tb) dc := fun H Q s k =>
  a H _ s fun v H2 h n s2 => b H2 _ (s.trans s2) fun u H3 h3 n3 s3 => c v u H3 Q (s.trans (s2.trans s3)) (Is.same (hide_mono s3) h) h3 fun x H4 h4 n4 s4 => k x H4 h4 n4 (s2.trans (s3.trans s4))
/-- xs + ys, lists -/
theorem g_cat {K : PySem.W.Frag} {ta tb : TE} {ds es : List PyData} (hT : Trk S H1) (hD : Dom G H1) (a : Gives S G σ H1 ta (.list ds)) (b : Gives S G σ H1 tb (.list es)) (l : ds.length + es.length ≤ 1000000) :
    Gives S G σ H1 (tOp (rAddU K) ta tb) (.list (ds ++ es)) := g_op a b fun v u H Q s h1 h2 k => by
  cases h1 with
  | @lst x xs _ e1 k1 =>
  cases h2 with
  | @lst y ys _ e2 k2 =>
  refine .inr (.inr (.inl ⟨x, y, xs, ys, rfl, rfl, hide_in _ _ e1, hide_in _ _ e2, sz1 (by rw [k1.length, k2.length]; exact l), fun q n => ?_⟩))
  obtain ⟨ne, nw, s3, s4, e⟩ := new_at hT hD s (Same.refl H) n (.lst (xs ++ ys))
  exact k _ _ (.lst e (Are.same s4 (Are.append k1 k2))) nw s3
end

end Gn
set_option Elab.async false
set_option linter.all false
set_option maxRecDepth 100000
set_option maxHeartbeats 2000000
namespace K62
open PySem PySem.Spec L2 Quiet
def top (i : Nat) : Stmt := PySem.Challenge.pw_fourfaces_k62_torn_logs_judged.main.body.getD i (.Pass ⟨0, 0, 0, 0⟩)
abbrev s_is_torn : Stmt := top 5
abbrev n_is_torn : List Str := ["watch", "thing", "part"]
theorem sc_is_torn : FnScope n_is_torn ["watch", "thing"] (defScope s_is_torn) := ⟨rfl, rfl, rfl, by decide +kernel, rfl, by decide +kernel, by decide +kernel⟩
abbrev s_Torn___init__ : Stmt := inClass (top 6) 0
abbrev n_Torn___init__ : List Str := ["self", "entries"]
theorem sc_Torn___init__ : FnScope n_Torn___init__ ["self", "entries"] (defScope s_Torn___init__) := ⟨rfl, rfl, rfl, by decide +kernel, rfl, by decide +kernel, by decide +kernel⟩
abbrev s_Torn__spread : Stmt := inClass (top 6) 1
abbrev n_Torn__spread : List Str := ["self", "numbers", "found", "left", "number"]
theorem sc_Torn__spread : FnScope n_Torn__spread ["self", "numbers"] (defScope s_Torn__spread) := ⟨rfl, rfl, rfl, by decide +kernel, rfl, by decide +kernel, by decide +kernel⟩
abbrev s_Torn_begin : Stmt := inClass (top 6) 2
abbrev n_Torn_begin : List Str := ["self"]
theorem sc_Torn_begin : FnScope n_Torn_begin ["self"] (defScope s_Torn_begin) := ⟨rfl, rfl, rfl, by decide +kernel, rfl, by decide +kernel, by decide +kernel⟩
abbrev s_Torn_behind : Stmt := inClass (top 6) 3
abbrev n_Torn_behind : List Str := ["self", "stand", "word", "found", "number", "entry"]
theorem sc_Torn_behind : FnScope n_Torn_behind ["self", "stand", "word"] (defScope s_Torn_behind) := ⟨rfl, rfl, rfl, by decide +kernel, rfl, by decide +kernel, by decide +kernel⟩
abbrev s_Torn_is_end : Stmt := inClass (top 6) 4
abbrev n_Torn_is_end : List Str := ["self", "stand"]
theorem sc_Torn_is_end : FnScope n_Torn_is_end ["self", "stand"] (defScope s_Torn_is_end) := ⟨rfl, rfl, rfl, by decide +kernel, rfl, by decide +kernel, by decide +kernel⟩
abbrev s_log_fits : Stmt := top 7
abbrev n_log_fits : List Str := ["watch", "torn", "log", "lost", "stand", "word"]
theorem sc_log_fits : FnScope n_log_fits ["watch", "torn", "log"] (defScope s_log_fits) := ⟨rfl, rfl, rfl, by decide +kernel, rfl, by decide +kernel, by decide +kernel⟩
abbrev s__law_bag : Stmt := top 9
abbrev n__law_bag : List Str := ["script", "cell"]
theorem sc__law_bag : FnScope n__law_bag ["script"] (defScope s__law_bag) := ⟨rfl, rfl, rfl, by decide +kernel, rfl, by decide +kernel, by decide +kernel⟩
abbrev s__law_take : Stmt := top 10
abbrev n__law_take : List Str := ["bag", "many", "cell", "mixed", "value", "begin", "second"]
theorem sc__law_take : FnScope n__law_take ["bag", "many"] (defScope s__law_take) := ⟨rfl, rfl, rfl, by decide +kernel, rfl, by decide +kernel, by decide +kernel⟩
abbrev s__law_alike : Stmt := top 11
abbrev n__law_alike : List Str := ["found", "due"]
theorem sc__law_alike : FnScope n__law_alike ["found", "due"] (defScope s__law_alike) := ⟨rfl, rfl, rfl, by decide +kernel, rfl, by decide +kernel, by decide +kernel⟩
abbrev s__law_one : Stmt := top 12
abbrev n__law_one : List Str := ["bag", "things"]
theorem sc__law_one : FnScope n__law_one ["bag", "things"] (defScope s__law_one) := ⟨rfl, rfl, rfl, by decide +kernel, rfl, by decide +kernel, by decide +kernel⟩
abbrev s__law_mixed : Stmt := top 13
abbrev n__law_mixed : List Str := ["bag", "things", "found", "thing"]
theorem sc__law_mixed : FnScope n__law_mixed ["bag", "things"] (defScope s__law_mixed) := ⟨rfl, rfl, rfl, by decide +kernel, rfl, by decide +kernel, by decide +kernel⟩
abbrev s__law_bent : Stmt := top 14
abbrev n__law_bent : List Str := ["bag", "thing", "way", "key", "found", "name", "at", "some", "one"]
theorem sc__law_bent : FnScope n__law_bent ["bag", "thing"] (defScope s__law_bent) := ⟨rfl, rfl, rfl, by decide +kernel, rfl, by decide +kernel, by decide +kernel⟩
abbrev s__law_names : Stmt := top 15
abbrev n__law_names : List Str := ["bag", "many", "menu", "way", "turn", "letters", "stem", "k"]
theorem sc__law_names : FnScope n__law_names ["bag", "many"] (defScope s__law_names) := ⟨rfl, rfl, rfl, by decide +kernel, rfl, by decide +kernel, by decide +kernel⟩
abbrev s__law_odd : Stmt := top 16
abbrev n__law_odd : List Str := ["bag", "deep", "k", "some"]
theorem sc__law_odd : FnScope n__law_odd ["bag"] (defScope s__law_odd) := ⟨rfl, rfl, rfl, by decide +kernel, rfl, by decide +kernel, by decide +kernel⟩
abbrev s__law_fits : Stmt := top 17
abbrev n__law_fits : List Str := ["watch", "torn", "log", "reached", "entry", "fits", "at"]
theorem sc__law_fits : FnScope n__law_fits ["watch", "torn", "log"] (defScope s__law_fits) := ⟨rfl, rfl, rfl, by decide +kernel, rfl, by decide +kernel, by decide +kernel⟩
abbrev s__law_is_torn : Stmt := top 18
abbrev n__law_is_torn : List Str := ["watch", "thing", "one"]
theorem sc__law_is_torn : FnScope n__law_is_torn ["watch", "thing"] (defScope s__law_is_torn) := ⟨rfl, rfl, rfl, by decide +kernel, rfl, by decide +kernel, by decide +kernel⟩
abbrev s__law_drawn : Stmt := top 19
abbrev n__law_drawn : List Str := ["bag", "watch", "found", "k", "at", "entry"]
theorem sc__law_drawn : FnScope n__law_drawn ["bag", "watch"] (defScope s__law_drawn) := ⟨rfl, rfl, rfl, by decide +kernel, rfl, by decide +kernel, by decide +kernel⟩
abbrev s__law_log_of : Stmt := top 20
abbrev n__law_log_of : List Str := ["bag", "watch", "torn", "found", "entry", "many", "at", "k"]
theorem sc__law_log_of : FnScope n__law_log_of ["bag", "watch", "torn"] (defScope s__law_log_of) := ⟨rfl, rfl, rfl, by decide +kernel, rfl, by decide +kernel, by decide +kernel⟩
abbrev s_law : Stmt := top 21
abbrev n_law : List Str := ["script", "bag", "watch", "k", "torn", "log", "handed", "kept", "due", "again", "near", "thing", "bend", "looked", "entry"]
theorem sc_law : FnScope n_law ["script"] (defScope s_law) := ⟨rfl, rfl, rfl, by decide +kernel, rfl, by decide +kernel, by decide +kernel⟩
/-- where the defs stand -/
structure Ad where
  is_torn : Addr
  Torn___init__ : Addr
  Torn__spread : Addr
  Torn_begin : Addr
  Torn_behind : Addr
  Torn_is_end : Addr
  log_fits : Addr
  _law_bag : Addr
  _law_take : Addr
  _law_alike : Addr
  _law_one : Addr
  _law_mixed : Addr
  _law_bent : Addr
  _law_names : Addr
  _law_odd : Addr
  _law_fits : Addr
  _law_is_torn : Addr
  _law_drawn : Addr
  _law_log_of : Addr
  law : Addr
  Torn : Addr
  t_ONE : Tok
  t_ANY : Tok
  t_MOST_ENTRIES : Tok
  t_MOST_ANY : Tok
structure Fd where
  is_torn : FuncData
  Torn___init__ : FuncData
  Torn__spread : FuncData
  Torn_begin : FuncData
  Torn_behind : FuncData
  Torn_is_end : FuncData
  log_fits : FuncData
  _law_bag : FuncData
  _law_take : FuncData
  _law_alike : FuncData
  _law_one : FuncData
  _law_mixed : FuncData
  _law_bent : FuncData
  _law_names : FuncData
  _law_odd : FuncData
  _law_fits : FuncData
  _law_is_torn : FuncData
  _law_drawn : FuncData
  _law_log_of : FuncData
  law : FuncData
/-- what the top has written -/
structure Txt (K : PySem.W.Frag) (mg : Str → Option Value) (A : Ad) (D : Fd) : Prop where
  f_is_torn : Fun K "is_torn" "is_torn" s_is_torn A.is_torn D.is_torn
  m_is_torn : mg "is_torn" = some (.ref A.is_torn)
  f_Torn___init__ : Fun K "__init__" "Torn.__init__" s_Torn___init__ A.Torn___init__ D.Torn___init__
  k_Torn : Mk K A.Torn A.Torn___init__
  f_Torn__spread : Fun K "_spread" "Torn._spread" s_Torn__spread A.Torn__spread D.Torn__spread
  t_Torn__spread : Meth K A.Torn "_spread" A.Torn__spread
  f_Torn_begin : Fun K "begin" "Torn.begin" s_Torn_begin A.Torn_begin D.Torn_begin
  t_Torn_begin : Meth K A.Torn "begin" A.Torn_begin
  f_Torn_behind : Fun K "behind" "Torn.behind" s_Torn_behind A.Torn_behind D.Torn_behind
  t_Torn_behind : Meth K A.Torn "behind" A.Torn_behind
  f_Torn_is_end : Fun K "is_end" "Torn.is_end" s_Torn_is_end A.Torn_is_end D.Torn_is_end
  t_Torn_is_end : Meth K A.Torn "is_end" A.Torn_is_end
  f_log_fits : Fun K "log_fits" "log_fits" s_log_fits A.log_fits D.log_fits
  m_log_fits : mg "log_fits" = some (.ref A.log_fits)
  f__law_bag : Fun K "_law_bag" "_law_bag" s__law_bag A._law_bag D._law_bag
  m__law_bag : mg "_law_bag" = some (.ref A._law_bag)
  f__law_take : Fun K "_law_take" "_law_take" s__law_take A._law_take D._law_take
  m__law_take : mg "_law_take" = some (.ref A._law_take)
  f__law_alike : Fun K "_law_alike" "_law_alike" s__law_alike A._law_alike D._law_alike
  m__law_alike : mg "_law_alike" = some (.ref A._law_alike)
  f__law_one : Fun K "_law_one" "_law_one" s__law_one A._law_one D._law_one
  m__law_one : mg "_law_one" = some (.ref A._law_one)
  f__law_mixed : Fun K "_law_mixed" "_law_mixed" s__law_mixed A._law_mixed D._law_mixed
  m__law_mixed : mg "_law_mixed" = some (.ref A._law_mixed)
  f__law_bent : Fun K "_law_bent" "_law_bent" s__law_bent A._law_bent D._law_bent
  m__law_bent : mg "_law_bent" = some (.ref A._law_bent)
  f__law_names : Fun K "_law_names" "_law_names" s__law_names A._law_names D._law_names
  m__law_names : mg "_law_names" = some (.ref A._law_names)
  f__law_odd : Fun K "_law_odd" "_law_odd" s__law_odd A._law_odd D._law_odd
  m__law_odd : mg "_law_odd" = some (.ref A._law_odd)
  f__law_fits : Fun K "_law_fits" "_law_fits" s__law_fits A._law_fits D._law_fits
  m__law_fits : mg "_law_fits" = some (.ref A._law_fits)
  f__law_is_torn : Fun K "_law_is_torn" "_law_is_torn" s__law_is_torn A._law_is_torn D._law_is_torn
  m__law_is_torn : mg "_law_is_torn" = some (.ref A._law_is_torn)
  f__law_drawn : Fun K "_law_drawn" "_law_drawn" s__law_drawn A._law_drawn D._law_drawn
  m__law_drawn : mg "_law_drawn" = some (.ref A._law_drawn)
  f__law_log_of : Fun K "_law_log_of" "_law_log_of" s__law_log_of A._law_log_of D._law_log_of
  m__law_log_of : mg "_law_log_of" = some (.ref A._law_log_of)
  f_law : Fun K "law" "law" s_law A.law D.law
  m_law : mg "law" = some (.ref A.law)
  m_Torn : mg "Torn" = some (.ref A.Torn)
  cl_Torn : Cls K A.Torn
  n_Torn__entries : NoAttr K A.Torn "_entries"
  c_ONE : mg "ONE" = some (.str "?" A.t_ONE)
  c_ANY : mg "ANY" = some (.str "*" A.t_ANY)
  c_MOST_ENTRIES : mg "MOST_ENTRIES" = some (.int 10 A.t_MOST_ENTRIES)
  c_MOST_ANY : mg "MOST_ANY" = some (.int 3 A.t_MOST_ANY)
  b_abs : mg "abs" = none
  b_all : mg "all" = none
  b_bool : mg "bool" = none
  b_dict : mg "dict" = none
  b_enumerate : mg "enumerate" = none
  b_int : mg "int" = none
  b_isinstance : mg "isinstance" = none
  b_len : mg "len" = none
  b_list : mg "list" = none
  b_range : mg "range" = none
  b_repr : mg "repr" = none
  b_sorted : mg "sorted" = none
  b_str : mg "str" = none
  b_tuple : mg "tuple" = none
section
variable {K : PySem.W.Frag} {mg : Str → Option Value} {A : Ad} {D : Fd}
theorem b_is_torn (T : Txt K mg A D) : Binds K D.is_torn ["watch", "thing"] [] := T.f_is_torn.binds fun _ _ _ _ _ _ us hl => match us, hl with | [_, _], _ => rfl
theorem b_Torn___init__ (T : Txt K mg A D) : Binds K D.Torn___init__ ["self", "entries"] [] := T.f_Torn___init__.binds fun _ _ _ _ _ _ us hl => match us, hl with | [_, _], _ => rfl
theorem b_Torn__spread (T : Txt K mg A D) : Binds K D.Torn__spread ["self", "numbers"] [] := T.f_Torn__spread.binds fun _ _ _ _ _ _ us hl => match us, hl with | [_, _], _ => rfl
theorem b_Torn_begin (T : Txt K mg A D) : Binds K D.Torn_begin ["self"] [] := T.f_Torn_begin.binds fun _ _ _ _ _ _ us hl => match us, hl with | [_], _ => rfl
theorem b_Torn_behind (T : Txt K mg A D) : Binds K D.Torn_behind ["self", "stand", "word"] [] := T.f_Torn_behind.binds fun _ _ _ _ _ _ us hl => match us, hl with | [_, _, _], _ => rfl
theorem b_Torn_is_end (T : Txt K mg A D) : Binds K D.Torn_is_end ["self", "stand"] [] := T.f_Torn_is_end.binds fun _ _ _ _ _ _ us hl => match us, hl with | [_, _], _ => rfl
theorem b_log_fits (T : Txt K mg A D) : Binds K D.log_fits ["watch", "torn", "log"] [] := T.f_log_fits.binds fun _ _ _ _ _ _ us hl => match us, hl with | [_, _, _], _ => rfl
theorem b__law_bag (T : Txt K mg A D) : Binds K D._law_bag ["script"] [] := T.f__law_bag.binds fun _ _ _ _ _ _ us hl => match us, hl with | [_], _ => rfl
theorem b__law_take (T : Txt K mg A D) : Binds K D._law_take ["bag", "many"] [] := T.f__law_take.binds fun _ _ _ _ _ _ us hl => match us, hl with | [_, _], _ => rfl
theorem b__law_alike (T : Txt K mg A D) : Binds K D._law_alike ["found", "due"] [] := T.f__law_alike.binds fun _ _ _ _ _ _ us hl => match us, hl with | [_, _], _ => rfl
theorem b__law_one (T : Txt K mg A D) : Binds K D._law_one ["bag", "things"] [] := T.f__law_one.binds fun _ _ _ _ _ _ us hl => match us, hl with | [_, _], _ => rfl
theorem b__law_mixed (T : Txt K mg A D) : Binds K D._law_mixed ["bag", "things"] [] := T.f__law_mixed.binds fun _ _ _ _ _ _ us hl => match us, hl with | [_, _], _ => rfl
theorem b__law_bent (T : Txt K mg A D) : Binds K D._law_bent ["bag", "thing"] [] := T.f__law_bent.binds fun _ _ _ _ _ _ us hl => match us, hl with | [_, _], _ => rfl
theorem b__law_names (T : Txt K mg A D) : Binds K D._law_names ["bag", "many"] [] := T.f__law_names.binds fun _ _ _ _ _ _ us hl => match us, hl with | [_, _], _ => rfl
theorem b__law_odd (T : Txt K mg A D) : Binds K D._law_odd ["bag"] [] := T.f__law_odd.binds fun _ _ _ _ _ _ us hl => match us, hl with | [_], _ => rfl
theorem b__law_fits (T : Txt K mg A D) : Binds K D._law_fits ["watch", "torn", "log"] [] := T.f__law_fits.binds fun _ _ _ _ _ _ us hl => match us, hl with | [_, _, _], _ => rfl
theorem b__law_is_torn (T : Txt K mg A D) : Binds K D._law_is_torn ["watch", "thing"] [] := T.f__law_is_torn.binds fun _ _ _ _ _ _ us hl => match us, hl with | [_, _], _ => rfl
theorem b__law_drawn (T : Txt K mg A D) : Binds K D._law_drawn ["bag", "watch"] [] := T.f__law_drawn.binds fun _ _ _ _ _ _ us hl => match us, hl with | [_, _], _ => rfl
theorem b__law_log_of (T : Txt K mg A D) : Binds K D._law_log_of ["bag", "watch", "torn"] [] := T.f__law_log_of.binds fun _ _ _ _ _ _ us hl => match us, hl with | [_, _, _], _ => rfl
theorem b_law (T : Txt K mg A D) : Binds K D.law ["script"] [] := T.f_law.binds fun _ _ _ _ _ _ us hl => match us, hl with | [_], _ => rfl
end
end K62
set_option Elab.async false
set_option linter.all false
set_option maxRecDepth 100000
set_option maxHeartbeats 4000000
namespace K62
open PySem PySem.Spec L2 Quiet Gn
section
variable {P : Program} {w : World} {K : PySem.W.Frag} {mg : Str → Option Value} {base : Heap} {A : Ad} {D : Fd}
theorem ok__law_take (T : Txt K mg A D) : FnOk P w K mg base CX0 1 A._law_take D._law_take ["bag", "many"] spTake := by
  refine T.f__law_take.ok sc__law_take (fun vs H Q E h => ?_) (fun cdv AA outer s H vs Q E hr h => ?_)
  · obtain ⟨p, m, rfl, _⟩ := h
    rfl
  · obtain ⟨p, m, rfl, hm0, hm1, hB, k⟩ := h
    refine ⟨_, (C8.pss_cut (ps_if (pt_cmpR (eqK K rfl (units_of hr)) (pe_ix (ixK K rfl) (pv 0) pe_int (fun _ _ => rfl)) pe_int (nomark _)) (pss_cons (ps_set (i := 2) sc__law_take.nd rfl (Or.inl rfl) (by exact pe_int))
  (C8.pss_cut (ps_if (pt_cmpR op_lt (pe_ix (ixK K rfl) (pv 0) pe_int (fun _ _ => rfl)) (pe_callB (lenK K rfl) (by rfl) T.b_len (by decide +kernel) (pa_cons (pe_ix (ixK K rfl) (pv 0) pe_int (fun _ _ => rfl)) pa_nil)) (nomark _)) (pss_one (ps_set (i := 2) sc__law_take.nd rfl (Or.inl rfl) (by exact (pe_ix (ixK K rfl) (pe_ix (ixK K rfl) (pv 0) pe_int (fun _ _ => rfl)) (pe_ix (ixK K rfl) (pv 0) pe_int (fun _ _ => rfl)) (fun _ _ => rfl))))) pss_nil)
  (pss_cons (ps_augS (pv 0) pe_int get_list pe_int ip_add set_list)
  (C8.pss_cut (ps_if (pt_cmpR op_ge (pv 2) pe_int (nomark _)) (pss_one (ps_asg (by exact (pv 2)) (pg_sub (pv 0) pe_int set_list))) pss_nil)
  (pss_cons (ps_set (i := 3) sc__law_take.nd rfl (Or.inl rfl) (by exact (pe_op (addK K rfl) (pe_op (addK K rfl) (pe_op (mulK K rfl) (pe_ix (ixK K rfl) (pv 0) pe_int (fun _ _ => rfl)) pe_int) (pe_op op_mod (pe_callTy call_int1 (by rfl) T.b_int (by decide +kernel) (pa_cons (pv 2) pa_nil)) pe_int)) (pe_op (mulK K rfl) pe_int (pe_ix (ixK K rfl) (pv 0) pe_int (fun _ _ => rfl))))))
  (pss_one (ps_asg (by exact (pe_op op_mod (pe_callTy call_int1 (by rfl) T.b_int (by decide +kernel) (pa_cons (pv 3) pa_nil)) pe_int)) (pg_sub (pv 0) pe_int set_list)))))))) pss_nil)
  (pss_cons (ps_if (pt_cmpR op_gt (pe_ix (ixK K rfl) (pv 0) pe_int (fun _ _ => rfl)) pe_int (nomark _)) (pss_cons (ps_set (i := 4) sc__law_take.nd rfl (Or.inl rfl) (by exact (pe_op op_mod (pe_callTy call_int1 (by rfl) T.b_int (by decide +kernel) (pa_cons (pe_ix (ixK K rfl) (pv 0) pe_int (fun _ _ => rfl)) pa_nil)) (pv 1))))
  (pss_cons (ps_asg (by exact (pe_op op_fdiv (pe_ix (ixK K rfl) (pv 0) pe_int (fun _ _ => rfl)) (pv 1))) (pg_sub (pv 0) pe_int set_list))
  (pss_one (ps_ret (pv 4))))) pss_nil)
  (pss_cons (ps_set (i := 5) sc__law_take.nd rfl (Or.inl rfl) (by exact (pe_op op_mod (pe_callTy call_int1 (by rfl) T.b_int (by decide +kernel) (pa_cons (pe_op (mulK K rfl) (pe_op (addK K rfl) (pe_ix (ixK K rfl) (pv 0) pe_int (fun _ _ => rfl)) pe_int) pe_int) pa_nil)) pe_int)))
  (pss_cons (ps_set (i := 6) sc__law_take.nd rfl (Or.inl rfl) (by exact (pe_op op_mod (pe_callTy call_int1 (by rfl) T.b_int (by decide +kernel) (pa_cons (pe_op (mulK K rfl) (pe_op op_mod (pe_callTy call_int1 (by rfl) T.b_int (by decide +kernel) (pa_cons (pe_op (mulK K rfl) (pv 5) (pv 5)) pa_nil)) pe_int) pe_int) pa_nil)) pe_int)))
  (pss_one (ps_ret (pe_op op_mod (pe_callTy call_int1 (by rfl) T.b_int (by decide +kernel) (pa_cons (pe_op op_fdiv (pv 6) pe_int) pa_nil)) (pv 1)))))))), ?_⟩
    obtain ⟨q, b0, b1, b2, cs, hp, hq, g0, g1, g1', g2, gl, gc⟩ := hB
    have npq : q ≠ p := fun z => by
      rw [z, hp] at hq
      have hq' := HO.lst.inj (Option.some.inj hq)
      have l1 := congrArg List.length hq'
      simp at l1
      match cs, l1, hq' with
      | [c0, c1, c2, c3], _, hq' => simp at hq'
    have hS : Sq K H p [.int b0, .int b1, .int b2, .ref q] := .inl (SqL.of hp)
    have hT : Sq K H q (cs.map V.int) := .inl (SqL.of hq)
    have leaf : ∀ (H' : Hp) (c0 c1 c2 : Int), 0 ≤ c0 → 0 ≤ c1 → c1 < 2147483647 → 0 ≤ c2 → (∀ b, b ≠ p → H' b = H b) → H' p = some (.lst [.int c0, .int c1, .int c2, .ref q]) → Ext p H H' := fun H' c0 c1 c2 z0 z1 z2 z3 hk hb =>
      ⟨⟨q, c0, c1, c2, cs, hb, by rw [hk q npq]; exact hq, z0, z1, z2, z3, gl, gc⟩, fun d0 d1 d2 q' e => ⟨c0, c1, c2, by rw [hp] at e; cases e; exact hb⟩, fun b o n e => by rw [hk b n]; exact e⟩
    have p0 : ∀ x : Int, 0 < x → 0 < x := fun _ h => h
    -- the states: the bag's three numbers may have changed
    refine ⟨fun σ H' => ∃ (c0 c1 c2 : Int) (x y : Option V), σ = [some (.ref p), some (.int m), x, y, none, none, none] ∧ 0 ≤ c0 ∧ 0 ≤ c1 ∧ c1 < 2147483647 ∧ 0 ≤ c2 ∧ (∀ b, b ≠ p → H' b = H b) ∧ H' p = some (.lst [.int c0, .int c1, .int c2, .ref q]), ?_, ?_⟩
    · refine ⟨_, rfl, q_ix (i := 0) hS rfl rfl (q_eqi ⟨_, rfl, if_b (fun e => ?_) (fun e => ?_)⟩)⟩
      · -- bag[0] == 0
        refine ⟨fun σ H' => H' = H ∧ ∃ c : Int, 0 ≤ c ∧ σ = [some (.ref p), some (.int m), some (.int c), none, none, none, none], ?_, ?_⟩
        · refine ⟨_, rfl, q_ix (i := 2) hS rfl rfl ⟨_, rfl, q_ix (i := 3) hS rfl rfl (q_lenSq hT ⟨_, _, rfl, rfl, _, rfl, if_b (fun e1 => ?_) (fun e1 => ?_)⟩)⟩⟩
          · have hi : b2.toNat < cs.length := by
              have := of_decide_eq_true e1
              simp only [List.length_map] at this
              omega
            have g3 : (cs.map V.int)[b2.toNat]? = some (.int cs[b2.toNat]) := by rw [List.getElem?_map, List.getElem?_eq_getElem hi]; rfl
            exact ⟨_, rfl, q_ix (i := 3) hS rfl rfl ⟨_, rfl, q_ix (i := 2) hS rfl rfl (q_ix (i := b2.toNat) hT (by omega) g3 ⟨rfl, _, gc _ (List.getElem_mem hi), rfl⟩)⟩⟩
          · exact ⟨rfl, 0, by decide, rfl⟩
        · rintro σ H' ⟨rfl, c, hc, rfl⟩
          refine ⟨_, rfl, p, _, 2, _, rfl, rfl, hp, by decide, by decide, rfl, _, _, rfl, rfl, p, _, 2, 2, rfl, rfl, hp, rfl, ?_⟩
          refine ⟨fun σ H2 => ∃ c0 : Int, 0 ≤ c0 ∧ σ = [some (.ref p), some (.int m), some (.int c), none, none, none, none] ∧ (∀ b, b ≠ p → H2 b = H' b) ∧ H2 p = some (.lst [.int c0, .int b1, .int (b2 + 1), .ref q]), ?_, ?_⟩
          · refine ⟨_, rfl, _, _, rfl, rfl, _, rfl, if_b (fun e1 => ?_) (fun e1 => ?_)⟩
            · refine ⟨_, rfl, _, rfl, p, _, 0, 0, rfl, rfl, upd_same, rfl, c, hc, rfl, fun b n => ?_, by rw [upd_same]; rfl⟩
              rw [upd_ne n, upd_ne n]
            · refine ⟨b0, g0, rfl, fun b n => by rw [upd_ne n], by rw [upd_same]; rfl⟩
          · rintro σ H2 ⟨c0, z0, rfl, hk, hb⟩
            have hS2 : Sq K H2 p [.int c0, .int b1, .int (b2 + 1), .ref q] := .inl (SqL.of hb)
            refine ⟨_, rfl, q_ix (i := 1) hS2 rfl rfl (.inl ⟨_, _, rfl, rfl, .inl ⟨by omega, by omega⟩, ?_⟩)⟩
            refine ⟨_, rfl, .inl ⟨_, rfl, _, _, rfl, rfl, p0 2147483647 (by decide), q_add ?_⟩⟩
            refine ⟨_, rfl, q_ix (i := 2) hS2 rfl rfl (.inl ⟨_, _, rfl, rfl, .inl ⟨by decide, by decide⟩, q_add ?_⟩)⟩
            refine ⟨_, rfl, .inl ⟨_, rfl, _, _, rfl, rfl, p0 2147483647 (by decide), ?_⟩⟩
            refine ⟨_, rfl, p, _, 1, 1, rfl, rfl, hb, rfl, ?_⟩
            refine ⟨c0, _, b2 + 1, _, _, rfl, z0, Int.emod_nonneg _ (by decide), Int.emod_lt_of_pos _ (by decide), by omega, fun b n => ?_, by rw [upd_same]; rfl⟩
            rw [upd_ne n, hk b n]
      · exact ⟨b0, b1, b2, none, none, rfl, g0, g1, g1', g2, fun _ _ => rfl, hp⟩
    · rintro σ H2 ⟨c0, c1, c2, x, y, rfl, z0, z1, z2, z3, hk, hb⟩
      have hS2 : Sq K H2 p [.int c0, .int c1, .int c2, .ref q] := .inl (SqL.of hb)
      refine ⟨_, rfl, q_ix (i := 0) hS2 rfl rfl ⟨_, _, rfl, rfl, _, rfl, if_b (fun e => ?_) (fun e => ?_)⟩⟩
      · refine ⟨_, rfl, q_ix (i := 0) hS2 rfl rfl (.inl ⟨_, rfl, _, rfl, _, _, rfl, rfl, hm0, ?_⟩)⟩
        refine ⟨_, rfl, q_ix (i := 0) hS2 rfl rfl ⟨_, rfl, _, _, rfl, rfl, ⟨hm0, hm1⟩, ?_⟩⟩
        refine ⟨_, rfl, p, _, 0, 0, rfl, rfl, hb, rfl, _, rfl, ?_⟩
        refine k _ _ (Int.emod_nonneg _ (by omega)) (Int.emod_lt_of_pos _ hm0) (leaf _ (c0 / m) c1 c2 (Int.ediv_nonneg z0 (by omega)) z1 z2 z3 (fun b n => ?_) (by rw [upd_same]; rfl))
        rw [upd_ne n, hk b n]
      · have b1e : ∀ x : Int, 0 ≤ x % 1000000007 ∧ x % 1000000007 < 1000000007 := fun x => ⟨Int.emod_nonneg _ (by decide), Int.emod_lt_of_pos _ (by decide)⟩
        have b2e : ∀ x : Int, 0 ≤ x % 998244353 ∧ x % 998244353 < 998244353 := fun x => ⟨Int.emod_nonneg _ (by decide), Int.emod_lt_of_pos _ (by decide)⟩
        refine ⟨_, rfl, q_ix (i := 1) hS2 rfl rfl (q_add (.inl ⟨_, _, rfl, rfl, .inr ⟨by decide, by decide⟩, .inl ⟨_, rfl, _, _, rfl, rfl, p0 1000000007 (by decide), ?_⟩⟩))⟩
        have r1 := b1e ((c1 + 1) * 39373)
        generalize (c1 + 1) * 39373 % 1000000007 = u at r1 ⊢
        refine ⟨_, rfl, _, rfl, .inl ⟨_, _, rfl, rfl, .inl ⟨by omega, by omega⟩, .inl ⟨_, rfl, _, _, rfl, rfl, p0 998244353 (by decide), .inl ⟨_, _, rfl, rfl, .inr ⟨by decide, by decide⟩, .inl ⟨_, rfl, _, _, rfl, rfl, p0 998244353 (by decide), ?_⟩⟩⟩⟩⟩
        refine ⟨_, rfl, _, _, rfl, rfl, ⟨by decide, by decide⟩, .inl ⟨_, rfl, _, rfl, _, _, rfl, rfl, hm0, ?_⟩⟩
        exact k _ _ (Int.emod_nonneg _ (by omega)) (Int.emod_lt_of_pos _ hm0) (leaf _ c0 c1 c2 z0 z1 z2 z3 hk hb)
theorem ok__law_bag (T : Txt K mg A D) : FnOk P w K mg base CX0 1 A._law_bag D._law_bag ["script"] (spBag K) := by
  refine T.f__law_bag.ok sc__law_bag (fun vs H Q E h => ?_) (fun cdv AA outer s H vs Q E hr h => ?_)
  · obtain ⟨a, ns, rfl, _⟩ := h
    rfl
  · obtain ⟨a, ns, rfl, hs, k⟩ := h
    refine ⟨_, (pss_one (ps_ret (pe_lst (pa_cons pe_int (pa_cons pe_int (pa_cons pe_int (pa_cons (pe_lc (own := [("cell", 1)]) rfl sc__law_bag.nd (pi_list (pe_slice (slK K rfl) (pv 0) po_none (po_some pe_int))) (blkOk_by (own := [("cell", 1)]) (N := n__law_bag) (sc := defScope s__law_bag) (by decide +kernel)) (fun _ _ _ _ _ => (pg_name (i := 1) sc__law_bag.nd rfl (Or.inl rfl))) (fun _ _ _ _ _ => pts_nil) (fun _ _ _ _ _ => (pe_callB call_abs (by rfl) T.b_abs (by decide +kernel) (pa_cons (pv 1) pa_nil)))) pa_nil))))))), ?_⟩
    refine ⟨_, rfl, _, rfl, .inl ⟨a, _, rfl, hs, fun p1 hp1 => ?_⟩⟩
    obtain ⟨ms, em, lm⟩ : ∃ ms : List Int, cutV (ns.map V.int) none (some 63) = ms.map V.int ∧ ms.length ≤ 63 := by
      refine ⟨(ns.drop (HT.sIx (ns.map V.int).length 0 none)).take (HT.sIx (ns.map V.int).length (ns.map V.int).length (some 63) - HT.sIx (ns.map V.int).length 0 none), ?_, ?_⟩
      · unfold cutV
        rw [← List.map_drop, ← List.map_take]
      · refine Nat.le_trans (List.length_take_le _ _) ?_
        show HT.sIx (ns.map V.int).length (ns.map V.int).length (some 63) - 0 ≤ 63
        unfold HT.sIx
        simp
        omega
    rw [em]
    refine ⟨p1, rfl, ⟨_, SqL.of upd_same⟩, fun Dd hDd => ?_⟩
    refine comp_map (G := fun H => SqL K H p1 (ms.map V.int)) (Y := YAt (ms.map V.int)) ms (fun c => V.int (if c < 0 then -c else c)) (by have := walk_list (K := K) (a := p1) (xs := ms.map V.int); rwa [List.length_map] at this) hDd (sz2 (by omega)) (fun H' s' => SqL.of (s' _ _ upd_same)) ?_ ?_
    · rintro i c y H1 H2 R hi s1 ⟨rfl, hx⟩ hR
      have ey : y = .int c := by
        rw [List.getElem?_map, hi] at hx
        exact (Option.some.inj hx).symm
      subst ey
      exact ⟨rfl, _, rfl, c, rfl, hR _ (Same.refl _)⟩
    · intro H1 s1 hl
      refine ⟨by show 4 ≤ sizeLine; decide, fun p hp => ?_⟩
      have nDp : Dd ≠ p := ne_of_none hl hp
      refine k p _ ⟨Dd, 0, 1234567891, 0, ms.map fun c => if c < 0 then -c else c, upd_same, ?_, by decide, by decide, by decide, by decide, by rw [List.length_map]; exact lm, ?_⟩
      · rw [upd_ne nDp, hl, List.map_map]
        rfl
      · intro c hc
        obtain ⟨z, _, rfl⟩ := List.mem_map.mp hc
        split <;> omega
theorem ok__law_one (T : Txt K mg A D) : FnOk P w K mg base CX0 2 A._law_one D._law_one ["bag", "things"] (spOne K) := by
  refine T.f__law_one.ok sc__law_one (fun vs H Q E h => ?_) (fun cdv AA outer s H vs Q E hr h => ?_)
  · obtain ⟨p, t, rfl, _⟩ := h
    rfl
  · obtain ⟨p, t, rfl, hB, hc⟩ := h
    refine ⟨_, (pss_one (ps_ret (pe_ix (ixK K rfl) (pv 1) (pe_call (ok__law_take T) (hr.mono (by decide)) rfl T.m__law_take T.f__law_take.kp (b__law_take T) .nil pass0 (pa_cons (pv 0) (pa_cons (pe_callB (lenK K rfl) (by rfl) T.b_len (by decide +kernel) (pa_cons (pv 1) pa_nil)) pa_nil))) (fun _ _ => rfl)))), ?_⟩
    rcases hc with ⟨a, xs, rfl, nap, hs, l0, l1, k⟩ | ⟨z, rfl, l0, l1, k⟩
    · refine ⟨_, rfl, _, rfl, _, rfl, q_lenSq hs ⟨p, _, rfl, by omega, by omega, hB, fun v H' v0 v1 x => ?_⟩⟩
      have hi : v.toNat < xs.length := by omega
      have g := List.getElem?_eq_getElem hi
      exact q_ix (i := v.toNat) (hs.ext x nap) (by omega) g (k v.toNat _ H' g x)
    · refine ⟨_, rfl, _, rfl, _, rfl, q_len (sz1 l1) ⟨p, _, rfl, by omega, by omega, hB, fun v H' v0 v1 x => ?_⟩⟩
      have hz : z.cps.toList.length = z.length := by simp [Str.length]
      have hi : v.toNat < z.cps.toList.length := by omega
      have g := List.getElem?_eq_getElem hi
      refine .inr (.inr ⟨z, v, z.cps.toList[v.toNat], rfl, rfl, sz1 l1, ?_, k _ H' (List.getElem_mem hi) x⟩)
      have ev : ((v.toNat : Nat) : Int) = v := by omega
      have := atI_nat g
      rwa [ev] at this
theorem ok__law_mixed (T : Txt K mg A D) : FnOk P w K mg base CX0 2 A._law_mixed D._law_mixed ["bag", "things"] (spMixed K) := by
  refine T.f__law_mixed.ok sc__law_mixed (fun vs H Q E h => ?_) (fun cdv AA outer s H vs Q E hr h => ?_)
  · obtain ⟨p, a, xs, rfl, _⟩ := h
    rfl
  · obtain ⟨p, a, xs, rfl, hB, nap, hs, l1, k⟩ := h
    refine ⟨_, (pss_cons (ps_set (i := 2) sc__law_mixed.nd rfl (Or.inl rfl) (by exact (pe_lst pa_nil)))
  (pss_cons (ps_for PassesOwn.never rfl (pi_list (pv 1)) (pg_name (i := 3) sc__law_mixed.nd rfl (Or.inl rfl))
 (pss_one (ps_expr (pe_bm PySem.F.plainAttrs_list PySem.F.slot_list_insert PySem.F.type_list_insert mt_insert (pv 2) (pa_cons (pe_call (ok__law_take T) (hr.mono (by decide)) rfl T.m__law_take T.f__law_take.kp (b__law_take T) .nil pass0 (pa_cons (pv 0) (pa_cons (pe_op (addK K rfl) (pe_callB (lenK K rfl) (by rfl) T.b_len (by decide +kernel) (pa_cons (pv 2) pa_nil)) pe_int) pa_nil))) (pa_cons (pv 3) pa_nil))))))
  (pss_one (ps_ret (pv 2))))), ?_⟩
    refine ⟨Nat.zero_le _, fun q hq => ?_⟩
    have nqp := hB.ne hq
    have s0 : Same H (upd H q (.lst [])) := same_upd hq
    refine ⟨_, rfl, a, rfl, ⟨_, s0.seq hs⟩, for_list (K := K) (a := a) (xs := xs) (fun i σ H' => ∃ (ys : List V) (t : Option V), σ = [some (.ref p), some (.ref a), some (.ref q), t] ∧ ys.Perm (xs.take i) ∧ H' q = some (.lst ys) ∧ Ext p H H')
      ⟨[], none, rfl, .nil, upd_same, .same hB s0⟩ (fun i σ H' _ ⟨_, _, _, _, _, x⟩ => ?_) ?_ ?_⟩
    · have := Sq.ext x nap (.inl hs)
      rcases this with h | h
      · exact h
      · rcases hs with (h1 | ⟨o, h1⟩) | h1
        · exact .inl (.inl (x.keep _ _ nap h1))
        · exact .inl (.inr ⟨o, x.keep _ _ nap h1⟩)
        · exact .inr h1
    · rintro i y σ H' hi ⟨ys, t, rfl, hp, hq', x⟩
      have hly : ys.length ≤ 1000 := by
        rw [hp.length_eq]
        exact Nat.le_trans (List.length_take_le' _ _) l1
      refine ⟨_, rfl, .inl ⟨rfl, _, SqL.of hq'⟩, _, rfl, _, rfl, q_lenSq (.inl (SqL.of hq')) (q_add ⟨p, _, rfl, by omega, by omega, x.bag, fun v H2 v0 v1 x2 => ?_⟩)⟩
      refine ⟨_, rfl, q, ys, v, y, rfl, rfl, x2.keep _ _ nqp hq', sz2 (by omega), v0, by omega, ?_⟩
      refine ⟨_, _, rfl, ?_, upd_same, ?_⟩
      · rw [take_one hi, List.append_assoc]
        have p1 : (ys.take v.toNat ++ ([y] ++ ys.drop v.toNat)).Perm (y :: (ys.take v.toNat ++ ys.drop v.toNat)) := by
          show (ys.take v.toNat ++ (y :: ys.drop v.toNat)).Perm _
          exact List.perm_middle
        rw [List.take_append_drop] at p1
        refine p1.trans ((List.Perm.cons y hp).trans ?_)
        exact (List.perm_append_singleton y (xs.take i)).symm
      · exact Ext.over hB (x.trans x2) hq
    · rintro σ H' ⟨ys, t, rfl, hp, hq', x⟩
      rw [List.take_length] at hp
      exact ⟨_, rfl, k q ys H' hp hq' nqp x⟩
theorem ok__law_names (T : Txt K mg A D) : FnOk P w K mg base CX0 2 A._law_names D._law_names ["bag", "many"] spNames := by
  refine T.f__law_names.ok sc__law_names (fun vs H Q E h => ?_) (fun cdv AA outer s H vs Q E hr h => ?_)
  · obtain ⟨p, m, rfl, _⟩ := h
    rfl
  · obtain ⟨p, m, rfl, hm0, hm8, hB, k⟩ := h
    refine ⟨_, (pss_cons (ps_set (i := 2) sc__law_names.nd rfl (Or.inl rfl) (by exact (pe_split pe_str pe_str)))
  (pss_cons (ps_asg (by exact (pe_tup (pa_cons (pe_call (ok__law_take T) (hr.mono (by decide)) rfl T.m__law_take T.f__law_take.kp (b__law_take T) .nil pass0 (pa_cons (pv 0) (pa_cons pe_int pa_nil))) (pa_cons (pe_call (ok__law_take T) (hr.mono (by decide)) rfl T.m__law_take T.f__law_take.kp (b__law_take T) .nil pass0 (pa_cons (pv 0) (pa_cons pe_int pa_nil))) pa_nil)))) (pg_tupK (n := 2) K rfl rfl (pgs_cons (pg_name (i := 3) sc__law_names.nd rfl (Or.inl rfl)) (pgs_cons (pg_name (i := 4) sc__law_names.nd rfl (Or.inr rfl)) pgs_nil))))
  (pss_cons (ps_if (pt_cmpR (eqK K rfl (units_of hr)) (pv 3) pe_int (nomark _)) (pss_one (ps_ret (pe_callTy (tupleK K rfl) (by rfl) T.b_tuple (by decide +kernel) (pa_cons (pe_callB (sortK K rfl) (by rfl) T.b_sorted (by decide +kernel) (pa_cons (pe_slice (slK K rfl) (pe_op (addK K rfl) (pe_slice (slK K rfl) (pv 2) (po_some (pv 4)) po_none) (pe_slice (slK K rfl) (pv 2) po_none (po_some (pv 4)))) po_none (po_some (pv 1))) pa_nil)) pa_nil)))) pss_nil)
  (pss_cons (ps_if (pt_cmpR (eqK K rfl (units_of hr)) (pv 3) pe_int (nomark _)) (pss_one (ps_ret (pe_callTy (tupleK K rfl) (by rfl) T.b_tuple (by decide +kernel) (pa_cons (pe_lc (own := [("k", 7)]) rfl sc__law_names.nd (pi_range1 rfl T.b_range (pa_cons (pv 1) pa_nil)) (blkOk_by (own := [("k", 7)]) (N := n__law_names) (sc := defScope s__law_names) (by decide +kernel)) (fun _ _ _ _ _ => (pg_name (i := 7) sc__law_names.nd rfl (Or.inl rfl))) (fun _ _ _ _ _ => pts_nil) (fun _ _ _ _ _ => (pe_slice (slK K rfl) pe_str po_none (po_some (pe_op (addK K rfl) (pv 7) pe_int))))) pa_nil)))) pss_nil)
  (pss_cons (ps_set (i := 5) sc__law_names.nd rfl (Or.inr rfl) (by exact pe_str))
  (pss_cons (ps_set (i := 6) sc__law_names.nd rfl (Or.inr rfl) (by exact (pe_ix (ixK K rfl) (pe_lst (pa_cons pe_str (pa_cons pe_str (pa_cons (pe_ix (ixK K rfl) (pv 5) (pv 4) (fun _ _ => rfl)) (pa_cons pe_str pa_nil))))) (pe_op op_sub (pv 3) pe_int) (fun _ _ => rfl))))
  (pss_one (ps_ret (pe_callTy (tupleK K rfl) (by rfl) T.b_tuple (by decide +kernel) (pa_cons (pe_callB (sortK K rfl) (by rfl) T.b_sorted (by decide +kernel) (pa_cons (pe_lc (own := [("k", 7)]) rfl sc__law_names.nd (pi_range1 rfl T.b_range (pa_cons (pv 1) pa_nil)) (blkOk_by (own := [("k", 7)]) (N := n__law_names) (sc := defScope s__law_names) (by decide +kernel)) (fun _ _ _ _ _ => (pg_name (i := 7) sc__law_names.nd rfl (Or.inl rfl))) (fun _ _ _ _ _ => pts_nil) (fun _ _ _ _ _ => (pe_op (addK K rfl) (pv 6) (pe_ix (ixK K rfl) (pv 5) (pe_op op_mod (pe_callTy call_int1 (by rfl) T.b_int (by decide +kernel) (pa_cons (pe_op (addK K rfl) (pv 4) (pe_op (mulK K rfl) pe_int (pv 7))) pa_nil)) pe_int) (fun _ _ => rfl))))) pa_nil)) pa_nil)))))))))), ?_⟩
    refine ⟨⟨_, rfl⟩, _, _, rfl, rfl, by decide +kernel, by rw [sizeLine_eq]; decide +kernel, fun pm hpm => ?_⟩
    have s0 : Same H (upd H pm (.lst (List.map V.str (Txt.split (Str.ofString "do of case end if else loop block leave again mark yes no at try on") (Str.ofString " "))))) := same_upd hpm
    have m0 : upd H pm (.lst (List.map V.str (Txt.split (Str.ofString "do of case end if else loop block leave again mark yes no at try on") (Str.ofString " ")))) pm = some (.lst (menu.map V.str)) := by
      rw [upd_same, menu_split]
    have x0 : Ext p H (upd H pm (.lst (List.map V.str (Txt.split (Str.ofString "do of case end if else loop block leave again mark yes no at try on") (Str.ofString " "))))) := .same hB s0
    have npm : pm ≠ p := hB.ne hpm
    generalize upd H pm (.lst (List.map V.str (Txt.split (Str.ofString "do of case end if else loop block leave again mark yes no at try on") (Str.ofString " ")))) = H1 at s0 m0 x0 ⊢
    refine ⟨_, rfl, p, 5, rfl, by decide, by decide, x0.bag, fun v H2 v0 v1 x1 => ⟨_, rfl, p, 16, rfl, by decide, by decide, x1.bag, fun t H3 t0 t1 x2 => ⟨by show 2 ≤ sizeLine; decide, fun pt hpt => ?_⟩⟩⟩
    have x3 : Ext p H (upd H3 pt (.tup [.int v, .int t])) := ((x0.trans x1).trans x2).then (same_upd hpt)
    have m3 : upd H3 pt (.tup [.int v, .int t]) pm = some (.lst (menu.map V.str)) := same_upd hpt _ _ (x2.keep _ _ npm (x1.keep _ _ npm m0))
    refine ⟨pt, _, rfl, .inl (.inl upd_same), rfl, _, _, rfl, _, _, rfl, rfl, ?_⟩
    generalize upd H3 pt (.tup [.int v, .int t]) = H4 at x3 m3 ⊢
    have done : ∀ (H5 : Hp) (l : Addr) (xs : List Str), Same H4 H5 → H5 l = none → (xs.length : Int) = m → (∀ x ∈ xs, Nm x) → Q (.ref l) (upd H5 l (.tup (xs.map V.str))) := fun H5 l xs s5 hl e1 e2 => by
      have x5 := x3.then s5
      exact k l xs _ e1 e2 upd_same (x5.bag.ne hl) (x5.then (same_upd hl))
    refine ⟨_, rfl, q_eqi ⟨_, rfl, if_b (fun e => ?_) (fun e => ?_)⟩⟩
    · -- words of texts
      refine ⟨_, rfl, _, rfl, _, rfl, .inl ⟨pm, _, rfl, SqL.of m3, fun p1 h1 => ?_⟩⟩
      rw [cutV_map]
      refine ⟨_, rfl, _, rfl, _, rfl, .inl ⟨pm, _, rfl, SqL.of (same_upd h1 _ _ m3), fun p2 h2 => ?_⟩⟩
      rw [cutV_map]
      refine .inr (.inr (.inl ⟨p1, p2, _, _, rfl, rfl, same_upd h2 _ _ upd_same, upd_same, ?_, fun p3 h3 => ?_⟩))
      · rw [List.length_map, List.length_map]
        exact sz1 (Nat.le_trans (Nat.add_le_add (cutL_len menu _ _) (cutL_len menu _ _)) (by decide))
      · rw [← List.map_append]
        refine ⟨_, rfl, _, rfl, .inl ⟨p3, _, rfl, SqL.of upd_same, fun p4 h4 => ?_⟩⟩
        rw [cutV_map]
        have le : ∀ (xs : List Str) (lo hi : Option Int), (cutL xs lo hi).length ≤ xs.length := cutL_len
        have lenA : (cutL menu (some t) none ++ cutL menu none (some t)).length = 16 := by
          rw [List.length_append, cutL_from menu t0, cutL_to menu t0]
          show 16 - min t.toNat 16 + min t.toNat 16 = 16
          omega
        have lenC : ((cutL (cutL menu (some t) none ++ cutL menu none (some t)) none (some m)).length : Int) = m := by
          rw [cutL_to _ hm0, lenA]
          omega
        refine ⟨p4, cutL (cutL menu (some t) none ++ cutL menu none (some t)) none (some m), rfl, SqL.of upd_same, by omega, fun ys p5 pe so h5 => ⟨p5, _, rfl, .inl ⟨SqL.of upd_same, fun l hl => done _ l ys ?_ hl (by rw [pe.length_eq]; exact lenC) (fun x hx => ?_)⟩⟩⟩
        · exact ((((same_upd h1).trans (same_upd h2)).trans (same_upd h3)).trans (same_upd h4)).trans (same_upd h5)
        · have h := cutL_mem (pe.mem_iff.mp hx)
          rcases List.mem_append.mp h with h | h
          · exact menu_nm x (cutL_mem h)
          · exact menu_nm x (cutL_mem h)
    · refine ⟨_, rfl, q_eqi ⟨_, rfl, if_b (fun e1 => ?_) (fun e1 => ?_)⟩⟩
      · -- ones that begin one another
        refine ⟨_, rfl, m, rfl, by omega, by omega, fun D1 hD => ?_⟩
        have wk : Walk (Itr 0 m.toNat) (List.range m.toNat).length (fun _ => True) (YFn fun i => V.int (0 + (i : Int))) := by
          rw [List.length_range]
          exact walk_range
        refine comp_map (Y := YFn fun i => V.int (0 + (i : Int))) (List.range m.toNat) (fun i => V.str (cutS (Str.ofString "aaaaaaaa") none (some (0 + (i : Int) + 1)))) wk hD (by rw [List.length_range]; exact sz2 (by omega)) (fun _ _ => trivial) ?_ ?_
        · rintro i c y H5 H6 R hi s1 ⟨rfl, rfl⟩ hR
          obtain ⟨rfl, _⟩ := range_get hi
          exact ⟨rfl, _, rfl, q_add ⟨_, rfl, .inr (.inr ⟨_, rfl, sz1 (by decide +kernel), hR _ (Same.refl _)⟩)⟩⟩
        · intro H5 s5 hl
          have em : (List.range m.toNat).map (fun i : Nat => V.str (cutS (Str.ofString "aaaaaaaa") none (some (0 + (i : Int) + 1)))) = ((List.range m.toNat).map fun i : Nat => cutS (Str.ofString "aaaaaaaa") none (some (0 + (i : Int) + 1))).map V.str := by rw [List.map_map]; rfl
          rw [em] at hl
          refine ⟨D1, _, rfl, .inl ⟨SqL.of hl, fun l hl' => done _ l _ s5 hl' (by rw [List.length_map, List.length_range]; omega) (fun x hx => ?_)⟩⟩
          obtain ⟨i, hi, rfl⟩ := List.mem_map.mp hx
          have hi' := List.mem_range.mp hi
          exact aaa_nm i (by omega)
      · -- single letters, behind a stem
        have hvv : v = 2 ∨ v = 3 ∨ v = 4 := by
          have a1 := of_decide_eq_false e
          have a2 := of_decide_eq_false e1
          omega
        have lt0 : t.toNat < abc.cps.toList.length := by
          rw [abc_len]
          omega
        obtain ⟨stem, hst, sl, sa⟩ : ∃ stem : Str, [V.str "", V.str "", V.str ⟨#[abc.cps.toList[t.toNat]]⟩, V.str "zzzzzzz"][(v - 1).toNat]? = some (.str stem) ∧ stem.length ≤ 7 ∧ ∀ c ∈ stem.cps.toList, c < 128 := by
          rcases hvv with rfl | rfl | rfl
          · exact ⟨_, rfl, by decide, by decide⟩
          · exact ⟨_, rfl, by show 1 ≤ 7; decide, fun c hc => by
              rw [List.mem_singleton.mp hc]
              exact abc_lo _ (List.getElem_mem lt0)⟩
          · exact ⟨_, rfl, by decide +kernel, by decide +kernel⟩
        refine ⟨_, rfl, _, rfl, .inr (.inr ⟨abc, t, abc.cps.toList[t.toNat], rfl, rfl, sz1 (by rw [abc_len']; decide), ?_, ?_⟩)⟩
        · have := atI_nat (List.getElem?_eq_getElem lt0)
          rwa [show ((t.toNat : Nat) : Int) = t from by omega] at this
        refine ⟨by show 4 ≤ sizeLine; decide, fun ps hps => ⟨_, rfl, _, _, rfl, rfl, q_ix (i := (v - 1).toNat) (.inl (SqL.of upd_same)) (by omega) hst ?_⟩⟩
        have s6 : Same H4 (upd H4 ps (.lst [V.str "", V.str "", V.str ⟨#[abc.cps.toList[t.toNat]]⟩, V.str "zzzzzzz"])) := same_upd hps
        generalize upd H4 ps (.lst [V.str "", V.str "", V.str ⟨#[abc.cps.toList[t.toNat]]⟩, V.str "zzzzzzz"]) = H5 at s6 ⊢
        refine ⟨_, rfl, m, rfl, by omega, by omega, fun D1 hD => ?_⟩
        have wk : Walk (Itr 0 m.toNat) (List.range m.toNat).length (fun _ => True) (YFn fun i => V.int (0 + (i : Int))) := by
          rw [List.length_range]
          exact walk_range
        refine comp_map (Y := YFn fun i => V.int (0 + (i : Int))) (List.range m.toNat) (fun i => V.str (stem ++ ⟨#[letter (t + 3 * (0 + (i : Int)))]⟩)) wk hD (by rw [List.length_range]; exact sz2 (by omega)) (fun _ _ => trivial) ?_ ?_
        · rintro i c y H6 H7 R hi s1 ⟨rfl, rfl⟩ hR
          obtain ⟨rfl, _⟩ := range_get hi
          refine ⟨rfl, _, rfl, _, rfl, _, rfl, _, rfl, .inl ⟨_, _, rfl, rfl, .inl ⟨by decide, by decide⟩, q_add (.inl ⟨_, rfl, _, _, rfl, rfl, p0' 26 (by decide), .inr (.inr ⟨abc, _, letter (t + 3 * (0 + (c : Int))), rfl, rfl, sz1 (by rw [abc_len']; decide), letter_at _, .inr (.inl ⟨_, _, rfl, rfl, sz1 (Nat.le_trans (Nat.add_le_add_right sl _) (by show 7 + 1 ≤ 1000000; decide)), hR _ (Same.refl _)⟩)⟩)⟩)⟩⟩
        · intro H6 s7 hl
          have em : (List.range m.toNat).map (fun i : Nat => V.str (stem ++ ⟨#[letter (t + 3 * (0 + (i : Int)))]⟩)) = ((List.range m.toNat).map fun i : Nat => stem ++ (⟨#[letter (t + 3 * (0 + (i : Int)))]⟩ : Str)).map V.str := by rw [List.map_map]; rfl
          rw [em] at hl
          refine ⟨D1, _, rfl, SqL.of hl, by rw [List.length_map, List.length_range]; omega, fun ys p5 pe so h5 => ⟨p5, _, rfl, .inl ⟨SqL.of upd_same, fun l hl' => done _ l ys ((s6.trans s7).trans (same_upd h5)) hl' (by rw [pe.length_eq, List.length_map, List.length_range]; omega) (fun x hx => ?_)⟩⟩⟩
          obtain ⟨i, hi, rfl⟩ := List.mem_map.mp (pe.mem_iff.mp hx)
          exact nm_behind sl sa (letter_lo _)
end
end K62
set_option Elab.async false
set_option linter.all false
set_option maxRecDepth 100000
set_option maxHeartbeats 4000000
namespace Gn
open PySem PySem.Spec PyProof.Rows L2 Quiet

/-! ### xs.count(t), xs a list of texts -/
def cntT (k : Str) (ys : List Str) : Nat := ys.countP (· == k)
theorem cnt_same {k : Str} : ∀ {vs : List Value} {ys : List Str}, StrsAre vs ys → vs.countP (isStrOf k) = cntT k ys
  | _, _, .nil => rfl
  | _, _, .cons n u h => by
    have ih := cnt_same (k := k) h
    unfold cntT at ih ⊢
    rw [List.countP_cons, List.countP_cons, ih]
    rfl
def rCntT (K : PySem.W.Frag) : V → List V → Hp → VK → Prop := fun x xs H Q => ∃ (p : Addr) (ys : List Str) (k : Str), x = .ref p ∧ xs = [.str k] ∧ SqL K H p (ys.map V.str) ∧ Q (.int (cntT k ys : Nat)) H
theorem strs_of {us : List Value} : ∀ {ys : List Str}, Vals (ys.map V.str) us → StrsAre us ys := by
  intro ys
  induction ys generalizing us with
  | nil => intro h; cases h; exact .nil
  | cons y ys ih =>
    intro h
    cases h with
    | cons r t =>
      obtain ⟨tk, rfl⟩ := r
      exact .cons y tk (ih t)
theorem mt_countT {X : Cx} : MtM X "list.count" (rCntT X.K) := by
  intro pins s σ H x xs v us Q I rx rxs h
  obtain ⟨p, ys, k, rfl, rfl, hs, q⟩ := h
  cases rx
  obtain ⟨u, rfl, ru⟩ := rxs.one
  obtain ⟨t, rfl⟩ := ru
  obtain ⟨its, rv, ⟨⟨cls, dd, data, sl⟩, n, ho, hc, hdn, hd⟩, hlen⟩ := I.list hs
  simp only at hc hd
  subst hc hd
  have hi := strs_of rv
  refine call_meets PySem.F.slot_list_count ⟨_, ho, rfl⟩ PySem.F.entry_list_count (PySem.F.args_list_count_2 _ _)
    (SeqAt.list_countAt p its.toArray n dd sl (.str k t) (isStrOf k)) ⟨ho, fun y hy => (eq_isStrOf k t hi y (by simpa using hy)).at _ _, ?_⟩
  have ec : its.toArray.toList.countP (isStrOf k) = cntT k ys := cnt_same hi
  refine ⟨.int (cntT k ys : Nat), H, I.tok _, ⟨s.toks, ?_⟩, q⟩
  show Value.int ((its.toArray.toList.countP (isStrOf k) : Nat) : Int) s.toks = Value.int ((cntT k ys : Nat) : Int) s.toks
  rw [ec]
theorem cntK {X : Cx} (K : PySem.W.Frag) (hK : X.K = K) : MtM X "list.count" (rCntT K) := hK ▸ mt_countT
end Gn
namespace Gn
open PySem PySem.Spec PyProof.Rows L2 Quiet
/-! ### what a for walks: a list or a tuple, whichever -/
def iSq (K : PySem.W.Frag) (tl : TE) : TI := fun σ H R => tl σ H fun x H1 => ∃ a xs, x = .ref a ∧ Sq K H1 a xs ∧
  ∀ (J : It) (G : Hp → Prop), (∀ H', (∀ o, H1 a = some o → H' a = some o) → G H') → Walk J xs.length G (YAt xs) → R J H1
theorem sqL_keep {K : PySem.W.Frag} {H H' : Hp} {a : Addr} {xs : List V} (h : SqL K H a xs) (k : ∀ o, H a = some o → H' a = some o) : SqL K H' a xs := by
  rcases h with (h | ⟨o, h⟩) | h
  · exact .inl (.inl (k _ h))
  · exact .inl (.inr ⟨o, k _ h⟩)
  · exact .inr h
theorem sqT_keep {K : PySem.W.Frag} {H H' : Hp} {a : Addr} {xs : List V} (h : SqT K H a xs) (k : ∀ o, H a = some o → H' a = some o) : SqT K H' a xs := by
  rcases h with (h | ⟨o, h⟩) | h
  · exact .inl (.inl (k _ h))
  · exact .inl (.inr ⟨o, k _ h⟩)
  · exact .inr h
theorem pi_sq {X : Cx} (K : PySem.W.Frag) (hK : X.K = K) {tg l : Expr} {tl : TE} (hl : PE X l tl) : PI X tg l (iSq K tl) := by
  subst hK
  refine ⟨fun pins s σ H R I h => ?_⟩
  refine thn (hl.run pins s σ H _ I h) ?_
  rintro v s1 ⟨x, H1, I1, r1, a, xs, e, hs, q⟩
  subst e
  rcases hs with hq | hq
  · have q := q (Itl X.K a) (fun H => SqL X.K H a xs) (fun H' k => sqL_keep hq k) walk_list
    cases r1
    obtain ⟨its, rv, p, hz⟩ := I1.list hq
    refine wpAny_pyIter_list p.isList ?_
    refine ⟨s1.heap.objs.size, [s1.heap.objs.size], _, _, H1, rfl, I1.kept (t' := s1.toks) (fun b o e => Heap.get?_push_of_some _ e), turn_list a _, ⟨_, Heap.get?_push_size _ rfl, rfl, rfl⟩, ?_, q⟩
    intro b hb
    obtain rfl := List.mem_singleton.mp hb
    exact I1.fpOk (Nat.le_refl _) (I1.hok.fresh (Nat.le_refl _))
  · have q := q (Itt X.K a) (fun H => SqT X.K H a xs) (fun H' k => sqT_keep hq k) walk_tup
    cases r1
    obtain ⟨its, rv, p, hz⟩ := I1.tuple hq
    refine wpAny_pyIter_tuple (show s1.heap.IsTuple a its.toArray from p) ?_
    refine ⟨s1.heap.objs.size, [s1.heap.objs.size], _, _, H1, rfl, I1.kept (t' := s1.toks) (fun b o e => Heap.get?_push_of_some _ e), turn_tuple a _, ⟨_, Heap.get?_push_size _ rfl, rfl, rfl⟩, ?_, q⟩
    intro b hb
    obtain rfl := List.mem_singleton.mp hb
    exact I1.fpOk (Nat.le_refl _) (I1.hok.fresh (Nat.le_refl _))
theorem q_isi2 {K : PySem.W.Frag} {H : Hp} {v : V} {d : PyData} {tp : Addr} {S T : String} {Q : VK} (h : Is H v d) (e : H tp = some (.tup [.ty S, .ty T])) {b c : Bool} (e1 : kitB (tyn d) S = some b) (e2 : kitB (tyn d) T = some c) (q : Q (.bl (b || c)) H) :
    rIsi K [v, .ref tp] H Q ∨ rIsiT K [v, .ref tp] H Q := by
  refine .inr ⟨v, tp, [.ty S, .ty T], .type (tyn d), [.type S, .type T], b || c, rfl, e, .cons (.ty S) (.cons (.ty T) .nil), ty_of h, ?_, q⟩
  have h1 := kit_ty (K := K) e1
  have h2 := kit_ty (K := K) e2
  cases b <;> cases c <;> simp [PySem.W.kitAny, h1, h2]
theorem q_eqs {K : PySem.W.Frag} {a b : Str} {H : Hp} {Q : VK} (q : Q (.bl (decide (a = b))) H) : rEqU K (.str a) (.str b) H Q := .inl ⟨rfl, by
  have e : decide (V.str a = V.str b) = decide (a = b) := by simp
  rw [e]
  exact q⟩
theorem q_nes {a b : Str} {H : Hp} {Q : VK} (q : Q (.bl (!decide (a = b))) H) : rNeU (.str a) (.str b) H Q := .inl ⟨rfl, by
  have e : decide (V.str a = V.str b) = decide (a = b) := by simp
  rw [e]
  exact q⟩
theorem q_notInTexts {K : PySem.W.Frag} {H : Hp} {x : Str} {a : Addr} {ks : List Str} {Q : VK} (h : Sq K H a (ks.map V.str)) (q : Q (.bl (!decide (x ∈ ks))) H) : rNotInU K (.str x) (.ref a) H Q := by
  refine .inl ⟨a, ks.map V.str, rfl, h, rfl, flat_texts ks, ?_⟩
  rw [in_texts]
  exact q
theorem bnot_t {b : Bool} (h : (!b) = true) : b = false := by cases b <;> first | rfl | cases h
theorem bnot_f {b : Bool} (h : (!b) = false) : b = true := by cases b <;> first | rfl | cases h
/-- t + u, tuples -/
theorem q_catT {K : PySem.W.Frag} {H : Hp} {a b : Addr} {xs ys : List V} {Q : VK} (ha : H a = some (.tup xs)) (hb : H b = some (.tup ys)) (hz : xs.length + ys.length ≤ sizeLine)
    (q : ∀ (r : Addr) (H' : Hp), Same H H' → H' r = some (.tup (xs ++ ys)) → Q (.ref r) H') : rAddU K (.ref a) (.ref b) H Q := by
  refine .inr (.inr (.inr ⟨a, b, xs, ys, rfl, rfl, SqT.of ha, SqT.of hb, hz, fun e => ?_, fun _ e => ?_, fun _ _ r hr => ?_⟩))
  · subst e
    exact q b H (Same.refl _) hb
  · subst e
    exact q a H (Same.refl _) (by rw [List.append_nil]; exact ha)
  · exact q r _ (same_upd hr) upd_same
section
variable {X : Cx} {o e : Expr} {es : List Expr} {to : TE} {t : TA} {name : Str} {apos cpos pos : Pos} {T id : String} {r : V → List V → Hp → VK → Prop} {f : Str} {ta : TE}
theorem pe_bmK (K : PySem.W.Frag) (hK : X.K = K) (pa : PySem.PlainAttrs T) (slot : PySem.Slot T name id) (hty : typeOf (.builtin id) = pure (.type "method_descriptor")) (hm : MtR X id r) (ho : PE X o to) (ha : PA X (e :: es) t)
    (hbase : attributeBase o name X.env (eval o X.env) = eval o X.env := by rfl)
    (hfew : ((backTo cpos (starEach (e :: es) X.env)).all (fun x => !x.1) && (backToKw cpos (keywordEach [] X.env)).all (fun x => x.1.isSome)
      && decide ((e :: es).length + ([] : List Keyword).length + (if ([] : List Keyword).isEmpty then 0 else 1) < 30)) = true := by rfl)
    (hline : (apos.endLine == cpos.line) = true := by rfl) (hs : starEach (e :: es) X.env = (false, eval e X.env) :: starEach es X.env := by rfl) (hplain : (backTo cpos (starEach es X.env)).any (·.1) = false := by rfl) :
    PE X (.Call (.Attribute o name apos) (e :: es) [] cpos) (tBM K T r to t) := hK ▸ pe_bm pa slot hty hm ho ha hbase hfew hline hs hplain
theorem pe_fldK (K : PySem.W.Frag) (hK : X.K = K) (he : PE X e ta) (hb : attributeBase e f X.env (eval e X.env) = eval e X.env) : PE X (.Attribute e f pos) (tFld K ta f) := hK ▸ pe_fld he hb
end
/-- an expression, by what its value and the heap behind it have in common, however it came -/
def tVia (te : TE) : TE := fun σ H Q => ∃ P : V → Hp → Prop, te σ H P ∧ ∀ v H', P v H' → Q v H'
theorem pe_via {X : Cx} {e : Expr} {te : TE} (he : PE X e te) : PE X e (tVia te) := by
  refine ⟨fun pins s σ H Q I h => ?_⟩
  obtain ⟨P, h1, h2⟩ := h
  refine thn (he.run pins s σ H P I h1) ?_
  rintro v s1 ⟨x, H1, I1, r1, q⟩
  exact ⟨x, H1, I1, r1, h2 x H1 q⟩
/-- t[a:b], a tuple -/
theorem q_cutT {K : PySem.W.Frag} {H : Hp} {a : Addr} {xs : List V} {lo hi : Option Int} {Q : VK} (ha : H a = some (.tup xs))
    (q : ∀ (r : Addr) (H' : Hp), Same H H' → H' r = some (.tup (cutV xs lo hi)) → Q (.ref r) H') : rSlL K (.ref a) lo hi H Q ∨ (rSlA K (.ref a) lo hi H Q ∨ rSlS (.ref a) lo hi H Q) := by
  refine .inr (.inl ⟨a, xs, rfl, SqT.of ha, fun e => q a H (Same.refl _) ?_, fun _ r hr => q r _ (same_upd hr) upd_same⟩)
  rw [ha]
  congr 2
  unfold cutV
  rw [e.1, e.2, List.drop_zero, Nat.sub_zero, List.take_length]
/-- xs[a:b], a list -/
theorem q_cutL {K : PySem.W.Frag} {H : Hp} {a : Addr} {xs : List V} {lo hi : Option Int} {Q : VK} (ha : H a = some (.lst xs))
    (q : ∀ (r : Addr), H r = none → Q (.ref r) (upd H r (.lst (cutV xs lo hi)))) : rSlL K (.ref a) lo hi H Q ∨ (rSlA K (.ref a) lo hi H Q ∨ rSlS (.ref a) lo hi H Q) := .inl ⟨a, xs, rfl, SqL.of ha, q⟩
/-- xs + ys, lists -/
theorem q_catL {K : PySem.W.Frag} {H : Hp} {a b : Addr} {xs ys : List V} {Q : VK} (ha : H a = some (.lst xs)) (hb : H b = some (.lst ys)) (hz : xs.length + ys.length ≤ sizeLine)
    (q : ∀ (r : Addr), H r = none → Q (.ref r) (upd H r (.lst (xs ++ ys)))) : rAddU K (.ref a) (.ref b) H Q := .inr (.inr (.inl ⟨a, b, xs, ys, rfl, rfl, ha, hb, hz, q⟩))
/-- data that is a list or a tuple -/
def iSeqD : PyData → Option (List PyData) | .list ds => some ds | .tuple ds => some ds | _ => none
theorem seq_of {K : PySem.W.Frag} {H : Hp} {v : V} {d : PyData} {ds : List PyData} (h : Is H v d) (e : iSeqD d = some ds) : ∃ a xs, v = .ref a ∧ Sq K H a xs ∧ Are H xs ds := by
  cases h with
  | lst h1 h2 => cases e; exact ⟨_, _, rfl, .inl (SqL.of h1), h2⟩
  | tup h1 h2 => cases e; exact ⟨_, _, rfl, .inr (SqT.of h1), h2⟩
  | _ => cases e
theorem small_seq {d : PyData} {ds : List PyData} (h : Small d) (e : iSeqD d = some ds) : ds.length ≤ 1000000 ∧ ∀ x ∈ ds, Small x := by
  have h' : PyData.weightAll ds ≤ 1000000 := by
    cases d <;> first | (cases e; simpa [Small, PyData.weight] using h) | cases e
  exact ⟨Nat.le_trans (len_weight ds) h', fun d hd => Nat.le_trans (mem_weight hd) h'⟩
theorem not_seq {d : PyData} (h : iSeqD d = none) : (iLst d || iTup d) = false := by cases d <;> first | rfl | cases h
theorem is_seq {d : PyData} {ds : List PyData} (h : iSeqD d = some ds) : (iLst d || iTup d) = true := by cases d <;> first | rfl | cases h
end Gn
set_option Elab.async false
set_option linter.all false
set_option maxRecDepth 100000
set_option maxHeartbeats 4000000
namespace Gn
open PySem PySem.Spec PyProof.Rows L2 Quiet
/-! ### data such as the law draws, n times bent -/
def isI : PyData → Bool | .int _ => true | _ => false
def nonI (ds : List PyData) : Nat := ds.countP fun d => !isI d
mutual
def okD (n : Nat) : PyData → Bool
  | .none | .bool _ => true
  | .int i => decide (i.natAbs ≤ 10 ^ 39 + n)
  | .str x => decide (x.length ≤ 50 + n) && x.cps.toList.all fun c => decide (c < 128)
  | .list ds | .tuple ds => okAll n ds && decide (nonI ds ≤ 40 + n)
  | .dict kvs => decide (kvs.length ≤ 12 + n) && okKv n kvs
def okAll (n : Nat) : List PyData → Bool
  | [] => true
  | d :: ds => okD n d && okAll n ds
def okKv (n : Nat) : List (PyData × PyData) → Bool
  | [] => true
  | (k, d) :: r => okD n k && okD n d && okKv n r
end
def wB (n : Nat) : Nat := 4 ^ n * 5000
def dB (n : Nat) : Nat := 10 + 10 * n
structure Fine (n : Nat) (d : PyData) : Prop where
  ok : okD n d = true
  w : d.weight ≤ wB n
  dp : d.depth ≤ dB n
/-- all at once -/
def fineB (d : PyData) : Bool := okD 0 d && decide (d.weight ≤ 5000) && decide (d.depth ≤ 10)
theorem fine_of {d : PyData} (h : fineB d = true) : Fine 0 d := by
  simp only [fineB, Bool.and_eq_true, decide_eq_true_eq] at h
  exact ⟨h.1.1, h.1.2, h.2⟩
/-! ### lists that are told of -/
section
variable (S : Addr → Bool) (G : Hp) (σ : L2.St) (H1 : Hp)
def GivesL (te : TE) (ds : List PyData) : Prop := ∀ (H : Hp) (Q : VK), Same H1 H → (∀ a xs H', H' a = some (.lst xs) → S a = false → Are (hide S H') xs ds → (∀ v ∈ xs, NewV G v) → NewV G (.ref a) → Same H H' → Q (.ref a) H') → te σ H Q
end
section
variable {S : Addr → Bool} {G : Hp} {σ : L2.St} {H1 : Hp}
theorem gl_lst {ta : TA} {ds : List PyData} (hT : Trk S H1) (hD : Dom G H1) (h : GivesAll S G σ H1 ta ds) (l : ds.length ≤ 1000000) : GivesL S G σ H1 (tLst ta) ds := fun H Q s k =>
  h H _ s fun vs H2 hs nv s2 => ⟨sz1 (by rw [hs.length]; exact l), fun a n => by
    obtain ⟨ne, nw, s3, s4, e⟩ := new_at hT hD s s2 n (.lst vs)
    exact k a vs _ upd_same ne (Are.same s4 hs) nv nw s3⟩
theorem gl_var {i : Nat} {a : Addr} {xs : List V} {ds : List PyData} (e : σ[i]? = some (some (.ref a))) (h : H1 a = some (.lst xs)) (ne : S a = false) (hs : Are (hide S H1) xs ds) (nv : ∀ v ∈ xs, NewV G v) (nw : NewV G (.ref a)) : GivesL S G σ H1 (tVar i) ds :=
  fun H Q s k => ⟨_, e, k a xs H (s _ _ h) ne (Are.same (hide_mono s) hs) nv nw (Same.refl H)⟩
theorem gl_cat {K : PySem.W.Frag} {ta tb : TE} {ds es : List PyData} (hT : Trk S H1) (hD : Dom G H1) (a : GivesL S G σ H1 ta ds) (b : GivesL S G σ H1 tb es) (l : ds.length + es.length ≤ 1000000) :
    GivesL S G σ H1 (tOp (rAddU K) ta tb) (ds ++ es) := fun H Q s k =>
  a H _ s fun x xs H2 e1 n1 k1 v1 w1 s2 => b H2 _ (s.trans s2) fun y ys H3 e2 n2 k2 v2 w2 s3 => by
    refine .inr (.inr (.inl ⟨x, y, xs, ys, rfl, rfl, s3 _ _ e1, e2, sz1 (by rw [k1.length, k2.length]; exact l), fun q n => ?_⟩))
    obtain ⟨ne, nw, s4, s5, e⟩ := new_at hT hD s (s2.trans s3) n (.lst (xs ++ ys))
    refine k q (xs ++ ys) _ upd_same ne (Are.same s5 (Are.append (Are.same (hide_mono s3) k1) k2)) (fun v hv => ?_) nw s4
    rcases List.mem_append.mp hv with h | h
    · exact v1 v h
    · exact v2 v h
end
theorem seq_asg {te : TE} {g : TG} {b : TS} {D : Ends} {σ : L2.St} {H : Hp} (h : te σ H fun x H1 => g x σ H1 fun σ2 H2 => b D σ2 H2) : tSeq (tAsg te g) b D σ H := h
/-- k times wrapped -/
structure DeepD (k : Nat) (d : PyData) : Prop where
  ok : okD 0 d = true
  w : d.weight ≤ 1 + k
  dp : d.depth ≤ 1 + k
theorem DeepD.lst {k : Nat} {d : PyData} (h : DeepD k d) : DeepD (k + 1) (.list [d]) := by
  refine ⟨?_, ?_, ?_⟩
  · have := h.ok
    simp only [okD, okAll, this, Bool.and_true, Bool.true_and]
    refine decide_eq_true ?_
    have : nonI [d] ≤ 1 := List.countP_le_length
    omega
  · have := h.w
    simp only [PyData.weight, PyData.weightAll]
    omega
  · have := h.dp
    simp only [PyData.depth, PyData.depthAll]
    omega
theorem DeepD.tup {k : Nat} {d : PyData} (h : DeepD k d) : DeepD (k + 1) (.tuple [d]) := by
  refine ⟨?_, ?_, ?_⟩
  · have := h.ok
    simp only [okD, okAll, this, Bool.and_true, Bool.true_and]
    refine decide_eq_true ?_
    have : nonI [d] ≤ 1 := List.countP_le_length
    omega
  · have := h.w
    simp only [PyData.weight, PyData.weightAll]
    omega
  · have := h.dp
    simp only [PyData.depth, PyData.depthAll]
    omega
theorem DeepD.fine {d : PyData} {k : Nat} (hk : k ≤ 8) (h : DeepD k d) : Fine 0 d := ⟨h.ok, Nat.le_trans h.w (Nat.le_trans (Nat.add_le_add_left hk 1) (by decide)), Nat.le_trans h.dp (Nat.le_trans (Nat.add_le_add_left hk 1) (by decide))⟩
/-- any value, mostly none of what is asked for -/
def spOdd : Sp := fun vs H Q _ => ∃ (p : Addr) (S : Addr → Bool), vs = [.ref p] ∧ Bag H p ∧ S p = true ∧ Trk S H ∧ ∀ (v : V) (d : PyData) (H' : Hp), Is (hide S H') v d → NewV H v → Fine 0 d → Ext p H H' → Q v H'
section
variable {P : Program} {w : World} {K : PySem.W.Frag} {mg : Str → Option Value} {base : Heap}
end

mutual
theorem okD_mono {n : Nat} : ∀ d : PyData, okD n d = true → okD (n + 1) d = true
  | .none, _ => rfl
  | .bool _, _ => rfl
  | .int i, h => by
    simp only [okD, decide_eq_true_eq] at h ⊢
    omega
  | .str x, h => by
    simp only [okD, Bool.and_eq_true, decide_eq_true_eq] at h ⊢
    exact ⟨by omega, h.2⟩
  | .list ds, h => by
    simp only [okD, Bool.and_eq_true, decide_eq_true_eq] at h ⊢
    exact ⟨okAll_mono ds h.1, by omega⟩
  | .tuple ds, h => by
    simp only [okD, Bool.and_eq_true, decide_eq_true_eq] at h ⊢
    exact ⟨okAll_mono ds h.1, by omega⟩
  | .dict kvs, h => by
    simp only [okD, Bool.and_eq_true, decide_eq_true_eq] at h ⊢
    exact ⟨by omega, okKv_mono kvs h.2⟩
theorem okAll_mono {n : Nat} : ∀ ds : List PyData, okAll n ds = true → okAll (n + 1) ds = true
  | [], _ => rfl
  | d :: ds, h => by
    simp only [okAll, Bool.and_eq_true] at h ⊢
    exact ⟨okD_mono d h.1, okAll_mono ds h.2⟩
theorem okKv_mono {n : Nat} : ∀ kvs : List (PyData × PyData), okKv n kvs = true → okKv (n + 1) kvs = true
  | [], _ => rfl
  | (k, d) :: r, h => by
    simp only [okKv, Bool.and_eq_true] at h ⊢
    exact ⟨⟨okD_mono k h.1.1, okD_mono d h.1.2⟩, okKv_mono r h.2⟩
end
theorem okD_more {n m : Nat} (h : n ≤ m) {d : PyData} (k : okD n d = true) : okD m d = true := by
  induction h with
  | refl => exact k
  | step _ ih => exact okD_mono d ih
theorem okAll_iff {n : Nat} : ∀ {ds : List PyData}, okAll n ds = true ↔ ∀ d ∈ ds, okD n d = true
  | [] => by simp [okAll]
  | d :: ds => by
    rw [okAll, Bool.and_eq_true, okAll_iff, List.forall_mem_cons]
theorem wt_app : ∀ a b : List PyData, PyData.weightAll (a ++ b) = PyData.weightAll a + PyData.weightAll b
  | [], b => by simp [PyData.weightAll]
  | x :: a, b => by
    simp only [List.cons_append, PyData.weightAll, wt_app a b]
    omega
theorem dp_app : ∀ a b : List PyData, PyData.depthAll (a ++ b) = max (PyData.depthAll a) (PyData.depthAll b)
  | [], b => by simp [PyData.depthAll]
  | x :: a, b => by
    simp only [List.cons_append, PyData.depthAll, dp_app a b]
    omega
theorem nonI_app (a b : List PyData) : nonI (a ++ b) = nonI a + nonI b := List.countP_append
theorem nonI_cons (d : PyData) (b : List PyData) : nonI (d :: b) ≤ nonI b + 1 ∧ nonI b ≤ nonI (d :: b) := by
  unfold nonI
  rw [List.countP_cons]
  split <;> omega
theorem cut_eq {ds : List PyData} {k : Nat} {e : PyData} (h : ds[k]? = some e) : ds = ds.take k ++ e :: ds.drop (k + 1) := by
  obtain ⟨h1, h2⟩ := List.getElem?_eq_some_iff.mp h
  rw [← h2, ← List.drop_eq_getElem_cons h1, List.take_append_drop]
/-- what is known of a list that is cut at one of its places -/
structure Cut (n : Nat) (ds : List PyData) (a b : List PyData) (e : PyData) : Prop where
  ea : ∀ d ∈ a, okD n d = true
  eb : ∀ d ∈ b, okD n d = true
  ee : okD n e = true
  nn : nonI a + nonI b ≤ nonI ds
  ww : PyData.weightAll ds = PyData.weightAll a + PyData.weightAll b + e.weight + 1
  da : PyData.depthAll a ≤ PyData.depthAll ds
  db : PyData.depthAll b ≤ PyData.depthAll ds
  de : e.depth ≤ PyData.depthAll ds
theorem cut_of {n : Nat} {ds : List PyData} {k : Nat} {e : PyData} (h : ds[k]? = some e) (ok : ∀ d ∈ ds, okD n d = true) : Cut n ds (ds.take k) (ds.drop (k + 1)) e := by
  have eq := cut_eq h
  have c1 := nonI_cons e (ds.drop (k + 1))
  have w := congrArg PyData.weightAll eq
  have dd := congrArg PyData.depthAll eq
  have nn := congrArg nonI eq
  rw [wt_app, PyData.weightAll] at w
  rw [dp_app, PyData.depthAll] at dd
  rw [nonI_app] at nn
  refine ⟨fun d hd => ok d (List.mem_of_mem_take hd), fun d hd => ok d (List.mem_of_mem_drop hd), ok e (List.mem_of_getElem? h), by omega, by omega, by omega, by omega, by omega⟩
/-- such a list with something in the place's stead -/
theorem Cut.fill {n m : Nat} {ds a b : List PyData} {e : PyData} (c : Cut n ds a b e) (l : n ≤ m) (mid : List PyData) (hm : ∀ d ∈ mid, okD m d = true) (ln : mid.length ≤ 2) :
    okAll m (a ++ (mid ++ b)) = true ∧ nonI (a ++ (mid ++ b)) ≤ nonI ds + mid.length ∧ PyData.weightAll (a ++ (mid ++ b)) + e.weight + 1 = PyData.weightAll ds + PyData.weightAll mid ∧
      PyData.depthAll (a ++ (mid ++ b)) ≤ max (PyData.depthAll ds) (PyData.depthAll mid) := by
  have l1 : nonI mid ≤ mid.length := List.countP_le_length
  refine ⟨okAll_iff.mpr fun d hd => ?_, ?_, ?_, ?_⟩
  · rcases List.mem_append.mp hd with h | h
    · exact okD_more l (c.ea d h)
    · rcases List.mem_append.mp h with h | h
      · exact hm d h
      · exact okD_more l (c.eb d h)
  · rw [nonI_app, nonI_app]
    have := c.nn
    omega
  · rw [wt_app, wt_app]
    have := c.ww
    omega
  · rw [dp_app, dp_app]
    have := c.da
    have := c.db
    omega
/-! ### texts -/
theorem ok_str {n : Nat} {x : Str} : okD n (.str x) = true ↔ x.length ≤ 50 + n ∧ okT x := by
  simp only [okD, Bool.and_eq_true, decide_eq_true_eq, List.all_eq_true]
  exact Iff.rfl
theorem len_app (x y : Str) : (x ++ y).length = x.length + y.length := by
  show (x.cps ++ y.cps).size = _
  rw [Array.size_append]
  rfl
theorem okT_app {x y : Str} (h : okT x) (k : okT y) : okT (x ++ y) := fun c hc => by
  have e : (x ++ y).cps = x.cps ++ y.cps := rfl
  rw [e, Array.toList_append] at hc
  rcases List.mem_append.mp hc with z | z
  · exact h c z
  · exact k c z
theorem okT_cut {x : Str} {lo hi : Option Int} (h : okT x) : okT (cutS x lo hi) := fun c hc => by
  have e : (cutS x lo hi).cps.toList = _ := rfl
  rw [e] at hc
  exact h c (List.mem_of_mem_drop (List.mem_of_mem_take (by simpa [cutS] using hc)))
theorem len_cut (x : Str) (lo hi : Option Int) : (cutS x lo hi).length ≤ x.length := by
  show (cutS x lo hi).cps.size ≤ x.cps.size
  have : (cutS x lo hi).cps.toList.length ≤ x.cps.toList.length := by
    unfold cutS
    simp only [List.toList_toArray]
    refine Nat.le_trans (List.length_take_le' _ _) ?_
    rw [List.length_drop]
    omega
  simpa using this
theorem up_list : ∀ cs : List Nat, (∀ c ∈ cs, c < 128) → (Txt.upper ⟨cs.toArray⟩).cps.toList.length = cs.length ∧ okT (Txt.upper ⟨cs.toArray⟩)
  | [], _ => by
    have e : Txt.upper ⟨([] : List Nat).toArray⟩ = ⟨#[]⟩ := by decide +kernel
    rw [e]
    exact ⟨rfl, fun c hc => by simp at hc⟩
  | c :: cs, h => by
    obtain ⟨i1, i2⟩ := up_list cs fun d hd => h d (List.mem_cons_of_mem _ hd)
    have hc := h c List.mem_cons_self
    have e0 : (⟨(c :: cs).toArray⟩ : Str) = ⟨#[c]⟩ ++ ⟨cs.toArray⟩ := by
      show _ = (⟨#[c] ++ cs.toArray⟩ : Str)
      congr 1
      simp
    rw [e0, PySem.W.KOpn.upper_app, PySem.W.KOpn.upper_one hc]
    constructor
    · show ((#[_] : Array Nat) ++ (Txt.upper ⟨cs.toArray⟩).cps).toList.length = _
      rw [Array.toList_append, List.length_append, i1]
      simp
      omega
    · refine okT_app (fun d hd => ?_) i2
      rw [List.mem_singleton.mp (show d ∈ [_] from hd)]
      split <;> omega
theorem up_ok {x : Str} (h : okT x) : (Txt.upper x).length = x.length ∧ okT (Txt.upper x) := by
  obtain ⟨a, b⟩ := up_list x.cps.toList h
  have e : (⟨x.cps.toList.toArray⟩ : Str) = x := by
    cases x
    simp
  rw [e] at a b
  refine ⟨?_, b⟩
  show (Txt.upper x).cps.size = x.cps.size
  simpa using a
theorem int_text {i : Int} (h : i.natAbs < 10 ^ 40) : (Str.ofString (toString i)).length ≤ 41 ∧ okT (Str.ofString (toString i)) := by
  constructor
  · rw [PySem.ofString_length]
    exact int_text_length_le10 (by decide) h
  · intro c hc
    rw [Str.ofString_eq_toList] at hc
    have hc' : c ∈ (toString i : String).toList.map Char.toNat := by simpa using hc
    obtain ⟨ch, h1, rfl⟩ := List.mem_map.mp hc'
    have dig : ∀ (m : Nat) (ch : Char), ch ∈ (Nat.repr m).toList → ch.toNat < 128 := fun m ch hch => by
      have h2 : ch ∈ Nat.toDigits 10 m := by simpa [Nat.repr] using hch
      have h3 := Nat.isDigit_of_mem_toDigits (b := 10) (by decide) (by decide) h2
      simp only [Char.isDigit, Bool.and_eq_true, decide_eq_true_eq] at h3
      have h4 : ch.val ≤ 57 := h3.2
      have h5 : ch.toNat ≤ 57 := h4
      omega
    cases i with
    | ofNat m => exact dig m ch h1
    | negSucc m =>
      have e : (toString (Int.negSucc m) : String).toList = '-' :: (Nat.repr (m + 1)).toList := by
        show ("-" ++ Nat.repr (m + 1) : String).toList = _
        rw [String.toList_append]
        rfl
      rw [e] at h1
      rcases List.mem_cons.mp h1 with z | z
      · rw [z]
        decide
      · exact dig _ ch z

mutual
theorem ok_shows {n : Nat} (hn : n ≤ 5) : ∀ d : PyData, okD n d = true → d.showable = true ∧ d.leavesShort 45 = true
  | .none, _ => ⟨rfl, rfl⟩
  | .bool _, _ => ⟨rfl, rfl⟩
  | .int i, h => by
    have il : i.natAbs ≤ 10 ^ 39 + n := by simpa [okD] using h
    have ib : i.natAbs < 10 ^ 40 := Nat.lt_of_le_of_lt il (Nat.lt_of_le_of_lt (Nat.add_le_add_left hn _) (by decide))
    constructor
    · simp only [PyData.showable, decide_eq_true_eq]
      by_cases z : i.natAbs = 0
      · rw [z]; decide
      · exact (Nat.log2_lt z).mpr (Nat.lt_of_lt_of_le ib (by decide))
    · simp only [PyData.leavesShort, decide_eq_true_eq, PyData.shown_int]
      have := (int_text ib).1
      exact Nat.le_trans this (by decide)
  | .str x, h => by
    obtain ⟨_, xo⟩ := ok_str.mp h
    refine ⟨rfl, ?_⟩
    simp only [PyData.leavesShort, List.all_eq_true, decide_eq_true_eq]
    intro c hc
    exact Nat.lt_trans (xo c hc) (by decide)
  | .list ds, h => by
    have h' : okAll n ds = true ∧ nonI ds ≤ 40 + n := by simpa [okD] using h
    obtain ⟨a, b⟩ := okAll_shows hn ds h'.1
    exact ⟨by simpa only [PyData.showable] using a, by simpa only [PyData.leavesShort] using b⟩
  | .tuple ds, h => by
    have h' : okAll n ds = true ∧ nonI ds ≤ 40 + n := by simpa [okD] using h
    obtain ⟨a, b⟩ := okAll_shows hn ds h'.1
    exact ⟨by simpa only [PyData.showable] using a, by simpa only [PyData.leavesShort] using b⟩
  | .dict kvs, h => by
    have h' : kvs.length ≤ 12 + n ∧ okKv n kvs = true := by simpa [okD] using h
    obtain ⟨a, b⟩ := okKv_shows hn kvs h'.2
    exact ⟨by simpa only [PyData.showable] using a, by simpa only [PyData.leavesShort] using b⟩
theorem okAll_shows {n : Nat} (hn : n ≤ 5) : ∀ ds : List PyData, okAll n ds = true → PyData.showableAll ds = true ∧ PyData.leavesShortAll 45 ds = true
  | [], _ => ⟨rfl, rfl⟩
  | d :: ds, h => by
    have h' : okD n d = true ∧ okAll n ds = true := by simpa [okAll] using h
    obtain ⟨a1, b1⟩ := ok_shows hn d h'.1
    obtain ⟨a2, b2⟩ := okAll_shows hn ds h'.2
    exact ⟨by simp only [PyData.showableAll, a1, a2, Bool.and_true], by simp only [PyData.leavesShortAll, b1, b2, Bool.and_true]⟩
theorem okKv_shows {n : Nat} (hn : n ≤ 5) : ∀ kvs : List (PyData × PyData), okKv n kvs = true → PyData.showableKv kvs = true ∧ PyData.leavesShortKv 45 kvs = true
  | [], _ => ⟨rfl, rfl⟩
  | (k, d) :: r, h => by
    have h' : (okD n k = true ∧ okD n d = true) ∧ okKv n r = true := by simpa [okKv] using h
    obtain ⟨a0, b0⟩ := ok_shows hn k h'.1.1
    obtain ⟨a1, b1⟩ := ok_shows hn d h'.1.2
    obtain ⟨a2, b2⟩ := okKv_shows hn r h'.2
    exact ⟨by simp only [PyData.showableKv, a0, a1, a2, Bool.and_true], by simp only [PyData.leavesShortKv, b0, b1, b2, Bool.and_true]⟩
end
theorem shown_ok {n : Nat} (hn : n ≤ 5) {d : PyData} (h : okD n d = true) (w : d.weight ≤ 300000) : d.shown.length ≤ sizeLine := by
  have := PyData.shown_le 45 (by decide) d (ok_shows hn d h).2
  rw [sizeLine_eq]
  omega
theorem all_nonI {q : PyData → Bool} (hq : ∀ d, q d = true → isI d = false) {ds : List PyData} (h : ds.all q = true) : nonI ds = ds.length := by
  unfold nonI
  rw [List.countP_eq_length]
  intro d hd
  rw [hq d (List.all_eq_true.mp h d hd)]
  rfl
theorem few_of {n : Nat} (hn : n ≤ 5) {d : PyData} (h : okD n d = true) : Few d := by
  refine ⟨fun ds e hall => ?_, fun ds es e e1 hall => ?_⟩
  · subst e
    have h' : okAll n ds = true ∧ nonI ds ≤ 40 + n := by simpa [okD] using h
    have := all_nonI (fun d hd => by
      obtain ⟨x, rfl⟩ := name_text hd
      rfl) hall
    omega
  · subst e
    have h' : okAll n ds = true ∧ nonI ds ≤ 40 + n := by simpa [okD] using h
    have l1 : 1 < ds.length := by
      refine Classical.byContradiction fun z => ?_
      have : at' ds 1 = .none := by
        unfold at'
        rw [List.getD_eq_getElem?_getD, List.getElem?_eq_none (by omega)]
        rfl
      rw [this] at e1
      cases e1
    have h2 := okAll_iff.mp h'.1 _ (mem_at l1)
    rw [e1] at h2
    have h3 : okAll n es = true ∧ nonI es ≤ 40 + n := by simpa [okD] using h2
    have := all_nonI (fun d hd => by
      obtain ⟨x, b, rfl⟩ := pair_is hd
      rfl) hall
    omega
/-- lists of truths -/
theorem are_bools {H : Hp} : ∀ bs : List Bool, Are H (bs.map V.bl) (bs.map .bool)
  | [] => .nil
  | b :: bs => .cons (.bl b) (are_bools bs)
theorem eq_bools {K : PySem.W.Frag} {H : Hp} {n : Nat} : ∀ bs : List Bool, Paired (EqV K H (n + 1)) (bs.map V.bl) (bs.map V.bl)
  | [] => .nil
  | b :: bs => .cons (.inl ⟨rfl, rfl⟩) (eq_bools bs)

end Gn
set_option Elab.async false
set_option linter.all false
set_option maxRecDepth 100000
set_option maxHeartbeats 4000000
namespace K62
open PySem PySem.Spec L2 Quiet Gn

def odd1 : List PyData := [.none, .bool true, .bool false, .int 0, .int 1, .int (-1), .int (10 ^ (39 : Int).toNat), .str "", .str "a", .str "A", .str "ninesigns", .str "a b", .str "a\n", .list [], .tuple [], .dict [], .list [.str "a"], .tuple [.str "a"]]
def odd2 : List PyData := [.tuple [.str "b", .str "a"], .tuple [.str "a", .str "a"], .tuple [.str "a", .int 1], .tuple [.tuple [.str "a"]], .dict [(.str "a", .str "b")], .dict [(.str "a", .tuple [])], .list [.tuple [.str "a"], .tuple []], .list (List.replicate 1500 (.int 0))]
def odd3 : List PyData := [.tuple [.bool true], .tuple [.bool false, .bool true], .tuple [.int 1], .tuple [.int 0, .int 1], .list [.bool true], .tuple [.tuple [.bool true], .list []], .tuple [.tuple [], .list []], .tuple [.tuple [], .tuple []], .list [.tuple [.tuple [], .list []]]]
def odd4 : List PyData := [.tuple [.str "on"], .tuple [.str "end"], .tuple [.str "leave", .str "a"], .tuple [.str "raise", .str "a"], .tuple [.str "stop", .str "a"], .tuple [.str "out", .tuple [.str "end"]], .tuple [.str "round"]]
def odd5 : List PyData := [.tuple [.str "do", .str "a"], .tuple [.str "do", .str "a", .tuple []], .tuple [.str "mark", .str "a"], .tuple [.str "mark", .str "a", .int 0], .tuple [.str "if", .str "a", .tuple [], .tuple []]]
def odd6 : List PyData := [.tuple [.str "ask", .str "a", .int 0, .int 0], .tuple [.str "loop", .str "a", .tuple []], .tuple [.str "try", .tuple [], .tuple [], .tuple []], .tuple [.str "call", .str "a"]]
def odd7 : List PyData := [.tuple [.str "never", .tuple [.tuple [.str "a", .bool true]]], .tuple [.str "never"], .str "on"]
section
variable {P : Program} {w : World} {K : PySem.W.Frag} {mg : Str → Option Value} {base : Heap} {A : Ad} {D : Fd}
theorem ok__law_odd (T : Txt K mg A D) : FnOk P w K mg base CX0 3 A._law_odd D._law_odd ["bag"] spOdd := by
  refine T.f__law_odd.ok sc__law_odd (fun vs H Q E h => ?_) (fun cdv AA outer s H vs Q E hr h => ?_)
  · obtain ⟨p, S, rfl, _⟩ := h
    rfl
  · obtain ⟨p, S, rfl, hB, hp, hT, k⟩ := h
    refine ⟨_, (pss_cons (ps_set (i := 1) sc__law_odd.nd rfl (Or.inl rfl) (by exact (pe_call (ok__law_one T) (hr.mono (by decide)) rfl T.m__law_one T.f__law_one.kp (b__law_one T) .nil pass0 (pa_cons (pv 0) (pa_cons (pe_lst (pa_cons (pe_lst pa_nil) (pa_cons (pe_tup pa_nil) (pa_cons pe_str (pa_cons pe_dnewK pa_nil))))) pa_nil)))))
  (pss_cons (ps_for PassesOwn.never rfl (pi_range1 rfl T.b_range (pa_cons pe_int pa_nil)) (pg_name (i := 2) sc__law_odd.nd rfl (Or.inl rfl))
 (pss_one (ps_set (i := 1) sc__law_odd.nd rfl (Or.inl rfl) (by exact (pe_ifExp (pt_cmpR (eqK K rfl (units_of hr)) (pe_call (ok__law_take T) (hr.mono (by decide)) rfl T.m__law_take T.f__law_take.kp (b__law_take T) .nil pass0 (pa_cons (pv 0) (pa_cons pe_int pa_nil))) pe_int (nomark _)) (pe_lst (pa_cons (pv 1) pa_nil)) (pe_tup (pa_cons (pv 1) pa_nil)))))))
  (pss_cons (ps_set (i := 3) sc__law_odd.nd rfl (Or.inl rfl) (by exact (pe_lst (pa_cons pe_non (pa_cons pe_bl (pa_cons pe_bl (pa_cons pe_int (pa_cons pe_int (pa_cons (pe_un un_neg pe_int) (pa_cons (pe_op op_pow pe_int pe_int) (pa_cons pe_str (pa_cons pe_str (pa_cons pe_str (pa_cons pe_str (pa_cons pe_str (pa_cons pe_str (pa_cons (pe_lst pa_nil) (pa_cons (pe_tup pa_nil) (pa_cons pe_dnewK (pa_cons (pe_lst (pa_cons pe_str pa_nil)) (pa_cons (pe_tup (pa_cons pe_str pa_nil)) pa_nil)))))))))))))))))))))
  (pss_cons (ps_set (i := 3) sc__law_odd.nd rfl (Or.inl rfl) (by exact (pe_op (addK K rfl) (pv 3) (pe_lst (pa_cons (pe_tup (pa_cons pe_str (pa_cons pe_str pa_nil))) (pa_cons (pe_tup (pa_cons pe_str (pa_cons pe_str pa_nil))) (pa_cons (pe_tup (pa_cons pe_str (pa_cons pe_int pa_nil))) (pa_cons (pe_tup (pa_cons (pe_tup (pa_cons pe_str pa_nil)) pa_nil)) (pa_cons (pe_disp (pps_cons pe_str pe_str pps_nil) (by rfl) (by rfl) (fun z => by cases z) (by decide)) (pa_cons (pe_disp (pps_cons pe_str (pe_tup pa_nil) pps_nil) (by rfl) (by rfl) (fun z => by cases z) (by decide)) (pa_cons (pe_lst (pa_cons (pe_tup (pa_cons pe_str pa_nil)) (pa_cons (pe_tup pa_nil) pa_nil))) (pa_cons (pe_op (mulK K rfl) (pe_lst (pa_cons pe_int pa_nil)) pe_int) (pa_cons (pv 1) pa_nil)))))))))))))
  (pss_cons (ps_set (i := 3) sc__law_odd.nd rfl (Or.inl rfl) (by exact (pe_op (addK K rfl) (pv 3) (pe_lst (pa_cons (pe_tup (pa_cons pe_bl pa_nil)) (pa_cons (pe_tup (pa_cons pe_bl (pa_cons pe_bl pa_nil))) (pa_cons (pe_tup (pa_cons pe_int pa_nil)) (pa_cons (pe_tup (pa_cons pe_int (pa_cons pe_int pa_nil))) (pa_cons (pe_lst (pa_cons pe_bl pa_nil)) (pa_cons (pe_tup (pa_cons (pe_tup (pa_cons pe_bl pa_nil)) (pa_cons (pe_lst pa_nil) pa_nil))) (pa_cons (pe_tup (pa_cons (pe_tup pa_nil) (pa_cons (pe_lst pa_nil) pa_nil))) (pa_cons (pe_tup (pa_cons (pe_tup pa_nil) (pa_cons (pe_tup pa_nil) pa_nil))) (pa_cons (pe_lst (pa_cons (pe_tup (pa_cons (pe_tup pa_nil) (pa_cons (pe_lst pa_nil) pa_nil))) pa_nil)) pa_nil)))))))))))))
  (pss_cons (ps_set (i := 3) sc__law_odd.nd rfl (Or.inl rfl) (by exact (pe_op (addK K rfl) (pv 3) (pe_lst (pa_cons (pe_tup (pa_cons pe_str pa_nil)) (pa_cons (pe_tup (pa_cons pe_str pa_nil)) (pa_cons (pe_tup (pa_cons pe_str (pa_cons pe_str pa_nil))) (pa_cons (pe_tup (pa_cons pe_str (pa_cons pe_str pa_nil))) (pa_cons (pe_tup (pa_cons pe_str (pa_cons pe_str pa_nil))) (pa_cons (pe_tup (pa_cons pe_str (pa_cons (pe_tup (pa_cons pe_str pa_nil)) pa_nil))) (pa_cons (pe_tup (pa_cons pe_str pa_nil)) pa_nil)))))))))))
  (pss_cons (ps_set (i := 3) sc__law_odd.nd rfl (Or.inl rfl) (by exact (pe_op (addK K rfl) (pv 3) (pe_lst (pa_cons (pe_tup (pa_cons pe_str (pa_cons pe_str pa_nil))) (pa_cons (pe_tup (pa_cons pe_str (pa_cons pe_str (pa_cons (pe_tup pa_nil) pa_nil)))) (pa_cons (pe_tup (pa_cons pe_str (pa_cons pe_str pa_nil))) (pa_cons (pe_tup (pa_cons pe_str (pa_cons pe_str (pa_cons pe_int pa_nil)))) (pa_cons (pe_tup (pa_cons pe_str (pa_cons pe_str (pa_cons (pe_tup pa_nil) (pa_cons (pe_tup pa_nil) pa_nil))))) pa_nil)))))))))
  (pss_cons (ps_set (i := 3) sc__law_odd.nd rfl (Or.inl rfl) (by exact (pe_op (addK K rfl) (pv 3) (pe_lst (pa_cons (pe_tup (pa_cons pe_str (pa_cons pe_str (pa_cons pe_int (pa_cons pe_int pa_nil))))) (pa_cons (pe_tup (pa_cons pe_str (pa_cons pe_str (pa_cons (pe_tup pa_nil) pa_nil)))) (pa_cons (pe_tup (pa_cons pe_str (pa_cons (pe_tup pa_nil) (pa_cons (pe_tup pa_nil) (pa_cons (pe_tup pa_nil) pa_nil))))) (pa_cons (pe_tup (pa_cons pe_str (pa_cons pe_str pa_nil))) pa_nil))))))))
  (pss_cons (ps_set (i := 3) sc__law_odd.nd rfl (Or.inl rfl) (by exact (pe_op (addK K rfl) (pv 3) (pe_lst (pa_cons (pe_tup (pa_cons pe_str (pa_cons (pe_tup (pa_cons (pe_tup (pa_cons pe_str (pa_cons pe_bl pa_nil))) pa_nil)) pa_nil))) (pa_cons (pe_tup (pa_cons pe_str pa_nil)) (pa_cons pe_str pa_nil)))))))
  (pss_one (ps_ret (pe_call (ok__law_one T) (hr.mono (by decide)) rfl T.m__law_one T.f__law_one.kp (b__law_one T) .nil pass0 (pa_cons (pv 0) (pa_cons (pv 3) pa_nil)))))))))))))), ?_⟩
    have hD := Dom.refl H
    refine ⟨_, rfl, gl_lst (S := S) (G := H) (H1 := H) (ds := [.list [], .tuple [], .str "a", .dict []]) hT hD (by (repeat (first | exact g_non | exact g_bl | exact g_int | exact g_str | exact g_nil | exact g_neg | refine g_cons ?_ ?_ | refine g_tup (by assumption) (by assumption) ?_ ?_ | refine g_lst (by assumption) (by assumption) ?_ ?_ | exact g_dnew (by assumption) (by assumption) | exact g_d1 (by assumption) (by assumption) | exact g_d2 (by assumption) (by assumption) | exact g_pow ⟨by decide, by decide, by decide⟩ | exact g_rep (by assumption) (by assumption) rfl (by decide) (by decide) | exact g_var rfl (by assumption) (by assumption) | (show _ ≤ 1000000; decide)))) (by decide) H _ (Same.refl H) fun a xs H2 e1 n1 k1 v1 w1 s2 => ?_⟩
    refine ⟨p, .ref a, rfl, hB.same s2, .inl ⟨a, xs, rfl, ne_p hp n1, .inl (SqL.of e1), by rw [k1.length]; decide, by rw [k1.length]; decide, fun i v H3 hi x => ?_⟩⟩
    obtain ⟨d, ed, hv⟩ := k1.at' hi
    have nv : NewV H v := v1 v (List.mem_of_getElem? hi)
    have hv3 : Is (hide S H3) v d := Is.same (hide_ext hp x) hv
    have x3 : Ext p H H3 := (Ext.same hB s2).trans x
    have dd : DeepD 0 d := by
      have hm := List.mem_of_getElem? ed
      rcases List.mem_cons.mp hm with e | hm
      · rw [e]; exact ⟨by decide +kernel, by decide, by decide⟩
      rcases List.mem_cons.mp hm with e | hm
      · rw [e]; exact ⟨by decide +kernel, by decide, by decide⟩
      rcases List.mem_cons.mp hm with e | hm
      · rw [e]; exact ⟨by decide +kernel, by decide, by decide⟩
      · rw [List.mem_singleton.mp hm]; exact ⟨by decide +kernel, by decide, by decide⟩
    clear hv ed hi k1 v1 w1 n1 e1 s2 x
    refine ⟨8, rfl, by decide, by decide, for_range (fun i σ H' => ∃ (v : V) (d : PyData) (t : Option V), σ = [some (.ref p), some v, t, none] ∧ Is (hide S H') v d ∧ NewV H v ∧ DeepD i d ∧ Ext p H H') ⟨v, d, none, rfl, hv3, nv, dd, x3⟩ ?_ ?_⟩
    · rintro i σ H4 hi ⟨v, d, t, rfl, hv, nv, dd, x4⟩
      have ndom : Dom H H4 := Dom.ext x4
      refine ⟨_, rfl, p, 2, rfl, by decide, by decide, x4.bag, fun z H5 z0 z1 x5 => q_eqi ⟨_, rfl, if_b (fun e => ?_) (fun e => ?_)⟩⟩
      · refine ⟨_, rfl, by show 1 ≤ sizeLine; decide, fun q hq => ?_⟩
        have ne := (hT.ext (x4.trans x5)).no hq
        have x45 := x4.trans x5
        have s6 : Same H5 (upd H5 q (.lst [v])) := same_upd hq
        exact ⟨.ref q, .list [d], _, rfl, .lst (by rw [hide_ne ne]; exact upd_same) (.cons (Is.same (hide_mono s6) (Is.same (hide_ext hp x5) hv)) .nil), fun b e => by cases e; exact Dom.ext x45 q hq, dd.lst, x45.then s6⟩
      · refine ⟨_, rfl, by show 1 ≤ sizeLine; decide, fun q hq => ?_⟩
        have ne := (hT.ext (x4.trans x5)).no hq
        have x45 := x4.trans x5
        have s6 : Same H5 (upd H5 q (.tup [v])) := same_upd hq
        exact ⟨.ref q, .tuple [d], _, rfl, .tup (by rw [hide_ne ne]; exact upd_same) (.cons (Is.same (hide_mono s6) (Is.same (hide_ext hp x5) hv)) .nil), fun b e => by cases e; exact Dom.ext x45 q hq, dd.tup, x45.then s6⟩
    · rintro σ H4 ⟨v, d, t, rfl, hv, nv, dd, x4⟩
      have go : ∀ {ds : List PyData} {a : Addr} {xs : List V} {H5 : Hp}, True := fun {_ _ _ _} => trivial
      have hT4 := hT.ext x4
      have hD4 : Dom H H4 := Dom.ext x4
      try dsimp only
      refine seq_asg ?_
      refine gl_lst (S := S) (G := H) (H1 := H4) (ds := odd1) hT4 hD4 (by unfold odd1; (repeat (first | exact g_non | exact g_bl | exact g_int | exact g_str | exact g_nil | exact g_neg | refine g_cons ?_ ?_ | refine g_tup (by assumption) (by assumption) ?_ ?_ | refine g_lst (by assumption) (by assumption) ?_ ?_ | exact g_dnew (by assumption) (by assumption) | exact g_d1 (by assumption) (by assumption) | exact g_d2 (by assumption) (by assumption) | exact g_pow ⟨by decide, by decide, by decide⟩ | exact g_rep (by assumption) (by assumption) rfl (by decide) (by decide) | exact g_var rfl (by assumption) (by assumption) | (show _ ≤ 1000000; decide)))) (by decide) H4 _ (Same.refl H4) fun a xs H5 e1 n1 k1 v1 w1 s5 => ?_
      have x5 := x4.then s5
      have hv5 := Is.same (hide_mono s5) hv
      clear hT4 hD4
      have hT5 := hT.ext x5
      have hD5 : Dom H H5 := Dom.ext x5
      try dsimp only
      refine seq_asg ?_
      refine gl_cat (S := S) (G := H) (H1 := H5) (ds := odd1) (es := odd2 ++ [d]) hT5 hD5 (gl_var rfl e1 n1 k1 v1 w1) (gl_lst hT5 hD5 (by unfold odd2; simp only [List.cons_append, List.nil_append]; (repeat (first | exact g_non | exact g_bl | exact g_int | exact g_str | exact g_nil | exact g_neg | refine g_cons ?_ ?_ | refine g_tup (by assumption) (by assumption) ?_ ?_ | refine g_lst (by assumption) (by assumption) ?_ ?_ | exact g_dnew (by assumption) (by assumption) | exact g_d1 (by assumption) (by assumption) | exact g_d2 (by assumption) (by assumption) | exact g_pow ⟨by decide, by decide, by decide⟩ | exact g_rep (by assumption) (by assumption) rfl (by decide) (by decide) | exact g_var rfl (by assumption) (by assumption) | (show _ ≤ 1000000; decide)))) (by rw [List.length_append]; show _ + 1 ≤ _; decide)) (by rw [List.length_append]; show _ + (_ + 1) ≤ _; decide) H5 _ (Same.refl H5) fun a2 xs2 H6 e2 n2 k2 v2 w2 s6 => ?_
      have x6 := x5.then s6
      clear hv hv5 hT5 hD5 e1 n1 k1 v1 w1
      have hT6 := hT.ext x6
      have hD6 : Dom H H6 := Dom.ext x6
      try dsimp only
      refine seq_asg ?_
      refine gl_cat (S := S) (G := H) (H1 := H6) (es := odd3) hT6 hD6 (gl_var rfl e2 n2 k2 v2 w2) (gl_lst hT6 hD6 (by unfold odd3; (repeat (first | exact g_non | exact g_bl | exact g_int | exact g_str | exact g_nil | exact g_neg | refine g_cons ?_ ?_ | refine g_tup (by assumption) (by assumption) ?_ ?_ | refine g_lst (by assumption) (by assumption) ?_ ?_ | exact g_dnew (by assumption) (by assumption) | exact g_d1 (by assumption) (by assumption) | exact g_d2 (by assumption) (by assumption) | exact g_pow ⟨by decide, by decide, by decide⟩ | exact g_rep (by assumption) (by assumption) rfl (by decide) (by decide) | exact g_var rfl (by assumption) (by assumption) | (show _ ≤ 1000000; decide)))) (by decide)) (by simp only [List.length_append, List.length_cons, List.length_nil]; decide) H6 _ (Same.refl H6) fun a3 xs3 H7 e3 n3 k3 v3 w3 s7 => ?_
      have x7 := x6.then s7
      clear hT6 hD6 e2 n2 k2 v2 w2
      have hT7 := hT.ext x7
      have hD7 : Dom H H7 := Dom.ext x7
      try dsimp only
      refine seq_asg ?_
      refine gl_cat (S := S) (G := H) (H1 := H7) (es := odd4) hT7 hD7 (gl_var rfl e3 n3 k3 v3 w3) (gl_lst hT7 hD7 (by unfold odd4; (repeat (first | exact g_non | exact g_bl | exact g_int | exact g_str | exact g_nil | exact g_neg | refine g_cons ?_ ?_ | refine g_tup (by assumption) (by assumption) ?_ ?_ | refine g_lst (by assumption) (by assumption) ?_ ?_ | exact g_dnew (by assumption) (by assumption) | exact g_d1 (by assumption) (by assumption) | exact g_d2 (by assumption) (by assumption) | exact g_pow ⟨by decide, by decide, by decide⟩ | exact g_rep (by assumption) (by assumption) rfl (by decide) (by decide) | exact g_var rfl (by assumption) (by assumption) | (show _ ≤ 1000000; decide)))) (by decide)) (by simp only [List.length_append, List.length_cons, List.length_nil]; decide) H7 _ (Same.refl H7) fun a4 xs4 H8 e4 n4 k4 v4 w4 s8 => ?_
      have x8 := x7.then s8
      clear hT7 hD7 e3 n3 k3 v3 w3
      have hT8 := hT.ext x8
      have hD8 : Dom H H8 := Dom.ext x8
      try dsimp only
      refine seq_asg ?_
      refine gl_cat (S := S) (G := H) (H1 := H8) (es := odd5) hT8 hD8 (gl_var rfl e4 n4 k4 v4 w4) (gl_lst hT8 hD8 (by unfold odd5; (repeat (first | exact g_non | exact g_bl | exact g_int | exact g_str | exact g_nil | exact g_neg | refine g_cons ?_ ?_ | refine g_tup (by assumption) (by assumption) ?_ ?_ | refine g_lst (by assumption) (by assumption) ?_ ?_ | exact g_dnew (by assumption) (by assumption) | exact g_d1 (by assumption) (by assumption) | exact g_d2 (by assumption) (by assumption) | exact g_pow ⟨by decide, by decide, by decide⟩ | exact g_rep (by assumption) (by assumption) rfl (by decide) (by decide) | exact g_var rfl (by assumption) (by assumption) | (show _ ≤ 1000000; decide)))) (by decide)) (by simp only [List.length_append, List.length_cons, List.length_nil]; decide) H8 _ (Same.refl H8) fun a5 xs5 H9 e5 n5 k5 v5 w5 s9 => ?_
      have x9 := x8.then s9
      clear hT8 hD8 e4 n4 k4 v4 w4
      have hT9 := hT.ext x9
      have hD9 : Dom H H9 := Dom.ext x9
      try dsimp only
      refine seq_asg ?_
      refine gl_cat (S := S) (G := H) (H1 := H9) (es := odd6) hT9 hD9 (gl_var rfl e5 n5 k5 v5 w5) (gl_lst hT9 hD9 (by unfold odd6; (repeat (first | exact g_non | exact g_bl | exact g_int | exact g_str | exact g_nil | exact g_neg | refine g_cons ?_ ?_ | refine g_tup (by assumption) (by assumption) ?_ ?_ | refine g_lst (by assumption) (by assumption) ?_ ?_ | exact g_dnew (by assumption) (by assumption) | exact g_d1 (by assumption) (by assumption) | exact g_d2 (by assumption) (by assumption) | exact g_pow ⟨by decide, by decide, by decide⟩ | exact g_rep (by assumption) (by assumption) rfl (by decide) (by decide) | exact g_var rfl (by assumption) (by assumption) | (show _ ≤ 1000000; decide)))) (by decide)) (by simp only [List.length_append, List.length_cons, List.length_nil]; decide) H9 _ (Same.refl H9) fun a6 xs6 H10 e6 n6 k6 v6 w6 s10 => ?_
      have x10 := x9.then s10
      clear hT9 hD9 e5 n5 k5 v5 w5
      have hT10 := hT.ext x10
      have hD10 : Dom H H10 := Dom.ext x10
      try dsimp only
      refine seq_asg ?_
      refine gl_cat (S := S) (G := H) (H1 := H10) (es := odd7) hT10 hD10 (gl_var rfl e6 n6 k6 v6 w6) (gl_lst hT10 hD10 (by unfold odd7; (repeat (first | exact g_non | exact g_bl | exact g_int | exact g_str | exact g_nil | exact g_neg | refine g_cons ?_ ?_ | refine g_tup (by assumption) (by assumption) ?_ ?_ | refine g_lst (by assumption) (by assumption) ?_ ?_ | exact g_dnew (by assumption) (by assumption) | exact g_d1 (by assumption) (by assumption) | exact g_d2 (by assumption) (by assumption) | exact g_pow ⟨by decide, by decide, by decide⟩ | exact g_rep (by assumption) (by assumption) rfl (by decide) (by decide) | exact g_var rfl (by assumption) (by assumption) | (show _ ≤ 1000000; decide)))) (by decide)) (by simp only [List.length_append, List.length_cons, List.length_nil]; decide) H10 _ (Same.refl H10) fun a7 xs7 H11 e7 n7 k7 v7 w7 s11 => ?_
      have x11 := x10.then s11
      clear hT10 hD10 e6 n6 k6 v6 w6
      have lx : xs7.length = odd1.length + (odd2.length + 1) + odd3.length + odd4.length + odd5.length + odd6.length + odd7.length := by
        rw [k7.length]
        simp only [List.length_append, List.length_cons, List.length_nil]
      refine ⟨_, rfl, _, rfl, p, .ref a7, rfl, x11.bag, .inl ⟨a7, xs7, rfl, ne_p hp n7, .inl (SqL.of e7), by rw [lx]; decide, by rw [lx]; decide, fun i v H12 hi x => ?_⟩⟩
      obtain ⟨d1, ed, hv⟩ := k7.at' hi
      have nv : NewV H v := v7 v (List.mem_of_getElem? hi)
      refine k v d1 H12 (Is.same (hide_ext hp x) hv) nv ?_ (x11.trans x)
      have hm := List.mem_of_getElem? ed
      have all : ∀ {l : List PyData}, l.all fineB = true → ∀ e ∈ l, Fine 0 e := fun {l} h e he => fine_of (List.all_eq_true.mp h e he)
      rcases List.mem_append.mp hm with hm | hm
      · rcases List.mem_append.mp hm with hm | hm
        · rcases List.mem_append.mp hm with hm | hm
          · rcases List.mem_append.mp hm with hm | hm
            · rcases List.mem_append.mp hm with hm | hm
              · rcases List.mem_append.mp hm with hm | hm
                · exact all (l := odd1) (by decide +kernel) d1 hm
                · rcases List.mem_append.mp hm with hm | hm
                  · exact all (l := odd2) (by decide +kernel) d1 hm
                  · rw [List.mem_singleton.mp hm]
                    exact dd.fine (by decide)
              · exact all (l := odd3) (by decide +kernel) d1 hm
            · exact all (l := odd4) (by decide +kernel) d1 hm
          · exact all (l := odd5) (by decide +kernel) d1 hm
        · exact all (l := odd6) (by decide +kernel) d1 hm
      · exact all (l := odd7) (by decide +kernel) d1 hm
end
end K62
set_option Elab.async false
set_option linter.all false
set_option maxRecDepth 100000
set_option maxHeartbeats 4000000
namespace Gn
open PySem PySem.Spec L2 Quiet

/-! ### dicts of several texts, laid out -/
theorem put_eq {k : Key} {v v0 : V} {r : List (Key × V)} (nd : ∀ kv ∈ r, kv.1 ≠ k) : putK ((k, v0) :: r) k v = (k, v) :: r := by
  unfold putK
  rw [if_pos (by simp), List.map_cons, if_pos rfl]
  congr 1
  refine (List.map_congr_left fun kv h => if_neg (nd kv h)).trans (List.map_id r)
theorem put_ne {k0 k : Key} {v v0 : V} {r : List (Key × V)} (h : k0 ≠ k) : putK ((k0, v0) :: r) k v = (k0, v0) :: putK r k v := by
  unfold putK
  have e : (((k0, v0) :: r).any fun kv => decide (kv.1 = k)) = r.any fun kv => decide (kv.1 = k) := by
    rw [List.any_cons, decide_eq_false h, Bool.false_or]
  rw [e]
  split
  · rw [List.map_cons, if_neg h]
  · rfl
def keyS (p : PyData × PyData) : Str := textOf p.1
theorem are_keys {H : Hp} : ∀ {kvs : List (Key × V)} {ds : List (PyData × PyData)}, AreKv H kvs ds → kvs.map (·.1) = (ds.map keyS).map Sum.inr
  | _, [], h => by cases h; rfl
  | _, d :: ds, h => by
    cases h with
    | cons a b =>
      rw [List.map_cons, List.map_cons, List.map_cons, are_keys b]
      rfl
theorem put_are {H : Hp} {x : Str} {v : V} {d : PyData} (hv : Is H v d) : ∀ {acc : List (Key × V)} {as : List (PyData × PyData)}, AreKv H acc as → (acc.map (·.1)).Nodup →
    ∃ as', AreKv H (putK acc (.inr x) v) as' ∧ ((putK acc (.inr x) v).map (·.1)).Nodup ∧ (∀ p ∈ as', p ∈ as ∨ p = (.str x, d)) ∧ as'.length ≤ as.length + 1 ∧
      PyData.weightKv as' ≤ PyData.weightKv as + (x.length + d.weight + 2) ∧ PyData.depthKv as' ≤ max (PyData.depthKv as) d.depth ∧ ∀ k ∈ (putK acc (.inr x) v).map (·.1), k ∈ acc.map (·.1) ∨ k = .inr x
  | [], _, h, _ => by
    cases h
    have e : (PyData.str x).weight = x.length := by simp only [PyData.weight]; rfl
    have e2 : (PyData.str x).depth = 0 := by simp only [PyData.depth]
    refine ⟨[(.str x, d)], .cons hv .nil, by simp [putK], by simp, by simp, ?_, ?_, by simp [putK]⟩
    · simp only [PyData.weightKv]
      omega
    · simp only [PyData.depthKv]
      omega
  | (_, _) :: r, _, h, nd => by
    cases h with
    | @cons k0 v0 _ d0 ds a b =>
    rw [List.map_cons, List.nodup_cons] at nd
    have e : ∀ z : Str, (PyData.str z).weight = z.length := fun z => by simp only [PyData.weight]; rfl
    have e2 : ∀ z : Str, (PyData.str z).depth = 0 := fun z => by simp only [PyData.depth]
    by_cases hk : k0 = x
    · subst hk
      rw [put_eq (fun kv hkv z => nd.1 (List.mem_map.mpr ⟨kv, hkv, z⟩))]
      refine ⟨(.str k0, d) :: ds, .cons hv b, by rw [List.map_cons, List.nodup_cons]; exact nd, fun p hp => ?_, by simp, ?_, ?_, fun k hk => .inl hk⟩
      · rcases List.mem_cons.mp hp with z | z
        · exact .inr z
        · exact .inl (List.mem_cons_of_mem _ z)
      · simp only [PyData.weightKv, e]
        omega
      · simp only [PyData.depthKv, e2]
        omega
    · have ne : (Sum.inr k0 : Key) ≠ .inr x := fun z => hk (Sum.inr.inj z)
      rw [put_ne ne]
      obtain ⟨as', h1, h2, h3, h4, h5, h6, h7⟩ := put_are hv b nd.2
      refine ⟨(.str k0, d0) :: as', .cons a h1, ?_, fun p hp => ?_, by simp; omega, ?_, ?_, fun k hk => ?_⟩
      · rw [List.map_cons, List.nodup_cons]
        refine ⟨fun z => ?_, h2⟩
        rcases h7 _ z with z | z
        · exact nd.1 z
        · exact ne z
      · rcases List.mem_cons.mp hp with z | z
        · exact .inl (by rw [z]; exact List.mem_cons_self)
        · exact (h3 p z).imp (List.mem_cons_of_mem _) id
      · simp only [PyData.weightKv, e]
        omega
      · simp only [PyData.depthKv, e2]
        omega
      · rw [List.map_cons] at hk ⊢
        rcases List.mem_cons.mp hk with z | z
        · exact .inl (by rw [z]; exact List.mem_cons_self)
        · exact (h7 k z).imp (List.mem_cons_of_mem _) id
theorem merge_are {H : Hp} : ∀ {l : List (Key × V)} {ds : List (PyData × PyData)} {acc : List (Key × V)} {as : List (PyData × PyData)}, AreKv H l ds → AreKv H acc as → (acc.map (·.1)).Nodup →
    ∃ as', AreKv H (mergeK acc l) as' ∧ ((mergeK acc l).map (·.1)).Nodup ∧ ∀ p ∈ as', p ∈ as ∨ p ∈ ds
  | [], _, acc, as, h, ha, nd => ⟨as, ha, nd, fun p hp => .inl hp⟩
  | (_, _) :: r, _, acc, as, h, ha, nd => by
    cases h with
    | @cons k v _ d ds a b =>
    obtain ⟨as1, h1, h2, h3, _⟩ := put_are (x := k) a ha nd
    obtain ⟨as2, g1, g2, g3⟩ := merge_are b h1 h2
    refine ⟨as2, g1, g2, fun p hp => ?_⟩
    rcases g3 p hp with z | z
    · rcases h3 p z with z | z
      · exact .inl z
      · exact .inr (by rw [z]; exact List.mem_cons_self)
    · exact .inr (List.mem_cons_of_mem _ z)
theorem wkv_app : ∀ a b : List (PyData × PyData), PyData.weightKv (a ++ b) = PyData.weightKv a + PyData.weightKv b
  | [], b => by simp [PyData.weightKv]
  | (k, d) :: a, b => by
    simp only [List.cons_append, PyData.weightKv, wkv_app a b]
    omega
/-- some of the entries, each once -/
theorem sub_kv : ∀ {ds kds : List (PyData × PyData)}, (ds.map keyS).Nodup → (∀ p ∈ ds, p ∈ kds) → PyData.weightKv ds ≤ PyData.weightKv kds ∧ ds.length ≤ kds.length
  | [], kds, _, _ => ⟨by simp [PyData.weightKv], Nat.zero_le _⟩
  | (k, d) :: r, kds, nd, h => by
    rw [List.map_cons, List.nodup_cons] at nd
    obtain ⟨a, b, rfl⟩ := List.append_of_mem (h _ List.mem_cons_self)
    obtain ⟨h1, h2⟩ := sub_kv (ds := r) (kds := a ++ b) nd.2 fun p hp => by
      have := h p (List.mem_cons_of_mem _ hp)
      rcases List.mem_append.mp this with z | z
      · exact List.mem_append_left _ z
      · rcases List.mem_cons.mp z with z | z
        · exact absurd (List.mem_map.mpr ⟨p, hp, by rw [z]⟩) nd.1
        · exact List.mem_append_right _ z
    rw [wkv_app] at h1 ⊢
    simp only [PyData.weightKv, List.length_append, List.length_cons] at h1 h2 ⊢
    omega
theorem mem_dkv : ∀ {kds : List (PyData × PyData)} {p : PyData × PyData}, p ∈ kds → p.1.depth ≤ PyData.depthKv kds ∧ p.2.depth ≤ PyData.depthKv kds
  | (k, d) :: r, p, h => by
    simp only [PyData.depthKv]
    rcases List.mem_cons.mp h with rfl | h
    · dsimp only
      omega
    · have := mem_dkv h
      omega
theorem dkv_le {n : Nat} : ∀ {ds : List (PyData × PyData)}, (∀ p ∈ ds, p.1.depth ≤ n ∧ p.2.depth ≤ n) → PyData.depthKv ds ≤ n
  | [], _ => by simp [PyData.depthKv]
  | (k, d) :: r, h => by
    have h1 := h _ List.mem_cons_self
    have h2 := dkv_le fun p hp => h p (List.mem_cons_of_mem _ hp)
    simp only [PyData.depthKv]
    dsimp only at h1
    omega
theorem okKv_iff {n : Nat} : ∀ {ds : List (PyData × PyData)}, okKv n ds = true ↔ ∀ p ∈ ds, okD n p.1 = true ∧ okD n p.2 = true
  | [] => by simp [okKv]
  | (k, d) :: r => by
    rw [okKv, Bool.and_eq_true, Bool.and_eq_true, okKv_iff, List.forall_mem_cons]
theorem val_are {H : Hp} {x : Str} : ∀ {kvs : List (Key × V)} {kds : List (PyData × PyData)}, AreKv H kvs kds → x ∈ kds.map keyS → ∃ v d, valV kvs (.inr x : Key) = some v ∧ Is H v d ∧ (PyData.str x, d) ∈ kds
  | _, [], _, h => by cases h
  | _, (_, d) :: ds, h, hx => by
    cases h with
    | @cons k v r _ _ a b =>
    by_cases e : k = x
    · subst e
      exact ⟨v, d, valV_pos (p := ((Sum.inr k : Key), v)) rfl, a, List.mem_cons_self⟩
    · have hx' : x ∈ ds.map keyS := by
        rcases List.mem_cons.mp hx with z | z
        · exact absurd z.symm e
        · exact z
      obtain ⟨v', d', h1, h2, h3⟩ := val_are b hx'
      exact ⟨v', d', by rw [valV_neg (p := ((Sum.inr k : Key), v)) fun z => e (Sum.inr.inj z)]; exact h1, h2, List.mem_cons_of_mem _ h3⟩
theorem paired_imp {α β : Type} {F G : α → β → Prop} : ∀ {ps : List α} {l : List β}, PySem.Paired F ps l → (∀ q ∈ ps, ∀ kv, F q kv → G q kv) → PySem.Paired G ps l
  | _, _, .nil, _ => .nil
  | _, _, .cons h t, k => .cons (k _ List.mem_cons_self _ h) (paired_imp t fun q hq => k q (List.mem_cons_of_mem _ hq))
theorem paired_snoc {α β : Type} {G : α → β → Prop} {q : α} {kv : β} (g : G q kv) : ∀ {ps : List α} {l : List β}, PySem.Paired G ps l → PySem.Paired G (ps ++ [q]) (l ++ [kv])
  | _, _, .nil => .cons g .nil
  | _, _, .cons h t => .cons h (paired_snoc g t)
theorem arekv_snoc {H : Hp} {z : Str} {v : V} {d : PyData} (h : Is H v d) : ∀ {l : List (Key × V)} {dl : List (PyData × PyData)}, AreKv H l dl → AreKv H (l ++ [(.inr z, v)]) (dl ++ [(.str z, d)])
  | _, [], k => by
    cases k
    exact .cons h .nil
  | _, _ :: _, k => by
    cases k with
    | cons a b => exact .cons a (arekv_snoc h b)
end Gn
set_option Elab.async false
set_option linter.all false
set_option maxRecDepth 100000
set_option maxHeartbeats 4000000
namespace K62
open PySem PySem.Spec L2 Quiet Gn

/-- a value with something otherwise, of a nesting below m -/
def spBent (m : Nat) : Sp := fun vs H Q _ => ∃ (p : Addr) (S : Addr → Bool) (v : V) (d : PyData) (n : Nat), vs = [.ref p, v] ∧ Bag H p ∧ S p = true ∧ Trk S H ∧ Is (hide S H) v d ∧ okD n d = true ∧ n ≤ 5 ∧ d.weight ≤ 300000 ∧ d.depth < m ∧
  ∀ (v' : V) (d' : PyData) (H' : Hp), Is (hide S H') v' d' → okD (n + 1) d' = true → d'.weight ≤ 2 * d.weight + 6000 → d'.depth ≤ d.depth + 10 → Ext p H H' → Q v' H'
theorem int_weight {i : Int} (h : i.natAbs < 10 ^ 40) : (PyData.int i).weight ≤ 200 := by
  simp only [PyData.weight]
  split
  · omega
  · have : i.natAbs.log2 < 133 := by
      by_cases z : i.natAbs = 0
      · rw [z]; decide
      · exact (Nat.log2_lt z).mpr (Nat.lt_of_lt_of_le h (by decide))
    omega
section
variable {P : Program} {w : World} {K : PySem.W.Frag} {mg : Str → Option Value} {base : Heap} {A : Ad} {D : Fd}
theorem bent_step (T : Txt K mg A D) (m : Nat) (ih : FnOk P w K mg base CX0 (4 + m) A._law_bent D._law_bent ["bag", "thing"] (spBent m)) : FnOk P w K mg base CX0 (4 + m + 1) A._law_bent D._law_bent ["bag", "thing"] (spBent (m + 1)) := by
  refine T.f__law_bent.ok sc__law_bent (fun vs H Q E h => ?_) (fun cdv AA outer s H vs Q E hr h => ?_)
  · obtain ⟨p, S, v, d, n, rfl, _⟩ := h
    rfl
  · obtain ⟨p, S, v, d, n, rfl, hB, hp, hT, hd, ok, hn, hw, hm, k⟩ := h
    refine ⟨_, (pss_cons (ps_set (i := 2) sc__law_bent.nd rfl (Or.inl rfl) (by exact (pe_call (ok__law_take T) (hr.mono (by omega)) rfl T.m__law_take T.f__law_take.kp (b__law_take T) .nil pass0 (pa_cons (pv 0) (pa_cons pe_int pa_nil)))))
  (C8.pss_cut (ps_if (PW.pt (pw_and (pt_val (pe_callB (isiK K rfl) (by rfl) T.b_isinstance (by decide +kernel) (pa_cons (pv 1) (pa_cons (pe_bltn (v := .ty "dict") (by rfl) T.b_dict (by decide +kernel) rfl) pa_nil)))) (pw_and (pt_cmpR op_gt (pe_callB (lenK K rfl) (by rfl) T.b_len (by decide +kernel) (pa_cons (pv 1) pa_nil)) pe_int (nomark _)) (pw_and1 (pt_cmpR op_lt (pv 2) pe_int (nomark _)))))) (pss_cons (ps_set (i := 3) sc__law_bent.nd rfl (Or.inr rfl) (by exact (pe_call (ok__law_one T) (hr.mono (by omega)) rfl T.m__law_one T.f__law_one.kp (b__law_one T) .nil pass0 (pa_cons (pv 0) (pa_cons (pe_callB (call_sortedD rfl) (by rfl) T.b_sorted (by decide +kernel) (pa_cons (pv 1) pa_nil)) pa_nil)))))
  (pss_cons (ps_set (i := 4) sc__law_bent.nd rfl (Or.inl rfl) (by exact (pe_callTy (call_dictP rfl) (by rfl) T.b_dict (by decide +kernel) (pa_cons (pe_lock (pe_lc (own := [("one", 8)]) rfl sc__law_bent.nd (pi_keys (pv 1)) (blkOk_by (own := [("one", 8)]) (N := n__law_bent) (sc := defScope s__law_bent) (by decide +kernel)) (fun _ _ _ _ _ => (pg_name (i := 8) sc__law_bent.nd rfl (Or.inl rfl))) (fun _ _ _ _ _ => (pts_one (pt_cmpR (op_neU (units_of hr)) (pv 8) (pv 3) (nomark _)))) (fun _ _ _ _ _ => (pe_tup (pa_cons (pv 8) (pa_cons (pe_dget (hu_of hr) (pv 1) (pv 8) (fun _ _ => rfl)) pa_nil)))))) pa_nil))))
  (C8.pss_cut (ps_if (pt_cmpR op_gt (pv 2) pe_int (nomark _)) (pss_cons (ps_set (i := 5) sc__law_bent.nd rfl (Or.inl rfl) (by exact (pe_ix (ixK K rfl) (pe_lst (pa_cons (pv 3) (pa_cons (pv 3) (pa_cons (pe_op (addK K rfl) (pv 3) pe_str) (pa_cons (pe_upper (pv 3)) (pa_cons (pv 3) pa_nil)))))) (pv 2) (fun _ _ => rfl))))
  (pss_one (ps_dput (hu_of hr) (pv 4) (pv 5) (pe_ifExp (pt_cmpR (inK K rfl) (pv 2) (pe_tup (pa_cons pe_int (pa_cons pe_int pa_nil))) (by rfl)) (pe_call ih (hr.mono (by omega)) rfl T.m__law_bent T.f__law_bent.kp (b__law_bent T) .nil pass0 (pa_cons (pv 0) (pa_cons (pe_dget (hu_of hr) (pv 1) (pv 3) (fun _ _ => rfl)) pa_nil))) (pe_dget (hu_of hr) (pv 1) (pv 3) (fun _ _ => rfl))) rfl))) pss_nil)
  (pss_one (ps_ret (pv 4)))))) pss_nil)
  (C8.pss_cut (ps_if (PW.pt (pw_or (pt_not (pt_val (pe_callB (isiK K rfl) (by rfl) T.b_isinstance (by decide +kernel) (pa_cons (pv 1) (pa_cons (pe_tup (pa_cons (pe_bltn (v := .ty "list") (by rfl) T.b_list (by decide +kernel) rfl) (pa_cons (pe_bltn (v := .ty "tuple") (by rfl) T.b_tuple (by decide +kernel) rfl) pa_nil))) pa_nil))))) (pw_or (pt_cmpR (eqK K rfl (units_of hr)) (pe_callB (lenK K rfl) (by rfl) T.b_len (by decide +kernel) (pa_cons (pv 1) pa_nil)) pe_int (nomark _)) (pw_or1 (pt_cmpR (eqK K rfl (units_of hr)) (pv 2) pe_int (nomark _)))))) (C8.pss_cut (ps_if (PW.pt (pw_and (pt_val (pe_callB (isiK K rfl) (by rfl) T.b_isinstance (by decide +kernel) (pa_cons (pv 1) (pa_cons (pe_bltn (v := .ty "str") (by rfl) T.b_str (by decide +kernel) rfl) pa_nil)))) (pw_and1 (pt_cmpR op_lt (pv 2) pe_int (nomark _))))) (pss_one (ps_ret (pe_ix (ixK K rfl) (pe_lst (pa_cons (pe_op (addK K rfl) (pv 1) pe_str) (pa_cons (pe_slice (slK K rfl) (pv 1) po_none (po_some (pe_un un_neg pe_int))) (pa_cons pe_str pa_nil)))) (pv 2) (fun _ _ => rfl)))) pss_nil)
  (C8.pss_cut (ps_if (PW.pt (pw_and (pt_val (pe_callB (isiK K rfl) (by rfl) T.b_isinstance (by decide +kernel) (pa_cons (pv 1) (pa_cons (pe_bltn (v := .ty "int") (by rfl) T.b_int (by decide +kernel) rfl) pa_nil)))) (pw_and (pt_not (pt_val (pe_callB (isiK K rfl) (by rfl) T.b_isinstance (by decide +kernel) (pa_cons (pv 1) (pa_cons (pe_bltn (v := .ty "bool") (by rfl) T.b_bool (by decide +kernel) rfl) pa_nil))))) (pw_and1 (pt_cmpR op_lt (pv 2) pe_int (nomark _)))))) (pss_one (ps_ret (pe_ix (ixK K rfl) (pe_lst (pa_cons (pe_op (addK K rfl) (pv 1) pe_int) (pa_cons (pe_op op_sub (pv 1) pe_int) (pa_cons (pe_callTy call_str_int (by rfl) T.b_str (by decide +kernel) (pa_cons (pv 1) pa_nil)) pa_nil)))) (pv 2) (fun _ _ => rfl)))) pss_nil)
  (pss_one (ps_ret (pe_call (ok__law_odd T) (hr.mono (by omega)) rfl T.m__law_odd T.f__law_odd.kp (b__law_odd T) .nil pass0 (pa_cons (pv 0) pa_nil)))))) pss_nil)
  (pss_cons (ps_par (i := 6) (j := 7) (by rfl) sc__law_bent.nd rfl rfl (by decide) rfl rfl (pa_cons (pe_call (ok__law_take T) (hr.mono (by omega)) rfl T.m__law_take T.f__law_take.kp (b__law_take T) .nil pass0 (pa_cons (pv 0) (pa_cons (pe_callB (lenK K rfl) (by rfl) T.b_len (by decide +kernel) (pa_cons (pv 1) pa_nil)) pa_nil))) (pa_cons (pe_callTy (listK K rfl) (by rfl) T.b_list (by decide +kernel) (pa_cons (pv 1) pa_nil)) pa_nil)) (by rfl))
  (C8.pss_cut (ps_if (pt_cmpR (eqK K rfl (units_of hr)) (pv 2) pe_int (nomark _)) (pss_one (ps_expr (pe_bm PySem.F.plainAttrs_list PySem.F.slot_list_pop PySem.F.type_list_pop mt_popAt (pv 7) (pa_cons (pv 6) pa_nil)))) (pss_one (ps_if (pt_cmpR (eqK K rfl (units_of hr)) (pv 2) pe_int (nomark _)) (pss_one (ps_expr (pe_bm PySem.F.plainAttrs_list PySem.F.slot_list_insert PySem.F.type_list_insert mt_insert (pv 7) (pa_cons (pv 6) (pa_cons (pe_ix (ixK K rfl) (pv 1) (pv 6) (fun _ _ => rfl)) pa_nil))))) (pss_one (ps_if (pt_cmpR (eqK K rfl (units_of hr)) (pv 2) pe_int (nomark _)) (pss_one (ps_ret (pe_ifExp (pt_val (pe_callB (isiK K rfl) (by rfl) T.b_isinstance (by decide +kernel) (pa_cons (pv 1) (pa_cons (pe_bltn (v := .ty "tuple") (by rfl) T.b_tuple (by decide +kernel) rfl) pa_nil)))) (pv 7) (pe_callTy (tupleK K rfl) (by rfl) T.b_tuple (by decide +kernel) (pa_cons (pv 7) pa_nil))))) (pss_one (ps_asg (by exact (pe_call ih (hr.mono (by omega)) rfl T.m__law_bent T.f__law_bent.kp (b__law_bent T) .nil pass0 (pa_cons (pv 0) (pa_cons (pe_ix (ixK K rfl) (pv 7) (pv 6) (fun _ _ => rfl)) pa_nil)))) (pg_sub (pv 7) (pv 6) set_list))))))))
  (pss_one (ps_ret (pe_ifExp (pt_val (pe_callB (isiK K rfl) (by rfl) T.b_isinstance (by decide +kernel) (pa_cons (pv 1) (pa_cons (pe_bltn (v := .ty "tuple") (by rfl) T.b_tuple (by decide +kernel) rfl) pa_nil)))) (pe_callTy (tupleK K rfl) (by rfl) T.b_tuple (by decide +kernel) (pa_cons (pv 7) pa_nil)) (pv 7))))))))), ?_⟩
    refine ⟨_, rfl, p, 6, rfl, by decide, by decide, hB, fun way H1 w0 w1 x1 => ?_⟩
    have hd1 : Is (hide S H1) v d := Is.same (hide_ext hp x1) hd
    have hf1 : Is H1 v d := Is.same hide_in hd1
    have small : Small d := Nat.le_trans hw (by decide)
    refine ⟨fun σ H' => σ = [some (.ref p), some v, some (.int way), none, none, none, none, none, none] ∧ H' = H1, ?_, ?_⟩
    · -- a dict
      refine ⟨_, rfl, q_isi hf1 (k_dic d) ⟨_, rfl, if_b (fun e => ?_) (fun e => ?_)⟩⟩
      · obtain ⟨kds, rfl⟩ : ∃ kds, d = .dict kds := by
          cases d <;> first | exact ⟨_, rfl⟩ | exact absurd e Bool.false_ne_true
        cases hd1 with
        | @dic a kvs _ ha0 hkv =>
        have ha : H1 a = some (.dK kvs) := hide_in _ _ ha0
        have nSa : S a = false := (hide_some ha0).1
        refine ⟨_, rfl, .inr ⟨a, kvs, rfl, ha, _, _, rfl, rfl, _, rfl, if_b (fun e0 => ?_) (fun _ => ⟨rfl, rfl⟩)⟩⟩
        refine ⟨_, rfl, _, _, rfl, rfl, _, rfl, if_b (fun ew => ?_) (fun _ => ⟨rfl, rfl⟩)⟩
        have w5 : way < 5 := of_decide_eq_true ew
        obtain ⟨ok1, ok2⟩ : kds.length ≤ 12 + n ∧ okKv n kds = true := by simpa [okD] using ok
        have okm := okKv_iff.mp ok2
        have hks := are_keys hkv
        have kl : kvs.length = kds.length := by
          have := congrArg List.length hks
          simpa using this
        have npos : 0 < kvs.length := by
          have := of_decide_eq_true e0
          omega
        have nap : a ≠ p := ne_p hp nSa
        have eW : (PyData.dict kds).weight = PyData.weightKv kds := by simp only [PyData.weight]
        have eD : (PyData.dict kds).depth = PyData.depthKv kds + 1 := by simp only [PyData.depth]
        refine ⟨_, rfl, _, rfl, a, kvs, kds.map keyS, rfl, .inl ha, hks, by rw [List.length_map]; omega, fun ys q0 pe _ hq0 => ?_⟩
        have x2 : Ext p H (upd H1 q0 (.lst (ys.map V.str))) := x1.then (same_upd hq0)
        have yl : ys.length = kvs.length := by rw [pe.length_eq, List.length_map, kl]
        refine ⟨p, .ref q0, rfl, x2.bag, .inl ⟨q0, ys.map V.str, rfl, x1.bag.ne hq0, .inl (SqL.of upd_same), by rw [List.length_map, yl]; exact npos, by rw [List.length_map, yl]; omega, fun i u H3 hi x3' => ?_⟩⟩
        obtain ⟨key, rfl, hkm⟩ : ∃ key, u = V.str key ∧ key ∈ kds.map keyS := by
          rw [List.getElem?_map] at hi
          cases hx : ys[i]? with
          | none => rw [hx] at hi; cases hi
          | some x =>
            rw [hx] at hi
            cases hi
            exact ⟨x, rfl, pe.mem_iff.mp (List.mem_of_getElem? hx)⟩
        have x3 := x2.trans x3'
        have s13 : Same (hide S H1) (hide S H3) := (hide_mono (same_upd hq0)).trans (hide_ext hp x3')
        have ha3 : H3 a = some (.dK kvs) := x3'.keep _ _ nap (same_upd hq0 _ _ ha)
        have hkv3 : AreKv (hide S H3) kvs kds := AreKv.same s13 hkv
        obtain ⟨v0, d0, vk, h03, hm0⟩ := val_are hkv3 hkm
        obtain ⟨okk, okd⟩ := okm _ hm0
        obtain ⟨kl', ko⟩ := ok_str.mp okk
        have w0 : key.length + d0.weight + 2 ≤ PyData.weightKv kds := by
          have := (sub_kv (ds := [(PyData.str key, d0)]) (kds := kds) (by simp) (fun p hp => by rw [List.mem_singleton.mp hp]; exact hm0)).1
          have e : (PyData.str key).weight = key.length := by simp only [PyData.weight]; rfl
          simp only [PyData.weightKv, e] at this
          omega
        have dp0 : d0.depth ≤ PyData.depthKv kds := (mem_dkv hm0).2
        clear x2 x3' hq0 hi ha0 s13
        -- all others of its keys
        refine ⟨a, .dK kvs, ha3, trivial, fun od => ?_⟩
        refine ⟨_, rfl, a, od, rfl, .inl ⟨kvs, upd_same, fun Dd hDd => ?_⟩⟩
        have nDa : Dd ≠ a := fun z => by rw [z, upd_same] at hDd; cases hDd
        refine lc_it (G := fun H => H a = some (.frz od (.dK kvs))) (Y := fun i H x H' => H' = H ∧ ∃ k v, kvs[i]? = some (k, v) ∧ x = kV k) walk_keys
          (fun i H4 => ∃ (ps : List Addr) (l : List (Key × V)) (dl : List (PyData × PyData)), H4 Dd = some (.lst (ps.map V.ref)) ∧ PySem.Paired (fun q kv => H4 q = some (.tup [kV kv.1, kv.2])) ps l ∧ AreKv (hide S H3) l dl ∧ (∀ p ∈ dl, p ∈ kds ∧ keyS p ≠ key) ∧ ps.length ≤ i ∧ (∀ q ∈ ps, q ≠ Dd ∧ q ≠ a) ∧ Same (upd H3 a (.frz od (.dK kvs))) H4)
          ⟨[], [], [], upd_same, .nil, .nil, fun p h => (by cases h), Nat.le_refl _, fun q h => (by cases h), same_upd hDd⟩ (fun i H4 _ ⟨_, _, _, _, _, _, _, _, _, s4⟩ => s4 _ _ upd_same) ?_ ?_
        · rintro i c H4 H5 hi ⟨ps, l, dl, hl, hP, hA, hG, pl, pn, s4⟩ ⟨rfl, k1, v1, hk1, rfl⟩
          have hz : ∃ z, k1 = .inr z ∧ z ∈ kds.map keyS := by
            have := congrArg (fun l => l[i]?) hks
            simp only [List.getElem?_map, hk1, Option.map_some] at this
            cases hx : kds[i]? with
            | none => rw [hx] at this; cases this
            | some y =>
              rw [hx] at this
              exact ⟨keyS y, Option.some.inj this, List.mem_map.mpr ⟨y, List.mem_of_getElem? hx, rfl⟩⟩
          obtain ⟨z, rfl, hzm⟩ := hz
          obtain ⟨vz, dz, vkz, hvz, hmz⟩ := val_are hkv3 hzm
          refine ⟨rfl, _, rfl, _, rfl, q_nes ⟨_, rfl, if_b (fun e => ?_) (fun e => ?_)⟩⟩
          · have ne : z ≠ key := of_decide_eq_false (bnot_t e)
            refine ⟨_, rfl, _, rfl, _, rfl, a, vz, rfl, .inl ⟨kvs, .inr z, .inr ⟨od, s4 _ _ upd_same⟩, rfl, vkz.symm⟩, by show 2 ≤ sizeLine; decide, fun q hq => ?_⟩
            have s5 := same_upd (o := .tup [V.str z, vz]) hq
            have nqD : q ≠ Dd := fun e => by rw [e, hl] at hq; cases hq
            have nqa : q ≠ a := fun e => by rw [e, s4 _ _ upd_same] at hq; cases hq
            have keep : ∀ q', q' ≠ Dd → ∀ o, upd H5 q (.tup [V.str z, vz]) q' = some o → upd (upd H5 q (.tup [V.str z, vz])) Dd (.lst (ps.map V.ref ++ [V.ref q])) q' = some o := fun q' n o e => by rw [upd_ne n]; exact e
            refine ⟨_, s5 _ _ hl, sz2 (by rw [List.length_map]; have := hi; omega), ps ++ [q], l ++ [(.inr z, vz)], dl ++ [(.str z, dz)], by rw [upd_same, List.map_append]; rfl, ?_, ?_, fun p hp' => ?_, by rw [List.length_append]; show ps.length + 1 ≤ i + 1; omega, fun q' hq' => ?_, fun b o eb => ?_⟩
            · refine paired_snoc (by rw [upd_ne nqD]; exact upd_same) (paired_imp hP fun q' hq' kv e => ?_)
              rw [upd_ne (pn q' hq').1]
              exact s5 _ _ e
            · exact arekv_snoc hvz hA
            · rcases List.mem_append.mp hp' with h | h
              · exact hG p h
              · rw [List.mem_singleton.mp h]
                exact ⟨hmz, ne⟩
            · rcases List.mem_append.mp hq' with h | h
              · exact pn q' h
              · rw [List.mem_singleton.mp h]
                exact ⟨nqD, nqa⟩
            · rw [upd_ne (ne_of_none eb hDd)]
              exact s5 _ _ (s4 _ _ eb)
          · exact ⟨ps, l, dl, hl, hP, hA, hG, by omega, pn, s4⟩
        · rintro H4 ⟨ps, l, dl, hl, hP, hA, hG, pl, pn, s4⟩
          have fz : H4 a = some (.frz od (.dK kvs)) := s4 _ _ upd_same
          refine ⟨fz, ?_⟩
          have s5 : Same H3 (upd H4 a (.dK kvs)) := fun b o e => by
            by_cases z : b = a
            · rw [z, upd_same, ← ha3, ← z, e]
            · rw [upd_ne z]
              exact s4 _ _ (by rw [upd_ne z]; exact e)
          have hl5 : upd H4 a (.dK kvs) Dd = some (.lst (ps.map V.ref)) := by
            rw [upd_ne nDa]
            exact hl
          have hP5 : PySem.Paired (fun q kv => SqT K (upd H4 a (.dK kvs)) q [kV kv.1, kv.2]) ps l := paired_imp hP fun q hq kv e => SqT.of (by rw [upd_ne (pn q hq).2]; exact e)
          generalize upd H4 a (.dK kvs) = H5 at s5 hl5 hP5 ⊢
          clear fz s4 hl hDd hP
          have x5 := x3.then s5
          have ha5 := s5 _ _ ha3
          have h05 : Is (hide S H5) v0 d0 := Is.same (hide_mono s5) h03
          have hA5 : AreKv (hide S H5) l dl := AreKv.same (hide_mono s5) hA
          have hT5 := hT.ext x5
          obtain ⟨ds1, A1, nd1, m1⟩ := merge_are hA5 .nil List.nodup_nil
          have m1 : ∀ p ∈ ds1, p ∈ kds ∧ keyS p ≠ key := fun p hp => by
            rcases m1 p hp with h | h
            · cases h
            · exact hG p h
          have nd1' : (ds1.map keyS).Nodup := by
            rw [are_keys A1] at nd1
            exact (List.pairwise_map.mp nd1).imp fun h z => h (by rw [z])
          have all2 := sub_kv (ds := (PyData.str key, d0) :: ds1) (kds := kds) (by
            rw [List.map_cons, List.nodup_cons]
            refine ⟨fun h => ?_, nd1'⟩
            obtain ⟨q, hq, e⟩ := List.mem_map.mp h
            exact (m1 q hq).2 e) (fun p hp => by
            rcases List.mem_cons.mp hp with h | h
            · rw [h]; exact hm0
            · exact (m1 p h).1)
          have ekw : (PyData.str key).weight = key.length := by simp only [PyData.weight]; rfl
          have wAll : key.length + d0.weight + 2 + PyData.weightKv ds1 ≤ PyData.weightKv kds := by
            have := all2.1
            simp only [PyData.weightKv, ekw] at this
            exact this
          have lAll : ds1.length + 1 ≤ kds.length := all2.2
          have dAll : PyData.depthKv ds1 ≤ PyData.depthKv kds := dkv_le fun p hp => mem_dkv (m1 p hp).1
          have lF : (mergeK [] l).length = ds1.length := by
            have := congrArg List.length (are_keys A1)
            simpa using this
          refine ⟨Dd, ps, l, rfl, SqL.of hl5, hP5, fun q hq => ?_⟩
          generalize mergeK [] l = F at A1 nd1 lF ⊢
          have nSq : S q = false := hT5.no hq
          have nqp : q ≠ p := x5.bag.ne hq
          have hqH : H q = none := Dom.ext x5 q hq
          have s6 : Same H5 (upd H5 q (.dK F)) := same_upd hq
          have hq6 : upd H5 q (.dK F) q = some (.dK F) := upd_same
          have h06 : ∀ {H7 : Hp}, Same H5 H7 → Same (hide S H5) (hide (fun b => S b || b == q) H7) := fun {H7} s b o' e => by
            obtain ⟨n1, e1⟩ := hide_some e
            have nb : b ≠ q := fun z => by rw [z, hq] at e1; cases e1
            rw [hide_ne (by simp [n1, nb])]
            exact s _ _ e1
          generalize upd H5 q (.dK F) = H6 at s6 hq6 ⊢
          have x6 := x5.then s6
          refine ⟨fun σ H' => ∃ (kvs' : List (Key × V)) (kds' : List (PyData × PyData)) (t5 : Option V), σ = [some (.ref p), some (.ref a), some (.int way), some (.str key), some (.ref q), t5, none, none, none] ∧ H' q = some (.dK kvs') ∧ AreKv (hide S H') kvs' kds' ∧ okD (n + 1) (.dict kds') = true ∧
            (PyData.dict kds').weight ≤ 2 * (PyData.dict kds).weight + 6000 ∧ (PyData.dict kds').depth ≤ (PyData.dict kds).depth + 10 ∧ Ext p H H', ?_, ?_⟩
          · refine ⟨_, rfl, _, _, rfl, rfl, _, rfl, if_b (fun ew0 => ?_) (fun _ => ?_)⟩
            rotate_left
            · refine ⟨F, ds1, none, rfl, hq6, AreKv.same (hide_mono s6) A1, ?_, ?_, ?_, x6⟩
              · simp only [okD, Bool.and_eq_true, decide_eq_true_eq]
                exact ⟨by omega, okKv_iff.mpr fun p hp => ⟨okD_mono _ (okm p (m1 p hp).1).1, okD_mono _ (okm p (m1 p hp).1).2⟩⟩
              · rw [eW]
                simp only [PyData.weight]
                omega
              · rw [eD]
                simp only [PyData.depth]
                omega
            have w0' : 0 < way := of_decide_eq_true ew0
            have oa : okT (Str.ofString "a") := fun c hc => by rw [List.mem_singleton.mp (show c ∈ [97] from hc)]; decide
            have lka : (key ++ Str.ofString "a").length = key.length + 1 := by rw [len_app]; rfl
            obtain ⟨ul, uo⟩ := up_ok ko
            obtain ⟨z, hz, zl, zo⟩ : ∃ z : Str, [V.str key, V.str key, V.str (key ++ Str.ofString "a"), V.str (Txt.upper key), V.str key][way.toNat]? = some (.str z) ∧ z.length ≤ key.length + 1 ∧ okT z := by
              have hwv : way = 1 ∨ way = 2 ∨ way = 3 ∨ way = 4 := by omega
              rcases hwv with rfl | rfl | rfl | rfl
              · exact ⟨_, rfl, by omega, ko⟩
              · exact ⟨_, rfl, by omega, okT_app ko oa⟩
              · exact ⟨_, rfl, by omega, uo⟩
              · exact ⟨_, rfl, by omega, ko⟩
            refine ⟨_, rfl, _, rfl, _, rfl, .inr (.inl ⟨_, _, rfl, rfl, sz1 (by show key.length + 1 ≤ _; omega), ?_⟩)⟩
            refine ⟨_, rfl, ⟨_, rfl⟩, key, rfl, rfl, by omega, ?_⟩
            refine ⟨_, rfl, by show 5 ≤ sizeLine; decide, fun ps hps => ⟨_, rfl, q_ix (i := way.toNat) (.inl (SqL.of upd_same)) (by omega) hz ?_⟩⟩
            have s7 : Same H6 (upd H6 ps (.lst [V.str key, V.str key, V.str (key ++ Str.ofString "a"), V.str (Txt.upper key), V.str key])) := same_upd hps
            generalize upd H6 ps (.lst [V.str key, V.str key, V.str (key ++ Str.ofString "a"), V.str (Txt.upper key), V.str key]) = H7 at s7 ⊢
            have fin : ∀ (v' : V) (d' : PyData) (H8 : Hp), Ext p H H8 → H8 q = some (.dK F) → AreKv (hide (fun b => S b || b == q) H8) F ds1 → Is (hide (fun b => S b || b == q) H8) v' d' → okD (n + 1) d' = true → d'.weight ≤ 2 * d0.weight + 6000 → d'.depth ≤ d0.depth + 10 →
                ∃ kds', upd H8 q (.dK (putK F (.inr z) v')) q = some (.dK (putK F (.inr z) v')) ∧ AreKv (hide S (upd H8 q (.dK (putK F (.inr z) v')))) (putK F (.inr z) v') kds' ∧ okD (n + 1) (.dict kds') = true ∧
                  (PyData.dict kds').weight ≤ 2 * (PyData.dict kds).weight + 6000 ∧ (PyData.dict kds').depth ≤ (PyData.dict kds).depth + 10 ∧ Ext p H (upd H8 q (.dK (putK F (.inr z) v'))) := fun v' d' H8 x8 e8 hF8 hv' ok' w' dp' => by
              obtain ⟨as', a1, a2, a3, a4, a5, a6, _⟩ := put_are (x := z) hv' hF8 nd1
              refine ⟨as', upd_same, AreKv.same (fun b o e => ?_) a1, ?_, ?_, ?_, Ext.over hB x8 hqH⟩
              · obtain ⟨n1, e1⟩ := hide_some e
                have n2 : S b = false ∧ b ≠ q := by simpa using n1
                rw [hide_ne n2.1, upd_ne n2.2]
                exact e1
              · simp only [okD, Bool.and_eq_true, decide_eq_true_eq]
                refine ⟨by omega, okKv_iff.mpr fun p hp => ?_⟩
                rcases a3 p hp with h | h
                · exact ⟨okD_mono _ (okm p (m1 p h).1).1, okD_mono _ (okm p (m1 p h).1).2⟩
                · rw [h]
                  exact ⟨ok_str.mpr ⟨by omega, zo⟩, ok'⟩
              · rw [eW]
                simp only [PyData.weight]
                omega
              · rw [eD]
                simp only [PyData.depth]
                omega
            have lFs : F.length < sizeLine := sz2 (by omega)
            refine ⟨_, rfl, by show 2 ≤ sizeLine; decide, fun pt hpt => .inl ⟨pt, [.int 1, .int 4], rfl, .inr (SqT.of upd_same), rfl, rfl, _, rfl, if_b (fun ein => ?_) (fun ein => ?_)⟩⟩
            · have s8 := s7.trans (same_upd (o := .tup [.int 1, .int 4]) hpt)
              have s68 := s6.trans s8
              refine ⟨_, rfl, _, rfl, _, rfl, a, v0, rfl, .inl ⟨_, .inr key, .inl (s68 _ _ ha5), rfl, vk.symm⟩, ?_⟩
              have hpS : (fun b => S b || b == q) p = true := by simp [hp]
              refine ⟨p, fun b => S b || b == q, v0, d0, n, rfl, (x6.then s8).bag, hpS, fun b hb => ?_, Is.same (h06 s68) h05, okd, hn, by omega, by omega, fun v' d' H9 hv' ok' w' dp' x9 => ?_⟩
              · have hb' : S b = true ∨ b = q := by simpa using hb
                rcases hb' with h | h
                · exact (hT5.same s68) b h
                · exact ⟨_, by rw [h]; exact s8 _ _ hq6⟩
              · have hF9 : AreKv (hide (fun b => S b || b == q) H9) F ds1 := AreKv.same (hide_ext hpS x9) (AreKv.same (h06 s68) A1)
                obtain ⟨kds', f1, f2, f3, f4, f5, f6⟩ := fin v' d' H9 ((x6.then s8).trans x9) (x9.keep _ _ nqp (s8 _ _ hq6)) hF9 hv' ok' w' dp'
                exact ⟨_, rfl, _, rfl, q, _, rfl, .inl ⟨F, .inr z, x9.keep _ _ nqp (s8 _ _ hq6), rfl, lFs, rfl⟩, _, _, _, rfl, f1, f2, f3, f4, f5, f6⟩
            · have s8 := s7.trans (same_upd (o := .tup [.int 1, .int 4]) hpt)
              have s68 := s6.trans s8
              obtain ⟨kds', f1, f2, f3, f4, f5, f6⟩ := fin v0 d0 _ (x6.then s8) (s8 _ _ hq6) (AreKv.same (h06 s68) A1) (Is.same (h06 s68) h05) (okD_mono _ okd) (by omega) (by omega)
              exact ⟨_, rfl, _, rfl, a, v0, rfl, .inl ⟨_, .inr key, .inl (s68 _ _ ha5), rfl, vk.symm⟩, _, rfl, _, rfl, q, _, rfl, .inl ⟨F, .inr z, s8 _ _ hq6, rfl, lFs, rfl⟩, _, _, _, rfl, f1, f2, f3, f4, f5, f6⟩
          · rintro σ H7 ⟨kvs', kds', t5, rfl, hq7, hA7, o7, w7, d7, x7⟩
            exact ⟨_, rfl, k (.ref q) (.dict kds') H7 (.dic (by rw [hide_ne nSq]; exact hq7) hA7) o7 w7 d7 x7⟩
      · exact ⟨rfl, rfl⟩
    · rintro σ H' ⟨rfl, rfl⟩
      -- any value
      have odd : ∀ H2, Ext p H H2 → spOdd [.ref p] H2 Q (fun _ _ _ => False) := fun H2 x2 => ⟨p, S, rfl, x2.bag, hp, hT.ext x2, fun v' d' H' hv nv fn x' =>
        k v' d' H' hv (okD_more (Nat.zero_le _) fn.ok) (by have := fn.w; have e : wB 0 = 5000 := rfl; omega) (by have := fn.dp; have e : dB 0 = 10 := rfl; omega) (x2.trans x')⟩
      refine ⟨fun σ H2 => σ = [some (.ref p), some v, some (.int way), none, none, none, none, none, none] ∧ Ext p H H2 ∧ Same H' H2 ∧ way ≠ 5 ∧ ∃ ds, (d = .list ds ∨ d = .tuple ds) ∧ ds ≠ [], ?_, ?_⟩
      · -- no list, no tuple, none in it
        refine ⟨_, rfl, by show 2 ≤ sizeLine; decide, fun tp htp => ?_⟩
        have s2 : Same H' (upd H' tp (.tup [.ty "list", .ty "tuple"])) := same_upd htp
        have x2 := x1.then s2
        refine q_isi2 (Is.same s2 hf1) upd_same (k_lst d) (k_tup d) ⟨_, rfl, ?_⟩
        by_cases es : (iLst d || iTup d) = true
        · obtain ⟨ds, hds⟩ : ∃ ds, d = .list ds ∨ d = .tuple ds := by
            cases d <;> first | exact ⟨_, .inl rfl⟩ | exact ⟨_, .inr rfl⟩ | exact absurd es Bool.false_ne_true
          obtain ⟨a, xs, rfl, hS, hA⟩ : ∃ a xs, v = .ref a ∧ Sq K H' a xs ∧ Are (hide S H') xs ds := by
            rcases hds with rfl | rfl
            · cases hd1 with
              | lst h1 h2 => exact ⟨_, _, rfl, .inl (SqL.of (hide_in _ _ h1)), h2⟩
            · cases hd1 with
              | tup h1 h2 => exact ⟨_, _, rfl, .inr (SqT.of (hide_in _ _ h1)), h2⟩
          have hf2 := Is.same s2 hf1
          rw [es]
          refine iteF ?_
          generalize upd H' tp (.tup [.ty "list", .ty "tuple"]) = H2 at s2 x2 hf2 ⊢
          have la := hA.length
          have nos : ¬ iStr d = true := by rcases hds with rfl | rfl <;> exact Bool.false_ne_true
          have noi : ¬ iInt d = true := by rcases hds with rfl | rfl <;> exact Bool.false_ne_true
          refine ⟨_, rfl, q_lenSq (hS.same s2) (q_eqi ⟨_, rfl, if_b (fun e0 => ?_) (fun e0 => ?_)⟩)⟩
          · skip
            refine ⟨fun σ H3 => σ = [some (.ref p), some (.ref a), some (.int way), none, none, none, none, none, none] ∧ H3 = H2, ?_, ?_⟩
            · exact ⟨_, rfl, q_isi hf2 (k_str d) ⟨_, rfl, if_b (fun q => absurd q nos) (fun _ => ⟨rfl, rfl⟩)⟩⟩
            · rintro σ H3 ⟨rfl, rfl⟩
              refine ⟨fun σ H4 => σ = [some (.ref p), some (.ref a), some (.int way), none, none, none, none, none, none] ∧ H4 = H3, ?_, ?_⟩
              · exact ⟨_, rfl, q_isi hf2 (k_int d) ⟨_, rfl, if_b (fun q => absurd q noi) (fun _ => ⟨rfl, rfl⟩)⟩⟩
              · rintro σ H4 ⟨rfl, rfl⟩
                exact ⟨_, rfl, odd _ x2⟩
          · refine ⟨_, rfl, q_eqi ⟨_, rfl, if_b (fun e5 => ?_) (fun e5 => ?_)⟩⟩
            · skip
              refine ⟨fun σ H3 => σ = [some (.ref p), some (.ref a), some (.int way), none, none, none, none, none, none] ∧ H3 = H2, ?_, ?_⟩
              · exact ⟨_, rfl, q_isi hf2 (k_str d) ⟨_, rfl, if_b (fun q => absurd q nos) (fun _ => ⟨rfl, rfl⟩)⟩⟩
              · rintro σ H3 ⟨rfl, rfl⟩
                refine ⟨fun σ H4 => σ = [some (.ref p), some (.ref a), some (.int way), none, none, none, none, none, none] ∧ H4 = H3, ?_, ?_⟩
                · exact ⟨_, rfl, q_isi hf2 (k_int d) ⟨_, rfl, if_b (fun q => absurd q noi) (fun _ => ⟨rfl, rfl⟩)⟩⟩
                · rintro σ H4 ⟨rfl, rfl⟩
                  exact ⟨_, rfl, odd _ x2⟩
            · refine ⟨rfl, x2, s2, of_decide_eq_false e5, ds, hds, fun z => ?_⟩
              have := of_decide_eq_false e0
              rw [z] at la
              simp at la
              rw [la] at this
              exact this rfl
        · have es' : (iLst d || iTup d) = false := by simpa using es
          have hf2 := Is.same s2 hf1
          rw [es']
          refine iteT (iteT ?_)
          generalize upd H' tp (.tup [.ty "list", .ty "tuple"]) = H2 at s2 x2 hf2 ⊢
          refine ⟨fun σ H3 => σ = [some (.ref p), some v, some (.int way), none, none, none, none, none, none] ∧ H3 = H2, ?_, ?_⟩
          · refine ⟨_, rfl, q_isi hf2 (k_str d) ⟨_, rfl, if_b (fun es => ?_) (fun _ => ⟨rfl, rfl⟩)⟩⟩
            obtain ⟨x, rfl⟩ : ∃ x, d = .str x := by
              cases d <;> first | exact ⟨_, rfl⟩ | exact absurd es Bool.false_ne_true
            cases hd1
            obtain ⟨xl, xo⟩ := ok_str.mp ok
            refine ⟨_, rfl, _, _, rfl, rfl, _, rfl, if_b (fun ew => ?_) (fun _ => ⟨rfl, rfl⟩)⟩
            have w3 : way < 3 := of_decide_eq_true ew
            have oa : okT (Str.ofString "a") := fun c hc => by rw [List.mem_singleton.mp (show c ∈ [97] from hc)]; decide
            have oz : okT (Str.ofString "z") := fun c hc => by rw [List.mem_singleton.mp (show c ∈ [122] from hc)]; decide
            have la : (x ++ Str.ofString "a").length = x.length + 1 := by rw [len_app]; rfl
            have lc := len_cut x none (some (-1))
            obtain ⟨z, hz, zl, zo⟩ : ∃ z : Str, [V.str (x ++ Str.ofString "a"), V.str (cutS x none (some (-1))), V.str (Str.ofString "z")][way.toNat]? = some (.str z) ∧ z.length ≤ 50 + (n + 1) ∧ okT z := by
              have hwv : way = 0 ∨ way = 1 ∨ way = 2 := by omega
              rcases hwv with rfl | rfl | rfl
              · exact ⟨_, rfl, by omega, okT_app xo oa⟩
              · exact ⟨_, rfl, by omega, okT_cut xo⟩
              · exact ⟨_, rfl, by show 1 ≤ _; omega, oz⟩
            refine ⟨_, rfl, .inr (.inl ⟨_, _, rfl, rfl, sz1 (by show x.length + 1 ≤ _; omega), ?_⟩)⟩
            refine ⟨_, rfl, 1, rfl, _, rfl, .inr (.inr ⟨x, rfl, sz1 (by omega), ?_⟩)⟩
            refine ⟨by show 3 ≤ sizeLine; decide, fun ps hps => ⟨_, rfl, q_ix (i := way.toNat) (.inl (SqL.of upd_same)) (by omega) hz ?_⟩⟩
            refine k (.str z) (.str z) _ (.str z) (ok_str.mpr ⟨zl, zo⟩) ?_ (Nat.zero_le _) (x2.then (same_upd hps))
            show z.cps.size ≤ _
            have : z.cps.size = z.length := rfl
            omega
          · rintro σ H3 ⟨rfl, rfl⟩
            refine ⟨fun σ H4 => σ = [some (.ref p), some v, some (.int way), none, none, none, none, none, none] ∧ H4 = H3, ?_, ?_⟩
            · refine ⟨_, rfl, q_isi hf2 (k_int d) ⟨_, rfl, if_b (fun ei => ?_) (fun _ => ⟨rfl, rfl⟩)⟩⟩
              refine ⟨_, rfl, q_isi hf2 (k_bool d) ⟨_, rfl, if_b (fun eb => ?_) (fun _ => ⟨rfl, rfl⟩)⟩⟩
              obtain ⟨i, rfl⟩ : ∃ i, d = .int i := by
                cases d <;> first | exact ⟨_, rfl⟩ | exact absurd ei Bool.false_ne_true | exact absurd eb (by simp [isTruth])
              cases hd1
              have il : i.natAbs ≤ 10 ^ 39 + n := by simpa [okD] using ok
              have ib : i.natAbs < 10 ^ 40 := Nat.lt_of_le_of_lt il (Nat.lt_of_le_of_lt (Nat.add_le_add_left hn _) (by decide))
              obtain ⟨tl, to⟩ := int_text ib
              refine ⟨_, rfl, _, _, rfl, rfl, _, rfl, if_b (fun ew => ?_) (fun _ => ⟨rfl, rfl⟩)⟩
              have w3 : way < 3 := of_decide_eq_true ew
              have fin : ∀ (H5 : Hp) (u : V) (d' : PyData), Ext p H H5 → [V.int (i + 1), V.int (i - 1), V.str (toString i)][way.toNat]? = some u → Q u H5 := fun H5 u d' x5 hu => by
                have hwv : way = 0 ∨ way = 1 ∨ way = 2 := by omega
                have near : ∀ j : Int, j.natAbs ≤ i.natAbs + 1 → Q (.int j) H5 := fun j hj => by
                  have jl : j.natAbs ≤ 10 ^ 39 + (n + 1) := by omega
                  have jb : j.natAbs < 10 ^ 40 := Nat.lt_of_le_of_lt jl (Nat.lt_of_le_of_lt (Nat.add_le_add_left (Nat.succ_le_succ hn) _) (by decide))
                  refine k (.int j) (.int j) H5 (.int j) (by rw [okD]; exact decide_eq_true jl) ?_ (Nat.zero_le _) x5
                  have := int_weight jb
                  omega
                rcases hwv with rfl | rfl | rfl
                · cases hu
                  exact near _ (by omega)
                · cases hu
                  exact near _ (by omega)
                · cases hu
                  refine k (.str _) (.str _) H5 (.str _) (ok_str.mpr ⟨by omega, to⟩) ?_ (Nat.zero_le _) x5
                  show (Str.ofString (toString i)).length ≤ _
                  omega
              have lg : i.natAbs.log2 < 1920 := by
                by_cases z : i.natAbs = 0
                · rw [z]; decide
                · exact (Nat.log2_lt z).mpr (Nat.lt_of_lt_of_le ib (by decide))
              refine ⟨_, rfl, q_add ⟨_, rfl, _, _, rfl, rfl, _, rfl, i, rfl, lg, by show 3 ≤ sizeLine; decide, fun ps hps => ⟨_, rfl, ?_⟩⟩⟩
              have hwv : way.toNat < 3 := by omega
              obtain ⟨u, hu⟩ : ∃ u, [V.int (i + 1), V.int (i - 1), V.str (toString i)][way.toNat]? = some u := ⟨_, List.getElem?_eq_getElem hwv⟩
              exact q_ix (i := way.toNat) (.inl (SqL.of upd_same)) (by omega) hu (fin _ u .none (x2.then (same_upd hps)) hu)
            · rintro σ H4 ⟨rfl, rfl⟩
              exact ⟨_, rfl, odd _ x2⟩
      · rintro σ H2 ⟨rfl, x2, s2, w5, ds, hds, hne⟩
        obtain ⟨a, xs, rfl, hS, hA⟩ : ∃ a xs, v = .ref a ∧ Sq K H2 a xs ∧ Are (hide S H2) xs ds := by
          have hd2 := Is.same (hide_mono s2) hd1
          rcases hds with rfl | rfl
          · cases hd2 with
            | lst h1 h2 => exact ⟨_, _, rfl, .inl (SqL.of (hide_in _ _ h1)), h2⟩
          · cases hd2 with
            | tup h1 h2 => exact ⟨_, _, rfl, .inr (SqT.of (hide_in _ _ h1)), h2⟩
        have hd2 := Is.same (hide_mono s2) hd1
        have nSa : S a = false := by
          rcases hds with rfl | rfl
          · cases hd2 with
            | lst h1 h2 => exact (hide_some h1).1
          · cases hd2 with
            | tup h1 h2 => exact (hide_some h1).1
        have nap : a ≠ p := ne_p hp nSa
        obtain ⟨okA, okN, wA, dA⟩ : (∀ e ∈ ds, okD n e = true) ∧ nonI ds ≤ 40 + n ∧ d.weight = PyData.weightAll ds ∧ d.depth = PyData.depthAll ds + 1 := by
          rcases hds with rfl | rfl
          · have : okAll n ds = true ∧ nonI ds ≤ 40 + n := by simpa [okD] using ok
            exact ⟨okAll_iff.mp this.1, this.2, by simp only [PyData.weight], by simp only [PyData.depth]⟩
          · have : okAll n ds = true ∧ nonI ds ≤ 40 + n := by simpa [okD] using ok
            exact ⟨okAll_iff.mp this.1, this.2, by simp only [PyData.weight], by simp only [PyData.depth]⟩
        have la := hA.length
        have l0 : 0 < ds.length := List.length_pos_iff.mpr hne
        have lw := len_weight ds
        refine ⟨_, rfl, _, rfl, q_lenSq hS ⟨p, _, rfl, by omega, by omega, x2.bag, fun at0 H3 a0 a1 x3' => ?_⟩⟩
        have x3 := x2.trans x3'
        have hS3 := hS.ext x3' nap
        have hA3 := Are.same (hide_ext hp x3') hA
        have hd3 := Is.same (hide_ext hp x3') hd2
        have k0 : at0.toNat < ds.length := by omega
        obtain ⟨e, he⟩ : ∃ e, ds[at0.toNat]? = some e := ⟨_, List.getElem?_eq_getElem k0⟩
        obtain ⟨u, hu, hue⟩ := hA3.get he
        have cut := cut_of he okA
        refine ⟨_, rfl, a, xs, rfl, hS3, fun l hl => ⟨_, _, rfl, ?_⟩⟩
        have nSl : S l = false := (hT.ext x3).no hl
        have nlp : l ≠ p := x3.bag.ne hl
        have hlH : H l = none := Dom.ext x3 l hl
        have ta : ∃ o, H3 a = some o := by
          rcases hds with rfl | rfl
          · cases hd3 with
            | lst h1 _ => exact ⟨_, hide_in _ _ h1⟩
          · cases hd3 with
            | tup h1 _ => exact ⟨_, hide_in _ _ h1⟩
        have nla : l ≠ a := fun z => by
          obtain ⟨o, e1⟩ := ta
          rw [← z, hl] at e1
          cases e1
        have hl4 : upd H3 l (.lst xs) l = some (.lst xs) := upd_same
        have s4 : Same H3 (upd H3 l (.lst xs)) := same_upd hl
        have h06 : ∀ {H7 : Hp}, Same H3 H7 → Same (hide S H3) (hide (fun b => S b || b == l) H7) := fun {H7} s b o' e => by
          obtain ⟨n1, e1⟩ := hide_some e
          have nb : b ≠ l := fun z => by rw [z, hl] at e1; cases e1
          rw [hide_ne (by simp [n1, nb])]
          exact s _ _ e1
        generalize upd H3 l (.lst xs) = H4 at hl4 s4 ⊢
        have x4 := x3.then s4
        have hS4 := hS3.same s4
        have hA4 := Are.same (hide_mono s4) hA3
        have hf4 : Is H4 (.ref a) d := Is.same hide_in (Is.same (hide_mono s4) hd3)
        refine ⟨fun σ H' => ∃ (ys : List V) (es : List PyData), σ = [some (.ref p), some (.ref a), some (.int way), none, none, none, some (.int at0), some (.ref l), none] ∧ H' l = some (.lst ys) ∧ Are (hide S H') ys es ∧ okAll (n + 1) es = true ∧ nonI es ≤ 40 + (n + 1) ∧
          PyData.weightAll es ≤ 2 * d.weight + 6000 ∧ PyData.depthAll es + 1 ≤ d.depth + 10 ∧ Ext p H H' ∧ Is H' (.ref a) d, ?_, ?_⟩
        · have lxs : at0.toNat < xs.length := by omega
          have gx : xs[at0.toNat]? = some u := hu
          have hue4 : Is (hide S H4) u e := Is.same (hide_mono s4) hue
          have at5 : ∀ (ys : List V) (es : List PyData) (H6 : Hp), Ext p H H6 → Is (hide (fun b => S b || b == l) H6) (.ref a) d → Are (hide (fun b => S b || b == l) H6) ys es →
              (upd H6 l (.lst ys) l = some (.lst ys) ∧ Are (hide S (upd H6 l (.lst ys))) ys es ∧ Ext p H (upd H6 l (.lst ys)) ∧ Is (upd H6 l (.lst ys)) (.ref a) d) := fun ys es H6 x6 ia ha => by
            have sm : Same (hide (fun b => S b || b == l) H6) (hide S (upd H6 l (.lst ys))) := fun b o e => by
              obtain ⟨n1, e1⟩ := hide_some e
              have n2 : S b = false ∧ b ≠ l := by simpa using n1
              rw [hide_ne n2.1, upd_ne n2.2]
              exact e1
            exact ⟨upd_same, Are.same sm ha, Ext.over hB x6 hlH, Is.same hide_in (Is.same sm ia)⟩
          have hA6 : Are (hide (fun b => S b || b == l) H4) xs ds := Are.same (h06 s4) hA3
          have hd6 : Is (hide (fun b => S b || b == l) H4) (.ref a) d := Is.same (h06 s4) hd3
          have hA6a := Are.take at0.toNat hA6
          have hA6b := Are.drop (at0.toNat + 1) hA6
          refine ⟨_, rfl, q_eqi ⟨_, rfl, if_b (fun e0 => ?_) (fun e0 => ?_)⟩⟩
          · -- out
            obtain ⟨f1, f2, f3, f4⟩ := cut.fill (m := n + 1) (Nat.le_succ n) [] (fun d hd => by cases hd) (Nat.zero_le _)
            obtain ⟨g1, g2, g3, g4⟩ := at5 (xs.take at0.toNat ++ ([] ++ xs.drop (at0.toNat + 1))) (ds.take at0.toNat ++ ([] ++ ds.drop (at0.toNat + 1))) H4 x4 hd6 (Are.append hA6a hA6b)
            refine ⟨_, rfl, .inl ⟨rfl, _, SqL.of hl4⟩, _, rfl, l, xs, at0, at0.toNat, u, rfl, rfl, hl4, by omega, by omega, (ixN_seq (atl (by omega) lxs)).1, gx, ?_⟩
            rw [List.eraseIdx_eq_take_drop_succ]
            simp only [PyData.weightAll, PyData.depthAll, List.length_nil] at f3 f4 f2
            exact ⟨_, _, rfl, g1, g2, f1, by omega, by omega, by omega, g3, g4⟩
          · refine ⟨_, rfl, q_eqi ⟨_, rfl, if_b (fun e1 => ?_) (fun e1 => ?_)⟩⟩
            · -- twice
              obtain ⟨f1, f2, f3, f4⟩ := cut.fill (m := n + 1) (Nat.le_succ n) [e, e] (fun d hd => by
                have : d = e := by simpa using hd
                rw [this]
                exact okD_mono _ cut.ee) (by show 2 ≤ 2; decide)
              have hue6 : Is (hide (fun b => S b || b == l) H4) u e := Is.same (h06 s4) hue
              obtain ⟨g1, g2, g3, g4⟩ := at5 (xs.take at0.toNat ++ ([u, u] ++ xs.drop (at0.toNat + 1))) (ds.take at0.toNat ++ ([e, e] ++ ds.drop (at0.toNat + 1))) H4 x4 hd6 (Are.append hA6a (.cons hue6 (.cons hue6 hA6b)))
              refine ⟨_, rfl, .inl ⟨rfl, _, SqL.of hl4⟩, _, rfl, _, rfl, _, rfl, q_ix (i := at0.toNat) hS4 (by omega) gx ⟨l, xs, at0, u, rfl, rfl, hl4, sz2 (by omega), by omega, by omega, ?_⟩⟩
              have ex : xs.take at0.toNat ++ [u] ++ xs.drop at0.toNat = xs.take at0.toNat ++ ([u, u] ++ xs.drop (at0.toNat + 1)) := by
                obtain ⟨z1, z2⟩ := List.getElem?_eq_some_iff.mp gx
                rw [List.append_assoc, List.drop_eq_getElem_cons z1, z2]
                rfl
              rw [ex]
              simp only [PyData.weightAll, PyData.depthAll, List.length_cons, List.length_nil] at f3 f4 f2
              have := cut.ww
              have := cut.de
              have nn : nonI (ds.take at0.toNat ++ ([e, e] ++ ds.drop (at0.toNat + 1))) ≤ nonI ds + 1 := by
                have eq := congrArg nonI (cut_eq he)
                have c1 := (nonI_cons e (e :: ds.drop (at0.toNat + 1))).1
                rw [nonI_app] at eq
                rw [nonI_app]
                show nonI (ds.take at0.toNat) + nonI (e :: e :: ds.drop (at0.toNat + 1)) ≤ _
                omega
              exact ⟨_, _, rfl, g1, g2, f1, by omega, by omega, by omega, g3, g4⟩
            · refine ⟨_, rfl, q_eqi ⟨_, rfl, if_b (fun e2 => ?_) (fun e2 => ?_)⟩⟩
              · -- the other kind
                have okL : okAll (n + 1) ds = true := okAll_iff.mpr fun d hd => okD_mono d (okA d hd)
                refine ⟨_, rfl, q_isi hf4 (k_tup d) ⟨_, rfl, if_b (fun et => ?_) (fun et => ?_)⟩⟩
                · refine ⟨_, rfl, k (.ref l) (.list ds) _ (.lst (by rw [hide_ne nSl]; exact hl4) hA4) ?_ ?_ ?_ x4⟩
                  · simp only [okD, Bool.and_eq_true, decide_eq_true_eq]
                    exact ⟨okL, by omega⟩
                  · simp only [PyData.weight]
                    omega
                  · simp only [PyData.depth]
                    omega
                · refine ⟨_, rfl, l, xs, rfl, .inl ⟨SqL.of hl4, fun q hq => ?_⟩⟩
                  have x6 := x4.then (same_upd (o := .tup xs) hq)
                  refine k (.ref q) (.tuple ds) _ (.tup (by rw [hide_ne ((hT.ext x4).no hq)]; exact upd_same) (Are.same (hide_mono (same_upd hq)) hA4)) ?_ ?_ ?_ x6
                  · simp only [okD, Bool.and_eq_true, decide_eq_true_eq]
                    exact ⟨okL, by omega⟩
                  · simp only [PyData.weight]
                    omega
                  · simp only [PyData.depth]
                    omega
              · -- bent
                refine ⟨_, rfl, _, rfl, _, rfl, q_ix (i := at0.toNat) (.inl (SqL.of hl4)) (by omega) gx ⟨p, fun b => S b || b == l, u, e, n, rfl, x4.bag, by simp [hp], fun b hb => ?_, Is.same (h06 s4) hue, cut.ee, hn, by have := cut.ww; omega, by have := cut.de; omega, fun v' d' H6 hv' ok' w' dp' x6' => ?_⟩⟩
                · have hb' : S b = true ∨ b = l := by simpa using hb
                  rcases hb' with h | h
                  · exact (hT.ext x4) b h
                  · exact ⟨_, by rw [h]; exact hl4⟩
                · have hp' : (fun b => S b || b == l) p = true := by simp [hp]
                  have hs6 := hide_ext (S := fun b => S b || b == l) hp' x6'
                  obtain ⟨f1, f2, f3, f4⟩ := cut.fill (m := n + 1) (Nat.le_succ n) [d'] (fun d hd => by
                    have : d = d' := by simpa using hd
                    rw [this]
                    exact ok') (by show 1 ≤ 2; decide)
                  obtain ⟨g1, g2, g3, g4⟩ := at5 (xs.take at0.toNat ++ ([v'] ++ xs.drop (at0.toNat + 1))) (ds.take at0.toNat ++ ([d'] ++ ds.drop (at0.toNat + 1))) H6 (x4.trans x6') (Is.same hs6 hd6) (Are.append (Are.same hs6 hA6a) (.cons hv' (Are.same hs6 hA6b)))
                  have hl6 := x6'.keep _ _ nlp hl4
                  refine ⟨_, rfl, _, rfl, l, xs, at0, at0.toNat, rfl, rfl, hl6, atl (by omega) lxs, ?_⟩
                  have ex : xs.set at0.toNat v' = xs.take at0.toNat ++ ([v'] ++ xs.drop (at0.toNat + 1)) := by
                    rw [List.set_eq_take_append_cons_drop, if_pos lxs]
                    rfl
                  rw [ex]
                  simp only [PyData.weightAll, PyData.depthAll, List.length_cons, List.length_nil] at f3 f4 f2
                  have := cut.ww
                  have := cut.de
                  exact ⟨_, _, rfl, g1, g2, f1, by omega, by omega, by omega, g3, g4⟩
        · rintro σ H5 ⟨ys, es, rfl, hl5, hA5, o5, n5, w5', d5, x5, hf5⟩
          refine ⟨_, rfl, q_isi hf5 (k_tup d) ⟨_, rfl, if_b (fun et => ?_) (fun et => ?_)⟩⟩
          · refine ⟨_, rfl, l, ys, rfl, .inl ⟨SqL.of hl5, fun q hq => ?_⟩⟩
            have x6 := x5.then (same_upd (o := .tup ys) hq)
            refine k (.ref q) (.tuple es) _ (.tup (by rw [hide_ne ((hT.ext x5).no hq)]; exact upd_same) (Are.same (hide_mono (same_upd hq)) hA5)) ?_ ?_ ?_ x6
            · simp only [okD, Bool.and_eq_true, decide_eq_true_eq]
              exact ⟨o5, n5⟩
            · simp only [PyData.weight]
              exact w5'
            · simp only [PyData.depth]
              exact d5
          · refine ⟨_, rfl, k (.ref l) (.list es) _ (.lst (by rw [hide_ne nSl]; exact hl5) hA5) ?_ ?_ ?_ x5⟩
            · simp only [okD, Bool.and_eq_true, decide_eq_true_eq]
              exact ⟨o5, n5⟩
            · simp only [PyData.weight]
              exact w5'
            · simp only [PyData.depth]
              exact d5
theorem ok__law_bent (T : Txt K mg A D) : ∀ m : Nat, FnOk P w K mg base CX0 (4 + m) A._law_bent D._law_bent ["bag", "thing"] (spBent m)
  | 0 => ⟨fun vs H Q E h => by
      obtain ⟨p, S, v, d, n, _, _, _, _, _, _, _, _, hm, _⟩ := h
      exact absurd hm (Nat.not_lt_zero _), fun _ _ _ _ _ _ _ _ _ _ _ _ _ h => by
      obtain ⟨p, S, v, d, n, _, _, _, _, _, _, _, _, hm, _⟩ := h
      exact absurd hm (Nat.not_lt_zero _)⟩
  | m + 1 => bent_step T m (ok__law_bent T m)
end
end K62
set_option Elab.async false
set_option linter.all false
set_option maxRecDepth 100000
set_option maxHeartbeats 4000000
/-! ## Torn logs: by entries, and by places -/
namespace Tn
open PySem

/-- the entry i is a star -/
def isSt (t : List Str) (i : Nat) : Bool := decide (t[i]? = some (Str.ofString "*"))
/-- the entry i is one lost word, or this one -/
def mt (t : List Str) (i : Nat) (w : Str) : Bool := decide (t[i]? = some (Str.ofString "?")) || decide (t[i]? = some w)
/-- the first i entries have the first j words -/
def Mf (t g : List Str) : Nat → Nat → Bool
  | 0, j => decide (j = 0)
  | i + 1, j => if isSt t i = true then (List.range (j + 1)).any fun k => Mf t g i k else
    match j with
    | 0 => false
    | j + 1 => Mf t g i j && mt t i (g.getD j Str.empty)
/-- one may stand at the entry i behind j words -/
def Acc (t g : List Str) (i j : Nat) : Bool := if isSt t i = true then (List.range (j + 1)).any fun k => Mf t g i k else Mf t g i j
/-- from X, and over stars -/
def Clo (t : List Str) (X : Nat → Prop) (i : Nat) : Prop := ∃ k, k ≤ i ∧ X k ∧ ∀ m, k ≤ m → m < i → isSt t m = true
theorem clo_zero {t : List Str} {X : Nat → Prop} : Clo t X 0 ↔ X 0 := by
  constructor
  · rintro ⟨k, h1, h2, _⟩
    obtain rfl : k = 0 := by omega
    exact h2
  · intro h
    exact ⟨0, Nat.le_refl _, h, fun m _ h2 => absurd h2 (Nat.not_lt_zero _)⟩
theorem clo_succ {t : List Str} {X : Nat → Prop} {i : Nat} : Clo t X (i + 1) ↔ X (i + 1) ∨ (isSt t i = true ∧ Clo t X i) := by
  constructor
  · rintro ⟨k, h1, h2, h3⟩
    by_cases e : k = i + 1
    · subst e
      exact .inl h2
    · exact .inr ⟨h3 i (by omega) (by omega), k, by omega, h2, fun m a b => h3 m a (by omega)⟩
  · rintro (h | ⟨h, k, h1, h2, h3⟩)
    · exact ⟨i + 1, Nat.le_refl _, h, fun m a b => by omega⟩
    · refine ⟨k, by omega, h2, fun m a b => ?_⟩
      by_cases e : m = i
      · rw [e]; exact h
      · exact h3 m a (by omega)
theorem clo_mono {t : List Str} {X Y : Nat → Prop} {i : Nat} (h : ∀ k, X k → Y k) : Clo t X i → Clo t Y i := fun ⟨k, h1, h2, h3⟩ => ⟨k, h1, h k h2, h3⟩
theorem mf_st {t g : List Str} {i j : Nat} (h : isSt t i = true) : Mf t g (i + 1) j = Acc t g i j := by
  have e : Mf t g (i + 1) j = if isSt t i = true then (List.range (j + 1)).any (fun k => Mf t g i k) else (match j with
    | 0 => false
    | j + 1 => Mf t g i j && mt t i (g.getD j Str.empty)) := by rw [Mf.eq_def]
  rw [Acc, if_pos h, e, if_pos h]
theorem mf_no {t g : List Str} {i j : Nat} (h : ¬ isSt t i = true) : Mf t g (i + 1) (j + 1) = (Acc t g i j && mt t i (g.getD j Str.empty)) := by
  have e : Mf t g (i + 1) (j + 1) = if isSt t i = true then (List.range (j + 1 + 1)).any fun k => Mf t g i k else (Mf t g i j && mt t i (g.getD j Str.empty)) := by rw [Mf.eq_def]
  rw [Acc, if_neg h, e, if_neg h]
theorem acc_zero {t g : List Str} {i : Nat} : Acc t g i 0 = true ↔ Clo t (fun k => k = 0) i := by
  have e0 : Acc t g i 0 = Mf t g i 0 := by
    unfold Acc
    split
    · simp
    · rfl
  rw [e0]
  clear e0
  induction i with
  | zero => simp [Mf, clo_zero]
  | succ i ih =>
    rw [clo_succ]
    by_cases h : isSt t i = true
    · rw [Mf, if_pos h]
      simp [h, ih]
    · rw [Mf, if_neg h]
      simp [h]
/-- the places that a word leads to, ahead of the stars behind them -/
def Step (t g : List Str) (j k : Nat) : Prop := (isSt t k = true ∧ Acc t g k j = true) ∨ ∃ m, k = m + 1 ∧ ¬ isSt t m = true ∧ mt t m (g.getD j Str.empty) = true ∧ Acc t g m j = true
theorem any_succ {p : Nat → Bool} {n : Nat} : (List.range (n + 1)).any p = ((List.range n).any p || p n) := by
  rw [List.range_succ, List.any_append]
  simp
theorem acc_succ {t g : List Str} {j : Nat} : ∀ {i : Nat}, Acc t g i (j + 1) = true ↔ Clo t (Step t g j) i
  | 0 => by
    rw [clo_zero]
    unfold Step
    by_cases h : isSt t 0 = true
    · have e : ∀ n, Acc t g 0 n = true := fun n => by
        rw [Acc, if_pos h, List.any_eq_true]
        exact ⟨0, List.mem_range.mpr (Nat.succ_pos _), by simp [Mf]⟩
      simp [h, e]
    · simp [Acc, h, Mf]
  | i + 1 => by
    have ih := acc_succ (t := t) (g := g) (j := j) (i := i)
    rw [clo_succ, ← ih]
    have a1 : Acc t g (i + 1) (j + 1) = (Mf t g (i + 1) (j + 1) || (isSt t (i + 1) && Acc t g (i + 1) j)) := by
      unfold Acc
      by_cases h : isSt t (i + 1) = true
      · rw [if_pos h, if_pos h, any_succ, h, Bool.true_and, Bool.or_comm]
      · rw [if_neg h]
        simp [h]
    rw [a1]
    unfold Step
    by_cases h : isSt t i = true
    · rw [mf_st h]
      simp only [Bool.or_eq_true, Bool.and_eq_true]
      constructor
      · rintro (q | ⟨q, r⟩)
        · exact .inr ⟨h, q⟩
        · exact .inl (.inl ⟨q, r⟩)
      · rintro ((⟨q, r⟩ | ⟨m, e, q, _⟩) | ⟨_, q⟩)
        · exact .inr ⟨q, r⟩
        · obtain rfl : i = m := by omega
          exact absurd h q
        · exact .inl q
    · rw [mf_no h]
      simp only [Bool.or_eq_true, Bool.and_eq_true]
      constructor
      · rintro (⟨q, r⟩ | ⟨q, r⟩)
        · exact .inl (.inr ⟨i, rfl, h, r, q⟩)
        · exact .inl (.inl ⟨q, r⟩)
      · rintro ((⟨q, r⟩ | ⟨m, e, q, r, z⟩) | ⟨q, _⟩)
        · exact .inr ⟨q, r⟩
        · obtain rfl : i = m := by omega
          exact .inl ⟨z, r⟩
        · exact absurd q h
theorem isSt_len {t : List Str} {i : Nat} (h : t.length ≤ i) : isSt t i = false := by
  unfold isSt
  rw [List.getElem?_eq_none h]
  rfl
theorem acc_end {t g : List Str} {j : Nat} : Acc t g t.length j = Mf t g t.length j := by
  rw [Acc, isSt_len (Nat.le_refl _)]
  rfl
/-- what fits -/
def fits (t g : List Str) : Bool := Mf t g t.length g.length
/-- a list of places: those of X, each once -/
structure Places (X : Nat → Prop) (ns : List Int) : Prop where
  nd : ns.Nodup
  mem : ∀ z : Int, z ∈ ns ↔ ∃ k : Nat, z = (k : Int) ∧ X k
theorem Places.iff {X Y : Nat → Prop} {ns : List Int} (h : Places X ns) (e : ∀ k, X k ↔ Y k) : Places Y ns := ⟨h.nd, fun z => by
  rw [h.mem]
  exact ⟨fun ⟨k, a, b⟩ => ⟨k, a, (e k).mp b⟩, fun ⟨k, a, b⟩ => ⟨k, a, (e k).mpr b⟩⟩⟩
theorem Places.len {X : Nat → Prop} {ns : List Int} (h : Places X ns) {n : Nat} (b : ∀ k, X k → k ≤ n) : ns.length ≤ n + 1 := by
  have h1 : (ns.map Int.toNat).Nodup := by
    refine List.Pairwise.map _ ?_ (List.Pairwise.and_mem.mp h.nd)
    rintro x y ⟨hx, hy, ne⟩ e
    obtain ⟨k, rfl, _⟩ := (h.mem x).mp hx
    obtain ⟨m, rfl, _⟩ := (h.mem y).mp hy
    have : k = m := by simpa using e
    exact ne (by rw [this])
  have h2 : ∀ x ∈ ns.map Int.toNat, x ∈ List.range (n + 1) := fun x hx => by
    obtain ⟨z, hz, rfl⟩ := List.mem_map.mp hx
    obtain ⟨k, rfl, hk⟩ := (h.mem z).mp hz
    have := b k hk
    simp
    omega
  have := L2.nat_nodup_len (ns.map Int.toNat) (List.range (n + 1)) h1 h2
  simpa using this
end Tn
set_option Elab.async false
set_option linter.all false
set_option maxRecDepth 100000
set_option maxHeartbeats 4000000
namespace K62
open PySem PySem.Spec L2 Quiet Gn Tn

theorem lk1 {f : Str} {v : V} : ([(f, v)] : List (Str × V)).lookup f = some v := by simp [List.lookup]
theorem lk0 {f m : Str} {v : V} (h : ¬ m = f) : ([(f, v)] : List (Str × V)).lookup m = none := by
  have : (m == f) = false := by simpa using h
  simp [List.lookup, this]
theorem keys_old {kvs : List (Key × V)} {k : Key} {v : V} (hk : k ∈ kvs.map (·.1)) : (putK kvs k v).map (·.1) = kvs.map (·.1) := by
  obtain ⟨kv, h1, h2⟩ := List.mem_map.mp hk
  have h : (kvs.any fun kv => decide (kv.1 = k)) = true := List.any_eq_true.mpr ⟨kv, h1, decide_eq_true h2⟩
  unfold putK
  rw [if_pos h, List.map_map]
  refine List.map_congr_left fun kv _ => ?_
  show (if kv.1 = k then (kv.1, v) else kv).1 = kv.1
  split <;> rfl
theorem keys_new {kvs : List (Key × V)} {k : Key} {v : V} (hk : ¬ k ∈ kvs.map (·.1)) : (putK kvs k v).map (·.1) = kvs.map (·.1) ++ [k] := by
  have h : ¬ (kvs.any fun kv => decide (kv.1 = k)) = true := fun h => by
    obtain ⟨kv, h1, h2⟩ := List.any_eq_true.mp h
    exact hk (List.mem_map.mpr ⟨kv, h1, of_decide_eq_true h2⟩)
  unfold putK
  rw [if_neg h, List.map_append]
  rfl
/-- a Torn stands at p, its entries t at e -/
structure TornAt (C : Addr) (H : Hp) (p e : Addr) (t : List Str) : Prop where
  ob : ∃ dx, H p = some (.ins C dx [("_entries", .ref e)])
  li : H e = some (.lst (t.map V.str))
theorem TornAt.same {C : Addr} {H H' : Hp} {p e : Addr} {t : List Str} (s : Same H H') (h : TornAt C H p e t) : TornAt C H' p e t := by
  obtain ⟨⟨dx, h1⟩, h2⟩ := h
  exact ⟨⟨dx, s _ _ h1⟩, s _ _ h2⟩
def spInit (K : PySem.W.Frag) (C : Addr) : Sp := fun vs H Q _ => ∃ (p dx a : Addr) (t : List Str), vs = [.ref p, .ref a] ∧ H p = some (.ins C dx []) ∧ Sq K H a (t.map V.str) ∧
  ∀ (e : Addr) (H' : Hp), H e = none → TornAt C H' p e t → (∀ b o, H b = some o → b ≠ p → H' b = some o) → Q .non H'
def spSpread (C : Addr) (K : PySem.W.Frag) : Sp := fun vs H Q _ => ∃ (p e a : Addr) (t : List Str) (ns : List Int), vs = [.ref p, .ref a] ∧ TornAt C H p e t ∧ t.length ≤ 20 ∧ SqL K H a (ns.map V.int) ∧ ns.length ≤ 1000 ∧
  (∀ z ∈ ns, 0 ≤ z ∧ z ≤ (t.length : Int)) ∧ ∀ (r : Addr) (ms : List Int) (H' : Hp), Same H H' → H' r = some (.tup (ms.map V.int)) → Places (Clo t fun k => (k : Int) ∈ ns) ms → Q (.ref r) H'
def spBegin (C : Addr) : Sp := fun vs H Q _ => ∃ (p e : Addr) (t : List Str), vs = [.ref p] ∧ TornAt C H p e t ∧ t.length ≤ 20 ∧
  ∀ (r : Addr) (ms : List Int) (H' : Hp), Same H H' → H' r = some (.tup (ms.map V.int)) → Places (Clo t fun k => k = 0) ms → Q (.ref r) H'
/-- from the places X, by a word -/
def Lead (t : List Str) (X : Nat → Prop) (w : Str) (k : Nat) : Prop := (isSt t k = true ∧ X k) ∨ ∃ m, k = m + 1 ∧ ¬ isSt t m = true ∧ mt t m w = true ∧ X m
def spBehind (C : Addr) : Sp := fun vs H Q _ => ∃ (p e a : Addr) (t : List Str) (X : Nat → Prop) (ns : List Int) (w : Str), vs = [.ref p, .ref a, .str w] ∧ TornAt C H p e t ∧ t.length ≤ 20 ∧ H a = some (.tup (ns.map V.int)) ∧ Places X ns ∧
  (∀ k, X k → k ≤ t.length) ∧ ∀ (r : Addr) (ms : List Int) (H' : Hp), Same H H' → H' r = some (.tup (ms.map V.int)) → Places (Clo t (Lead t X w)) ms → Q (.ref r) H'
def spIsEnd (C : Addr) : Sp := fun vs H Q _ => ∃ (p e a : Addr) (t : List Str) (ns : List Int), vs = [.ref p, .ref a] ∧ TornAt C H p e t ∧ H a = some (.tup (ns.map V.int)) ∧ Q (.bl (decide ((t.length : Int) ∈ ns))) H
def spFits (K : PySem.W.Frag) : Sp := fun vs H Q _ => ∃ (u : V) (a b : Addr) (t g : List Str), vs = [u, .ref a, .ref b] ∧ Sq K H a (t.map V.str) ∧ SqL K H b (g.map V.str) ∧ t.length ≤ 20 ∧
  ∀ H', Same H H' → Q (.bl (fits t g)) H'
theorem clo_le {t : List Str} {X : Nat → Prop} (h : ∀ k, X k → k ≤ t.length) : ∀ i, Clo t X i → i ≤ t.length := fun i ⟨k, h1, h2, h3⟩ => by
  rcases Nat.lt_or_ge k i with z | z
  · have a := h3 (i - 1) (by omega) (by omega)
    refine Classical.byContradiction fun c => ?_
    rw [isSt_len (by omega)] at a
    cases a
  · have := h k h2
    omega
theorem in_ints (x : Int) : ∀ ns : List Int, inV (.int x) (ns.map V.int) = decide (x ∈ ns)
  | [] => by simp [inV]
  | y :: ns => by
    have ih := in_ints x ns
    unfold inV at ih ⊢
    rw [List.map_cons, List.any_cons, ih]
    have e : eqV (.int y) (.int x) = decide (x = y) := by
      show (decide (y = x)) = decide (x = y)
      by_cases h : x = y
      · subst h; rfl
      · rw [decide_eq_false h, decide_eq_false fun z => h z.symm]
    rw [e]
    by_cases h : x = y <;> simp [h]
theorem flat_ints : ∀ ns : List Int, (ns.map V.int).all flatV = true
  | [] => rfl
  | y :: ns => by
    rw [List.map_cons, List.all_cons, flat_ints ns]
    rfl
section
variable {P : Program} {w : World} {K : PySem.W.Frag} {mg : Str → Option Value} {base : Heap} {A : Ad} {D : Fd}
theorem ok_Torn___init__ (T : Txt K mg A D) : FnOk P w K mg base CX0 1 A.Torn___init__ D.Torn___init__ ["self", "entries"] (spInit K A.Torn) := by
  refine T.f_Torn___init__.ok sc_Torn___init__ (fun vs H Q E h => ?_) (fun cdv AA outer s H vs Q E hr h => ?_)
  · obtain ⟨p, dx, a, t, rfl, _⟩ := h
    rfl
  · obtain ⟨p, dx, a, t, rfl, hp, hS, k⟩ := h
    refine ⟨_, (pss_one (ps_fld (pv 0) (pe_callTy (listK K rfl) (by rfl) T.b_list (by decide +kernel) (pa_cons (pv 1) pa_nil)) rfl)), ?_⟩
    refine ⟨_, rfl, a, _, rfl, hS, fun l hl => ?_⟩
    have npl : p ≠ l := ne_of_none hp hl
    refine ⟨_, rfl, p, _, dx, [], rfl, (by rw [upd_ne npl]; exact hp), T.cl_Torn, T.n_Torn__entries, (by show 0 < 1000; decide), ?_⟩
    refine k l _ hl ⟨⟨dx, upd_same⟩, by rw [upd_ne npl.symm]; exact upd_same⟩ fun b o e hb => ?_
    rw [upd_ne hb, upd_ne (ne_of_none e hl)]
    exact e
/-- what a walk over stars has found, and what is left -/
structure Wst (t : List Str) (ns F L : List Int) : Prop where
  nd : F.Nodup
  fr : ∀ z, z ∈ F ∨ z ∈ L → ∃ k : Nat, z = (k : Int) ∧ Clo t (fun k => (k : Int) ∈ ns) k
  be : ∀ z ∈ ns, z ∈ F ∨ z ∈ L
  on : ∀ k : Nat, (k : Int) ∈ F → isSt t k = true → ((k + 1 : Nat) : Int) ∈ F ∨ ((k + 1 : Nat) : Int) ∈ L
theorem Wst.done {t : List Str} {ns F : List Int} (h : Wst t ns F []) : Places (Clo t fun k => (k : Int) ∈ ns) F := by
  refine ⟨h.nd, fun z => ⟨fun hz => h.fr z (.inl hz), ?_⟩⟩
  rintro ⟨k, rfl, m, h1, h2, h3⟩
  have go : ∀ d, m + d ≤ k → ((m + d : Nat) : Int) ∈ F := by
    intro d
    induction d with
    | zero => intro _; exact (h.be _ h2).elim id fun z => by cases z
    | succ d ih =>
      intro hd
      exact (h.on (m + d) (ih (by omega)) (h3 _ (by omega) (by omega))).elim id fun z => by cases z
  have := go (k - m) (by omega)
  rwa [show m + (k - m) = k from by omega] at this
def mea (n : Nat) (L : List Int) : Nat := (L.map fun z => n + 1 - z.toNat).sum
theorem mea_app (n : Nat) (L M : List Int) : mea n (L ++ M) = mea n L + mea n M := by simp [mea]
theorem ok_Torn__spread (T : Txt K mg A D) : FnOk P w K mg base CX0 1 A.Torn__spread D.Torn__spread ["self", "numbers"] (spSpread A.Torn K) := by
  refine T.f_Torn__spread.ok sc_Torn__spread (fun vs H Q E h => ?_) (fun cdv AA outer s H vs Q E hr h => ?_)
  · obtain ⟨p, e, a, t, ns, rfl, _⟩ := h
    rfl
  · obtain ⟨p, e, a, t, ns, rfl, hT, ht, hS, hn, hns, k⟩ := h
    refine ⟨_, (pss_cons (ps_par (i := 2) (j := 3) (by rfl) sc_Torn__spread.nd rfl rfl (by decide) rfl rfl (pa_cons pe_dnewK (pa_cons (pe_callTy (listK K rfl) (by rfl) T.b_list (by decide +kernel) (pa_cons (pv 1) pa_nil)) pa_nil)) (by rfl))
  (pss_cons (ps_while PassesOwn.never (pt_truth (pv 3) (by intro _; rfl)) (pss_cons (ps_set (i := 4) sc_Torn__spread.nd rfl (Or.inl rfl) (by exact (pe_bm0 PySem.F.plainAttrs_list PySem.F.slot_list_pop PySem.F.type_list_pop mt_pop (pv 3))))
  (pss_cons (ps_dput (hu_of hr) (pv 2) (pv 4) pe_bl rfl)
  (pss_one (ps_if (PW.pt (pw_and (pt_cmpR op_lt (pv 4) (pe_callB (lenK K rfl) (by rfl) T.b_len (by decide +kernel) (pa_cons (pe_fld (pv 0) rfl) pa_nil)) (nomark _)) (pw_and1 (pt_cmpR (eqK K rfl (units_of hr)) (pe_ix (ixK K rfl) (pe_fld (pv 0) rfl) (pv 4) (fun _ _ => rfl)) (pe_glob (v := .str "*") rfl T.c_ANY ⟨_, rfl⟩) (nomark _))))) (pss_one (ps_expr (pe_bm PySem.F.plainAttrs_list PySem.F.slot_list_append PySem.F.type_list_append mt_append (pv 3) (pa_cons (pe_op (addK K rfl) (pv 4) pe_int) pa_nil)))) pss_nil)))))
  (pss_one (ps_ret (pe_callTy (tupleK K rfl) (by rfl) T.b_tuple (by decide +kernel) (pa_cons (pe_callB (call_sortedDI rfl) (by rfl) T.b_sorted (by decide +kernel) (pa_cons (pv 2) pa_nil)) pa_nil)))))), ?_⟩
    intro d hd
    have s1 : Same H (upd H d (.dK [])) := same_upd hd
    refine ⟨_, rfl, a, _, rfl, .inl (s1.seq hS), fun l hl => ?_⟩
    have ndl : d ≠ l := fun z => by rw [← z, upd_same] at hl; cases hl
    have s2 : Same H (upd (upd H d (.dK [])) l (.lst (ns.map V.int))) := s1.trans (same_upd hl)
    have cl_le : ∀ z, (∃ k : Nat, z = (k : Int) ∧ Clo t (fun k => (k : Int) ∈ ns) k) → 0 ≤ z ∧ z ≤ (t.length : Int) := fun z ⟨k, ez, hk⟩ => by
      have := clo_le (X := fun k => (k : Int) ∈ ns) (fun k hk => by have := hns _ hk; omega) k hk
      omega
    refine ⟨_, _, rfl, ?_⟩
    refine ⟨fun m σ H' => ∃ (F L : List Int) (kvs : List (Key × V)) (x : Option V), σ = [some (.ref p), some (.ref a), some (.ref d), some (.ref l), x] ∧ Same H H' ∧ H' d = some (.dK kvs) ∧ kvs.map (·.1) = F.map Sum.inl ∧ H' l = some (.lst (L.map V.int)) ∧
      Wst t ns F L ∧ L.length ≤ 1000 ∧ m = mea (t.length + 1) L, ⟨_, [], ns, [], _, rfl, s2, by rw [upd_ne ndl]; exact upd_same, rfl, upd_same, ⟨List.nodup_nil, fun z hz => ?_, fun z hz => .inr hz, fun k hk => by cases hk⟩, hn, rfl⟩, ?_⟩
    · rcases hz with hz | hz
      · cases hz
      · have := hns z hz
        exact ⟨z.toNat, by omega, z.toNat, Nat.le_refl _, by show ((z.toNat : Nat) : Int) ∈ ns; rwa [show ((z.toNat : Nat) : Int) = z from by omega], fun m h1 h2 => by omega⟩
    · rintro m σ H' ⟨F, L, kvs, x, rfl, s', hd', hk', hl', W, hL, rfl⟩
      refine ⟨_, rfl, !(L.map V.int).isEmpty, .inl ⟨_, SqL.of hl', rfl⟩, ?_⟩
      rcases List.eq_nil_or_concat L with rfl | ⟨L0, y, rfl⟩
      · -- all found
        refine iteF ?_
        have pl := W.done
        have fl : F.length ≤ t.length + 1 := pl.len fun k hk => by have := cl_le k ⟨k, rfl, hk⟩; omega
        refine ⟨_, rfl, d, kvs, F, rfl, .inl hd', hk', by omega, fun ys q pe _ hq => ⟨q, _, rfl, .inl ⟨SqL.of upd_same, fun r hr => ?_⟩⟩⟩
        refine k r ys _ (s'.trans ((same_upd hq).trans (same_upd hr))) upd_same ⟨pe.nodup_iff.mpr pl.nd, fun z => ?_⟩
        rw [pe.mem_iff]
        exact pl.mem z
      · have eL : L0.concat y = L0 ++ [y] := List.concat_eq_append
        rw [eL] at hl' W hL ⊢
        rw [show (!((L0 ++ [y]).map V.int).isEmpty) = true from by cases L0 <;> rfl]
        refine iteT ?_
        obtain ⟨ky, ey, cy⟩ := W.fr y (.inr (by simp))
        have yb := cl_le y ⟨ky, ey, cy⟩
        refine ⟨_, fun σ' H' h => h, ?_⟩
        refine ⟨_, rfl, .inl ⟨rfl, _, SqL.of hl'⟩, l, _, .int y, rfl, rfl, hl', by simp, ?_⟩
        have ed : ((L0 ++ [y]).map V.int).dropLast = L0.map V.int := by simp
        rw [ed]
        have npl : ∀ b o, H b = some o → b ≠ l ∧ b ≠ d := fun b o eb => ⟨fun z => (by rw [z, Same.none s1 hl] at eb; cases eb), fun z => (by rw [z, hd] at eb; cases eb)⟩
        have hd2 : upd H' l (.lst (L0.map V.int)) d = some (.dK kvs) := by rw [upd_ne ndl]; exact hd'
        have fl : F.length ≤ t.length + 1 := by
          have pF : Places (fun k => (k : Int) ∈ F) F := ⟨W.nd, fun z => ⟨fun hz => by
            obtain ⟨k, e, _⟩ := W.fr z (.inl hz)
            exact ⟨k, e, by rw [← e]; exact hz⟩, fun ⟨k, e, hk⟩ => by rw [e]; exact hk⟩⟩
          exact pF.len fun k hk => by have := cl_le k (W.fr k (.inl hk)); omega
        have kl : kvs.length = F.length := by
          have := congrArg List.length hk'
          simpa using this
        refine ⟨_, rfl, _, rfl, d, _, rfl, DPut.k (k := Sum.inl y) hd2 (sz2 (by omega)), ?_⟩
        -- found, and the list
        have s3 : Same H (upd (upd H' l (.lst (L0.map V.int))) d (.dK (putK kvs (Sum.inl y) (.bl true)))) := fun b o eb => by
          rw [upd_ne (npl b o eb).2, upd_ne (npl b o eb).1]
          exact s' _ _ eb
        have hd3 : upd (upd H' l (.lst (L0.map V.int))) d (.dK (putK kvs (Sum.inl y) (.bl true))) d = some (.dK (putK kvs (Sum.inl y) (.bl true))) := upd_same
        have hl3 : upd (upd H' l (.lst (L0.map V.int))) d (.dK (putK kvs (Sum.inl y) (.bl true))) l = some (.lst (L0.map V.int)) := by rw [upd_ne ndl.symm]; exact upd_same
        have hk3 : (putK kvs (Sum.inl y : Key) (V.bl true)).map (·.1) = (if y ∈ F then F else F ++ [y]).map Sum.inl := by
          by_cases hy : y ∈ F
          · rw [if_pos hy, keys_old (by rw [hk']; exact List.mem_map.mpr ⟨y, hy, rfl⟩), hk']
          · rw [if_neg hy, keys_new (fun h => by
              rw [hk'] at h
              obtain ⟨z, hz, e⟩ := List.mem_map.mp h
              cases e
              exact hy hz), hk', List.map_append]
            rfl
        have nd3 : (if y ∈ F then F else F ++ [y]).Nodup := by
          split
          · exact W.nd
          · rename_i hy
            rw [List.nodup_append]
            exact ⟨W.nd, by simp, fun u hu v hv => by rw [List.mem_singleton.mp hv]; exact fun z => hy (z ▸ hu)⟩
        have mF : ∀ z, z ∈ (if y ∈ F then F else F ++ [y]) ↔ z ∈ F ∨ z = y := fun z => by
          by_cases hy : y ∈ F
          · rw [if_pos hy]
            exact ⟨.inl, fun h => h.elim id fun e => e ▸ hy⟩
          · rw [if_neg hy, List.mem_append, List.mem_singleton]
        generalize (if y ∈ F then F else F ++ [y]) = F' at hk3 nd3 mF
        generalize putK kvs (Sum.inl y : Key) (V.bl true) = kvs' at s3 hd3 hl3 hk3 ⊢
        generalize upd (upd H' l (.lst (L0.map V.int))) d (.dK kvs') = H3 at s3 hd3 hl3 ⊢
        have T3 := hT.same s3
        obtain ⟨⟨dx, h1⟩, h2⟩ := id T3
        have hyk : ((ky : Nat) : Int) = y := ey.symm
        have no : (∀ k : Nat, (k : Int) = y → isSt t k = true → False) → Wst t ns F' L0 := fun hno => ⟨nd3, fun z hz => W.fr z (by
            rcases hz with hz | hz
            · exact ((mF z).mp hz).elim .inl fun e => .inr (by simp [e])
            · exact .inr (by simp [hz])), fun z hz => (W.be z hz).elim (fun h => .inl ((mF z).mpr (.inl h))) fun h => by
              rcases List.mem_append.mp h with h | h
              · exact .inr h
              · exact .inl ((mF z).mpr (.inr (List.mem_singleton.mp h))), fun k hk hst => by
            rcases (mF _).mp hk with h | h
            · rcases W.on k h hst with q | q
              · exact .inl ((mF _).mpr (.inl q))
              · rcases List.mem_append.mp q with q | q
                · exact .inr q
                · exact .inl ((mF _).mpr (.inr (List.mem_singleton.mp q)))
            · exact absurd hst fun z => hno k h z⟩
        have ml : mea (t.length + 1) (L0 ++ [y]) = mea (t.length + 1) L0 + (t.length + 1 + 1 - ky) := by
          rw [mea_app]
          have : y.toNat = ky := by omega
          simp [mea, this]
        refine ⟨_, rfl, _, rfl, p, _, dx, _, _, rfl, h1, T.cl_Torn, T.n_Torn__entries, lk1, q_lenSq (.inl (SqL.of h2)) ⟨_, _, rfl, rfl, _, rfl, if_b (fun e1 => ?_) (fun e1 => ?_)⟩⟩
        · have e1' : y < ((t.map V.str).length : Int) := of_decide_eq_true e1
          rw [List.length_map] at e1'
          have kyl : ky < t.length := by omega
          have g : (t.map V.str)[ky]? = some (.str t[ky]) := by rw [List.getElem?_map, List.getElem?_eq_getElem kyl]; rfl
          refine ⟨_, rfl, p, _, dx, _, _, rfl, h1, T.cl_Torn, T.n_Torn__entries, lk1, _, rfl, q_ix (i := ky) (.inl (SqL.of h2)) ey g (q_eqs ⟨_, rfl, if_b (fun e2 => ?_) (fun e2 => ?_)⟩)⟩
          · have est : isSt t ky = true := by
              unfold isSt
              rw [List.getElem?_eq_getElem kyl, of_decide_eq_true e2]
              exact decide_eq_true rfl
            refine ⟨_, rfl, .inl ⟨rfl, _, SqL.of hl3⟩, _, rfl, q_add ?_⟩
            have L0l : L0.length ≤ 999 := by
              rw [List.length_append] at hL
              have : [y].length = 1 := rfl
              omega
            have npl3 : ∀ b o, H b = some o → b ≠ l := fun b o eb => (npl b o eb).1
            refine ⟨l, _, _, rfl, rfl, hl3, sz2 (by rw [List.length_map]; omega), ?_⟩
            refine ⟨mea (t.length + 1) (L0 ++ [y + 1]), ?_, F', L0 ++ [y + 1], kvs', _, rfl, fun b o eb => by rw [upd_ne (npl3 b o eb)]; exact s3 _ _ eb, by rw [upd_ne ndl]; exact hd3, hk3, by rw [upd_same, List.map_append]; rfl, ⟨nd3, fun z hz => ?_, fun z hz => ?_, fun k hk hst => ?_⟩, by rw [List.length_append]; show L0.length + 1 ≤ 1000; omega, rfl⟩
            · rw [ml, mea_app]
              have e3 : (y + 1).toNat = ky + 1 := by omega
              have e4 : mea (t.length + 1) [y + 1] = t.length + 1 + 1 - (ky + 1) := by
                show (t.length + 1 + 1 - (y + 1).toNat) + 0 = _
                rw [e3, Nat.add_zero]
              rw [e4]
              omega
            · rcases hz with hz | hz
              · exact W.fr z (((mF z).mp hz).elim .inl fun e => .inr (by simp [e]))
              · rcases List.mem_append.mp hz with hz | hz
                · exact W.fr z (.inr (by simp [hz]))
                · refine ⟨ky + 1, by rw [List.mem_singleton.mp hz]; omega, clo_succ.mpr (.inr ⟨est, cy⟩)⟩
            · rcases W.be z hz with h | h
              · exact .inl ((mF z).mpr (.inl h))
              · rcases List.mem_append.mp h with h | h
                · exact .inr (by simp [h])
                · exact .inl ((mF z).mpr (.inr (List.mem_singleton.mp h)))
            · rcases (mF _).mp hk with h | h
              · rcases W.on k h hst with q | q
                · exact .inl ((mF _).mpr (.inl q))
                · rcases List.mem_append.mp q with q | q
                  · exact .inr (List.mem_append_left _ q)
                  · exact .inl ((mF _).mpr (.inr (List.mem_singleton.mp q)))
              · refine .inr ?_
                have : ((k + 1 : Nat) : Int) = y + 1 := by omega
                rw [this]
                simp
          · refine ⟨mea (t.length + 1) L0, by rw [ml]; omega, F', L0, kvs', _, rfl, s3, hd3, hk3, hl3, no fun k ek hst => ?_, by rw [List.length_append] at hL; omega, rfl⟩
            have : k = ky := by omega
            subst this
            unfold isSt at hst
            rw [List.getElem?_eq_getElem kyl] at hst
            exact of_decide_eq_false e2 (Option.some.inj (of_decide_eq_true hst))
        · have e1' : ¬ y < ((t.map V.str).length : Int) := of_decide_eq_false e1
          rw [List.length_map] at e1'
          refine ⟨mea (t.length + 1) L0, by rw [ml]; omega, F', L0, kvs', _, rfl, s3, hd3, hk3, hl3, no fun k ek hst => ?_, by rw [List.length_append] at hL; omega, rfl⟩
          rw [isSt_len (by omega)] at hst
          cases hst
theorem ok_Torn_begin (T : Txt K mg A D) : FnOk P w K mg base CX0 2 A.Torn_begin D.Torn_begin ["self"] (spBegin A.Torn) := by
  refine T.f_Torn_begin.ok sc_Torn_begin (fun vs H Q E h => ?_) (fun cdv AA outer s H vs Q E hr h => ?_)
  · obtain ⟨p, e, t, rfl, _⟩ := h
    rfl
  · obtain ⟨p, e, t, rfl, hT, ht, k⟩ := h
    refine ⟨_, (pss_one (ps_ret (pe_meth (pv 0) T.cl_Torn T.t_Torn__spread (ok_Torn__spread T) (hr.mono (by decide)) (b_Torn__spread T) .nil pass0 (pa_cons (pe_lst (pa_cons pe_int pa_nil)) pa_nil)))), ?_⟩
    obtain ⟨⟨dx, h1⟩, h2⟩ := id hT
    refine ⟨_, rfl, p, dx, _, rfl, h1, lk0 (by decide +kernel), by show 1 ≤ sizeLine; decide, fun a ha => ?_⟩
    refine ⟨p, e, a, t, [0], rfl, hT.same (same_upd ha), ht, SqL.of upd_same, by decide, fun z hz => by rw [List.mem_singleton.mp hz]; omega, fun r ms H' s' hr' pl => ?_⟩
    exact k r ms H' ((same_upd ha).trans s') hr' (pl.iff fun i => ⟨clo_mono fun k hk => by
      have := List.mem_singleton.mp hk
      omega, clo_mono fun k hk => by rw [hk]; exact List.mem_singleton.mpr rfl⟩)
theorem ok_Torn_is_end (T : Txt K mg A D) : FnOk P w K mg base CX0 1 A.Torn_is_end D.Torn_is_end ["self", "stand"] (spIsEnd A.Torn) := by
  refine T.f_Torn_is_end.ok sc_Torn_is_end (fun vs H Q E h => ?_) (fun cdv AA outer s H vs Q E hr h => ?_)
  · obtain ⟨p, e, a, t, ns, rfl, _⟩ := h
    rfl
  · obtain ⟨p, e, a, t, ns, rfl, hT, ha, k⟩ := h
    refine ⟨_, (pss_one (ps_ret (pe_cmpR (inK K rfl) (pe_callB (lenK K rfl) (by rfl) T.b_len (by decide +kernel) (pa_cons (pe_fld (pv 0) rfl) pa_nil)) (pv 1) (by rfl)))), ?_⟩
    obtain ⟨⟨dx, h1⟩, h2⟩ := id hT
    refine ⟨_, rfl, p, _, dx, _, _, rfl, h1, T.cl_Torn, T.n_Torn__entries, lk1, q_lenSq (.inl (SqL.of h2)) ⟨_, rfl, .inl ⟨a, _, rfl, .inr (SqT.of ha), rfl, flat_ints ns, ?_⟩⟩⟩
    rw [in_ints, List.length_map]
    exact k
theorem ok_Torn_behind (T : Txt K mg A D) : FnOk P w K mg base CX0 2 A.Torn_behind D.Torn_behind ["self", "stand", "word"] (spBehind A.Torn) := by
  refine T.f_Torn_behind.ok sc_Torn_behind (fun vs H Q E h => ?_) (fun cdv AA outer s H vs Q E hr h => ?_)
  · obtain ⟨p, e, a, t, X, ns, w, rfl, _⟩ := h
    rfl
  · obtain ⟨p, e, a, t, X, ns, w, rfl, hT, ht, ha, hX, hXl, k⟩ := h
    refine ⟨_, (pss_cons (ps_set (i := 3) sc_Torn_behind.nd rfl (Or.inl rfl) (by exact (pe_lst pa_nil)))
  (pss_cons (ps_for PassesOwn.never rfl (pi_tup (pv 1)) (pg_name (i := 4) sc_Torn_behind.nd rfl (Or.inl rfl))
 (pss_cons (ps_set (i := 5) sc_Torn_behind.nd rfl (Or.inl rfl) (by exact (pe_ifExp (pt_cmpR op_lt (pv 4) (pe_callB (lenK K rfl) (by rfl) T.b_len (by decide +kernel) (pa_cons (pe_fld (pv 0) rfl) pa_nil)) (nomark _)) (pe_ix (ixK K rfl) (pe_fld (pv 0) rfl) (pv 4) (fun _ _ => rfl)) pe_non)))
  (pss_one (ps_if (pt_cmpR (eqK K rfl (units_of hr)) (pv 5) (pe_glob (v := .str "*") rfl T.c_ANY ⟨_, rfl⟩) (nomark _)) (pss_one (ps_expr (pe_bm PySem.F.plainAttrs_list PySem.F.slot_list_append PySem.F.type_list_append mt_append (pv 3) (pa_cons (pv 4) pa_nil)))) (pss_one (ps_if (pt_cmpR (inK K rfl) (pv 5) (pe_tup (pa_cons (pe_glob (v := .str "?") rfl T.c_ONE ⟨_, rfl⟩) (pa_cons (pv 2) pa_nil))) (by rfl)) (pss_one (ps_expr (pe_bm PySem.F.plainAttrs_list PySem.F.slot_list_append PySem.F.type_list_append mt_append (pv 3) (pa_cons (pe_op (addK K rfl) (pv 4) pe_int) pa_nil)))) pss_nil))))))
  (pss_one (ps_ret (pe_meth (pv 0) T.cl_Torn T.t_Torn__spread (ok_Torn__spread T) (hr.mono (by decide)) (b_Torn__spread T) .nil pass0 (pa_cons (pv 3) pa_nil)))))), ?_⟩
    refine ⟨Nat.zero_le _, fun l hl => ?_⟩
    have s0 : Same H (upd H l (.lst [])) := same_upd hl
    have nl : ns.length ≤ 21 := Nat.le_trans (hX.len hXl) (by omega)
    refine ⟨_, rfl, a, rfl, ⟨_, SqT.of (s0 _ _ ha)⟩, for_tup (K := K) (a := a) (xs := ns.map V.int) (fun i σ H' => ∃ (ms : List Int) (x y : Option V), σ = [some (.ref p), some (.ref a), some (.str w), some (.ref l), x, y] ∧ Same H H' ∧ H' l = some (.lst (ms.map V.int)) ∧ ms.length ≤ i ∧
        ∀ z : Int, z ∈ ms ↔ ∃ m : Nat, (m : Int) ∈ ns.take i ∧ ((z = (m : Int) ∧ isSt t m = true) ∨ (z = ((m + 1 : Nat) : Int) ∧ ¬ isSt t m = true ∧ mt t m w = true)))
      ⟨[], none, none, rfl, s0, upd_same, Nat.le_refl _, fun z => by simp⟩ (fun i σ H' _ ⟨_, _, _, _, s', _⟩ => SqT.of (s' _ _ ha)) ?_ ?_⟩
    · rintro i v σ H' hi ⟨ms, x, y, rfl, s', hl', ml, hm⟩
      have hin : i < ns.length := by
        have := (List.getElem?_eq_some_iff.mp hi).1
        rwa [List.length_map] at this
      have gi := List.getElem?_eq_getElem hin
      have ev : v = .int ns[i] := by
        rw [List.getElem?_map, gi] at hi
        exact (Option.some.inj hi).symm
      obtain ⟨m, em, Xm⟩ := (hX.mem ns[i]).mp (List.getElem_mem hin)
      rw [em] at ev
      subst ev
      have tk : ns.take (i + 1) = ns.take i ++ [(m : Int)] := by rw [take_one gi, em]
      obtain ⟨⟨dx, h1⟩, h2⟩ := hT.same s'
      have mlen := hXl m Xm
      have nlp : ∀ b o, H b = some o → b ≠ l := fun b o eb z => by rw [z, hl] at eb; cases eb
      have stay : (¬ isSt t m = true) → (¬ mt t m w = true) → ∀ z : Int, z ∈ ms ↔ ∃ j : Nat, (j : Int) ∈ ns.take (i + 1) ∧ ((z = (j : Int) ∧ isSt t j = true) ∨ (z = ((j + 1 : Nat) : Int) ∧ ¬ isSt t j = true ∧ mt t j w = true)) := fun c1 c2 z => by
        rw [hm, tk]
        constructor
        · rintro ⟨j, hj, r⟩
          exact ⟨j, List.mem_append_left _ hj, r⟩
        · rintro ⟨j, hj, r⟩
          rcases List.mem_append.mp hj with hj | hj
          · exact ⟨j, hj, r⟩
          · have : j = m := by have := List.mem_singleton.mp hj; omega
            subst this
            rcases r with ⟨_, r⟩ | ⟨_, _, r⟩
            · exact absurd r c1
            · exact absurd r c2
      have more : ∀ u : Int, ((u = (m : Int) ∧ isSt t m = true) ∨ (u = ((m + 1 : Nat) : Int) ∧ ¬ isSt t m = true ∧ mt t m w = true)) → ∀ z : Int, z ∈ ms ++ [u] ↔ ∃ j : Nat, (j : Int) ∈ ns.take (i + 1) ∧ ((z = (j : Int) ∧ isSt t j = true) ∨ (z = ((j + 1 : Nat) : Int) ∧ ¬ isSt t j = true ∧ mt t j w = true)) := fun u hu z => by
        rw [List.mem_append, hm, tk, List.mem_singleton]
        constructor
        · rintro (⟨j, hj, r⟩ | rfl)
          · exact ⟨j, List.mem_append_left _ hj, r⟩
          · exact ⟨m, List.mem_append_right _ (List.mem_singleton.mpr rfl), hu⟩
        · rintro ⟨j, hj, r⟩
          rcases List.mem_append.mp hj with hj | hj
          · exact .inl ⟨j, hj, r⟩
          · have : j = m := by have := List.mem_singleton.mp hj; omega
            subst this
            refine .inr ?_
            rcases hu with ⟨e1, c1⟩ | ⟨e1, c1, _⟩ <;> rcases r with ⟨e2, d1⟩ | ⟨e2, d1, _⟩
            · rw [e1, e2]
            · exact absurd c1 d1
            · exact absurd d1 c1
            · rw [e1, e2]
      rcases Nat.lt_or_ge m t.length with lt | ge
      · have g : (t.map V.str)[m]? = some (.str t[m]) := by rw [List.getElem?_map, List.getElem?_eq_getElem lt]; rfl
        have isS : isSt t m = decide (t[m] = Str.ofString "*") := by
          unfold isSt
          rw [List.getElem?_eq_getElem lt]
          simp
        have isM : mt t m w = (decide (t[m] = Str.ofString "?") || decide (t[m] = w)) := by
          unfold Tn.mt
          rw [List.getElem?_eq_getElem lt]
          simp
        refine ⟨_, rfl, _, rfl, p, _, dx, _, _, rfl, h1, T.cl_Torn, T.n_Torn__entries, lk1, q_lenSq (.inl (SqL.of h2)) ⟨_, _, rfl, rfl, _, rfl, ?_⟩⟩
        rw [decide_eq_true (show ((m : Nat) : Int) < ((t.map V.str).length : Nat) by rw [List.length_map]; omega)]
        refine iteT ⟨_, rfl, p, _, dx, _, _, rfl, h1, T.cl_Torn, T.n_Torn__entries, lk1, _, rfl, q_ix (i := m) (.inl (SqL.of h2)) rfl g ?_⟩
        refine ⟨_, rfl, q_eqs ⟨_, rfl, if_b (fun e1 => ?_) (fun e1 => ?_)⟩⟩
        · refine ⟨_, rfl, .inl ⟨rfl, _, SqL.of hl'⟩, _, rfl, l, _, _, rfl, rfl, hl', sz2 (by rw [List.length_map]; omega), ?_⟩
          refine ⟨ms ++ [(m : Int)], _, _, rfl, fun b o eb => by rw [upd_ne (nlp b o eb)]; exact s' _ _ eb, by rw [upd_same, List.map_append]; rfl, by rw [List.length_append]; show ms.length + 1 ≤ i + 1; omega, more _ (.inl ⟨rfl, by rw [isS]; exact e1⟩)⟩
        · have nS : ¬ isSt t m = true := by rw [isS, e1]; exact Bool.false_ne_true
          refine ⟨_, rfl, _, rfl, by show 2 ≤ sizeLine; decide, fun q hq => ?_⟩
          refine q_inTexts (ks := [Str.ofString "?", w]) (.inr (SqT.of upd_same)) ⟨_, rfl, if_b (fun e2 => ?_) (fun e2 => ?_)⟩
          · have yM : mt t m w = true := by
              rw [isM]
              have := of_decide_eq_true e2
              rcases List.mem_cons.mp this with h | h
              · simp [h]
              · simp [List.mem_singleton.mp h]
            refine ⟨_, rfl, .inl ⟨rfl, _, SqL.of (same_upd hq _ _ hl')⟩, _, rfl, q_add ⟨l, _, _, rfl, rfl, same_upd hq _ _ hl', sz2 (by rw [List.length_map]; omega), ?_⟩⟩
            refine ⟨ms ++ [(m : Int) + 1], _, _, rfl, fun b o eb => by rw [upd_ne (nlp b o eb)]; exact same_upd hq _ _ (s' _ _ eb), by rw [upd_same, List.map_append]; rfl, by rw [List.length_append]; show ms.length + 1 ≤ i + 1; omega, more _ (.inr ⟨by omega, nS, yM⟩)⟩
          · have nM : ¬ mt t m w = true := by
              rw [isM]
              have := of_decide_eq_false e2
              intro z
              refine this ?_
              rcases Bool.or_eq_true_iff.mp z with z | z
              · rw [of_decide_eq_true z]; exact List.mem_cons_self
              · rw [of_decide_eq_true z]; exact List.mem_cons_of_mem _ (List.mem_singleton.mpr rfl)
            exact ⟨ms, _, _, rfl, s'.trans (same_upd hq), same_upd hq _ _ hl', by omega, stay nS nM⟩
      · have nS : ¬ isSt t m = true := by rw [isSt_len ge]; exact Bool.false_ne_true
        have nM : ¬ mt t m w = true := by
          unfold Tn.mt
          rw [List.getElem?_eq_none ge]
          simp
        refine ⟨_, rfl, _, rfl, p, _, dx, _, _, rfl, h1, T.cl_Torn, T.n_Torn__entries, lk1, q_lenSq (.inl (SqL.of h2)) ⟨_, _, rfl, rfl, _, rfl, ?_⟩⟩
        rw [decide_eq_false (show ¬ ((m : Nat) : Int) < ((t.map V.str).length : Nat) by rw [List.length_map]; omega)]
        refine iteF ?_
        refine ⟨_, rfl, .inl ⟨rfl, _, rfl, ?_⟩⟩
        rw [show decide (V.non = V.str (Str.ofString "*")) = false from rfl]
        refine iteF ⟨_, rfl, _, rfl, by show 2 ≤ sizeLine; decide, fun q hq => ?_⟩
        refine .inl ⟨q, [V.str (Str.ofString "?"), V.str w], rfl, .inr (SqT.of upd_same), rfl, rfl, _, rfl, iteF ?_⟩
        exact ⟨ms, _, _, rfl, s'.trans (same_upd hq), same_upd hq _ _ hl', by omega, stay nS nM⟩
    · rintro σ H' ⟨ms, x, y, rfl, s', hl', ml, hm⟩
      rw [List.length_map, List.take_length] at hm
      rw [List.length_map] at ml
      obtain ⟨⟨dx, h1⟩, h2⟩ := hT.same s'
      have iff : ∀ k : Nat, ((k : Int) ∈ ms) ↔ Lead t X w k := fun k => by
        rw [hm]
        unfold Lead
        constructor
        · rintro ⟨m, hm, r⟩
          obtain ⟨m', e, Xm⟩ := (hX.mem _).mp hm
          have : m = m' := by omega
          subst this
          rcases r with ⟨e1, c⟩ | ⟨e1, c⟩
          · have : k = m := by omega
            subst this
            exact .inl ⟨c, Xm⟩
          · exact .inr ⟨m, by omega, c.1, c.2, Xm⟩
        · rintro (⟨c, Xk⟩ | ⟨m, rfl, c1, c2, Xm⟩)
          · exact ⟨k, (hX.mem _).mpr ⟨k, rfl, Xk⟩, .inl ⟨rfl, c⟩⟩
          · exact ⟨m, (hX.mem _).mpr ⟨m, rfl, Xm⟩, .inr ⟨rfl, c1, c2⟩⟩
      refine ⟨_, rfl, p, dx, _, rfl, h1, lk0 (by decide +kernel), _, rfl, ?_⟩
      refine ⟨p, e, l, t, ms, rfl, hT.same s', ht, SqL.of hl', by omega, fun z hz => ?_, fun r ns' H2 s2 hr2 pl => k r ns' H2 (s'.trans s2) hr2 (pl.iff fun i => ⟨clo_mono fun k hk => (iff k).mp hk, clo_mono fun k hk => (iff k).mpr hk⟩)⟩
      obtain ⟨m, hmm, r⟩ := (hm z).mp hz
      obtain ⟨m', e', Xm⟩ := (hX.mem _).mp hmm
      have := hXl m' Xm
      rcases r with ⟨rfl, _⟩ | ⟨rfl, c1, c2⟩
      · omega
      · have : m < t.length := by
          refine Classical.byContradiction fun c => ?_
          unfold Tn.mt at c2
          rw [List.getElem?_eq_none (by omega)] at c2
          simp at c2
        omega
theorem ok_log_fits (T : Txt K mg A D) : FnOk P w K mg base CX0 3 A.log_fits D.log_fits ["watch", "torn", "log"] (spFits K) := by
  refine T.f_log_fits.ok sc_log_fits (fun vs H Q E h => ?_) (fun cdv AA outer s H vs Q E hr h => ?_)
  · obtain ⟨u, a, b, t, g, rfl, _⟩ := h
    rfl
  · obtain ⟨u, a, b, t, g, rfl, ha, hb, ht, k⟩ := h
    refine ⟨_, (pss_cons (ps_set (i := 3) sc_log_fits.nd rfl (Or.inl rfl) (by exact (pe_make T.k_Torn (ok_Torn___init__ T) (hr.mono (by decide)) rfl T.m_Torn (b_Torn___init__ T) .nil pass0 (pa_cons (pv 1) pa_nil))))
  (pss_cons (ps_set (i := 4) sc_log_fits.nd rfl (Or.inl rfl) (by exact (pe_meth0 (pv 3) T.cl_Torn T.t_Torn_begin (ok_Torn_begin T) (hr.mono (by decide)) (b_Torn_begin T) .nil pass0)))
  (pss_cons (ps_for PassesOwn.never rfl (pi_list (pv 2)) (pg_name (i := 5) sc_log_fits.nd rfl (Or.inl rfl))
 (pss_one (ps_set (i := 4) sc_log_fits.nd rfl (Or.inl rfl) (by exact (pe_meth (pv 3) T.cl_Torn T.t_Torn_behind (ok_Torn_behind T) (hr.mono (by decide)) (b_Torn_behind T) .nil pass0 (pa_cons (pv 4) (pa_cons (pv 5) pa_nil)))))))
  (pss_one (ps_ret (pe_meth (pv 3) T.cl_Torn T.t_Torn_is_end (ok_Torn_is_end T) (hr.mono (by decide)) (b_Torn_is_end T) .nil pass0 (pa_cons (pv 4) pa_nil))))))), ?_⟩
    refine ⟨_, rfl, fun x dx nx ndx nex => ?_⟩
    have s1 : Same H (upd (upd H dx (.own x)) x (.ins A.Torn dx [])) := fun c o e => by
      rw [upd_ne (ne_of_none e nx), upd_ne (ne_of_none e ndx)]
      exact e
    refine ⟨x, dx, a, t, rfl, upd_same, ha.same s1, fun e H1 he T1 s2 => ⟨rfl, ?_⟩⟩
    have s3 : Same H H1 := fun c o ec => s2 c o (s1 c o ec) (ne_of_none ec nx)
    obtain ⟨⟨dx1, h1⟩, h2⟩ := id T1
    refine ⟨_, rfl, x, dx1, _, rfl, h1, lk0 (by decide +kernel), ?_⟩
    refine ⟨x, e, t, rfl, T1, ht, fun r ms H2 s4 hr2 pl => ?_⟩
    refine ⟨_, rfl, b, rfl, ⟨_, (s3.trans s4).seq hb⟩, for_list (K := K) (a := b) (xs := g.map V.str) (fun i σ H' => ∃ (r : Addr) (ms : List Int) (y : Option V), σ = [some u, some (.ref a), some (.ref b), some (.ref x), some (.ref r), y] ∧ Same H1 H' ∧ H' r = some (.tup (ms.map V.int)) ∧ Places (fun k => Acc t g k i = true) ms)
      ⟨r, ms, none, rfl, s4, hr2, pl.iff fun i => acc_zero.symm⟩ (fun i σ H' _ ⟨_, _, _, _, s', _⟩ => (s3.trans s').seq hb) ?_ ?_⟩
    · rintro i v σ H' hi ⟨r, ms, y, rfl, s', hr', pl⟩
      have hig : i < g.length := by
        have := (List.getElem?_eq_some_iff.mp hi).1
        rwa [List.length_map] at this
      have ev : v = .str (g.getD i Str.empty) := by
        rw [List.getElem?_map, List.getElem?_eq_getElem hig] at hi
        rw [List.getD_eq_getElem?_getD, List.getElem?_eq_getElem hig]
        exact (Option.some.inj hi).symm
      subst ev
      have T' := T1.same s'
      obtain ⟨⟨dx2, h1⟩, h2⟩ := id T'
      refine ⟨_, rfl, x, dx2, _, rfl, h1, lk0 (by decide +kernel), _, rfl, _, rfl, ?_⟩
      refine ⟨x, e, r, t, _, ms, g.getD i Str.empty, rfl, T', ht, hr', pl, fun k hk => ?_, fun r2 ms2 H2 s2 hr2 pl2 => ?_⟩
      · cases i with
        | zero => exact clo_le (fun k hk => by omega) k (acc_zero.mp hk)
        | succ i => 
          refine clo_le (fun k hk => ?_) k (acc_succ.mp hk)
          rcases hk with ⟨c, _⟩ | ⟨m, rfl, _, c, _⟩
          · refine Classical.byContradiction fun z => ?_
            rw [isSt_len (by omega)] at c
            cases c
          · refine Classical.byContradiction fun z => ?_
            unfold Tn.mt at c
            rw [List.getElem?_eq_none (by omega)] at c
            simp at c
      · exact ⟨r2, ms2, _, rfl, s'.trans s2, hr2, pl2.iff fun k => acc_succ.symm⟩
    · rintro σ H' ⟨r, ms, y, rfl, s', hr', pl⟩
      rw [List.length_map] at pl
      have T' := T1.same s'
      obtain ⟨⟨dx2, h1⟩, h2⟩ := id T'
      refine ⟨_, rfl, x, dx2, _, rfl, h1, lk0 (by decide +kernel), _, rfl, ?_⟩
      refine ⟨x, e, r, t, ms, rfl, T', hr', ?_⟩
      have e2 : decide ((t.length : Int) ∈ ms) = fits t g := by
        unfold fits
        rw [← acc_end]
        by_cases h : Acc t g t.length g.length = true
        · rw [h]
          exact decide_eq_true ((pl.mem _).mpr ⟨_, rfl, h⟩)
        · rw [Bool.eq_false_iff.mpr h]
          refine decide_eq_false fun z => ?_
          obtain ⟨m, em, hm⟩ := (pl.mem _).mp z
          have : m = t.length := by omega
          rw [this] at hm
          exact h hm
      rw [e2]
      exact k H' (s3.trans s')
end
end K62
set_option Elab.async false
set_option linter.all false
set_option maxRecDepth 100000
set_option maxHeartbeats 4000000
namespace K62
open PySem PySem.Spec L2 Quiet Gn Tn

theorem in_bls : ∀ bs : List Bool, inV (.bl true) (bs.map V.bl) = bs.any id
  | [] => by simp [inV]
  | b :: bs => by
    have ih := in_bls bs
    unfold inV at ih ⊢
    rw [List.map_cons, List.any_cons, ih, List.any_cons]
    cases b <;> rfl
theorem flat_bls : ∀ bs : List Bool, (bs.map V.bl).all flatV = true
  | [] => rfl
  | y :: bs => by
    rw [List.map_cons, List.all_cons, flat_bls bs]
    rfl
/-- how far the entries reach, behind i of them -/
def row (t g : List Str) (i : Nat) : List Bool := (List.range (g.length + 1)).map fun j => Mf t g i j
theorem row_len (t g : List Str) (i : Nat) : (row t g i).length = g.length + 1 := by simp [row]
theorem row_get {t g : List Str} {i j : Nat} (h : j < g.length + 1) : ((row t g i).map V.bl)[j]? = some (.bl (Mf t g i j)) := by
  simp [row, h]
theorem row_zero (t g : List Str) : (row t g 0).map V.bl = V.bl true :: List.replicate g.length (V.bl false) := by
  refine List.ext_getElem? fun j => ?_
  rcases Nat.lt_or_ge j (g.length + 1) with h | h
  · rw [row_get h]
    cases j with
    | zero => simp [Mf]
    | succ j =>
      rw [List.getElem?_cons_succ, List.getElem?_replicate, if_pos (by omega)]
      simp [Mf]
  · rw [List.getElem?_eq_none (by rw [List.length_map, row_len]; omega), List.getElem?_eq_none (by simp; omega)]
theorem row_cut {t g : List Str} {i j : Nat} (h : j < g.length + 1) : ((row t g i).take (j + 1)).any id = (List.range (j + 1)).any fun k => Mf t g i k := by
  unfold row
  rw [← List.map_take, List.take_range, List.any_map, show min (j + 1) (g.length + 1) = j + 1 by omega]
  rfl
theorem cut_to {bs : List Bool} {n : Nat} (h : n ≤ bs.length) : cutV (bs.map V.bl) none (some (n : Int)) = (bs.take n).map V.bl := by
  have e : HT.sIx bs.length bs.length (some (n : Int)) = n := by
    unfold HT.sIx
    simp only [show ¬ ((n : Int) < 0) by omega, if_false]
    omega
  rw [cutV_map, e]
  rfl
def spLFits (K : PySem.W.Frag) : Sp := fun vs H Q _ => ∃ (u : V) (a b : Addr) (t g : List Str), vs = [u, .ref a, .ref b] ∧ SqL K H a (t.map V.str) ∧ SqL K H b (g.map V.str) ∧ g.length ≤ 1000 ∧
  ∀ H', Same H H' → Q (.bl (fits t g)) H'
section
variable {P : Program} {w : World} {K : PySem.W.Frag} {mg : Str → Option Value} {base : Heap} {A : Ad} {D : Fd}
theorem ok__law_fits (T : Txt K mg A D) : FnOk P w K mg base CX0 1 A._law_fits D._law_fits ["watch", "torn", "log"] (spLFits K) := by
  refine T.f__law_fits.ok sc__law_fits (fun vs H Q E h => ?_) (fun cdv AA outer s H vs Q E hr h => ?_)
  · obtain ⟨u, a, b, t, g, rfl, _⟩ := h
    rfl
  · obtain ⟨u, a, b, t, g, rfl, ha, hb, hg, k⟩ := h
    refine ⟨_, (pss_cons (ps_set (i := 3) sc__law_fits.nd rfl (Or.inr rfl) (by exact (pe_op (addK K rfl) (pe_lst (pa_cons pe_bl pa_nil)) (pe_op (mulK K rfl) (pe_lst (pa_cons pe_bl pa_nil)) (pe_callB (lenK K rfl) (by rfl) T.b_len (by decide +kernel) (pa_cons (pv 2) pa_nil))))))
  (pss_cons (ps_for PassesOwn.never rfl (pi_list (pv 1)) (pg_name (i := 4) sc__law_fits.nd rfl (Or.inr rfl))
 (pss_one (ps_if (pt_cmpR (eqK K rfl (units_of hr)) (pv 4) pe_str (nomark _)) (pss_one (ps_set (i := 3) sc__law_fits.nd rfl (Or.inr rfl) (by exact (pe_lc (own := [("at", 6)]) rfl sc__law_fits.nd (pi_range1 rfl T.b_range (pa_cons (pe_op (addK K rfl) (pe_callB (lenK K rfl) (by rfl) T.b_len (by decide +kernel) (pa_cons (pv 2) pa_nil)) pe_int) pa_nil)) (blkOk_by (own := [("at", 6)]) (N := n__law_fits) (sc := defScope s__law_fits) (by decide +kernel)) (fun _ _ _ _ _ => (pg_name (i := 6) sc__law_fits.nd rfl (Or.inl rfl))) (fun _ _ _ _ _ => pts_nil) (fun _ _ _ _ _ => (pe_cmpR (inK K rfl) pe_bl (pe_slice (slK K rfl) (pv 3) po_none (po_some (pe_op (addK K rfl) (pv 6) pe_int))) (by rfl))))))) (pss_cons (ps_setLc (i := 5) (own := [("at", 6)]) rfl sc__law_fits.nd rfl rfl (sw_true rfl rfl rfl (by decide +kernel)) (pi_range1 rfl T.b_range (pa_cons (pe_callB (lenK K rfl) (by rfl) T.b_len (by decide +kernel) (pa_cons (pv 2) pa_nil)) pa_nil)) (blkOk_by (own := [("at", 6)]) (N := n__law_fits) (sc := defScope s__law_fits) (by decide +kernel)) (fun _ _ _ _ _ => (pg_name (i := 6) sc__law_fits.nd rfl (Or.inl rfl))) (fun _ _ _ _ _ => pts_nil) (fun _ _ _ _ _ => (pe_and (pe_ix (ixK K rfl) (pv 3) (pv 6) (fun _ _ => rfl)) (pe_one (pe_cmpR (inK K rfl) (pv 4) (pe_tup (pa_cons pe_str (pa_cons (pe_ix (ixK K rfl) (pv 2) (pv 6) (fun _ _ => rfl)) pa_nil))) (by rfl))))))
  (pss_one (ps_set (i := 3) sc__law_fits.nd rfl (Or.inr rfl) (by exact (pe_op (addK K rfl) (pe_lst (pa_cons pe_bl pa_nil)) (pv 5)))))))))
  (pss_one (ps_ret (pe_ix (ixK K rfl) (pv 3) (pe_un un_neg pe_int) (fun _ _ => rfl)))))), ?_⟩
    refine ⟨by show 1 ≤ sizeLine; decide, fun p1 n1 => ⟨by show 1 ≤ sizeLine; decide, fun p2 n2 => ?_⟩⟩
    have s1 : Same H (upd H p1 (.lst [.bl true])) := same_upd n1
    have s2 : Same H (upd (upd H p1 (.lst [.bl true])) p2 (.lst [.bl false])) := s1.trans (same_upd n2)
    refine ⟨_, rfl, q_lenSq (.inl (s2.seq hb)) (.inr (.inl ⟨p2, _, [.bl false], rfl, rfl, upd_same, by omega, by rw [List.length_map]; omega, by rw [List.length_map]; show 1 * _ ≤ _; rw [Nat.one_mul]; exact sz1 (by omega), fun p3 n3 => ?_⟩))⟩
    have e3 : (List.replicate ((g.map V.str).length : Int).toNat [V.bl false]).flatten = List.replicate g.length (V.bl false) := by
      rw [flat_rep, List.length_map]
      simp
    rw [e3]
    have s3 := s2.trans (same_upd (o := .lst (List.replicate g.length (V.bl false))) n3)
    have g1 : upd (upd (upd H p1 (.lst [.bl true])) p2 (.lst [.bl false])) p3 (.lst (List.replicate g.length (V.bl false))) p1 = some (.lst [.bl true]) := same_upd n3 _ _ (same_upd n2 _ _ upd_same)
    refine .inr (.inr (.inl ⟨p1, p3, _, _, rfl, rfl, g1, upd_same, sz1 (by rw [List.length_replicate]; show 1 + _ ≤ _; omega), fun R hR => ?_⟩))
    have s4 := s3.trans (same_upd (o := .lst ([V.bl true] ++ List.replicate g.length (V.bl false))) hR)
    have e4 : [V.bl true] ++ List.replicate g.length (V.bl false) = (row t g 0).map V.bl := (row_zero t g).symm
    rw [e4] at s4 ⊢
    refine ⟨_, rfl, a, rfl, ⟨_, s4.seq ha⟩, for_list (K := K) (a := a) (xs := t.map V.str) (fun i σ H' => ∃ (R : Addr) (x y z : Option V), σ = [some u, some (.ref a), some (.ref b), some (.ref R), x, y, z] ∧ Same H H' ∧ H' R = some (.lst ((row t g i).map V.bl)))
      ⟨R, none, none, none, rfl, s4, upd_same⟩ (fun i σ H' _ ⟨_, _, _, _, _, s', _⟩ => s'.seq ha) ?_ ?_⟩
    · clear hR s4 e4 g1 s3 e3 n3 p3 s2 s1 n2 n1 p2 p1
      rintro i v σ H' hi ⟨R, x, y, z, rfl, s', hR⟩
      have hit : i < t.length := by
        have := (List.getElem?_eq_some_iff.mp hi).1
        rwa [List.length_map] at this
      have ev : v = .str t[i] := by
        rw [List.getElem?_map, List.getElem?_eq_getElem hit] at hi
        exact (Option.some.inj hi).symm
      subst ev
      have isS : isSt t i = decide (t[i] = Str.ofString "*") := by
        unfold isSt
        rw [List.getElem?_eq_getElem hit]
        simp
      have hb' := s'.seq hb
      have rl : ((row t g i).map V.bl).length = g.length + 1 := by rw [List.length_map, row_len]
      refine ⟨_, rfl, q_eqs ⟨_, rfl, if_b (fun e1 => ?_) (fun e1 => ?_)⟩⟩
      · have yS : isSt t i = true := by rw [isS]; exact e1
        refine ⟨_, rfl, q_lenSq (.inl hb') (q_add ⟨((g.length + 1 : Nat) : Int), by rw [List.length_map]; rfl, by omega, by omega, fun D hD => ?_⟩)⟩
        have wk : Walk (Itr 0 ((g.length + 1 : Nat) : Int).toNat) (List.range (g.length + 1)).length (fun _ => True) (YFn fun i => V.int (0 + (i : Int))) := by
          rw [List.length_range, show (((g.length + 1 : Nat) : Int)).toNat = g.length + 1 from by omega]
          exact walk_range
        refine comp_map (Y := YFn fun i => V.int (0 + (i : Int))) (List.range (g.length + 1)) (fun j => V.bl (Mf t g (i + 1) j)) wk hD (by rw [List.length_range]; exact sz2 (by omega)) (fun _ _ => trivial) ?_ ?_
        · rintro j c y' H1 H2 Rr hj s1 ⟨rfl, rfl⟩ hRr
          obtain ⟨rfl, jl⟩ := range_get hj
          refine ⟨rfl, _, rfl, _, rfl, q_add ⟨_, rfl, .inl ⟨R, _, rfl, SqL.of (s1 _ _ hR), fun q hq => ?_⟩⟩⟩
          have ej : (0 : Int) + ((c : Nat) : Int) + 1 = ((c + 1 : Nat) : Int) := by omega
          rw [ej, cut_to (by rw [row_len]; omega)]
          refine .inl ⟨q, _, rfl, .inl (SqL.of upd_same), rfl, flat_bls _, ?_⟩
          rw [if_neg Bool.false_ne_true, in_bls, row_cut jl]
          have e5 : (List.range (c + 1)).any (fun k => Mf t g i k) = Mf t g (i + 1) c := by rw [mf_st yS, Tn.Acc, if_pos yS]
          rw [e5]
          exact hRr _ (same_upd hq)
        · intro H1 s1 hl
          have em : (List.range (g.length + 1)).map (fun j => V.bl (Mf t g (i + 1) j)) = (row t g (i + 1)).map V.bl := by simp [row]
          rw [em] at hl
          exact ⟨D, _, _, _, rfl, s'.trans s1, hl⟩
      · have nS : ¬ isSt t i = true := by rw [isS, e1]; exact Bool.false_ne_true
        refine ⟨_, rfl, q_lenSq (.inl hb') ⟨(g.length : Int), by rw [List.length_map], by omega, by omega, fun D hD => ?_⟩⟩
        have wk : Walk (Itr 0 ((g.length : Nat) : Int).toNat) (List.range g.length).length (fun _ => True) (YFn fun i => V.int (0 + (i : Int))) := by
          rw [List.length_range, show (((g.length : Nat) : Int)).toNat = g.length from by omega]
          exact walk_range
        refine comp_map (Y := YFn fun i => V.int (0 + (i : Int))) (List.range g.length) (fun j => V.bl (Mf t g (i + 1) (j + 1))) wk hD (by rw [List.length_range]; exact sz2 (by omega)) (fun _ _ => trivial) ?_ ?_
        · rintro j c y' H1 H2 Rr hj s1 ⟨rfl, rfl⟩ hRr
          obtain ⟨rfl, jl⟩ := range_get hj
          have eA : Tn.Acc t g i c = Mf t g i c := by rw [Tn.Acc, if_neg nS]
          refine ⟨rfl, _, rfl, _, rfl, q_ix (i := c) (.inl (SqL.of (s1 _ _ hR))) (by omega) (row_get (by omega)) ⟨_, rfl, if_b (fun e2 => ?_) (fun e2 => ?_)⟩⟩
          · have gc : (g.map V.str)[c]? = some (.str g[c]) := by rw [List.getElem?_map, List.getElem?_eq_getElem jl]; rfl
            refine ⟨_, rfl, _, rfl, _, rfl, q_ix (i := c) (.inl (s1.seq hb')) (by omega) gc ⟨by show 2 ≤ sizeLine; decide, fun q hq => ?_⟩⟩
            refine q_inTexts (ks := [Str.ofString "?", g[c]]) (.inr (SqT.of upd_same)) ?_
            have e5 : decide (t[i] ∈ [Str.ofString "?", g[c]]) = Mf t g (i + 1) (c + 1) := by
              rw [mf_no nS, eA, e2, Bool.true_and]
              unfold Tn.mt
              rw [List.getElem?_eq_getElem hit, List.getD_eq_getElem?_getD, List.getElem?_eq_getElem jl]
              simp
            rw [e5]
            exact hRr _ (same_upd hq)
          · have e5 : false = Mf t g (i + 1) (c + 1) := by rw [mf_no nS, eA, e2, Bool.false_and]
            rw [e5]
            exact hRr _ (Same.refl _)
        · intro H1 s1 hl
          refine ⟨by show 1 ≤ sizeLine; decide, fun q hq => ?_⟩
          refine ⟨_, rfl, .inr (.inr (.inl ⟨q, D, _, _, rfl, rfl, upd_same, same_upd hq _ _ hl, sz1 (by rw [List.length_map, List.length_range]; show 1 + _ ≤ _; omega), fun R2 hR2 => ?_⟩))⟩
          refine ⟨R2, _, _, _, rfl, (s'.trans s1).trans ((same_upd hq).trans (same_upd hR2)), ?_⟩
          rw [upd_same]
          congr 2
          refine List.ext_getElem? fun j => ?_
          rcases Nat.lt_or_ge j (g.length + 1) with h | h
          · rw [row_get h]
            cases j with
            | zero =>
              have : Mf t g (i + 1) 0 = false := by rw [Mf, if_neg nS]
              rw [this]
              rfl
            | succ j =>
              have hj : j < g.length := by omega
              simp [hj]
          · rw [List.getElem?_eq_none (by simp; omega), List.getElem?_eq_none (by rw [List.length_map, row_len]; omega)]
    · rintro σ H' ⟨R, x, y, z, rfl, s', hR⟩
      rw [List.length_map] at hR
      refine ⟨_, rfl, 1, rfl, .inl ⟨R, _, _, .bl (fits t g), rfl, rfl, SqL.of hR, ?_, k H' s'⟩⟩
      have e0 : (row t g t.length).map V.bl = ((List.range g.length).map fun j => V.bl (Mf t g t.length j)) ++ [.bl (fits t g)] := by
        unfold row
        rw [List.map_map, List.range_succ, List.map_append]
        rfl
      rw [e0]
      exact atI_last _ _
end
end K62
set_option Elab.async false
set_option linter.all false
set_option maxRecDepth 100000
set_option maxHeartbeats 4000000
namespace K62
open PySem PySem.Spec L2 Quiet Gn Tn

/-- such an entry a torn log of the watch may have -/
def entB (ws : List Str) : PyData → Bool | .str x => decide (x ∈ [Str.ofString "?", Str.ofString "*"]) || decide (x ∈ ws) | _ => false
def tornB (ws : List Str) (d : PyData) : Bool := match iSeqD d with
  | some ds => decide (ds.length ≤ 10) && (ds.all (entB ws) && decide (cntT "*" (ds.map textOf) ≤ 3))
  | none => false
theorem ent_text {ws : List Str} {d : PyData} (h : entB ws d = true) : ∃ x, d = .str x := by
  cases d <;> first | exact ⟨_, rfl⟩ | (exact absurd h Bool.false_ne_true)
def spTorn (K : PySem.W.Frag) : Sp := fun vs H Q _ => ∃ (a : Addr) (ws : List Str) (v : V) (d : PyData), vs = [.ref a, v] ∧ H a = some (.tup (ws.map V.str)) ∧ ws.length ≤ 1000 ∧ Is H v d ∧ Small d ∧ ∀ H', Same H H' → Q (.bl (tornB ws d)) H'
section
variable {P : Program} {w : World} {K : PySem.W.Frag} {mg : Str → Option Value} {base : Heap} {A : Ad} {D : Fd}
theorem ok_is_torn (T : Txt K mg A D) : FnOk P w K mg base CX0 1 A.is_torn D.is_torn ["watch", "thing"] (spTorn K) := by
  refine T.f_is_torn.ok sc_is_torn (fun vs H Q E h => ?_) (fun cdv AA outer s H vs Q E hr h => ?_)
  · obtain ⟨a, ws, v, d, rfl, _⟩ := h
    rfl
  · obtain ⟨a, ws, v, d, rfl, ha, hw, hd, hz, k⟩ := h
    refine ⟨_, (pss_cons (ps_if (PW.pt (pw_or (pt_not (pt_val (pe_callB (isiK K rfl) (by rfl) T.b_isinstance (by decide +kernel) (pa_cons (pv 1) (pa_cons (pe_tup (pa_cons (pe_bltn (v := .ty "list") (by rfl) T.b_list (by decide +kernel) rfl) (pa_cons (pe_bltn (v := .ty "tuple") (by rfl) T.b_tuple (by decide +kernel) rfl) pa_nil))) pa_nil))))) (pw_or1 (pt_cmpR op_gt (pe_callB (lenK K rfl) (by rfl) T.b_len (by decide +kernel) (pa_cons (pv 1) pa_nil)) (pe_glob (v := .int 10) rfl T.c_MOST_ENTRIES ⟨_, rfl⟩) (nomark _))))) (pss_one (ps_ret pe_bl)) pss_nil)
  (pss_cons (ps_if (pt_not (pt_val (pe_callB (allK K rfl rfl) (by rfl) T.b_all (by decide +kernel) (pa_cons (pe_lc (own := [("part", 2)]) rfl sc_is_torn.nd (pi_sq K rfl (pv 1)) (blkOk_by (own := [("part", 2)]) (N := n_is_torn) (sc := defScope s_is_torn) (by decide +kernel)) (fun _ _ _ _ _ => (pg_name (i := 2) sc_is_torn.nd rfl (Or.inl rfl))) (fun _ _ _ _ _ => pts_nil) (fun _ _ _ _ _ => (pe_and (pe_callB (isiK K rfl) (by rfl) T.b_isinstance (by decide +kernel) (pa_cons (pv 2) (pa_cons (pe_bltn (v := .ty "str") (by rfl) T.b_str (by decide +kernel) rfl) pa_nil))) (pe_one (pe_or (pe_cmpR (inK K rfl) (pv 2) (pe_tup (pa_cons (pe_glob (v := .str "?") rfl T.c_ONE ⟨_, rfl⟩) (pa_cons (pe_glob (v := .str "*") rfl T.c_ANY ⟨_, rfl⟩) pa_nil))) (by rfl)) (pe_one (pe_cmpR (inK K rfl) (pv 2) (pv 0) (by rfl)))))))) pa_nil)))) (pss_one (ps_ret pe_bl)) pss_nil)
  (pss_one (ps_ret (pe_cmpR op_le (pe_bm PySem.F.plainAttrs_list PySem.F.slot_list_count PySem.F.type_list_count (cntK K rfl) (pe_callTy (listK K rfl) (by rfl) T.b_list (by decide +kernel) (pa_cons (pv 1) pa_nil)) (pa_cons (pe_glob (v := .str "*") rfl T.c_ANY ⟨_, rfl⟩) pa_nil)) (pe_glob (v := .int 3) rfl T.c_MOST_ANY ⟨_, rfl⟩) (nomark _)))))), ?_⟩
    refine ⟨_, rfl, by show 2 ≤ sizeLine; decide, fun tp htp => ?_⟩
    have s0 : Same H (upd H tp (.tup [.ty "list", .ty "tuple"])) := same_upd htp
    refine q_isi2 (Is.same s0 hd) upd_same (k_lst d) (k_tup d) ⟨_, rfl, ?_⟩
    cases e : iSeqD d with
    | none =>
      rw [not_seq e]
      refine iteT (iteT ?_)
      have := k _ s0
      rw [tornB, e] at this
      exact this
    | some ds =>
      rw [is_seq e]
      refine iteF ?_
      have hd0 := Is.same s0 hd
      have ha0 := s0 _ _ ha
      generalize upd H tp (.tup [.ty "list", .ty "tuple"]) = H0 at s0 hd0 ha0 ⊢
      obtain ⟨b, xs, rfl, hS, hA⟩ := seq_of (K := K) hd0 e
      have hl := hA.length
      obtain ⟨hz1, hz2⟩ := small_seq hz e
      refine ⟨_, rfl, q_lenSq hS ⟨_, _, rfl, rfl, _, rfl, if_b (fun e1 => ?_) (fun e1 => ?_)⟩⟩
      · have e1' : ¬ ds.length ≤ 10 := by
          have := of_decide_eq_true e1
          omega
        have := k _ s0
        simp only [tornB, e, decide_eq_false e1', Bool.false_and] at this
        exact this
      · have l10 : ds.length ≤ 10 := by
          have := of_decide_eq_false e1
          omega
        refine ⟨_, rfl, b, xs, rfl, hS, fun J G hG wk Dd hDd => ?_⟩
        refine comp_map (G := G) (Y := YAt xs) ds (fun d => V.bl (entB ws d)) (by rw [← hl]; exact wk) hDd (sz2 hz1) (fun H' s' => hG H' fun o e => s' _ _ e) ?_ ?_
        · rintro i dd y H1 H2 R hi s1 ⟨rfl, hx⟩ hR
          obtain ⟨d', e', hd'⟩ := hA.at' hx
          rw [hi] at e'
          cases e'
          refine ⟨rfl, _, rfl, q_isi (Is.same s1 hd') (k_str dd) ⟨_, rfl, if_b (fun e2 => ?_) (fun e2 => ?_)⟩⟩
          · obtain ⟨x, rfl⟩ : ∃ x, dd = .str x := by
              cases dd <;> first | exact ⟨_, rfl⟩ | (exact absurd e2 Bool.false_ne_true)
            cases hd'
            refine ⟨_, rfl, by show 2 ≤ sizeLine; decide, fun q hq => q_inTexts (ks := [Str.ofString "?", Str.ofString "*"]) (.inr (SqT.of upd_same)) ⟨_, rfl, if_b (fun e3 => ?_) (fun e3 => ?_)⟩⟩
            · have := hR _ (same_upd hq (o := .tup [V.str (Str.ofString "?"), V.str (Str.ofString "*")]))
              simp only [entB, e3, Bool.true_or] at this
              exact this
            · refine ⟨_, rfl, _, rfl, q_inTexts (ks := ws) (.inr (SqT.of (same_upd hq _ _ (s1 _ _ ha0)))) ?_⟩
              have := hR _ (same_upd hq (o := .tup [V.str (Str.ofString "?"), V.str (Str.ofString "*")]))
              simp only [entB, e3, Bool.false_or] at this
              exact this
          · have := hR _ (Same.refl _)
            have e3 : entB ws dd = false := by cases dd <;> first | rfl | (exact absurd e2 (by simp [Gn.iStr]))
            rw [e3] at this
            exact this
        · intro H1 s1 hl1
          rw [show ds.map (fun d => V.bl (entB ws d)) = (ds.map (entB ws)).map V.bl by rw [List.map_map]; rfl] at hl1
          refine ⟨Dd, _, rfl, SqL.of hl1, _, rfl, ?_⟩
          rw [List.all_map]
          have eq1 : (ds.all (id ∘ entB ws)) = ds.all (entB ws) := rfl
          refine if_b (fun e2 => ?_) (fun e2 => ?_)
          · have e2' : ds.all (entB ws) = false := by simpa using e2
            have := k _ (s0.trans s1)
            simp only [tornB, e, e2', Bool.false_and, Bool.and_false] at this
            exact this
          · have e2' : ds.all (entB ws) = true := by simpa using e2
            have ex := are_texts hA fun d hd => ent_text (List.all_eq_true.mp e2' d hd)
            refine ⟨_, rfl, b, xs, rfl, hS.same s1, fun l hl' => ⟨.inl ⟨rfl, _, SqL.of upd_same⟩, l, ds.map textOf, Str.ofString "*", rfl, rfl, SqL.of (by rw [upd_same, ex]), _, _, rfl, rfl, ?_⟩⟩
            have := k _ ((s0.trans s1).trans (same_upd hl' (o := .lst xs)))
            simp only [tornB, e, e2', decide_eq_true l10, Bool.true_and] at this
            have eq2 : decide (((cntT (Str.ofString "*") (ds.map textOf) : Nat) : Int) ≤ 3) = decide (cntT (Str.ofString "*") (ds.map textOf) ≤ 3) := by
              by_cases h : cntT (Str.ofString "*") (ds.map textOf) ≤ 3
              · rw [decide_eq_true h, decide_eq_true (by omega)]
              · rw [decide_eq_false h, decide_eq_false (by omega)]
            show Q (V.bl (decide (((cntT (Str.ofString "*") (ds.map textOf) : Nat) : Int) ≤ 3))) _
            rw [eq2]
            exact this
theorem ok__law_is_torn (T : Txt K mg A D) : FnOk P w K mg base CX0 1 A._law_is_torn D._law_is_torn ["watch", "thing"] (spTorn K) := by
  refine T.f__law_is_torn.ok sc__law_is_torn (fun vs H Q E h => ?_) (fun cdv AA outer s H vs Q E hr h => ?_)
  · obtain ⟨a, ws, v, d, rfl, _⟩ := h
    rfl
  · obtain ⟨a, ws, v, d, rfl, ha, hw, hd, hz, k⟩ := h
    refine ⟨_, (pss_cons (ps_if (PW.pt (pw_or (pt_not (pt_val (pe_callB (isiK K rfl) (by rfl) T.b_isinstance (by decide +kernel) (pa_cons (pv 1) (pa_cons (pe_tup (pa_cons (pe_bltn (v := .ty "list") (by rfl) T.b_list (by decide +kernel) rfl) (pa_cons (pe_bltn (v := .ty "tuple") (by rfl) T.b_tuple (by decide +kernel) rfl) pa_nil))) pa_nil))))) (pw_or1 (pt_cmpR op_gt (pe_callB (lenK K rfl) (by rfl) T.b_len (by decide +kernel) (pa_cons (pv 1) pa_nil)) pe_int (nomark _))))) (pss_one (ps_ret pe_bl)) pss_nil)
  (pss_cons (ps_if (pt_cmpR (op_ne0L (units_of hr)) (pe_lc (own := [("one", 2)]) rfl sc__law_is_torn.nd (pi_sq K rfl (pv 1)) (blkOk_by (own := [("one", 2)]) (N := n__law_is_torn) (sc := defScope s__law_is_torn) (by decide +kernel)) (fun _ _ _ _ _ => (pg_name (i := 2) sc__law_is_torn.nd rfl (Or.inl rfl))) (fun _ _ _ _ _ => (pts_one (pt_not (pt_val (pe_callB (isiK K rfl) (by rfl) T.b_isinstance (by decide +kernel) (pa_cons (pv 2) (pa_cons (pe_bltn (v := .ty "str") (by rfl) T.b_str (by decide +kernel) rfl) pa_nil))))))) (fun _ _ _ _ _ => (pv 2))) (pe_lst pa_nil) (nomark _)) (pss_one (ps_ret pe_bl)) pss_nil)
  (pss_one (ps_ret (pe_and (pe_cmpR (op_eq0L (units_of hr)) (pe_lc (own := [("one", 2)]) rfl sc__law_is_torn.nd (pi_sq K rfl (pv 1)) (blkOk_by (own := [("one", 2)]) (N := n__law_is_torn) (sc := defScope s__law_is_torn) (by decide +kernel)) (fun _ _ _ _ _ => (pg_name (i := 2) sc__law_is_torn.nd rfl (Or.inl rfl))) (fun _ _ _ _ _ => (pts_one (pt_cmpR (notInK K rfl) (pv 2) (pe_op (addK K rfl) (pv 0) (pe_tup (pa_cons pe_str (pa_cons pe_str pa_nil)))) (by rfl)))) (fun _ _ _ _ _ => (pv 2))) (pe_lst pa_nil) (nomark _)) (pe_one (pe_cmpR op_lt (pe_bm PySem.F.plainAttrs_list PySem.F.slot_list_count PySem.F.type_list_count (cntK K rfl) (pe_callTy (listK K rfl) (by rfl) T.b_list (by decide +kernel) (pa_cons (pv 1) pa_nil)) (pa_cons pe_str pa_nil)) pe_int (nomark _)))))))), ?_⟩
    refine ⟨_, rfl, by show 2 ≤ sizeLine; decide, fun tp htp => ?_⟩
    have s0 : Same H (upd H tp (.tup [.ty "list", .ty "tuple"])) := same_upd htp
    refine q_isi2 (Is.same s0 hd) upd_same (k_lst d) (k_tup d) ⟨_, rfl, ?_⟩
    cases e : iSeqD d with
    | none =>
      rw [not_seq e]
      refine iteT (iteT ?_)
      have := k _ s0
      rw [tornB, e] at this
      exact this
    | some ds =>
      rw [is_seq e]
      refine iteF ?_
      have hd0 := Is.same s0 hd
      have ha0 := s0 _ _ ha
      generalize upd H tp (.tup [.ty "list", .ty "tuple"]) = H0 at s0 hd0 ha0 ⊢
      obtain ⟨b, xs, rfl, hS, hA⟩ := seq_of (K := K) hd0 e
      have hl := hA.length
      obtain ⟨hz1, hz2⟩ := small_seq hz e
      refine ⟨_, rfl, q_lenSq hS ⟨_, _, rfl, rfl, _, rfl, if_b (fun e1 => ?_) (fun e1 => ?_)⟩⟩
      · have e1' : ¬ ds.length ≤ 10 := by
          have := of_decide_eq_true e1
          omega
        have := k _ s0
        simp only [tornB, e, decide_eq_false e1', Bool.false_and] at this
        exact this
      · have l10 : ds.length ≤ 10 := by
          have := of_decide_eq_false e1
          omega
        refine ⟨_, rfl, b, xs, rfl, hS, fun J G hG wk Dd hDd => ?_⟩
        refine comp_fm (G := G) (Y := YAt xs) (xs.zip ds) (fun x => if Gn.iStr x.2 then none else some x.1) (by rw [zip_len hl]; exact wk) hDd (sz2 (by rw [zip_len hl]; omega)) (fun H' s' => hG H' fun o e => s' _ _ e) ?_ ?_
        · rintro i ⟨u, dd⟩ y H1 H2 R hi s1 ⟨rfl, hx⟩ hR
          obtain ⟨z1, z2⟩ := zip_at hi
          rw [z1] at hx
          cases hx
          obtain ⟨d', e', hd'⟩ := hA.at' z1
          rw [z2] at e'
          cases e'
          refine ⟨rfl, _, rfl, q_isi (Is.same s1 hd') (k_str dd) ⟨_, rfl, if_b (fun e2 => ?_) (fun e2 => ?_)⟩⟩
          · have e3 : Gn.iStr dd = false := by simpa using e2
            have := hR _ (Same.refl _)
            rw [if_neg (by rw [e3]; exact Bool.false_ne_true)] at this
            exact ⟨_, rfl, this⟩
          · have e3 : Gn.iStr dd = true := by simpa using e2
            have := hR _ (Same.refl _)
            rw [if_pos e3] at this
            exact this
        · intro H1 s1 hl1
          refine ⟨Nat.zero_le _, fun q hq => ⟨Dd, q, _, rfl, rfl, same_upd hq _ _ hl1, upd_same, ?_⟩⟩
          rw [fm_none (fun x : V × PyData => Gn.iStr x.2), zip_all Gn.iStr hl]
          have s2 : Same H0 (upd H1 q (.lst [])) := s1.trans (same_upd hq)
          generalize upd H1 q (.lst []) = H2 at s2 ⊢
          refine ⟨_, rfl, if_b (fun e2 => ?_) (fun e2 => ?_)⟩
          · have e2' : ds.all Gn.iStr = false := by simpa using e2
            have e3 : ds.all (entB ws) = false := by
              rw [Bool.eq_false_iff]
              intro z
              rw [Bool.eq_false_iff] at e2'
              refine e2' (List.all_eq_true.mpr fun d hd => ?_)
              obtain ⟨x, rfl⟩ := ent_text (List.all_eq_true.mp z d hd)
              rfl
            have := k _ (s0.trans s2)
            simp only [tornB, e, e3, Bool.false_and, Bool.and_false] at this
            exact this
          · have e2' : ds.all Gn.iStr = true := by simpa using e2
            have ex := are_texts hA fun d hd => by
              have := List.all_eq_true.mp e2' d hd
              cases d <;> first | exact ⟨_, rfl⟩ | (exact absurd this Bool.false_ne_true)
            refine ⟨_, rfl, b, xs, rfl, hS.same s2, fun J2 G2 hG2 wk2 D2 hD2 => ?_⟩
            refine comp_fm (G := G2) (Y := YAt xs) (ds.map textOf) (fun x => if (decide (x ∈ [Str.ofString "?", Str.ofString "*"]) || decide (x ∈ ws)) = true then none else some (V.str x)) (by rw [List.length_map, ← hl]; exact wk2) hD2 (sz2 (by rw [List.length_map]; omega)) (fun H' s' => hG2 H' fun o e => s' _ _ e) ?_ ?_
            · rintro i x y H3 H4 R hi s3 ⟨rfl, hx⟩ hR
              rw [ex, List.getElem?_map, hi] at hx
              cases hx
              refine ⟨rfl, _, rfl, _, rfl, by show 2 ≤ sizeLine; decide, fun q2 hq2 => ?_⟩
              have hq3 := same_upd hq2 (o := .tup [V.str (Str.ofString "?"), V.str (Str.ofString "*")])
              have iff : decide (x ∈ ws ++ [Str.ofString "?", Str.ofString "*"]) = (decide (x ∈ [Str.ofString "?", Str.ofString "*"]) || decide (x ∈ ws)) := by
                by_cases h1 : x ∈ ws <;> by_cases h2 : x ∈ [Str.ofString "?", Str.ofString "*"] <;> simp_all [List.mem_append]
              refine q_catT (hq3 _ _ (s3 _ _ (s2 _ _ ha0))) upd_same (sz1 (by rw [List.length_map]; show _ + 2 ≤ _; omega)) fun r H5 s5 er => ?_
              have er' : H5 r = some (.tup ((ws ++ [Str.ofString "?", Str.ofString "*"]).map V.str)) := by rw [er, List.map_append]; rfl
              refine q_notInTexts (ks := ws ++ [Str.ofString "?", Str.ofString "*"]) (.inr (SqT.of er')) ⟨_, rfl, ?_⟩
              rw [iff]
              have := hR H5 (hq3.trans s5)
              refine if_b (fun e3 => ?_) (fun e3 => ?_)
              · rw [if_neg (by rw [bnot_t e3]; exact Bool.false_ne_true)] at this
                exact ⟨_, rfl, this⟩
              · rw [if_pos (bnot_f e3)] at this
                exact this
            · intro H3 s3 hl3
              refine ⟨Nat.zero_le _, fun q3 hq3 => ⟨D2, q3, _, rfl, rfl, same_upd hq3 _ _ hl3, upd_same, ?_⟩⟩
              rw [fm_none (fun x : Str => decide (x ∈ [Str.ofString "?", Str.ofString "*"]) || decide (x ∈ ws))]
              have s4 : Same H2 (upd H3 q3 (.lst [])) := s3.trans (same_upd hq3)
              generalize upd H3 q3 (.lst []) = H4 at s4 ⊢
              have e3 : (ds.map textOf).all (fun x : Str => decide (x ∈ [Str.ofString "?", Str.ofString "*"]) || decide (x ∈ ws)) = ds.all (entB ws) := by
                rw [List.all_map, Bool.eq_iff_iff, List.all_eq_true, List.all_eq_true]
                refine forall_congr' fun d => forall_congr' fun hd => ?_
                have := List.all_eq_true.mp e2' d hd
                cases d <;> first | exact absurd this Bool.false_ne_true | rfl
              rw [e3]
              refine ⟨_, rfl, if_b (fun e4 => ?_) (fun e4 => ?_)⟩
              · refine ⟨_, rfl, b, xs, rfl, (hS.same s2).same s4, fun l hl' => ⟨.inl ⟨rfl, _, SqL.of upd_same⟩, l, ds.map textOf, Str.ofString "*", rfl, rfl, SqL.of (by rw [upd_same, ex]), _, _, rfl, rfl, ?_⟩⟩
                have := k _ ((s0.trans (s2.trans s4)).trans (same_upd hl' (o := .lst xs)))
                simp only [tornB, e, e4, decide_eq_true l10, Bool.true_and] at this
                have eq2 : decide (((cntT (Str.ofString "*") (ds.map textOf) : Nat) : Int) < 4) = decide (cntT (Str.ofString "*") (ds.map textOf) ≤ 3) := by
                  by_cases h : cntT (Str.ofString "*") (ds.map textOf) ≤ 3
                  · rw [decide_eq_true h, decide_eq_true (by omega)]
                  · rw [decide_eq_false h, decide_eq_false (by omega)]
                show Q (V.bl (decide (((cntT (Str.ofString "*") (ds.map textOf) : Nat) : Int) < 4))) _
                rw [eq2]
                exact this
              · have := k _ (s0.trans (s2.trans s4))
                simp only [tornB, e, e4, Bool.false_and, Bool.and_false] at this
                exact this
end
end K62
set_option Elab.async false
set_option linter.all false
set_option maxRecDepth 100000
set_option maxHeartbeats 4000000
namespace K62
open PySem PySem.Spec L2 Quiet Gn Tn

/-- a short text of plain letters -/
def Wd (x : Str) : Prop := x.length ≤ 8 ∧ ∀ c ∈ x.cps.toList, c < 128
theorem wd_of {x : Str} (h : Nm x) : Wd x := ⟨h.2.1, h.2.2⟩
theorem fm_if {α : Type} (c : α → Bool) (f : α → Str) : ∀ l : List α, (l.filterMap fun x => if c x = true then some (V.str (f x)) else none) = (l.filterMap fun x => if c x = true then some (f x) else none).map V.str
  | [] => rfl
  | x :: l => by
    have ih := fm_if c f l
    cases h : c x with
    | true => rw [List.filterMap_cons_some (b := V.str (f x)) (by rw [h]; rfl), List.filterMap_cons_some (b := f x) (by rw [h]; rfl), List.map_cons, ih]
    | false => rw [List.filterMap_cons_none (by rw [h]; rfl), List.filterMap_cons_none (by rw [h]; rfl), ih]
theorem wd_q : Wd (Str.ofString "?") := ⟨by decide +kernel, by decide +kernel⟩
theorem wd_s : Wd (Str.ofString "*") := ⟨by decide +kernel, by decide +kernel⟩
def spDrawn : Sp := fun vs H Q _ => ∃ (p a : Addr) (ws : List Str), vs = [.ref p, .ref a] ∧ Bag H p ∧ a ≠ p ∧ H a = some (.tup (ws.map V.str)) ∧ ws.length ≤ 8 ∧ (∀ x ∈ ws, Nm x) ∧
  ∀ (r : Addr) (t : List Str) (H' : Hp), t.length ≤ 10 → (∀ x ∈ t, Wd x) → H r = none → H' r = some (.lst (t.map V.str)) → Ext p H H' → Q (.ref r) H'
theorem ext_none {p b : Addr} {H H' : Hp} (x : Ext p H H') (h : H' b = none) : H b = none := by
  cases e : H b with
  | none => rfl
  | some o =>
    by_cases n : b = p
    · obtain ⟨q, e⟩ := x.bag.at
      rw [← n, h] at e
      cases e
    · rw [x.keep b o n e] at h
      cases h
/-- one that is new to the heap is written, others that are new are there -/
theorem Ext.put {p a : Addr} {H H1 : Hp} {o : HO} (hB : Bag H p) (x : Ext p H H1) (n : H a = none) : Ext p H (upd H1 a o) := Ext.over hB x n
section
variable {P : Program} {w : World} {K : PySem.W.Frag} {mg : Str → Option Value} {base : Heap} {A : Ad} {D : Fd}
theorem ok__law_drawn (T : Txt K mg A D) : FnOk P w K mg base CX0 3 A._law_drawn D._law_drawn ["bag", "watch"] spDrawn := by
  refine T.f__law_drawn.ok sc__law_drawn (fun vs H Q E h => ?_) (fun cdv AA outer s H vs Q E hr h => ?_)
  · obtain ⟨p, a, ws, rfl, _⟩ := h
    rfl
  · obtain ⟨p, a, ws, rfl, hB, nap, ha, hw, hn, k⟩ := h
    refine ⟨_, (pss_cons (ps_set (i := 2) sc__law_drawn.nd rfl (Or.inr rfl) (by exact (pe_lst pa_nil)))
  (pss_cons (ps_for PassesOwn.never rfl (pi_range1 rfl T.b_range (pa_cons (pe_call (ok__law_take T) (hr.mono (by decide)) rfl T.m__law_take T.f__law_take.kp (b__law_take T) .nil pass0 (pa_cons (pv 0) (pa_cons (pe_ix (ixK K rfl) (pe_lst (pa_cons pe_int (pa_cons pe_int (pa_cons pe_int pa_nil)))) (pe_call (ok__law_take T) (hr.mono (by decide)) rfl T.m__law_take T.f__law_take.kp (b__law_take T) .nil pass0 (pa_cons (pv 0) (pa_cons pe_int pa_nil))) (fun _ _ => rfl)) pa_nil))) pa_nil)) (pg_name (i := 3) sc__law_drawn.nd rfl (Or.inl rfl))
 (pss_one (ps_expr (pe_bm PySem.F.plainAttrs_list PySem.F.slot_list_append PySem.F.type_list_append mt_append (pv 2) (pa_cons (pe_call (ok__law_one T) (hr.mono (by decide)) rfl T.m__law_one T.f__law_one.kp (b__law_one T) .nil pass0 (pa_cons (pv 0) (pa_cons (pe_op (addK K rfl) (pe_op (addK K rfl) (pe_callTy (listK K rfl) (by rfl) T.b_list (by decide +kernel) (pa_cons (pv 1) pa_nil)) (pe_callTy (listK K rfl) (by rfl) T.b_list (by decide +kernel) (pa_cons (pv 1) pa_nil))) (pe_lst (pa_cons pe_str (pa_cons pe_str pa_nil)))) pa_nil))) pa_nil)))))
  (pss_one (ps_ret (pe_lc (own := [("at", 4), ("entry", 5)]) rfl sc__law_drawn.nd (pi_enum rfl T.b_enumerate (pa_cons (pv 2) pa_nil)) (blkOk_by (own := [("at", 4), ("entry", 5)]) (N := n__law_drawn) (sc := defScope s__law_drawn) (by decide +kernel)) (fun _ _ _ _ _ => (pg_tupK (n := 2) K rfl rfl (pgs_cons (pg_name (i := 4) sc__law_drawn.nd rfl (Or.inl rfl)) (pgs_cons (pg_name (i := 5) sc__law_drawn.nd rfl (Or.inl rfl)) pgs_nil)))) (fun _ _ _ _ _ => (pts_one (PW.pt (pw_or (pt_cmpR (op_neU (units_of hr)) (pv 5) pe_str (nomark _)) (pw_or1 (pt_cmpR op_lt (pe_bmK K rfl PySem.F.plainAttrs_list PySem.F.slot_list_count PySem.F.type_list_count (cntK K rfl) (pe_slice (slK K rfl) (pv 2) po_none (po_some (pv 4))) (pa_cons pe_str pa_nil)) pe_int (nomark _))))))) (fun _ _ _ _ _ => (pv 5))))))), ?_⟩
    refine ⟨Nat.zero_le _, fun l hl => ?_⟩
    have x0 : Ext p H (upd H l (.lst [])) := .same hB (same_upd hl)
    have nlp : l ≠ p := hB.ne hl
    have nla : l ≠ a := fun z => by rw [z, ha] at hl; cases hl
    refine ⟨_, rfl, by show 3 ≤ sizeLine; decide, fun q hq => ⟨_, rfl, p, 3, rfl, by decide, by decide, (x0.then (same_upd hq)).bag, fun v H1 v0 v1 x1 => ?_⟩⟩
    have x2 := (x0.then (same_upd (o := .lst [V.int 4, V.int 6, V.int 11]) hq)).trans x1
    have nqp : q ≠ p := x0.bag.ne hq
    have nql : l ≠ q := fun z => by rw [← z, upd_same] at hq; cases hq
    have hq1 : H1 q = some (.lst [V.int 4, V.int 6, V.int 11]) := x1.keep _ _ nqp upd_same
    have hl1 : H1 l = some (.lst []) := x1.keep _ _ nlp (same_upd hq _ _ upd_same)
    obtain ⟨m, hm, m0, m1⟩ : ∃ m : Int, [V.int 4, V.int 6, V.int 11][v.toNat]? = some (.int m) ∧ 0 < m ∧ m ≤ 11 := by
      have h : v = 0 ∨ v = 1 ∨ v = 2 := by omega
      rcases h with rfl | rfl | rfl <;> exact ⟨_, rfl, by decide, by decide⟩
    refine q_ix (i := v.toNat) (.inl (SqL.of hq1)) (by omega) hm ⟨p, m, rfl, m0, by omega, x2.bag, fun n H2 n0 n1 x3 => ?_⟩
    have x4 := x2.trans x3
    have hl2 : H2 l = some (.lst []) := x3.keep _ _ nlp hl1
    refine ⟨n, rfl, by omega, by omega, for_range (fun i σ H' => ∃ (t : List Str) (y z u : Option V), σ = [some (.ref p), some (.ref a), some (.ref l), y, z, u] ∧ t.length ≤ i ∧ (∀ x ∈ t, Wd x) ∧ H' l = some (.lst (t.map V.str)) ∧ Ext p H H')
      ⟨[], none, none, none, rfl, Nat.le_refl _, fun x h => (by cases h), hl2, x4⟩ ?_ ?_⟩
    · rintro i σ H3 hi ⟨t, y, z, u, rfl, tl, tw, hl3, x5⟩
      have ha3 := x5.keep _ _ nap ha
      -- list(watch) + list(watch) + ['?', '*']
      refine ⟨_, rfl, .inl ⟨rfl, _, SqL.of hl3⟩, _, rfl, _, rfl, a, _, rfl, .inr (SqT.of ha3), fun p1 h1 => ⟨_, rfl, a, _, rfl, .inr (SqT.of (same_upd h1 _ _ ha3)), fun p2 h2 => ?_⟩⟩
      have e1 : upd (upd H3 p1 (.lst (ws.map V.str))) p2 (.lst (ws.map V.str)) p1 = some (.lst (ws.map V.str)) := same_upd h2 _ _ upd_same
      refine .inr (.inr (.inl ⟨p1, p2, _, _, rfl, rfl, e1, upd_same, sz1 (by rw [List.length_map]; omega), fun p3 h3 => ?_⟩))
      refine ⟨by show 2 ≤ sizeLine; decide, fun p4 h4 => ?_⟩
      have s4 : Same H3 (upd (upd (upd (upd H3 p1 (.lst (ws.map V.str))) p2 (.lst (ws.map V.str))) p3 (.lst (ws.map V.str ++ ws.map V.str))) p4 (.lst [V.str (Str.ofString "?"), V.str (Str.ofString "*")])) := (((same_upd h1).trans (same_upd h2)).trans (same_upd h3)).trans (same_upd h4)
      have e3 : upd (upd (upd (upd H3 p1 (.lst (ws.map V.str))) p2 (.lst (ws.map V.str))) p3 (.lst (ws.map V.str ++ ws.map V.str))) p4 (.lst [V.str (Str.ofString "?"), V.str (Str.ofString "*")]) p3 = some (.lst (ws.map V.str ++ ws.map V.str)) := same_upd h4 _ _ upd_same
      refine .inr (.inr (.inl ⟨p3, p4, _, _, rfl, rfl, e3, upd_same, sz1 (by rw [List.length_append, List.length_map]; show _ + 2 ≤ _; omega), fun p5 h5 => ?_⟩))
      have s5 := s4.trans (same_upd (o := .lst ((ws.map V.str ++ ws.map V.str) ++ [V.str (Str.ofString "?"), V.str (Str.ofString "*")])) h5)
      have x6 := x5.then s5
      have n5p : p5 ≠ p := fun z => by
        obtain ⟨o, e⟩ := (x5.then s4).bag.at
        rw [z, e] at h5
        cases h5
      have em : (ws.map V.str ++ ws.map V.str) ++ [V.str (Str.ofString "?"), V.str (Str.ofString "*")] = (ws ++ ws ++ [Str.ofString "?", Str.ofString "*"]).map V.str := by simp
      rw [em] at x6 s5 ⊢
      refine ⟨p, .ref p5, rfl, x6.bag, .inl ⟨p5, _, rfl, n5p, .inl (SqL.of upd_same), by rw [List.length_map, List.length_append]; show 0 < _ + 2; omega, by rw [List.length_map, List.length_append, List.length_append]; show _ + 2 ≤ _; omega, fun j b H4 hj x7 => ?_⟩⟩
      rw [List.getElem?_map] at hj
      cases hx : (ws ++ ws ++ [Str.ofString "?", Str.ofString "*"])[j]? with
      | none => rw [hx] at hj; cases hj
      | some x =>
        rw [hx] at hj
        cases hj
        have hxm := List.mem_of_getElem? hx
        have hxw : Wd x := by
          rcases List.mem_append.mp hxm with h | h
          · rcases List.mem_append.mp h with h | h
            · exact wd_of (hn x h)
            · exact wd_of (hn x h)
          · rcases List.mem_cons.mp h with h | h
            · rw [h]; exact wd_q
            · rw [List.mem_singleton.mp h]; exact wd_s
        have x8 := x6.trans x7
        have hl4 : H4 l = some (.lst (t.map V.str)) := x7.keep _ _ nlp (s5 _ _ hl3)
        refine ⟨l, _, _, rfl, rfl, hl4, sz2 (by rw [List.length_map]; omega), ?_⟩
        refine ⟨t ++ [x], _, _, _, rfl, by rw [List.length_append]; show t.length + 1 ≤ i + 1; omega, fun u hu => ?_, by rw [upd_same, List.map_append]; rfl, Ext.over hB x8 hl⟩
        rcases List.mem_append.mp hu with h | h
        · exact tw u h
        · rw [List.mem_singleton.mp h]; exact hxw
    · rintro σ H3 ⟨t, y, z, u, rfl, tl, tw, hl3, x5⟩
      have tl10 : t.length ≤ 10 := by omega
      refine ⟨_, rfl, l, _, rfl, SqL.of hl3, fun Dd hDd => ?_⟩
      have wk : Walk (Ite K l) t.zipIdx.length (fun H => SqL K H l (t.map V.str)) (YPair (fun i => some (.int (i : Nat))) (fun i => (t.map V.str)[i]?)) := by
        have := walk_enum (K := K) (a := l) (xs := t.map V.str)
        rwa [List.length_map, ← List.length_zipIdx (l := t) (i := 0)] at this
      refine comp_fm (Y := YPair (fun i => some (.int (i : Nat))) (fun i => (t.map V.str)[i]?)) t.zipIdx (fun x => if (decide (x.1 ≠ Str.ofString "*") || decide (cntT (Str.ofString "*") (t.take x.2) < 3)) = true then some (V.str x.1) else none) wk hDd (sz2 (by rw [List.length_zipIdx]; omega)) (fun H' s' => SqL.of (s' _ _ hl3)) ?_ ?_
      · rintro i ⟨x, i'⟩ y H4 H5 R hi s1 ⟨Tt, y1, y2, rfl, hT, rfl, h1, h2⟩ hR
        rw [List.getElem?_zipIdx] at hi
        cases hx : t[i]? with
        | none => rw [hx] at hi; cases hi
        | some x' =>
          rw [hx] at hi
          have hi' : x' = x ∧ 0 + i = i' := by simpa using hi
          obtain ⟨rfl, e2⟩ := hi'
          obtain rfl : i = i' := by omega
          have h2 : (t.map V.str)[i]? = some y2 := h2
          rw [List.getElem?_map, hx] at h2
          cases h1
          cases h2
          have s2 : Same H4 (upd H4 Tt (.tup [.int (i : Nat), .str x'])) := same_upd hT
          refine ⟨Tt, _, rfl, SqT.of upd_same, rfl, _, _, rfl, _, _, rfl, rfl, rfl, _, rfl, q_nes ⟨_, rfl, if_b (fun e3 => ?_) (fun e3 => ?_)⟩⟩
          · have := hR _ s2
            rw [if_pos (by
              have h : decide (x' = Str.ofString "*") = false := bnot_t e3
              have := of_decide_eq_false h
              simp [this])] at this
            exact ⟨_, rfl, this⟩
          · have e3' : x' = Str.ofString "*" := of_decide_eq_true (bnot_f e3)
            refine ⟨_, rfl, _, rfl, _, rfl, .inl ⟨l, _, rfl, SqL.of (s2 _ _ (s1 _ _ hl3)), fun q hq => ⟨.inl ⟨rfl, _, SqL.of upd_same⟩, q, t.take i, Str.ofString "*", rfl, rfl, SqL.of ?_, _, _, rfl, rfl, _, rfl, ?_⟩⟩⟩
            · rw [upd_same]
              congr 2
              show cutV (t.map V.str) none (some ((i : Nat) : Int)) = _
              have lt := (List.getElem?_eq_some_iff.mp hx).1
              rw [cutV_map]
              have e : HT.sIx t.length t.length (some ((i : Nat) : Int)) = i := by
                rw [HT.sIx_nat]
                omega
              rw [e]
              rfl
            · have := hR _ (s2.trans (same_upd hq (o := .lst (cutV (t.map V.str) none (some ((i : Nat) : Int))))))
              have eq2 : (decide (x' ≠ Str.ofString "*") || decide (cntT (Str.ofString "*") (t.take i) < 3)) = decide (((cntT (Str.ofString "*") (t.take i) : Nat) : Int) < 3) := by
                have : decide (x' ≠ Str.ofString "*") = false := decide_eq_false fun z => z e3'
                rw [this, Bool.false_or]
                by_cases h : cntT (Str.ofString "*") (t.take i) < 3
                · rw [decide_eq_true h, decide_eq_true (by omega)]
                · rw [decide_eq_false h, decide_eq_false (by omega)]
              rw [eq2] at this
              refine if_b (fun e4 => ?_) (fun e4 => ?_)
              · rw [if_pos e4] at this
                exact ⟨_, rfl, this⟩
              · rw [if_neg (by rw [e4]; exact Bool.false_ne_true)] at this
                exact this
      · intro H4 s1 hl4
        have x6 := x5.then s1
        have e : ∃ r : List Str, t.zipIdx.filterMap (fun x => if (decide (x.1 ≠ Str.ofString "*") || decide (cntT (Str.ofString "*") (t.take x.2) < 3)) = true then some (V.str x.1) else none) = r.map V.str ∧ r.length ≤ t.length ∧ ∀ x ∈ r, x ∈ t := by
          refine ⟨t.zipIdx.filterMap (fun x => if (decide (x.1 ≠ Str.ofString "*") || decide (cntT (Str.ofString "*") (t.take x.2) < 3)) = true then some x.1 else none), ?_, ?_, fun x hx => ?_⟩
          · exact fm_if (fun x : Str × Nat => decide (x.1 ≠ Str.ofString "*") || decide (cntT (Str.ofString "*") (t.take x.2) < 3)) (fun x => x.1) t.zipIdx
          · refine Nat.le_trans (List.length_filterMap_le _ _) ?_
            rw [List.length_zipIdx]
            exact Nat.le_refl _
          · obtain ⟨⟨u, i⟩, h1, h2⟩ := List.mem_filterMap.mp hx
            split at h2
            · cases h2
              exact (List.mem_zipIdx' h1).2 ▸ List.getElem_mem _
            · cases h2
        obtain ⟨r, er, rl, rm⟩ := e
        rw [er] at hl4
        exact k Dd r H4 (by omega) (fun x hx => tw x (rm x hx)) (ext_none x5 hDd) hl4 x6
end
end K62
set_option Elab.async false
set_option linter.all false
set_option maxRecDepth 100000
set_option maxHeartbeats 4000000
namespace K62
open PySem PySem.Spec L2 Quiet Gn Tn

def spLogOf : Sp := fun vs H Q _ => ∃ (p a b : Addr) (ws t : List Str), vs = [.ref p, .ref a, .ref b] ∧ Bag H p ∧ a ≠ p ∧ b ≠ p ∧ H a = some (.tup (ws.map V.str)) ∧ ws.length ≤ 8 ∧ (∀ x ∈ ws, Nm x) ∧ H b = some (.lst (t.map V.str)) ∧ t.length ≤ 10 ∧ (∀ x ∈ t, Wd x) ∧
  ∀ (r : Addr) (g : List Str) (H' : Hp), g.length ≤ 40 → (∀ x ∈ g, Wd x) → r ≠ p → H' r = some (.lst (g.map V.str)) → Ext p H H' → Q (.ref r) H'
def strOf : V → Str | .str x => x | _ => Str.ofString ""
theorem strs_perm {ys : List V} {xs : List Str} (h : ys.Perm (xs.map V.str)) : ys = (ys.map strOf).map V.str ∧ (ys.map strOf).length = xs.length ∧ ∀ x ∈ ys.map strOf, x ∈ xs := by
  have a : ∀ y ∈ ys, ∃ x ∈ xs, y = V.str x := fun y hy => by
    obtain ⟨x, h1, h2⟩ := List.mem_map.mp (h.mem_iff.mp hy)
    exact ⟨x, h1, h2.symm⟩
  refine ⟨?_, ?_, fun x hx => ?_⟩
  · rw [List.map_map]
    refine (List.map_id ys).symm.trans (List.map_congr_left fun y hy => ?_)
    obtain ⟨x, _, rfl⟩ := a y hy
    rfl
  · rw [List.length_map, h.length_eq, List.length_map]
  · obtain ⟨y, hy, rfl⟩ := List.mem_map.mp hx
    obtain ⟨x, h1, rfl⟩ := a y hy
    exact h1
section
variable {P : Program} {w : World} {K : PySem.W.Frag} {mg : Str → Option Value} {base : Heap} {A : Ad} {D : Fd}
theorem ok__law_log_of (T : Txt K mg A D) : FnOk P w K mg base CX0 3 A._law_log_of D._law_log_of ["bag", "watch", "torn"] spLogOf := by
  refine T.f__law_log_of.ok sc__law_log_of (fun vs H Q E h => ?_) (fun cdv AA outer s H vs Q E hr h => ?_)
  · obtain ⟨p, a, b, ws, t, rfl, _⟩ := h
    rfl
  · obtain ⟨p, a, b, ws, t, rfl, hB, nap, nbp, ha, hw, hn, hb, ht, htw, k⟩ := h
    refine ⟨_, (pss_cons (ps_set (i := 3) sc__law_log_of.nd rfl (Or.inl rfl) (by exact (pe_lst pa_nil)))
  (pss_cons (ps_for PassesOwn.never rfl (pi_list (pv 2)) (pg_name (i := 4) sc__law_log_of.nd rfl (Or.inr rfl))
 (pss_cons (ps_set (i := 5) sc__law_log_of.nd rfl (Or.inl rfl) (by exact (pe_op (mulK K rfl) (pe_via (pe_ifExp (pt_cmpR (eqK K rfl (units_of hr)) (pv 4) pe_str (nomark _)) (pe_call (ok__law_take T) (hr.mono (by decide)) rfl T.m__law_take T.f__law_take.kp (b__law_take T) .nil pass0 (pa_cons (pv 0) (pa_cons pe_int pa_nil))) pe_int)) (pe_callB (lenK K rfl) (by rfl) T.b_len (by decide +kernel) (pa_cons (pe_slice (slK K rfl) (pv 1) po_none (po_some pe_int)) pa_nil)))))
  (pss_one (ps_expr (pe_bm PySem.F.plainAttrs_list PySem.F.slot_list_extend PySem.F.type_list_extend mt_extend (pv 3) (pa_cons (pe_lc (own := [("k", 7)]) rfl sc__law_log_of.nd (pi_range1 rfl T.b_range (pa_cons (pv 5) pa_nil)) (blkOk_by (own := [("k", 7)]) (N := n__law_log_of) (sc := defScope s__law_log_of) (by decide +kernel)) (fun _ _ _ _ _ => (pg_name (i := 7) sc__law_log_of.nd rfl (Or.inl rfl))) (fun _ _ _ _ _ => pts_nil) (fun _ _ _ _ _ => (pe_ifExp (pt_cmpR (inK K rfl) (pv 4) (pe_tup (pa_cons pe_str (pa_cons pe_str pa_nil))) (by rfl)) (pe_call (ok__law_one T) (hr.mono (by decide)) rfl T.m__law_one T.f__law_one.kp (b__law_one T) .nil pass0 (pa_cons (pv 0) (pa_cons (pe_callTy (listK K rfl) (by rfl) T.b_list (by decide +kernel) (pa_cons (pv 1) pa_nil)) pa_nil))) (pv 4)))) pa_nil))))))
  (pss_cons (ps_set (i := 6) sc__law_log_of.nd rfl (Or.inl rfl) (by exact (pe_call (ok__law_take T) (hr.mono (by decide)) rfl T.m__law_take T.f__law_take.kp (b__law_take T) .nil pass0 (pa_cons (pv 0) (pa_cons (pe_op (addK K rfl) (pe_callB (lenK K rfl) (by rfl) T.b_len (by decide +kernel) (pa_cons (pv 3) pa_nil)) pe_int) pa_nil)))))
  (pss_one (ps_ret (pe_ix (ixK K rfl) (pe_lst (pa_cons (pv 3) (pa_cons (pe_op (addK K rfl) (pe_slice (slK K rfl) (pv 3) po_none (po_some (pv 6))) (pe_slice (slK K rfl) (pv 3) (po_some (pe_op (addK K rfl) (pv 6) pe_int)) po_none)) (pa_cons (pe_op (addK K rfl) (pv 3) (pe_slice (slK K rfl) (pv 3) po_none (po_some pe_int))) (pa_cons (pe_call (ok__law_mixed T) (hr.mono (by decide)) rfl T.m__law_mixed T.f__law_mixed.kp (b__law_mixed T) .nil pass0 (pa_cons (pv 0) (pa_cons (pv 3) pa_nil))) pa_nil))))) (pe_call (ok__law_take T) (hr.mono (by decide)) rfl T.m__law_take T.f__law_take.kp (b__law_take T) .nil pass0 (pa_cons (pv 0) (pa_cons pe_int pa_nil))) (fun _ _ => rfl))))))), ?_⟩
    refine ⟨Nat.zero_le _, fun l hl => ?_⟩
    have x0 : Ext p H (upd H l (.lst [])) := .same hB (same_upd hl)
    have nlp : l ≠ p := hB.ne hl
    have nla : l ≠ a := fun z => by rw [z, ha] at hl; cases hl
    refine ⟨_, rfl, b, rfl, ⟨_, SqL.of (x0.keep _ _ nbp hb)⟩, for_list (K := K) (a := b) (xs := t.map V.str) (fun i σ H' => ∃ (g : List Str) (y z u v : Option V), σ = [some (.ref p), some (.ref a), some (.ref b), some (.ref l), y, z, u, v] ∧ g.length ≤ 2 * i ∧ (∀ x ∈ g, Wd x) ∧ H' l = some (.lst (g.map V.str)) ∧ Ext p H H')
      ⟨[], none, none, none, none, rfl, Nat.le_refl _, fun x h => (by cases h), upd_same, x0⟩ (fun i σ H' _ ⟨_, _, _, _, _, _, _, _, _, x⟩ => SqL.of (x.keep _ _ nbp hb)) ?_ ?_⟩
    · rintro i v σ H1 hi ⟨g, y, z, u, v', rfl, gl, gw, hl1, x1⟩
      have hit : i < t.length := by
        have := (List.getElem?_eq_some_iff.mp hi).1
        rwa [List.length_map] at this
      have ev : v = .str t[i] := by
        rw [List.getElem?_map, List.getElem?_eq_getElem hit] at hi
        exact (Option.some.inj hi).symm
      subst ev
      have hent : Wd t[i] := htw _ (List.getElem_mem hit)
      -- how many
      refine ⟨fun v H2 => ∃ c : Int, v = .int c ∧ 0 ≤ c ∧ c ≤ 2 ∧ Ext p H1 H2, ⟨_, rfl, q_eqs ⟨_, rfl, if_b (fun e => ⟨_, rfl, p, 3, rfl, by decide, by decide, x1.bag, fun c H2 c0 c1 x2 => ⟨c, rfl, c0, by omega, x2⟩⟩) (fun e => ⟨1, rfl, by decide, by decide, .refl x1.bag⟩)⟩⟩, ?_⟩
      rintro v H2 ⟨c, rfl, c0, c2, x2⟩
      have x3 := x1.trans x2
      have ha2 := x3.keep _ _ nap ha
      have hl2 := x2.keep _ _ nlp hl1
      -- watch[:1]
      refine ⟨_, rfl, _, rfl, q_cutT ha2 fun r3 H3 s3 hr3 => ?_⟩
      rw [cutV_map] at hr3
      obtain ⟨m, em, m0, m1, mw⟩ : ∃ m : Int, ((((ws.drop (HT.sIx ws.length 0 none)).take (HT.sIx ws.length ws.length (some 1) - HT.sIx ws.length 0 none)).map V.str).length : Nat) = m ∧ 0 ≤ m ∧ m ≤ 1 ∧ (0 < m → 0 < ws.length) := by
        rw [List.length_map, List.length_take]
        have e1 : HT.sIx ws.length ws.length (some 1) = min 1 ws.length := HT.sIx_nat ws.length ws.length 1
        have e2 : HT.sIx ws.length 0 none = 0 := rfl
        rw [e1, e2, List.drop_zero]
        exact ⟨_, rfl, by omega, by omega, by omega⟩
      refine q_lenSq (.inr (SqT.of hr3)) ?_
      rw [em]
      refine .inl ⟨c, m, rfl, rfl, .inl ⟨by omega, by omega⟩, ?_⟩
      have cm : 0 ≤ c * m ∧ c * m ≤ 2 := by
        have : m = 0 ∨ m = 1 := by omega
        rcases this with rfl | rfl <;> omega
      have mw' : 0 < c * m → 0 < ws.length := fun h => mw (by
        have : m = 0 ∨ m = 1 := by omega
        rcases this with rfl | rfl <;> omega)
      clear mw m0 m1 em
      dsimp only
      generalize c * m = n at cm mw' ⊢
      have x4 := x3.then s3
      have hl3 := s3 _ _ hl2
      have ha3 := s3 _ _ ha2
      clear hr3 s3 ha2 hl2 x3 x2
      -- the words
      refine ⟨_, rfl, .inl ⟨rfl, _, SqL.of hl3⟩, _, rfl, n, rfl, by omega, by omega, fun Dd hDd => ?_⟩
      have nDp : Dd ≠ p := x4.bag.ne hDd
      have nDl : l ≠ Dd := fun z => by rw [← z, hl3] at hDd; cases hDd
      have hDH : H Dd = none := ext_none x4 hDd
      refine lc_it (Y := YFn fun i => V.int (0 + (i : Int))) (G := fun _ => True) walk_range (fun j H4 => ∃ acc : List Str, H4 Dd = some (.lst (acc.map V.str)) ∧ acc.length ≤ j ∧ (∀ x ∈ acc, Wd x) ∧ Ext p H H4 ∧ H4 l = some (.lst (g.map V.str))) ⟨[], upd_same, Nat.le_refl _, fun x h => (by cases h), Ext.over hB x4 hDH, by rw [upd_ne nDl]; exact hl3⟩ (fun _ _ _ _ => trivial) ?_ ?_
      · rintro j x H4 H5 hj ⟨acc, hD4, al, aw, x5, hl4⟩ ⟨rfl, rfl⟩
        have pos : 0 < ws.length := mw' (by omega)
        have ha5 := x5.keep _ _ nap ha
        refine ⟨rfl, _, rfl, by show 2 ≤ sizeLine; decide, fun q hq => q_inTexts (ks := [Str.ofString "?", Str.ofString "*"]) (.inr (SqT.of upd_same)) ⟨_, rfl, if_b (fun e => ?_) (fun e => ?_)⟩⟩
        · refine ⟨_, rfl, _, rfl, a, _, rfl, .inr (SqT.of (same_upd hq _ _ ha5)), fun p1 h1 => ?_⟩
          have s6 := (same_upd hq (o := .tup [V.str (Str.ofString "?"), V.str (Str.ofString "*")])).trans (same_upd (o := .lst (ws.map V.str)) h1)
          have x6 := x5.then s6
          have np1 : p1 ≠ p := fun z => by
            obtain ⟨o, e⟩ := (x5.then (same_upd hq)).bag.at
            rw [z, e] at h1
            cases h1
          refine ⟨p, .ref p1, rfl, x6.bag, .inl ⟨p1, _, rfl, np1, .inl (SqL.of upd_same), by rw [List.length_map]; exact pos, by rw [List.length_map]; omega, fun i2 b2 H6 hi2 x7 => ?_⟩⟩
          rw [List.getElem?_map] at hi2
          cases hx : ws[i2]? with
          | none => rw [hx] at hi2; cases hi2
          | some x =>
            rw [hx] at hi2
            cases hi2
            have x8 := x6.trans x7
            refine ⟨_, x7.keep _ _ nDp (s6 _ _ hD4), sz2 (by rw [List.length_map]; omega), acc ++ [x], by rw [upd_same, List.map_append]; rfl, by rw [List.length_append]; show acc.length + 1 ≤ _; omega, fun u hu => ?_, Ext.over hB x8 hDH, by rw [upd_ne nDl]; exact x7.keep _ _ nlp (s6 _ _ hl4)⟩
            rcases List.mem_append.mp hu with h | h
            · exact aw u h
            · rw [List.mem_singleton.mp h]; exact wd_of (hn x (List.mem_of_getElem? hx))
        · have s6 := same_upd hq (o := .tup [V.str (Str.ofString "?"), V.str (Str.ofString "*")])
          refine ⟨_, rfl, _, s6 _ _ hD4, sz2 (by rw [List.length_map]; omega), acc ++ [t[i]], by rw [upd_same, List.map_append]; rfl, by rw [List.length_append]; show acc.length + 1 ≤ _; omega, fun u hu => ?_, Ext.over hB (x5.then s6) hDH, by rw [upd_ne nDl]; exact s6 _ _ hl4⟩
          rcases List.mem_append.mp hu with h | h
          · exact aw u h
          · rw [List.mem_singleton.mp h]; exact hent
      · rintro H4 ⟨acc, hD4, al, aw, x5, hl4⟩
        refine ⟨l, Dd, _, _, rfl, rfl, hl4, hD4, sz1 (by rw [List.length_map, List.length_map]; omega), ?_⟩
        refine ⟨g ++ acc, _, _, _, _, rfl, by rw [List.length_append]; omega, fun u hu => ?_, by rw [upd_same, List.map_append], Ext.over hB x5 hl⟩
        rcases List.mem_append.mp hu with h | h
        · exact gw u h
        · exact aw u h
    · rintro σ H1 ⟨g, y, z, u, v', rfl, gl, gw, hl1, x1⟩
      rw [List.length_map] at gl
      have gl20 : g.length ≤ 20 := by omega
      refine ⟨_, rfl, _, rfl, q_lenSq (.inl (SqL.of hl1)) (q_add ⟨p, _, rfl, by omega, by rw [List.length_map]; omega, x1.bag, fun at_ H2 v0 v1 x2 => ?_⟩)⟩
      have x3 := x1.trans x2
      have hl2 := x2.keep _ _ nlp hl1
      have lc : ∀ lo hi, (cutL g lo hi).length ≤ 20 := fun lo hi => Nat.le_trans (cutL_len g lo hi) gl20
      have mc : ∀ lo hi, ∀ x ∈ cutL g lo hi, Wd x := fun lo hi x hx => gw x (cutL_mem hx)
      have em : ∀ lo hi, cutV (g.map V.str) lo hi = (cutL g lo hi).map V.str := fun lo hi => cutV_map V.str g lo hi
      have hlH : ∀ {H' : Hp}, Ext p H H' → True := fun _ => trivial
      -- found, found[:at] + found[at + 1:]
      refine ⟨_, rfl, _, rfl, _, rfl, _, rfl, q_cutL hl2 fun q1 n1 => ?_⟩
      rw [em]
      have s1 := same_upd n1 (o := .lst ((cutL g none (some at_)).map V.str))
      have e1 : upd H2 q1 (.lst ((cutL g none (some at_)).map V.str)) q1 = some (.lst ((cutL g none (some at_)).map V.str)) := upd_same
      generalize upd H2 q1 (.lst ((cutL g none (some at_)).map V.str)) = H3 at s1 e1 ⊢
      refine ⟨_, rfl, _, rfl, q_add ⟨_, rfl, q_cutL (s1 _ _ hl2) fun q2 n2 => ?_⟩⟩
      rw [em]
      have s2 := same_upd n2 (o := .lst ((cutL g (some (at_ + 1)) none).map V.str))
      have e2 : upd H3 q2 (.lst ((cutL g (some (at_ + 1)) none).map V.str)) q2 = some (.lst ((cutL g (some (at_ + 1)) none).map V.str)) := upd_same
      generalize upd H3 q2 (.lst ((cutL g (some (at_ + 1)) none).map V.str)) = H4 at s2 e2 ⊢
      refine q_catL (s2 _ _ e1) e2 (sz1 (by rw [List.length_map, List.length_map]; have := lc none (some at_); have := lc (some (at_ + 1)) none; omega)) fun q3 n3 => ?_
      rw [← List.map_append]
      have s3 := same_upd n3 (o := .lst ((cutL g none (some at_) ++ cutL g (some (at_ + 1)) none).map V.str))
      have e3 : upd H4 q3 (.lst ((cutL g none (some at_) ++ cutL g (some (at_ + 1)) none).map V.str)) q3 = some (.lst ((cutL g none (some at_) ++ cutL g (some (at_ + 1)) none).map V.str)) := upd_same
      have f3 : q3 ≠ p := ((x3.then s1).then s2).bag.ne n3
      generalize upd H4 q3 (.lst ((cutL g none (some at_) ++ cutL g (some (at_ + 1)) none).map V.str)) = H5 at s3 e3 ⊢
      have s13 := (s1.trans s2).trans s3
      -- found + found[:1]
      refine ⟨_, rfl, _, rfl, _, rfl, q_cutL (s13 _ _ hl2) fun q4 n4 => ?_⟩
      rw [em]
      have s4 := same_upd n4 (o := .lst ((cutL g none (some 1)).map V.str))
      have e4 : upd H5 q4 (.lst ((cutL g none (some 1)).map V.str)) q4 = some (.lst ((cutL g none (some 1)).map V.str)) := upd_same
      generalize upd H5 q4 (.lst ((cutL g none (some 1)).map V.str)) = H6 at s4 e4 ⊢
      refine q_catL (s4 _ _ (s13 _ _ hl2)) e4 (sz1 (by rw [List.length_map, List.length_map]; have := lc none (some 1); omega)) fun q5 n5 => ?_
      rw [← List.map_append]
      have s5 := same_upd n5 (o := .lst ((g ++ cutL g none (some 1)).map V.str))
      have e5 : upd H6 q5 (.lst ((g ++ cutL g none (some 1)).map V.str)) q5 = some (.lst ((g ++ cutL g none (some 1)).map V.str)) := upd_same
      have f5 : q5 ≠ p := ((x3.then s13).then s4).bag.ne n5
      generalize upd H6 q5 (.lst ((g ++ cutL g none (some 1)).map V.str)) = H7 at s5 e5 ⊢
      have s15 := (s13.trans s4).trans s5
      have x7 := x3.then s15
      -- mixed
      refine ⟨_, rfl, _, rfl, p, l, _, rfl, x7.bag, nlp, SqL.of (s15 _ _ hl2), by rw [List.length_map]; omega, fun q6 ys H8 pe e6 n6p x8 => ?_⟩
      obtain ⟨m1, m2, m3⟩ := strs_perm pe
      have l8 := x8.keep _ _ nlp (s15 _ _ hl2)
      have e38 := x8.keep _ _ f3 ((s4.trans s5) _ _ e3)
      have e58 := x8.keep _ _ f5 e5
      rw [m1] at e6
      have x9 := x7.trans x8
      refine ⟨by show 4 ≤ sizeLine; decide, fun q7 n7 => ?_⟩
      have s7 := same_upd n7 (o := .lst [V.ref l, V.ref q3, V.ref q5, V.ref q6])
      have n7p : q7 ≠ p := x9.bag.ne n7
      refine ⟨_, rfl, p, 4, rfl, by decide, by decide, (x9.then s7).bag, fun c H9 c0 c1 x10 => ?_⟩
      have x11 := (x9.then s7).trans x10
      have e7 := x10.keep _ _ n7p (upd_same (H := H8) (a := q7) (o := .lst [V.ref l, V.ref q3, V.ref q5, V.ref q6]))
      have hc : c = 0 ∨ c = 1 ∨ c = 2 ∨ c = 3 := by omega
      have := lc none (some at_)
      have := lc (some (at_ + 1)) none
      have := lc none (some 1)
      rcases hc with rfl | rfl | rfl | rfl
      · exact q_ix (i := 0) (.inl (SqL.of e7)) rfl rfl (k l g H9 (by omega) gw nlp (x10.keep _ _ nlp (s7 _ _ l8)) x11)
      · refine q_ix (i := 1) (.inl (SqL.of e7)) rfl rfl (k q3 _ H9 ?_ (fun x hx => ?_) f3 (x10.keep _ _ f3 (s7 _ _ e38)) x11)
        · rw [List.length_append]; omega
        · exact (List.mem_append.mp hx).elim (mc _ _ x) (mc _ _ x)
      · refine q_ix (i := 2) (.inl (SqL.of e7)) rfl rfl (k q5 _ H9 ?_ (fun x hx => ?_) f5 (x10.keep _ _ f5 (s7 _ _ e58)) x11)
        · rw [List.length_append]; omega
        · exact (List.mem_append.mp hx).elim (gw x) (mc _ _ x)
      · exact q_ix (i := 3) (.inl (SqL.of e7)) rfl rfl (k q6 _ H9 (by omega) (fun x hx => gw x (m3 x hx)) n6p (x10.keep _ _ n6p (s7 _ _ e6)) x11)
end
end K62
set_option Elab.async false
set_option linter.all false
set_option maxRecDepth 100000
set_option maxHeartbeats 4000000
namespace K62
open PySem PySem.Spec L2 Quiet Gn Tn

/-- two equal truths -/
def spAlikeB : Sp := fun vs H Q _ => ∃ b : Bool, vs = [.bl b, .bl b] ∧ Q (.bl true) H
/-- the bag's own place -/
def bagS (p : Addr) : Addr → Bool := fun b => b == p
theorem bagS_self (p : Addr) : bagS p p = true := by simp [bagS]
theorem bagS_eq {p b : Addr} (h : bagS p b = true) : b = p := by simpa [bagS] using h
theorem bagS_ne {p b : Addr} (h : b ≠ p) : bagS p b = false := by simp [bagS, h]
theorem trk_bag {p : Addr} {H : Hp} (h : Bag H p) : Trk (bagS p) H := fun b hb => by
  rw [bagS_eq hb]
  exact h.at
/-- no heap -/
def noH : Hp := fun _ => none
theorem dom_noH (H : Hp) : Dom noH H := fun _ _ => rfl
theorem new_noH (v : V) : NewV noH v := fun _ _ => rfl
/-- [x] * i, x a text -/
theorem g_repS {S : Addr → Bool} {G : Hp} {σ : L2.St} {H1 : Hp} {K : PySem.W.Frag} {x : Str} {j : Int} (hT : Trk S H1) (hD : Dom G H1) (h0 : 0 ≤ j) (hj : j ≤ 1000000) :
    Gives S G σ H1 (tOp (rMulU K) (tLst (tCons (tC (.str x)) tNil)) (tC (.int j))) (.list (List.replicate j.toNat (.str x))) := fun H Q s k => by
  refine ⟨by show 1 ≤ sizeLine; decide, fun a n => .inr (.inl ⟨a, j, [.str x], rfl, rfl, upd_same, by omega, by omega, by show 1 * j.toNat ≤ sizeLine; rw [Nat.one_mul]; exact sz1 (by omega), fun b nb => ?_⟩)⟩
  rw [flat_rep]
  have nb' : S b = false := ((hT.same s).same (same_upd n)).no nb
  refine k _ _ (.lst (by rw [hide_ne nb']; exact upd_same) (are_rep (.str x) _)) (fun c e => by cases e; exact hD b (Same.none s (Same.none (same_upd n) nb))) ((same_upd n).trans (same_upd nb))
theorem are_strsD {H : Hp} : ∀ t : List Str, Are H (t.map V.str) (t.map PyData.str)
  | [] => .nil
  | x :: t => .cons (.str x) (are_strsD t)
theorem wd_ok {n : Nat} {x : Str} (h : Wd x) : okD n (.str x) = true := ok_str.mpr ⟨by have := h.1; omega, h.2⟩
theorem wd_all {n : Nat} {t : List Str} (h : ∀ x ∈ t, Wd x) : okAll n (t.map PyData.str) = true := okAll_iff.mpr fun d hd => by
  obtain ⟨x, hx, rfl⟩ := List.mem_map.mp hd
  exact wd_ok (h x hx)
theorem wt_strs {t : List Str} (h : ∀ x ∈ t, Wd x) : PyData.weightAll (t.map PyData.str) ≤ 9 * t.length := by
  induction t with
  | nil => simp [PyData.weightAll]
  | cons x t ih =>
    have h1 := ih fun y hy => h y (List.mem_cons_of_mem _ hy)
    have h2 := (h x List.mem_cons_self).1
    have e : (PyData.str x).weight = x.length := by simp only [PyData.weight]; rfl
    simp only [List.map_cons, PyData.weightAll, e, List.length_cons]
    omega
theorem dp_strs (t : List Str) : PyData.depthAll (t.map PyData.str) = 0 := by
  induction t with
  | nil => simp [PyData.depthAll]
  | cons x t ih =>
    simp only [List.map_cons, PyData.depthAll, ih]
    simp only [PyData.depth]
    decide
section
variable {P : Program} {w : World} {K : PySem.W.Frag} {mg : Str → Option Value} {base : Heap} {A : Ad} {D : Fd}
theorem ok__law_alike (T : Txt K mg A D) (hm : HasMods base) : Keeps P w K mg base 1 A._law_alike D._law_alike ["found", "due"] spAlikeB := by
  refine keeps_of T.f__law_alike sc__law_alike (fun vs H Q E h => ?_) (fun cdv AA outer s H vs Q E hq hr h => ?_)
  · obtain ⟨b, rfl, _⟩ := h
    rfl
  · obtain ⟨b, rfl, k⟩ := h
    refine ⟨_, (pss_one (ps_ret (pe_and (pe_cmpR (eqK K rfl (units_of hr)) (pv 0) (pv 1) (nomark _)) (pe_one (pe_cmpR (eqK K rfl (units_of hr)) (pe_callB (call_repr hq hm (units_of hr)) (by rfl) T.b_repr (by decide +kernel) (pa_cons (pv 0) pa_nil)) (pe_callB (call_repr hq hm (units_of hr)) (by rfl) T.b_repr (by decide +kernel) (pa_cons (pv 1) pa_nil)) (nomark _)))))), ?_⟩
    refine ⟨_, rfl, _, rfl, .inl ⟨rfl, _, rfl, ?_⟩⟩
    rw [decide_eq_true rfl]
    refine iteT ⟨_, rfl, .bl b, .bool b, rfl, .bl b, rfl, Nat.zero_le _, ?_, _, rfl, .bl b, .bool b, rfl, .bl b, rfl, Nat.zero_le _, ?_, .inl ⟨rfl, by simpa using k⟩⟩
    all_goals cases b <;> exact sz1 (by decide +kernel)
theorem wd_list {t : List Str} (h : ∀ x ∈ t, Wd x) (l : t.length ≤ 40) : okD 0 (.list (t.map .str)) = true ∧ (PyData.list (t.map .str)).weight ≤ 360 ∧ (PyData.list (t.map .str)).depth = 1 := by
  refine ⟨?_, ?_, ?_⟩
  · simp only [okD, Bool.and_eq_true, decide_eq_true_eq]
    refine ⟨wd_all h, ?_⟩
    have : nonI (t.map PyData.str) ≤ (t.map PyData.str).length := List.countP_le_length
    rw [List.length_map] at this
    omega
  · have := wt_strs h
    simp only [PyData.weight]
    omega
  · simp only [PyData.depth, dp_strs]
end
end K62
set_option Elab.async false
set_option linter.all false
set_option maxRecDepth 100000
set_option maxHeartbeats 4000000
namespace K62
open PySem PySem.Spec L2 Quiet Gn Tn

def spLaw (K : PySem.W.Frag) : Sp := fun vs H Q _ => ∃ (a : Addr) (ns : List Int), vs = [.ref a] ∧ SqL K H a (ns.map V.int) ∧ ∀ H', Q (.bl true) H'
theorem fine_app {t : List Str} {es : List PyData} (h : ∀ x ∈ t, Wd x) (l : t.length ≤ 10) (h2 : okAll 0 es = true) (l2 : es.length ≤ 9) (w2 : PyData.weightAll es ≤ 100) (d2 : PyData.depthAll es = 0) : Fine 0 (.list (t.map .str ++ es)) := by
  refine ⟨?_, ?_, ?_⟩
  · simp only [okD, Bool.and_eq_true, decide_eq_true_eq]
    refine ⟨okAll_iff.mpr fun d hd => ?_, ?_⟩
    · rcases List.mem_append.mp hd with z | z
      · exact okAll_iff.mp (wd_all h) d z
      · exact okAll_iff.mp h2 d z
    · have : nonI (t.map PyData.str ++ es) ≤ (t.map PyData.str ++ es).length := List.countP_le_length
      rw [List.length_append, List.length_map] at this
      omega
  · have := wt_strs h
    have e : wB 0 = 5000 := rfl
    simp only [PyData.weight, wt_app]
    omega
  · have e : dB 0 = 10 := rfl
    simp only [PyData.depth, dp_app, dp_strs]
    omega
theorem fine_seq {t : List Str} (h : ∀ x ∈ t, Wd x) (l : t.length ≤ 10) : Fine 0 (.list (t.map .str)) ∧ Fine 0 (.tuple (t.map .str)) := by
  have a := fine_app (es := []) h l rfl (Nat.zero_le _) (Nat.zero_le _) rfl
  rw [List.append_nil] at a
  refine ⟨a, ⟨?_, ?_, ?_⟩⟩
  · have := a.ok
    simpa only [okD] using this
  · have := a.w
    simpa only [PyData.weight] using this
  · have := a.dp
    simpa only [PyData.depth] using this
/-- the entries as keys -/
def keysOf (t : List Str) : List (Key × V) := t.map fun x => ((Sum.inr x : Key), V.int 0)
def keysD (t : List Str) : List (PyData × PyData) := t.map fun x => (PyData.str x, PyData.int 0)
theorem keys_are {H : Hp} : ∀ t : List Str, AreKv H (keysOf t) (keysD t)
  | [] => .nil
  | x :: t => .cons (.int 0) (keys_are t)
theorem keysD_w {t : List Str} (h : ∀ x ∈ t, Wd x) : PyData.weightKv (keysD t) ≤ 11 * t.length := by
  induction t with
  | nil => simp [keysD, PyData.weightKv]
  | cons x t ih =>
    have h1 := ih fun y hy => h y (List.mem_cons_of_mem _ hy)
    have h2 := (h x List.mem_cons_self).1
    have e : (PyData.str x).weight = x.length := by simp only [PyData.weight]; rfl
    have e2 : (PyData.int 0).weight = 0 := by simp only [PyData.weight]; decide
    simp only [keysD, List.map_cons, PyData.weightKv, e, e2, List.length_cons] at h1 ⊢
    omega
theorem fine_dict {t : List Str} {ds : List (PyData × PyData)} (h : ∀ x ∈ t, Wd x) (l : t.length ≤ 10) (nd : (ds.map keyS).Nodup) (m : ∀ p ∈ ds, p ∈ keysD t) : Fine 0 (.dict ds) := by
  obtain ⟨h1, h2⟩ := sub_kv nd m
  have h3 := keysD_w h
  have e1 : wB 0 = 5000 := rfl
  have e2 : dB 0 = 10 := rfl
  have kl : (keysD t).length = t.length := by simp [keysD]
  have get : ∀ p ∈ ds, ∃ x ∈ t, p = (PyData.str x, PyData.int 0) := fun p hp => by
    obtain ⟨x, hx, e⟩ := List.mem_map.mp (m p hp)
    exact ⟨x, hx, e.symm⟩
  refine ⟨?_, ?_, ?_⟩
  · simp only [okD, Bool.and_eq_true, decide_eq_true_eq]
    refine ⟨by omega, okKv_iff.mpr fun p hp => ?_⟩
    obtain ⟨x, hx, rfl⟩ := get p hp
    exact ⟨wd_ok (h x hx), (by show okD 0 (.int 0) = true; decide +kernel)⟩
  · simp only [PyData.weight]
    omega
  · have : PyData.depthKv ds ≤ 0 := dkv_le fun p hp => by
      obtain ⟨x, hx, rfl⟩ := get p hp
      simp only [PyData.depth]
      decide
    simp only [PyData.depth]
    omega
section
variable {P : Program} {w : World} {K : PySem.W.Frag} {mg : Str → Option Value} {base : Heap} {A : Ad} {D : Fd}
theorem ok_law (T : Txt K mg A D) (hm : HasMods base) : Keeps P w K mg base 67 A.law D.law ["script"] (spLaw K) := by
  refine keeps_of T.f_law sc_law (fun vs H Q E h => ?_) (fun cdv AA outer s H vs Q E hq hr h => ?_)
  · obtain ⟨a, ns, rfl, _⟩ := h
    rfl
  · obtain ⟨a, ns, rfl, hs, k⟩ := h
    refine ⟨_, (pss_cons (ps_set (i := 1) sc_law.nd rfl (Or.inl rfl) (by exact (pe_call (ok__law_bag T) (hr.mono (by decide)) rfl T.m__law_bag T.f__law_bag.kp (b__law_bag T) .nil pass0 (pa_cons (pv 0) pa_nil))))
  (pss_cons (ps_set (i := 2) sc_law.nd rfl (Or.inl rfl) (by exact (pe_call (ok__law_names T) (hr.mono (by decide)) rfl T.m__law_names T.f__law_names.kp (b__law_names T) .nil pass0 (pa_cons (pv 1) (pa_cons (pe_call (ok__law_take T) (hr.mono (by decide)) rfl T.m__law_take T.f__law_take.kp (b__law_take T) .nil pass0 (pa_cons (pv 1) (pa_cons pe_int pa_nil))) pa_nil)))))
  (pss_cons (ps_for PassesOwn.never rfl (pi_range1 rfl T.b_range (pa_cons pe_int pa_nil)) (pg_name (i := 3) sc_law.nd rfl (Or.inl rfl))
 (pss_cons (ps_set (i := 4) sc_law.nd rfl (Or.inl rfl) (by exact (pe_call (ok__law_drawn T) (hr.mono (by decide)) rfl T.m__law_drawn T.f__law_drawn.kp (b__law_drawn T) .nil pass0 (pa_cons (pv 1) (pa_cons (pv 2) pa_nil)))))
  (pss_cons (ps_set (i := 5) sc_law.nd rfl (Or.inl rfl) (by exact (pe_call (ok__law_log_of T) (hr.mono (by decide)) rfl T.m__law_log_of T.f__law_log_of.kp (b__law_log_of T) .nil pass0 (pa_cons (pv 1) (pa_cons (pv 2) (pa_cons (pv 4) pa_nil))))))
  (pss_cons (ps_par (i := 6) (j := 7) (by rfl) sc_law.nd rfl rfl (by decide) rfl rfl (pa_cons (pe_ix (ixK K rfl) (pe_lst (pa_cons (pv 4) (pa_cons (pe_callTy (tupleK K rfl) (by rfl) T.b_tuple (by decide +kernel) (pa_cons (pv 4) pa_nil)) pa_nil))) (pe_call (ok__law_take T) (hr.mono (by decide)) rfl T.m__law_take T.f__law_take.kp (b__law_take T) .nil pass0 (pa_cons (pv 1) (pa_cons pe_int pa_nil))) (fun _ _ => rfl)) (pa_cons (pe_callB (call_repr hq hm (units_of hr)) (by rfl) T.b_repr (by decide +kernel) (pa_cons (pe_lst (pa_cons (pv 4) (pa_cons (pv 5) pa_nil))) pa_nil)) pa_nil)) (by rfl))
  (pss_cons (ps_set (i := 8) sc_law.nd rfl (Or.inl rfl) (by exact (pe_call (ok__law_fits T) (hr.mono (by decide)) rfl T.m__law_fits T.f__law_fits.kp (b__law_fits T) .nil pass0 (pa_cons (pv 2) (pa_cons (pv 4) (pa_cons (pv 5) pa_nil))))))
  (pss_cons (ps_for PassesOwn.never rfl (pi_range1 rfl T.b_range (pa_cons pe_int pa_nil)) (pg_name (i := 9) sc_law.nd rfl (Or.inl rfl))
 (pss_one (ps_if (PW.pt (pw_or (pt_not (pt_val (pe_quiet (ok__law_alike T hm) hq (hr.mono (by decide)) rfl T.m__law_alike T.f__law_alike.kp (b__law_alike T) (pa_cons (pe_call (ok_log_fits T) (hr.mono (by decide)) rfl T.m_log_fits T.f_log_fits.kp (b_log_fits T) .nil pass0 (pa_cons (pv 2) (pa_cons (pv 6) (pa_cons (pv 5) pa_nil)))) (pa_cons (pv 8) pa_nil))))) (pw_or1 (pt_cmpR (op_neU (units_of hr)) (pe_callB (call_repr hq hm (units_of hr)) (by rfl) T.b_repr (by decide +kernel) (pa_cons (pe_lst (pa_cons (pv 4) (pa_cons (pv 5) pa_nil))) pa_nil)) (pv 7) (nomark _))))) (pss_one (ps_ret pe_bl)) pss_nil)))
  (pss_cons (ps_set (i := 10) sc_law.nd rfl (Or.inl rfl) (by exact (pe_lst (pa_cons (pv 6) (pa_cons (pe_op (addK K rfl) (pv 4) (pe_op (mulK K rfl) (pe_lst (pa_cons pe_str pa_nil)) pe_int)) (pa_cons (pe_op (addK K rfl) (pv 4) (pe_lst (pa_cons pe_str pa_nil))) (pa_cons (pe_op (addK K rfl) (pv 4) (pe_op (mulK K rfl) (pe_lst (pa_cons pe_str pa_nil)) pe_int)) (pa_cons (pe_op (addK K rfl) (pv 4) (pe_lst (pa_cons pe_str pa_nil))) (pa_cons (pe_op (addK K rfl) (pv 4) (pe_lst (pa_cons pe_int pa_nil))) (pa_cons (pe_op (addK K rfl) (pv 4) (pe_lst (pa_cons pe_non pa_nil))) pa_nil))))))))))
  (pss_cons (ps_set (i := 11) sc_law.nd rfl (Or.inl rfl) (by exact (pe_call (ok__law_one T) (hr.mono (by decide)) rfl T.m__law_one T.f__law_one.kp (b__law_one T) .nil pass0 (pa_cons (pv 1) (pa_cons (pe_op (addK K rfl) (pv 10) (pe_lst (pa_cons (pe_call (ok__law_odd T) (hr.mono (by decide)) rfl T.m__law_odd T.f__law_odd.kp (b__law_odd T) .nil pass0 (pa_cons (pv 1) pa_nil)) (pa_cons (pe_callTy (call_dictP rfl) (by rfl) T.b_dict (by decide +kernel) (pa_cons (pe_lc (own := [("entry", 14)]) rfl sc_law.nd (pi_list (pv 4)) (blkOk_by (own := [("entry", 14)]) (N := n_law) (sc := defScope s_law) (by decide +kernel)) (fun _ _ _ _ _ => (pg_name (i := 14) sc_law.nd rfl (Or.inl rfl))) (fun _ _ _ _ _ => pts_nil) (fun _ _ _ _ _ => (pe_tup (pa_cons (pv 14) (pa_cons pe_int pa_nil))))) pa_nil)) pa_nil)))) pa_nil)))))
  (pss_cons (ps_for PassesOwn.never rfl (pi_range1 rfl T.b_range (pa_cons (pe_ix (ixK K rfl) (pe_lst (pa_cons pe_int (pa_cons pe_int (pa_cons pe_int (pa_cons pe_int pa_nil))))) (pe_call (ok__law_take T) (hr.mono (by decide)) rfl T.m__law_take T.f__law_take.kp (b__law_take T) .nil pass0 (pa_cons (pv 1) (pa_cons pe_int pa_nil))) (fun _ _ => rfl)) pa_nil)) (pg_name (i := 12) sc_law.nd rfl (Or.inl rfl))
 (pss_one (ps_set (i := 11) sc_law.nd rfl (Or.inl rfl) (by exact (pe_call (ok__law_bent T 60) (hr.mono (by decide)) rfl T.m__law_bent T.f__law_bent.kp (b__law_bent T) .nil pass0 (pa_cons (pv 1) (pa_cons (pv 11) pa_nil)))))))
  (pss_cons (ps_set (i := 13) sc_law.nd rfl (Or.inl rfl) (by exact (pe_callB (call_repr hq hm (units_of hr)) (by rfl) T.b_repr (by decide +kernel) (pa_cons (pv 11) pa_nil))))
  (pss_one (ps_for PassesOwn.never rfl (pi_range1 rfl T.b_range (pa_cons pe_int pa_nil)) (pg_name (i := 9) sc_law.nd rfl (Or.inl rfl))
 (pss_one (ps_if (PW.pt (pw_or (pt_not (pt_val (pe_quiet (ok__law_alike T hm) hq (hr.mono (by decide)) rfl T.m__law_alike T.f__law_alike.kp (b__law_alike T) (pa_cons (pe_call (ok_is_torn T) (hr.mono (by decide)) rfl T.m_is_torn T.f_is_torn.kp (b_is_torn T) .nil pass0 (pa_cons (pv 2) (pa_cons (pv 11) pa_nil))) (pa_cons (pe_call (ok__law_is_torn T) (hr.mono (by decide)) rfl T.m__law_is_torn T.f__law_is_torn.kp (b__law_is_torn T) .nil pass0 (pa_cons (pv 2) (pa_cons (pv 11) pa_nil))) pa_nil))))) (pw_or1 (pt_cmpR (op_neU (units_of hr)) (pe_callB (call_repr hq hm (units_of hr)) (by rfl) T.b_repr (by decide +kernel) (pa_cons (pv 11) pa_nil)) (pv 13) (nomark _))))) (pss_one (ps_ret pe_bl)) pss_nil))))))))))))))
  (pss_one (ps_ret pe_bl))))), ?_⟩
    refine ⟨_, rfl, a, ns, rfl, hs, fun p H1 hB1 => ?_⟩
    refine ⟨_, rfl, _, rfl, p, 7, rfl, by decide, by decide, hB1, fun z H2 z0 z1 x1 => ⟨p, z, rfl, z0, by omega, x1.bag, fun aw ws H3 hl hn haw nap x2 => ?_⟩⟩
    have hw8 : ws.length ≤ 8 := by omega
    have hB3 := x2.bag
    clear x1 x2 hB1 hs z0 z1
    refine ⟨6, rfl, by decide, by decide, for_range (fun i σ H' => ∃ t3 t4 t5 t6 t7 t8 t9 t10 t11 t12 t13 t14 : Option V, σ = [some (.ref a), some (.ref p), some (.ref aw), t3, t4, t5, t6, t7, t8, t9, t10, t11, t12, t13, t14] ∧ Ext p H3 H') ⟨none, none, none, none, none, none, none, none, none, none, none, none, rfl, .refl hB3⟩ ?_ ?_⟩
    rotate_left
    · rintro σ H' ⟨t3, t4, t5, t6, t7, t8, t9, t10, t11, t12, t13, t14, rfl, x⟩
      exact k H'
    rintro i σ H4 hi ⟨t3, t4, t5, t6, t7, t8, t9, t10, t11, t12, t13, t14, rfl, x3⟩
    have hp := bagS_self p
    -- a torn log, a log
    refine ⟨_, rfl, _, rfl, p, aw, ws, rfl, x3.bag, nap, x3.keep _ _ nap haw, hw8, hn, fun rt t H5 tl tw nrt hrt x4 => ?_⟩
    have nrp : rt ≠ p := x3.bag.ne nrt
    have x5 := x3.trans x4
    refine ⟨_, rfl, _, rfl, _, rfl, p, aw, rt, ws, t, rfl, x5.bag, nap, nrp, x5.keep _ _ nap haw, hw8, hn, hrt, tl, tw, fun rl g H6 gl gw nlp hrl x6 => ?_⟩
    have x7 := x5.trans x6
    have hrt6 := x6.keep _ _ nrp hrt
    -- handed, kept
    refine ⟨_, rfl, _, rfl, rt, _, rfl, .inl ⟨SqL.of hrt6, fun tt htt => ⟨by show 2 ≤ sizeLine; decide, fun l2 hl2 => ?_⟩⟩⟩
    have s8 := (same_upd (o := .tup (t.map V.str)) htt).trans (same_upd (o := .lst [V.ref rt, V.ref tt]) hl2)
    have ntp : tt ≠ p := x7.bag.ne htt
    have x8 := x7.then s8
    have n2p : l2 ≠ p := (x7.then (same_upd htt)).bag.ne hl2
    have htt8 : upd (upd H6 tt (.tup (t.map V.str))) l2 (.lst [V.ref rt, V.ref tt]) tt = some (.tup (t.map V.str)) := same_upd hl2 _ _ upd_same
    have hl8 : upd (upd H6 tt (.tup (t.map V.str))) l2 (.lst [V.ref rt, V.ref tt]) l2 = some (.lst [V.ref rt, V.ref tt]) := upd_same
    generalize upd (upd H6 tt (.tup (t.map V.str))) l2 (.lst [V.ref rt, V.ref tt]) = H8 at s8 x8 htt8 hl8 ⊢
    refine ⟨_, rfl, p, 2, rfl, by decide, by decide, x8.bag, fun c H9 c0 c1 x9 => ?_⟩
    have x10 := x8.trans x9
    have hrt9 := x9.keep _ _ nrp (s8 _ _ hrt6)
    have hrl9 := x9.keep _ _ nlp (s8 _ _ hrl)
    have htt9 := x9.keep _ _ ntp htt8
    obtain ⟨hd, ehd, nhp, hhd⟩ : ∃ hd, [V.ref rt, V.ref tt][c.toNat]? = some (.ref hd) ∧ hd ≠ p ∧ (H9 hd = some (.lst (t.map V.str)) ∨ H9 hd = some (.tup (t.map V.str))) := by
      have h : c = 0 ∨ c = 1 := by omega
      rcases h with rfl | rfl
      · exact ⟨rt, rfl, nrp, .inl hrt9⟩
      · exact ⟨tt, rfl, ntp, .inr htt9⟩
    refine q_ix (i := c.toNat) (.inl (SqL.of (x9.keep _ _ n2p hl8))) (by omega) ehd ?_
    -- what [torn, log] shows
    obtain ⟨tok, twt, tdp⟩ := wd_list tw (by omega)
    obtain ⟨gok, gwt, gdp⟩ := wd_list gw gl
    have bok : okD 0 (.list [.list (t.map .str), .list (g.map .str)]) = true := by
      simp only [okD, okAll, Bool.and_eq_true, decide_eq_true_eq, Bool.and_true] at tok gok ⊢
      refine ⟨⟨tok, gok⟩, Nat.le_trans List.countP_le_length (by show 2 ≤ 40 + 0; decide)⟩
    have bwt : (PyData.list [.list (t.map .str), .list (g.map .str)]).weight ≤ 1000 := by
      simp only [PyData.weight, PyData.weightAll] at twt gwt ⊢
      omega
    have bdp : (PyData.list [.list (t.map .str), .list (g.map .str)]).depth ≤ 2 := by
      simp only [PyData.depth, PyData.depthAll] at tdp gdp ⊢
      omega
    have shown : ∀ {H' : Hp} {l : Addr}, H' rt = some (.lst (t.map V.str)) → H' rl = some (.lst (g.map V.str)) → H' l = some (.lst [V.ref rt, V.ref rl]) → Is H' (.ref l) (.list [.list (t.map .str), .list (g.map .str)]) := fun h1 h2 h3 => .lst h3 (.cons (.lst h1 (are_strsD t)) (.cons (.lst h2 (are_strsD g)) .nil))
    have bsh := (ok_shows (Nat.zero_le 5) _ bok).1
    have bln := shown_ok (Nat.zero_le 5) bok (Nat.le_trans bwt (by decide))
    generalize hkept : (PyData.list [.list (t.map .str), .list (g.map .str)]) = both at bok bwt bdp shown bsh bln
    refine ⟨_, rfl, _, rfl, by show 2 ≤ sizeLine; decide, fun l3 hl3 => ⟨.ref l3, both, rfl, shown (same_upd hl3 _ _ hrt9) (same_upd hl3 _ _ hrl9) upd_same, bsh, by omega, bln, _, _, rfl, ?_⟩⟩
    have s11 := same_upd (o := .lst [V.ref rt, V.ref rl]) hl3
    have x11 := x10.then s11
    have hrt11 := s11 _ _ hrt9
    have hrl11 := s11 _ _ hrl9
    have hhd11 : upd H9 l3 (.lst [V.ref rt, V.ref rl]) hd = some (.lst (t.map V.str)) ∨ upd H9 l3 (.lst [V.ref rt, V.ref rl]) hd = some (.tup (t.map V.str)) := hhd.imp (s11 _ _) (s11 _ _)
    generalize upd H9 l3 (.lst [V.ref rt, V.ref rl]) = H11 at s11 x11 hrt11 hrl11 hhd11 ⊢
    clear s11 x10 hrt9 hrl9 htt9 hhd x9 hl8 htt8 s8 x8 hrt6 x6 x7 hrl
    -- due
    refine ⟨_, rfl, _, rfl, _, rfl, .ref aw, rt, rl, t, g, rfl, SqL.of hrt11, SqL.of hrl11, by omega, fun H12 s12 => ?_⟩
    have x12 := x11.then s12
    have hrt12 := s12 _ _ hrt11
    have hrl12 := s12 _ _ hrl11
    have hhd12 : H12 hd = some (.lst (t.map V.str)) ∨ H12 hd = some (.tup (t.map V.str)) := hhd11.imp (s12 _ _) (s12 _ _)
    refine ⟨2, rfl, by decide, by decide, for_range (fun j σ H' => ∃ t9 : Option V, σ = [some (.ref a), some (.ref p), some (.ref aw), some (.int (0 + (i : Nat))), some (.ref rt), some (.ref rl), some (.ref hd), some (.str both.shown), some (.bl (fits t g)), t9, t10, t11, t12, t13, t14] ∧ Same H12 H') ⟨_, rfl, Same.refl _⟩ ?_ ?_⟩
    · rintro j σ H13 hj ⟨t9, rfl, s13⟩
      have hsq : Sq K H13 hd (t.map V.str) := hhd12.elim (fun h => .inl (SqL.of (s13 _ _ h))) fun h => .inr (SqT.of (s13 _ _ h))
      refine ⟨_, rfl, _, rfl, _, rfl, .ref aw, hd, rl, t, g, rfl, hsq, SqL.of (s13 _ _ hrl12), by omega, fun H14 s14 => ⟨_, rfl, fits t g, rfl, _, rfl, iteF ?_⟩⟩
      have s15 := s13.trans s14
      refine ⟨_, rfl, _, rfl, by show 2 ≤ sizeLine; decide, fun l4 hl4 => ⟨.ref l4, both, rfl, shown (same_upd hl4 _ _ (s15 _ _ hrt12)) (same_upd hl4 _ _ (s15 _ _ hrl12)) upd_same, bsh, by omega, bln, _, rfl, q_nes ?_⟩⟩
      rw [decide_eq_true rfl]
      exact ⟨_, rfl, iteF ⟨_, rfl, s15.trans (same_upd hl4)⟩⟩
    rintro σ H13 ⟨t9, rfl, s13⟩
    have x13 := x12.then s13
    have hrt13 := s13 _ _ hrt12
    have hhd13 : H13 hd = some (.lst (t.map V.str)) ∨ H13 hd = some (.tup (t.map V.str)) := hhd12.imp (s13 _ _) (s13 _ _)
    clear s13 s12 hrt11 hrl11 hhd11 hrt12 hrl12 hhd12 x11 x12
    -- near
    have hT13 := trk_bag x13.bag
    have hD13 := dom_noH H13
    obtain ⟨dh, fh, ih⟩ : ∃ dh, Fine 0 dh ∧ Is (hide (bagS p) H13) (.ref hd) dh := by
      rcases hhd13 with h | h
      · exact ⟨_, (fine_seq tw tl).1, .lst (by rw [hide_ne (bagS_ne nhp)]; exact h) (are_strsD t)⟩
      · exact ⟨_, (fine_seq tw tl).2, .tup (by rw [hide_ne (bagS_ne nhp)]; exact h) (are_strsD t)⟩
    have it : Is (hide (bagS p) H13) (.ref rt) (.list (t.map .str)) := .lst (by rw [hide_ne (bagS_ne nrp)]; exact hrt13) (are_strsD t)
    dsimp only
    refine seq_asg ?_
    have one : ∀ {te : TE} {d : PyData} {σ : L2.St}, Gives (bagS p) noH σ H13 te d → GivesAll (bagS p) noH σ H13 (tCons te tNil) [d] := fun h => g_cons h g_nil
    refine gl_lst (S := bagS p) (G := noH) (H1 := H13) (ds := [dh, .list (t.map .str ++ List.replicate 3 (.str "*")), .list (t.map .str ++ [.str "w"]), .list (t.map .str ++ List.replicate 9 (.str "?")), .list (t.map .str ++ [.str "A"]), .list (t.map .str ++ [.int 0]), .list (t.map .str ++ [.none])]) hT13 hD13
      (g_cons (g_var rfl ih (new_noH _)) (g_cons (g_cat hT13 hD13 (g_var rfl it (new_noH _)) (g_repS (j := 3) hT13 hD13 (by decide) (by decide)) (by rw [List.length_map, List.length_replicate]; omega))
        (g_cons (g_cat hT13 hD13 (g_var rfl it (new_noH _)) (g_lst hT13 hD13 (one g_str) (by decide)) (by rw [List.length_map]; show _ + 1 ≤ _; omega))
        (g_cons (g_cat hT13 hD13 (g_var rfl it (new_noH _)) (g_repS (j := 9) hT13 hD13 (by decide) (by decide)) (by rw [List.length_map, List.length_replicate]; omega))
        (g_cons (g_cat hT13 hD13 (g_var rfl it (new_noH _)) (g_lst hT13 hD13 (one g_str) (by decide)) (by rw [List.length_map]; show _ + 1 ≤ _; omega))
        (g_cons (g_cat hT13 hD13 (g_var rfl it (new_noH _)) (g_lst hT13 hD13 (one g_int) (by decide)) (by rw [List.length_map]; show _ + 1 ≤ _; omega))
        (g_cons (g_cat hT13 hD13 (g_var rfl it (new_noH _)) (g_lst hT13 hD13 (one g_non) (by decide)) (by rw [List.length_map]; show _ + 1 ≤ _; omega)) g_nil))))))) (by show 7 ≤ 1000000; decide) H13 _ (Same.refl _) fun a7 xs7 H14 e7 n7 k7 v7 w7 s14 => ?_
    have allN : ∀ d ∈ [dh, PyData.list (t.map .str ++ List.replicate 3 (.str "*")), .list (t.map .str ++ [.str "w"]), .list (t.map .str ++ List.replicate 9 (.str "?")), .list (t.map .str ++ [.str "A"]), .list (t.map .str ++ [.int 0]), .list (t.map .str ++ [.none])], Fine 0 d := fun d hd => by
      rcases List.mem_cons.mp hd with e | hd
      · rw [e]; exact fh
      rcases List.mem_cons.mp hd with e | hd
      · rw [e]; exact fine_app tw tl (by decide +kernel) (by decide) (by decide +kernel) (by decide +kernel)
      rcases List.mem_cons.mp hd with e | hd
      · rw [e]; exact fine_app tw tl (by decide +kernel) (by decide) (by decide +kernel) (by decide +kernel)
      rcases List.mem_cons.mp hd with e | hd
      · rw [e]; exact fine_app tw tl (by decide +kernel) (by decide) (by decide +kernel) (by decide +kernel)
      rcases List.mem_cons.mp hd with e | hd
      · rw [e]; exact fine_app tw tl (by decide +kernel) (by decide) (by decide +kernel) (by decide +kernel)
      rcases List.mem_cons.mp hd with e | hd
      · rw [e]; exact fine_app tw tl (by decide +kernel) (by decide) (by decide +kernel) (by decide +kernel)
      · rw [List.mem_singleton.mp hd]; exact fine_app tw tl (by decide +kernel) (by decide) (by decide +kernel) (by decide +kernel)
    have allN' := allN
    generalize hnd : [dh, PyData.list (t.map .str ++ List.replicate 3 (.str "*")), .list (t.map .str ++ [.str "w"]), .list (t.map .str ++ List.replicate 9 (.str "?")), .list (t.map .str ++ [.str "A"]), .list (t.map .str ++ [.int 0]), .list (t.map .str ++ [.none])] = nd at k7 allN
    have n7p : a7 ≠ p := ne_p hp n7
    have x14 := x13.then s14
    have hrt14 := s14 _ _ hrt13
    have l7 : xs7.length = nd.length := k7.length
    have nd7 : nd.length ≤ 7 := by rw [← hnd]; show 7 ≤ 7; decide
    clear allN' hnd s14 v7 it ih hT13 hD13
    -- an odd value, a dict
    refine ⟨_, rfl, _, rfl, _, rfl, p, bagS p, rfl, x14.bag, hp, trk_bag x14.bag, fun vo dO H15 hvo nvo fo x15 => ?_⟩
    have x16 := x14.trans x15
    have hrt15 := x15.keep _ _ nrp hrt14
    have e15 := x15.keep _ _ n7p e7
    have k15 : Are (hide (bagS p) H15) xs7 nd := Are.same (hide_ext hp x15) k7
    refine ⟨_, rfl, rt, rfl, ⟨_, SqL.of hrt15⟩, fun Dd hDd => ?_⟩
    refine lc_it (G := fun H => SqL K H rt (t.map V.str)) (Y := YAt (t.map V.str)) walk_list
      (fun i H4 => ∃ (ps : List Addr), H4 Dd = some (.lst (ps.map V.ref)) ∧ PySem.Paired (fun q kv => H4 q = some (.tup [kV kv.1, kv.2])) ps (keysOf (t.take i)) ∧ ps.length ≤ i ∧ (∀ q ∈ ps, q ≠ Dd) ∧ Same H15 H4)
      ⟨[], upd_same, .nil, Nat.le_refl _, fun q h => (by cases h), same_upd hDd⟩ (fun i H4 _ ⟨_, _, _, _, _, s4⟩ => SqL.of (s4 _ _ hrt15)) ?_ ?_
    · rintro j x H16 H17 hj ⟨ps, hl, hP, pl, pn, s16⟩ ⟨rfl, hx⟩
      have hjt : j < t.length := by rwa [List.length_map] at hj
      rw [List.getElem?_map, List.getElem?_eq_getElem hjt] at hx
      cases hx
      refine ⟨rfl, _, rfl, by show 2 ≤ sizeLine; decide, fun q hq' => ?_⟩
      have s17 := same_upd (o := .tup [V.str t[j], V.int 0]) hq'
      have nqD : q ≠ Dd := fun e => by rw [e, hl] at hq'; cases hq'
      have tk : keysOf (t.take (j + 1)) = keysOf (t.take j) ++ [((Sum.inr t[j] : Key), V.int 0)] := by
        rw [take_one (List.getElem?_eq_getElem hjt)]
        unfold keysOf
        rw [List.map_append]
        rfl
      refine ⟨_, s17 _ _ hl, sz2 (by rw [List.length_map]; omega), ps ++ [q], by rw [upd_same, List.map_append]; rfl, ?_, by rw [List.length_append]; show ps.length + 1 ≤ j + 1; omega, fun q' hq2 => ?_, fun b o eb => ?_⟩
      · rw [tk]
        refine paired_snoc (by rw [upd_ne nqD]; exact upd_same) (paired_imp hP fun q' hq2 kv e => ?_)
        rw [upd_ne (pn q' hq2)]
        exact s17 _ _ e
      · rcases List.mem_append.mp hq2 with h | h
        · exact pn q' h
        · rw [List.mem_singleton.mp h]
          exact nqD
      · rw [upd_ne (ne_of_none eb hDd)]
        exact s17 _ _ (s16 _ _ eb)
    rintro H16 ⟨ps, hl, hP, pl, pn, s16⟩
    rw [List.length_map, List.take_length] at hP
    have x17 := x16.then s16
    obtain ⟨ds1, A1, nd1, m1⟩ := merge_are (keys_are (H := hide (bagS p) H16) t) .nil List.nodup_nil
    have nd1' : (ds1.map keyS).Nodup := by
      rw [are_keys A1] at nd1
      exact (List.pairwise_map.mp nd1).imp fun h z => h (by rw [z])
    have fd := fine_dict tw tl nd1' fun q hq' => (m1 q hq').elim (fun h => (by cases h)) id
    refine ⟨Dd, ps, keysOf t, rfl, SqL.of hl, paired_imp hP fun q _ kv e => SqT.of e, fun q hq' => ?_⟩
    generalize mergeK [] (keysOf t) = F at A1 ⊢
    have nqp : q ≠ p := x17.bag.ne hq'
    have s18 := same_upd (o := .dK F) hq'
    have x18 := x17.then s18
    have iq : Is (hide (bagS p) (upd H16 q (.dK F))) (.ref q) (.dict ds1) := .dic (by rw [hide_ne (bagS_ne nqp)]; exact upd_same) (AreKv.same (hide_mono s18) A1)
    have io : Is (hide (bagS p) (upd H16 q (.dK F))) vo dO := Is.same (hide_mono (s16.trans s18)) hvo
    have k18 : Are (hide (bagS p) (upd H16 q (.dK F))) xs7 nd := Are.same (hide_mono (s16.trans s18)) k15
    have e18 := (s16.trans s18) _ _ e15
    generalize upd H16 q (.dK F) = H18 at s18 x18 iq io k18 e18 ⊢
    clear A1 nd1 nd1' m1 hP hl pn s16 k15 e15 hvo k7 e7 x17 x16
    refine ⟨by show 2 ≤ sizeLine; decide, fun l5 hl5 => ?_⟩
    have s19 := same_upd (o := .lst [vo, V.ref q]) hl5
    refine q_catL (s19 _ _ e18) upd_same (sz1 (by show xs7.length + 2 ≤ _; omega)) fun l6 hl6 => ?_
    have s20 := s19.trans (same_upd (o := .lst (xs7 ++ [vo, V.ref q])) hl6)
    have x20 := x18.then s20
    have n6p : l6 ≠ p := (x18.then s19).bag.ne hl6
    have k20 : Are (hide (bagS p) (upd (upd H18 l5 (.lst [vo, V.ref q])) l6 (.lst (xs7 ++ [vo, V.ref q])))) (xs7 ++ [vo, V.ref q]) (nd ++ [dO, .dict ds1]) :=
      Are.append (Are.same (hide_mono s20) k18) (.cons (Is.same (hide_mono s20) io) (.cons (Is.same (hide_mono s20) iq) .nil))
    refine ⟨p, .ref l6, rfl, x20.bag, .inl ⟨l6, _, rfl, n6p, .inl (SqL.of upd_same), by rw [List.length_append]; show 0 < _ + 2; omega, by rw [List.length_append]; show _ + 2 ≤ _; omega, fun i2 v H21 hi2 x21 => ?_⟩⟩
    obtain ⟨d, ed, hv20⟩ := k20.at' hi2
    have hv : Is (hide (bagS p) H21) v d := Is.same (hide_ext hp x21) hv20
    have fn : Fine 0 d := by
      rcases List.mem_append.mp (List.mem_of_getElem? ed) with h | h
      · exact allN d h
      · rcases List.mem_cons.mp h with h | h
        · rw [h]; exact fo
        · rw [List.mem_singleton.mp h]; exact fd
    have x22 := x20.trans x21
    clear hv20 ed hi2 k20 k18 iq io
    -- bent
    refine ⟨by show 4 ≤ sizeLine; decide, fun pl4 hpl4 => ?_⟩
    have s23 := same_upd (o := .lst [.int 0, .int 0, .int 1, .int 2]) hpl4
    have x23 := x22.then s23
    have n4p : pl4 ≠ p := x22.bag.ne hpl4
    refine ⟨_, rfl, p, 4, rfl, by decide, by decide, x23.bag, fun c2 H24 c20 c21 x24 => ?_⟩
    obtain ⟨cnt, hc, cc0, cc1⟩ : ∃ cnt : Int, [V.int 0, V.int 0, V.int 1, V.int 2][c2.toNat]? = some (.int cnt) ∧ 0 ≤ cnt ∧ cnt ≤ 2 := by
      have h : c2 = 0 ∨ c2 = 1 ∨ c2 = 2 ∨ c2 = 3 := by omega
      rcases h with rfl | rfl | rfl | rfl <;> exact ⟨_, rfl, by decide, by decide⟩
    have x25 := x23.trans x24
    have hv24 : Is (hide (bagS p) H24) v d := Is.same (hide_ext hp x24) (Is.same (hide_mono s23) hv)
    refine q_ix (i := c2.toNat) (.inl (SqL.of (x24.keep _ _ n4p upd_same))) (by omega) hc ⟨cnt, rfl, by omega, by omega, for_range (fun j σ H' => ∃ (v : V) (d : PyData) (t10 t12 : Option V), σ = [some (.ref a), some (.ref p), some (.ref aw), some (.int (0 + (i : Nat))), some (.ref rt), some (.ref rl), some (.ref hd), some (.str both.shown), some (.bl (fits t g)), t9, t10, some v, t12, t13, t14] ∧ Is (hide (bagS p) H') v d ∧ Fine j d ∧ Ext p H3 H') ⟨v, d, _, _, rfl, hv24, fn, x25⟩ ?_ ?_⟩
    · rintro j σ H25 hj ⟨v, d, t10, t12, rfl, hv, fn, x26⟩
      have hj3 : j < 2 := by omega
      have hw : wB j ≤ 20000 := by
        have h : j = 0 ∨ j = 1 := by omega
        rcases h with rfl | rfl <;> decide
      have hw2 : wB (j + 1) = 4 * wB j := by
        have h : j = 0 ∨ j = 1 := by omega
        rcases h with rfl | rfl <;> decide
      have hw0 : 5000 ≤ wB j := by
        have h : j = 0 ∨ j = 1 := by omega
        rcases h with rfl | rfl <;> decide
      have f1 := fn.w
      have f2 := fn.dp
      have f3 : dB j = 10 + 10 * j := rfl
      have f4 : dB (j + 1) = 10 + 10 * (j + 1) := rfl
      refine ⟨_, rfl, _, rfl, p, bagS p, v, d, j, rfl, x26.bag, hp, trk_bag x26.bag, hv, fn.ok, by omega, by omega, by omega, fun v' d' H7 hv' ok' w' dp' x7 => ⟨v', d', _, _, rfl, hv', ⟨ok', by omega, by omega⟩, x26.trans x7⟩⟩
    rintro σ H25 ⟨v, d, t10, t12, rfl, hv, fn, x26⟩
    have hj3 : cnt.toNat ≤ 2 := by omega
    generalize cnt.toNat = j at hj3 fn
    have hw : wB j ≤ 80000 := by
      have h : j = 0 ∨ j = 1 ∨ j = 2 := by omega
      rcases h with rfl | rfl | rfl <;> decide
    have f1 := fn.w
    have f2 := fn.dp
    have f3 : dB j = 10 + 10 * j := rfl
    have hf : Is H25 v d := Is.same hide_in hv
    have small : Small d := Nat.le_trans f1 (Nat.le_trans hw (by decide))
    have sh := (ok_shows (by omega) d fn.ok).1
    have ln := shown_ok (by omega) fn.ok (by omega)
    have dp : d.depth ≤ 60 := by omega
    have haw25 := x26.keep _ _ nap haw
    -- looked
    refine ⟨_, rfl, v, d, rfl, hf, sh, dp, ln, ?_⟩
    refine ⟨2, rfl, by decide, by decide, for_range (fun j2 σ H' => ∃ t9 : Option V, σ = [some (.ref a), some (.ref p), some (.ref aw), some (.int (0 + (i : Nat))), some (.ref rt), some (.ref rl), some (.ref hd), some (.str both.shown), some (.bl (fits t g)), t9, t10, some v, t12, some (.str d.shown), t14] ∧ Same H25 H') ⟨_, rfl, Same.refl _⟩ ?_ ?_⟩
    · rintro j2 σ H26 hj2 ⟨t9, rfl, s26⟩
      refine ⟨_, rfl, _, rfl, aw, ws, v, d, rfl, s26 _ _ haw25, by omega, Is.same s26 hf, small, fun H27 s27 => ⟨_, rfl, _, rfl, aw, ws, v, d, rfl, s27 _ _ (s26 _ _ haw25), by omega, Is.same (s26.trans s27) hf, small, fun H28 s28 => ⟨tornB ws d, rfl, _, rfl, iteF ?_⟩⟩⟩
      have s29 := (s26.trans s27).trans s28
      refine ⟨_, rfl, v, d, rfl, Is.same s29 hf, sh, dp, ln, _, rfl, q_nes ?_⟩
      rw [decide_eq_true rfl]
      exact ⟨_, rfl, iteF ⟨_, rfl, s29⟩⟩
    · rintro σ H26 ⟨t9, rfl, s26⟩
      exact ⟨_, _, _, _, _, _, _, _, _, _, _, _, rfl, x26.then s26⟩
end
end K62
set_option Elab.async false
set_option linter.all false
set_option maxRecDepth 100000
set_option maxHeartbeats 0
namespace Quiet
open PySem PySem.Spec PyProof.Rows L2
/-- what is left of the row's statement, once its head is done, by facts of the written part -/
theorem walk_quietE {l : PySem.W.OpenLaw} {n k : Nat} {q : Program} {loose : List Str} {XP : (Str → Option Value) → Heap → Prop} {YP : World → Heap → Prop} {d : DefRec} {x : Str}
    (hn : l.most = some n) (hn2 : n ≤ sizeLine) (hdf : d.params.defaults = []) (hr : Room k callerA) (hq : importsNone q = true)
    (F : ∀ (w : World) (mg : Str → Option Value) (fa : Addr) (h : Heap), YP w h → h.Ns mainGlobals mg → mg d.name = some (.ref fa) →
      ∃ (K : PySem.W.Frag) (fd : FuncData) (sp : Sp), K.In h ∧ (∀ (s : Shared) (u : Value), BindsTo s fd ⟨[u], []⟩ [(x, u)]) ∧
        (∀ (H : Hp) (a : Addr) (ns : List Int), ns.length ≤ n → SqL K H a (ns.map V.int) → sp [.ref a] H (fun v _ => v = .bl true) fun _ _ _ => False) ∧
        ∀ base : Heap, K.In base → base.Ns mainGlobals mg → HasMods base → Keeps l.prog w K mg base k fa fd [x] sp) :
    PySem.W.WalkO q loose XP YP l.row.toRowW d [] (fun f vs => PySem.call f vs) := by
  refine Att.attach_call hn hdf ?_
  intro w s₀ s₁ mg mb fa o pm cd doc a vs ns G Y ho hd hcd hmg hobj hints hlen hg
  obtain ⟨K, fd, sp, KX, hb, hsp, hF⟩ := F w mg fa _ Y G.T.g hmg
  obtain ⟨mm, hm, _⟩ := (G.T.seer hq).mods
  exact law_quiet KX G.T.g G.T.b G.T.builtins G.T.nolimit hg ⟨mm, hm⟩ hobj hints (Nat.le_trans hlen hn2) hr hF hb fun H hS => hsp H a ns hlen hS
end Quiet
namespace Hd
open PySem PySem.Spec PyProof.Rows L2 Quiet He
def dOf (x q : Str) (at_ : Str × Option Str) (st : Stmt) : DefD := ⟨at_, x, q, defArgs st, defBody st, defScope st, [], []⟩
theorem fun_of {K : PySem.W.Frag} {x q : Str} {st : Stmt} {f : Addr} {fd : FuncData} (F : FunD K x q (defArgs st) (defBody st) (defScope st) [] [] f fd) : Fun K x q st f fd := by
  obtain ⟨oc, od, dV, kV, doc, pm, an, cdv, ct, osl, e, lk, hcd, hd, _⟩ := F.ex
  rcases hd with ⟨_, z⟩ | ⟨z, _⟩
  · subst z
    exact ⟨⟨oc, od, kV, doc, pm, an, cdv, ct, osl, e, lk, hcd⟩, F.kp⟩
  · exact absurd rfl z
/-- what the top's names reach: each value; a function's code; a class's namespace, the functions there, their code -/
def more1 (g : Addr → Option Obj) (a : Addr) : List Addr := a :: (match g a with
  | some ⟨_, _, .func fd, _⟩ => refV fd.code
  | _ => [])
def more2 (g : Addr → Option Obj) (a : Addr) : List Addr := a :: (match g a with
  | some ⟨_, _, .func fd, _⟩ => refV fd.code
  | some ⟨_, _, .cls cd, _⟩ => cd.ns :: (match g cd.ns with
    | some ⟨_, _, .dict es _, _⟩ => es.toList.flatMap fun e => (refV e.val).flatMap (more1 g)
    | _ => [])
  | _ => [])
def asK (g : Addr → Option Obj) : List Addr := mainGlobals :: (match g mainGlobals with
  | some ⟨_, _, .dict es _, _⟩ => es.toList.flatMap fun e => (refV e.val).flatMap (more2 g)
  | _ => [])
/-- the facts, and a boolean of one's own -/
abbrev AlK : Type := AlD × Bool
def obK (fa : List Fa) (fn : List DefD) (ex : PySem.W.Frag → Bool) (g : Addr → Option Obj) : AlK := (obsD fa fn (frG g (asK g)), ex (frG g (asK g)))
def hk (fa : List Fa) (fn : List DefD) (ex : PySem.W.Frag → Bool) : PySem.W.Hook where
  α := AlK
  obs := fun s => obK fa fn ex s.heap.get?
  val := fun _ => (valD fn, true)
  says := fun _ h => ∃ K : PySem.W.Frag, K.In h ∧ SaysD fa fn K ∧ ex K = true
  of := fun _ _ e => ⟨_, frG_in, congrArg (fun z : AlK => z.1) e, congrArg (fun z : AlK => z.2) e⟩
  keeps := fun _ _ _ ⟨K, hK, c⟩ k => ⟨K, PySem.W.Frag.In.keeps hK k, c⟩
def ob (fa : List Fa) (fn : List DefD) (ex : PySem.W.Frag → Bool) (s : PySem.W.SharedT) : AlK := obK fa fn ex (HandSHeadRun.getT s)
theorem ob_eq (fa : List Fa) (fn : List DefD) (ex : PySem.W.Frag → Bool) (s : PySem.W.SharedT) : ob fa fn ex s = (hk fa fn ex).obs s.abs := by
  have e : HandSHeadRun.getT s = s.abs.heap.get? := funext (HandSHeadRun.getT_eq s)
  unfold ob
  rw [e]
  rfl
end Hd
set_option Elab.async false
set_option linter.all false
set_option maxRecDepth 100000
set_option maxHeartbeats 0
namespace K62
open PySem PySem.Spec PyProof.Rows L2 Quiet He
def hFn : List DefD := [
  Hd.dOf "is_torn" "is_torn" ("is_torn", none) s_is_torn,
  Hd.dOf "__init__" "Torn.__init__" ("Torn", some "__init__") s_Torn___init__,
  Hd.dOf "_spread" "Torn._spread" ("Torn", some "_spread") s_Torn__spread,
  Hd.dOf "begin" "Torn.begin" ("Torn", some "begin") s_Torn_begin,
  Hd.dOf "behind" "Torn.behind" ("Torn", some "behind") s_Torn_behind,
  Hd.dOf "is_end" "Torn.is_end" ("Torn", some "is_end") s_Torn_is_end,
  Hd.dOf "log_fits" "log_fits" ("log_fits", none) s_log_fits,
  Hd.dOf "_law_bag" "_law_bag" ("_law_bag", none) s__law_bag,
  Hd.dOf "_law_take" "_law_take" ("_law_take", none) s__law_take,
  Hd.dOf "_law_alike" "_law_alike" ("_law_alike", none) s__law_alike,
  Hd.dOf "_law_one" "_law_one" ("_law_one", none) s__law_one,
  Hd.dOf "_law_mixed" "_law_mixed" ("_law_mixed", none) s__law_mixed,
  Hd.dOf "_law_bent" "_law_bent" ("_law_bent", none) s__law_bent,
  Hd.dOf "_law_names" "_law_names" ("_law_names", none) s__law_names,
  Hd.dOf "_law_odd" "_law_odd" ("_law_odd", none) s__law_odd,
  Hd.dOf "_law_fits" "_law_fits" ("_law_fits", none) s__law_fits,
  Hd.dOf "_law_is_torn" "_law_is_torn" ("_law_is_torn", none) s__law_is_torn,
  Hd.dOf "_law_drawn" "_law_drawn" ("_law_drawn", none) s__law_drawn,
  Hd.dOf "_law_log_of" "_law_log_of" ("_law_log_of", none) s__law_log_of,
  Hd.dOf "law" "law" ("law", none) s_law]
def hFa : List Fa := [.glo "is_torn", .mkr "Torn", .meth "Torn" "_spread", .meth "Torn" "begin", .meth "Torn" "behind", .meth "Torn" "is_end", .glo "log_fits", .glo "_law_bag", .glo "_law_take", .glo "_law_alike", .glo "_law_one", .glo "_law_mixed", .glo "_law_bent", .glo "_law_names", .glo "_law_odd", .glo "_law_fits", .glo "_law_is_torn", .glo "_law_drawn", .glo "_law_log_of", .glo "law", .glo "Torn", .cls "Torn", .noat "Torn" "_entries", .str "ONE" "?", .str "ANY" "*", .int "MOST_ENTRIES" 10, .int "MOST_ANY" 3, .free "abs", .free "all", .free "bool", .free "dict", .free "enumerate", .free "int", .free "isinstance", .free "len", .free "list", .free "range", .free "repr", .free "sorted", .free "str", .free "tuple"]
section
variable {K : PySem.W.Frag} {h : Heap} {mg : Str → Option Value}
theorem txt_of (X : K.In h) (G : h.Ns mainGlobals mg) (c : SaysD hFa hFn K) : ∃ A D, Txt K mg A D ∧ A.law = ga K "law" ∧ FunD K "law" "law" (defArgs s_law) (defBody s_law) (defScope s_law) [] [] (ga K "law") D.law := by
  obtain ⟨d0, F0⟩ : ∃ fd, FunD K "is_torn" "is_torn" (defArgs s_is_torn) (defBody s_is_torn) (defScope s_is_torn) [] [] (ga K "is_torn") fd := c.def_ 0 rfl
  obtain ⟨d1, F1⟩ : ∃ fd, FunD K "__init__" "Torn.__init__" (defArgs s_Torn___init__) (defBody s_Torn___init__) (defScope s_Torn___init__) [] [] (ma K (ga K "Torn") "__init__") fd := c.def_ 1 rfl
  obtain ⟨d2, F2⟩ : ∃ fd, FunD K "_spread" "Torn._spread" (defArgs s_Torn__spread) (defBody s_Torn__spread) (defScope s_Torn__spread) [] [] (ma K (ga K "Torn") "_spread") fd := c.def_ 2 rfl
  obtain ⟨d3, F3⟩ : ∃ fd, FunD K "begin" "Torn.begin" (defArgs s_Torn_begin) (defBody s_Torn_begin) (defScope s_Torn_begin) [] [] (ma K (ga K "Torn") "begin") fd := c.def_ 3 rfl
  obtain ⟨d4, F4⟩ : ∃ fd, FunD K "behind" "Torn.behind" (defArgs s_Torn_behind) (defBody s_Torn_behind) (defScope s_Torn_behind) [] [] (ma K (ga K "Torn") "behind") fd := c.def_ 4 rfl
  obtain ⟨d5, F5⟩ : ∃ fd, FunD K "is_end" "Torn.is_end" (defArgs s_Torn_is_end) (defBody s_Torn_is_end) (defScope s_Torn_is_end) [] [] (ma K (ga K "Torn") "is_end") fd := c.def_ 5 rfl
  obtain ⟨d6, F6⟩ : ∃ fd, FunD K "log_fits" "log_fits" (defArgs s_log_fits) (defBody s_log_fits) (defScope s_log_fits) [] [] (ga K "log_fits") fd := c.def_ 6 rfl
  obtain ⟨d7, F7⟩ : ∃ fd, FunD K "_law_bag" "_law_bag" (defArgs s__law_bag) (defBody s__law_bag) (defScope s__law_bag) [] [] (ga K "_law_bag") fd := c.def_ 7 rfl
  obtain ⟨d8, F8⟩ : ∃ fd, FunD K "_law_take" "_law_take" (defArgs s__law_take) (defBody s__law_take) (defScope s__law_take) [] [] (ga K "_law_take") fd := c.def_ 8 rfl
  obtain ⟨d9, F9⟩ : ∃ fd, FunD K "_law_alike" "_law_alike" (defArgs s__law_alike) (defBody s__law_alike) (defScope s__law_alike) [] [] (ga K "_law_alike") fd := c.def_ 9 rfl
  obtain ⟨d10, F10⟩ : ∃ fd, FunD K "_law_one" "_law_one" (defArgs s__law_one) (defBody s__law_one) (defScope s__law_one) [] [] (ga K "_law_one") fd := c.def_ 10 rfl
  obtain ⟨d11, F11⟩ : ∃ fd, FunD K "_law_mixed" "_law_mixed" (defArgs s__law_mixed) (defBody s__law_mixed) (defScope s__law_mixed) [] [] (ga K "_law_mixed") fd := c.def_ 11 rfl
  obtain ⟨d12, F12⟩ : ∃ fd, FunD K "_law_bent" "_law_bent" (defArgs s__law_bent) (defBody s__law_bent) (defScope s__law_bent) [] [] (ga K "_law_bent") fd := c.def_ 12 rfl
  obtain ⟨d13, F13⟩ : ∃ fd, FunD K "_law_names" "_law_names" (defArgs s__law_names) (defBody s__law_names) (defScope s__law_names) [] [] (ga K "_law_names") fd := c.def_ 13 rfl
  obtain ⟨d14, F14⟩ : ∃ fd, FunD K "_law_odd" "_law_odd" (defArgs s__law_odd) (defBody s__law_odd) (defScope s__law_odd) [] [] (ga K "_law_odd") fd := c.def_ 14 rfl
  obtain ⟨d15, F15⟩ : ∃ fd, FunD K "_law_fits" "_law_fits" (defArgs s__law_fits) (defBody s__law_fits) (defScope s__law_fits) [] [] (ga K "_law_fits") fd := c.def_ 15 rfl
  obtain ⟨d16, F16⟩ : ∃ fd, FunD K "_law_is_torn" "_law_is_torn" (defArgs s__law_is_torn) (defBody s__law_is_torn) (defScope s__law_is_torn) [] [] (ga K "_law_is_torn") fd := c.def_ 16 rfl
  obtain ⟨d17, F17⟩ : ∃ fd, FunD K "_law_drawn" "_law_drawn" (defArgs s__law_drawn) (defBody s__law_drawn) (defScope s__law_drawn) [] [] (ga K "_law_drawn") fd := c.def_ 17 rfl
  obtain ⟨d18, F18⟩ : ∃ fd, FunD K "_law_log_of" "_law_log_of" (defArgs s__law_log_of) (defBody s__law_log_of) (defScope s__law_log_of) [] [] (ga K "_law_log_of") fd := c.def_ 18 rfl
  obtain ⟨d19, F19⟩ : ∃ fd, FunD K "law" "law" (defArgs s_law) (defBody s_law) (defScope s_law) [] [] (ga K "law") fd := c.def_ 19 rfl
  obtain ⟨t_ONE, e_ONE⟩ := He.str_ok X G (c.fact 23 (f := .str "ONE" "?") rfl)
  obtain ⟨t_ANY, e_ANY⟩ := He.str_ok X G (c.fact 24 (f := .str "ANY" "*") rfl)
  obtain ⟨t_MOST_ENTRIES, e_MOST_ENTRIES⟩ := He.int_ok X G (c.fact 25 (f := .int "MOST_ENTRIES" 10) rfl)
  obtain ⟨t_MOST_ANY, e_MOST_ANY⟩ := He.int_ok X G (c.fact 26 (f := .int "MOST_ANY" 3) rfl)
  refine ⟨⟨ga K "is_torn", ma K (ga K "Torn") "__init__", ma K (ga K "Torn") "_spread", ma K (ga K "Torn") "begin", ma K (ga K "Torn") "behind", ma K (ga K "Torn") "is_end", ga K "log_fits", ga K "_law_bag", ga K "_law_take", ga K "_law_alike", ga K "_law_one", ga K "_law_mixed", ga K "_law_bent", ga K "_law_names", ga K "_law_odd", ga K "_law_fits", ga K "_law_is_torn", ga K "_law_drawn", ga K "_law_log_of", ga K "law", ga K "Torn", t_ONE, t_ANY, t_MOST_ENTRIES, t_MOST_ANY⟩, ⟨d0, d1, d2, d3, d4, d5, d6, d7, d8, d9, d10, d11, d12, d13, d14, d15, d16, d17, d18, d19⟩, ⟨
    Hd.fun_of F0, He.glo_ok X G (c.fact 0 (f := .glo "is_torn") rfl),
    Hd.fun_of F1, He.mkr_ok (c.fact 1 (f := .mkr "Torn") rfl),
    Hd.fun_of F2, He.meth_ok (c.fact 2 (f := .meth "Torn" "_spread") rfl),
    Hd.fun_of F3, He.meth_ok (c.fact 3 (f := .meth "Torn" "begin") rfl),
    Hd.fun_of F4, He.meth_ok (c.fact 4 (f := .meth "Torn" "behind") rfl),
    Hd.fun_of F5, He.meth_ok (c.fact 5 (f := .meth "Torn" "is_end") rfl),
    Hd.fun_of F6, He.glo_ok X G (c.fact 6 (f := .glo "log_fits") rfl),
    Hd.fun_of F7, He.glo_ok X G (c.fact 7 (f := .glo "_law_bag") rfl),
    Hd.fun_of F8, He.glo_ok X G (c.fact 8 (f := .glo "_law_take") rfl),
    Hd.fun_of F9, He.glo_ok X G (c.fact 9 (f := .glo "_law_alike") rfl),
    Hd.fun_of F10, He.glo_ok X G (c.fact 10 (f := .glo "_law_one") rfl),
    Hd.fun_of F11, He.glo_ok X G (c.fact 11 (f := .glo "_law_mixed") rfl),
    Hd.fun_of F12, He.glo_ok X G (c.fact 12 (f := .glo "_law_bent") rfl),
    Hd.fun_of F13, He.glo_ok X G (c.fact 13 (f := .glo "_law_names") rfl),
    Hd.fun_of F14, He.glo_ok X G (c.fact 14 (f := .glo "_law_odd") rfl),
    Hd.fun_of F15, He.glo_ok X G (c.fact 15 (f := .glo "_law_fits") rfl),
    Hd.fun_of F16, He.glo_ok X G (c.fact 16 (f := .glo "_law_is_torn") rfl),
    Hd.fun_of F17, He.glo_ok X G (c.fact 17 (f := .glo "_law_drawn") rfl),
    Hd.fun_of F18, He.glo_ok X G (c.fact 18 (f := .glo "_law_log_of") rfl),
    Hd.fun_of F19, He.glo_ok X G (c.fact 19 (f := .glo "law") rfl),
    He.glo_ok X G (c.fact 20 (f := .glo "Torn") rfl), He.cls_ok (c.fact 21 (f := .cls "Torn") rfl),
    He.noat_ok (c.fact 22 (f := .noat "Torn" "_entries") rfl),
    e_ONE,
    e_ANY,
    e_MOST_ENTRIES,
    e_MOST_ANY,
    He.free_ok X G (c.fact 27 (f := .free "abs") rfl),
    He.free_ok X G (c.fact 28 (f := .free "all") rfl),
    He.free_ok X G (c.fact 29 (f := .free "bool") rfl),
    He.free_ok X G (c.fact 30 (f := .free "dict") rfl),
    He.free_ok X G (c.fact 31 (f := .free "enumerate") rfl),
    He.free_ok X G (c.fact 32 (f := .free "int") rfl),
    He.free_ok X G (c.fact 33 (f := .free "isinstance") rfl),
    He.free_ok X G (c.fact 34 (f := .free "len") rfl),
    He.free_ok X G (c.fact 35 (f := .free "list") rfl),
    He.free_ok X G (c.fact 36 (f := .free "range") rfl),
    He.free_ok X G (c.fact 37 (f := .free "repr") rfl),
    He.free_ok X G (c.fact 38 (f := .free "sorted") rfl),
    He.free_ok X G (c.fact 39 (f := .free "str") rfl),
    He.free_ok X G (c.fact 40 (f := .free "tuple") rfl)⟩, rfl, F19⟩
theorem facts {P : Program} {w : World} {f : Addr} (X : K.In h) (G : h.Ns mainGlobals mg) (hfa : mg ("law" : Str) = some (.ref f)) (c : SaysD hFa hFn K) :
    ∃ fd : FuncData, (∀ (s : Shared) (v : Value), BindsTo s fd ⟨[v], []⟩ [("script", v)]) ∧ ∀ base : Heap, K.In base → base.Ns mainGlobals mg → HasMods base → Keeps P w K mg base 67 f fd ["script"] (spLaw K) := by
  obtain ⟨A, D, T, eA, FL⟩ := txt_of X G c
  have e : A.law = f := by
    have z := T.m_law.symm.trans hfa
    cases z
    rfl
  have b := FunD.bindsA (ps := ["script"]) FL fun _ _ _ _ _ _ us hl => match us, hl with | [_], _ => rfl
  subst e
  exact ⟨D.law, fun s v => b s [v] rfl, fun base _ _ hm => ok_law T hm⟩
end
end K62
set_option Elab.async false
set_option linter.all false
set_option maxRecDepth 100000
set_option maxHeartbeats 0
namespace K62
open PySem PySem.Spec PyProof.Rows L2 Quiet He
abbrev R : PySem.W.OpenRow := PySem.W.OpenLaw.row PySem.Challenge.rw_fourfaces_k62_torn_logs_judged
def noEx (_ : PySem.W.Frag) : Bool := true
def loose1 : List Str := ["is_torn", "log_fits", "_law_bag", "_law_take", "_law_alike", "_law_one", "_law_mixed", "_law_bent", "_law_names", "_law_odd"]
def loose2 : List Str := ["_law_fits", "_law_is_torn", "_law_drawn", "_law_log_of", "ONE", "ANY", "MOST_ENTRIES", "MOST_ANY", "Torn"]
def loose : List Str := loose1 ++ loose2
theorem run (w : World) : HandSHeadRun.RunEq R (PySem.W.view R.prog [21]) (Hd.hk hFa hFn noEx) (Hd.ob hFa hFn noEx) 9000 loose w := by
  intro os
  kernel_rfl
end K62
set_option Elab.async false
set_option linter.all false
set_option maxRecDepth 100000
set_option maxHeartbeats 0
open PySem PySem.W PySem.Calls PyProof.Rows
theorem PySem.Challenge.cw_fourfaces_k62_torn_logs_judged_holds : PySem.Challenge.rw_fourfaces_k62_torn_logs_judged.Holds := by
  w_on; o_law
  refine HandSHeadRun.head_any (r := K62.R) (q := view K62.R.prog [21]) (H := Hd.hk K62.hFa K62.hFn K62.noEx) (ob := Hd.ob K62.hFa K62.hFn K62.noEx) (M := 9000) (loose := K62.loose) (d := HandSHeadRun.topDef K62.R.prog 21) (kwd := []) (Hd.ob_eq K62.hFa K62.hFn K62.noEx)
    (by kernel_rfl) (fun s => by kernel_rfl) K62.run (by kernel_rfl) (by kernel_rfl) (by kernel_rfl) (by rfl) (by first | assumption | decide +kernel) (by decide +kernel) ⟨rfl, rfl, rfl, rfl, rfl, by decide +kernel⟩ ?hw ?hc
  case hw => w_witness2
  case hc =>
    refine Quiet.walk_quietE (l := PySem.Challenge.rw_fourfaces_k62_torn_logs_judged) (n := 63) (k := 67) (x := "script") rfl (by decide) (by kernel_rfl) ⟨rfl, by decide, by decide⟩ (by kernel_rfl) ?F
    intro w mg fa h Y G hmg0
    obtain ⟨K, KX, c, _⟩ := Y
    have hmg : mg ("law" : PySem.Str) = some (.ref fa) := by
      have e : (HandSHeadRun.topDef K62.R.prog 21).name = ("law" : PySem.Str) := by kernel_rfl
      rw [← e]
      exact hmg0
    obtain ⟨fd, hb, hF⟩ := K62.facts (P := (PySem.Challenge.rw_fourfaces_k62_torn_logs_judged).prog) (w := w) KX G hmg c
    exact ⟨K, fd, K62.spLaw K, KX, hb, fun H a ns hl hS => ⟨a, ns, rfl, hS, fun _ => rfl⟩, hF⟩
